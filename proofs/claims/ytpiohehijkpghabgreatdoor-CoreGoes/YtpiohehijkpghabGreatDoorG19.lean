/- Cut: the program. -/
import Derived.Test.YtpiohehijkpghabGreatDoorG18
import Derived.Test.YtpiohehijkpghabGreatDoorG03
set_option maxRecDepth 20000
set_option maxHeartbeats 1000000
namespace Go.Proofs.YtpiohehijkpghabGreatDoor.Wi
open Go.RowKit
set_option linter.unusedVariables false
theorem below_setRow {B:Nat} {a w:World} (h:Below B a w) {g:Nat} (hg:B≤g) (cs:Array Value):Below B a (w.setRow g cs):=
 ⟨h.os,h.tape,h.output,by simpa using h.size,fun k hk=>(setRow_other _ _ _ _ (by omega)).trans (h.block k hk)⟩
theorem lc_empty (w:World) (a:Option Addr) (size:Nat):LC w a 0 0 size []:=⟨by simp,Nat.le_refl _,by unfold maxLen;omega,fun _=>⟨rfl,rfl⟩,fun u hu=>by simp at hu,fun x hx h0=>absurd h0 (by omega)⟩
theorem lc_end {w:World} {a:Option Addr} {m c size size':Nat} {cs:List Value} {f:Addr→Addr} (h:LC w a m c size cs):LC w (Option.map f a) 0 (c-m) size' []:=by
 refine⟨by simp,Nat.zero_le _,by have:=h.top;omega,fun e=>?_,fun u hu=>by simp at hu,fun x hx h0=>absurd h0 (by omega)⟩
 cases a with
 |none=>have:=h.nil rfl;omega
 |some x=>cases e
def headS (l:List Sl) (m:Nat):List Int:=(l.take m).map (·.1)
theorem headS_len {l:List Sl} {m n:Nat} (h:l.length=n) (hm:m≤n):(headS l m).length=m:=by
 unfold headS
 rw[List.length_map,List.length_take,h]
 omega
theorem headS_next {l:List Sl} {k:Nat} {s:Int} {d:Bool} (h:l[k]?=some (s,d)):headS l (k+1)=headS l k++[s]:=by
 unfold headS
 rw[take_at h,List.map_append]
 rfl
def Gives2 (w:World) (l:List Sl) (k:List Int) (e:Ending) (w':World):Prop:=
 (∃a c b d,e=.returned (.tuple #[.slice a l.length c,.slice b k.length d])∧LC w' a l.length c 2 (scs l)∧FarC w.heap.size a∧LC w' b k.length d 1 (ics k)∧FarC w.heap.size b)∧Below w.heap.size w w'
theorem gives2_own {w w':World} {v u:Value} {l:List Sl} {k:List Int} {n m:Nat} (hn:l.length=n) (hm:k.length=m) (hown:w'.ownsRow w.heap.size 120 2 v n (scs l)) (hk:w'.ownsRow w.heap.size 3 1 u m (ics k)) (hb:Below w.heap.size w w'):Gives2 w l k (.returned (.tuple #[v,u])) w':=by
 subst hn hm
 obtain⟨a,c,rfl,h1,h2⟩:=lc_of_own hown (scs_one l)
 obtain⟨b,d,rfl,h3,h4⟩:=lc_of_own hk (ics_one k)
 exact⟨⟨a,c,b,d,rfl,h1,h2,h3,h4⟩,hb⟩
theorem pPop_any (a:Option Addr) (n c:Nat) (most:Int) (l:List Sl) (m:Nat) (hm:Hid (Goes l most m)) (hn:n*16≤140737488355328) (w:World) (hL:Hid (LC w a n c 2 (scs l))):
  Calls Tryz.prog 37 #[.slice a n c,.int .i64 most] w fun e w'=>Gives2 w (l.drop m) (headS l m) e w':=by
 obtain⟨i3,hi3,hz0,hz1,hz2⟩:=info_parts info3w
 have hlen:Hid (l.length=n):=by have:=hL.out.len;rw[scs_len]at this;show _=_;omega
 have hmn:m≤n:=by have:=hm.out.le;have:=hlen.out;omega
 go_enter Tryz.func37,Tryz.ntmps37
 go_wp2_with fail
 go_loopw [6,11] (fun v i wr=>∃k:Nat,k≤m∧i=.int .i64 k∧Hid (wr.ownsRow w.heap.size 3 1 v k (ics (headS l k)))∧Hid (Below w.heap.size w wr))
  (fun _ i _=>n-(intOf i).toNat)
 case atStart=>exact⟨0,by omega,rfl,World.ownsRow_nil _ _ _ _,Below.refl _ _⟩
 case round=>
  obtain⟨k,hk,rfl,HO,HB⟩:=hrel
  obtain⟨pk,ck,rfl⟩:=owns_slice' HO.out
  by_cases hlt:k<n
  ·obtain⟨s,d,hsd⟩:=at_ex (l:=l) (k:=k) (by rw[hlen.out];exact hlt)
   obtain⟨bb,o,rfl,hb,hc⟩:=hL.out.sure (by omega)
   have c0:wr.cell? ⟨bb,o+k*2,none⟩=some (.int .i64 s):=(HB.out.cell (p:=⟨bb,o+k*2,none⟩) hb).trans (hc _ _ (scs_seq _ _ _ hsd))
   have c1:wr.cell? ⟨bb,o+k*2+1,none⟩=some (.bool d):=(HB.out.cell (p:=⟨bb,o+k*2+1,none⟩) hb).trans (by rw[Nat.add_assoc];exact hc _ _ (scs_done _ _ _ hsd))
   have hkc:k<c:=by have:=hL.out.le;omega
   clear hc
   go_upto_region 5 with fail
   refine one_box (Φ:=fun W=>Code.wp _ _ _ _ W) ?_
   intro U hU hUb
   have HBU:Hid (Below w.heap.size w U):=HB.out.trans (hUb.mono HB.out.size)
   have HOU:Hid (U.ownsRow w.heap.size 3 1 (.slice pk k ck) k (ics (headS l k))):=own_below HO.out (Nat.le_refl _) hUb
   have e0:U.cell? ⟨wr.heap.size,0,none⟩=some (.int .i64 s):=(cell_of_row _ _ _ _ _ _ hU).trans rfl
   have e1:U.cell? ⟨wr.heap.size,1,none⟩=some (.bool d):=(cell_of_row _ _ _ _ _ _ hU).trans rfl
   clear hU hUb HB HO c0 c1
   generalize wr.heap.size=q at*
   by_cases hkm:k=m
   ·subst hkm
    have hst:=hm.out.stop _ hsd
    by_cases hmo:(k:Int)<most
    ·have hd:d=false:=by
      cases d with
      |false=>rfl
      |true=>exact absurd ⟨hmo,rfl⟩ hst
     subst hd
     have hmo2:decide (most≤(k:Int))=false:=by simpa using hmo
     clear hst hsd
     go_wp2_with fail
     refine one_box (Φ:=fun W=>Calls _ _ _ W _) ?_
     intro V hV hVb
     have HV:Hid (Below w.heap.size w V):=HBU.out.trans (hVb.mono HBU.out.size)
     have q0:V.cell? ⟨U.heap.size,0,none⟩=some (.slice (some ⟨bb,o+k*2,none⟩) (n-k) (c-k)):=(cell_of_row _ _ _ _ _ _ hV).trans rfl
     have hq:U.heap.size<V.heap.size:=(Array.getElem?_eq_some_iff.1 hV).1
     have HOV:Hid (V.ownsRow w.heap.size 3 1 (.slice pk k ck) k (ics (headS l k))):=own_below HOU.out (Nat.le_refl _) hVb
     have L2:Hid (LC V (some ⟨bb,o+k*2,none⟩) (n-k) (c-k) 2 (scs (l.drop k))):=by rw[scs_drop];exact LC.drop (hL.out.below (Nat.le_refl _) HV.out) k (by omega) (fun _=>rfl) rfl
     refine(sConcat_one U.heap.size (some ⟨bb,o+k*2,none⟩) (n-k) (c-k) (scs (l.drop k)) (by omega) V hq q0 L2).mono ?_
     rintro e W3 ⟨⟨v,rfl,hown⟩,hb3⟩
     have HB3:Hid (Below w.heap.size w W3):=HV.out.trans (hb3.mono HV.out.size)
     have HO3:Hid (W3.ownsRow w.heap.size 120 2 v ((n-k)) (scs (l.drop k))):=own_base hown HV.out.size
     have HK3:Hid (W3.ownsRow w.heap.size 3 1 (.slice pk k ck) k (ics (headS l k))):=own_below HOV.out (Nat.le_refl _) hb3
     clear hV hVb HV q0 hq HOV L2 hown hb3
     go_wp2_with fail
     refine bodyPost_ret (v:=.tuple #[v,.slice pk k ck]) ?_ rfl (gives2_own (by rw[List.length_drop,hlen.out];try omega) (headS_len hlen.out (by omega)) HO3.out HK3.out HB3.out)
     simp[results,Tryz.results37,asAddr]
    ·have hmo2:decide (most≤(k:Int))=true:=by simpa using hmo
     clear hst hsd
     go_wp2_with fail
     refine one_box (Φ:=fun W=>Calls _ _ _ W _) ?_
     intro V hV hVb
     have HV:Hid (Below w.heap.size w V):=HBU.out.trans (hVb.mono HBU.out.size)
     have q0:V.cell? ⟨U.heap.size,0,none⟩=some (.slice (some ⟨bb,o+k*2,none⟩) (n-k) (c-k)):=(cell_of_row _ _ _ _ _ _ hV).trans rfl
     have hq:U.heap.size<V.heap.size:=(Array.getElem?_eq_some_iff.1 hV).1
     have HOV:Hid (V.ownsRow w.heap.size 3 1 (.slice pk k ck) k (ics (headS l k))):=own_below HOU.out (Nat.le_refl _) hVb
     have L2:Hid (LC V (some ⟨bb,o+k*2,none⟩) (n-k) (c-k) 2 (scs (l.drop k))):=by rw[scs_drop];exact LC.drop (hL.out.below (Nat.le_refl _) HV.out) k (by omega) (fun _=>rfl) rfl
     refine(sConcat_one U.heap.size (some ⟨bb,o+k*2,none⟩) (n-k) (c-k) (scs (l.drop k)) (by omega) V hq q0 L2).mono ?_
     rintro e W3 ⟨⟨v,rfl,hown⟩,hb3⟩
     have HB3:Hid (Below w.heap.size w W3):=HV.out.trans (hb3.mono HV.out.size)
     have HO3:Hid (W3.ownsRow w.heap.size 120 2 v ((n-k)) (scs (l.drop k))):=own_base hown HV.out.size
     have HK3:Hid (W3.ownsRow w.heap.size 3 1 (.slice pk k ck) k (ics (headS l k))):=own_below HOV.out (Nat.le_refl _) hb3
     clear hV hVb HV q0 hq HOV L2 hown hb3
     go_wp2_with fail
     refine bodyPost_ret (v:=.tuple #[v,.slice pk k ck]) ?_ rfl (gives2_own (by rw[List.length_drop,hlen.out];try omega) (headS_len hlen.out (by omega)) HO3.out HK3.out HB3.out)
     simp[results,Tryz.results37,asAddr]
   ·have hgo:=hm.out.go k _ (by omega) hsd
    obtain⟨hmo,hd⟩:=hgo
    have hd':d=true:=hd
    subst hd'
    have hmo2:decide (most≤(k:Int))=false:=by simpa using hmo
    have HN:Hid (headS l (k+1)=headS l k++[s]):=headS_next hsd
    clear hsd hd
    go_wp2_with(at_builtin;refine wpList_append_lc _ rfl _ _ 29 rfl w.heap.size 3 i3 _ 1 8 Tryz.underlying29 hi3 hz0 hz1 hz2 rfl (by decide) _ k _ rfl (own_below HOU.out (Nat.le_refl _) ((Below.refl _ _).alloc (Nat.le_refl _) _)) _ 1 1 (ics [s]) rfl (lc_box (heap_alloc_new _ _) (ics_one [s]) rfl) (by unfold maxLen;omega) (by omega) (by have:=HBU.out.size;simp;omega) ?_;intro v1 w1 hown1 hgrow1)
    have HO1:Hid (w1.ownsRow w.heap.size 3 1 v1 (k+1) (ics (headS l (k+1)))):=by rw[HN.out,ics_app];exact hown1
    have HB1:Hid (Below w.heap.size w w1):=(HBU.out.alloc HBU.out.size _).grown hgrow1 (by have:=HBU.out.size;simp;omega) (fun j hj=>(HOU.out.lt j hj).1)
    clear hown1 hgrow1
    go_wp2_with fail
    exact⟨⟨k+1,by omega,by go_num,HO1,HB1⟩,by simp[intOf];omega⟩
  ·have:k=n:=by omega
   subst this
   have hmk:m=k:=by omega
   subst hmk
   go_wp2_with fail
   case inl=>
    have hcm:m=c:=by first|assumption|omega
    subst hcm
    refine one_box (Φ:=fun W=>Calls _ _ _ W _) ?_
    intro V hV hVb
    have HV:Hid (Below w.heap.size w V):=HB.out.trans (hVb.mono HB.out.size)
    have q0:V.cell? ⟨wr.heap.size,0,none⟩=some (.slice a 0 0):=(cell_of_row _ _ _ _ _ _ hV).trans rfl
    have hq:wr.heap.size<V.heap.size:=(Array.getElem?_eq_some_iff.1 hV).1
    have HOV:Hid (V.ownsRow w.heap.size 3 1 (.slice pk m ck) m (ics (headS l m))):=own_below HO.out (Nat.le_refl _) hVb
    have L2:Hid (LC V a 0 0 2 (scs (l.drop m))):=by rw[List.drop_of_length_le (by rw[hlen.out];exact Nat.le_refl _)];exact lc_empty _ _ _
    refine(sConcat_one wr.heap.size a 0 0 (scs (l.drop m)) (by omega) V hq q0 L2).mono ?_
    rintro e W3 ⟨⟨v,rfl,hown⟩,hb3⟩
    have HB3:Hid (Below w.heap.size w W3):=HV.out.trans (hb3.mono HV.out.size)
    have HO3:Hid (W3.ownsRow w.heap.size 120 2 v (0) (scs (l.drop m))):=own_base hown HV.out.size
    have HK3:Hid (W3.ownsRow w.heap.size 3 1 (.slice pk m ck) m (ics (headS l m))):=own_below HOV.out (Nat.le_refl _) hb3
    clear hV hVb HV q0 hq HOV L2 hown hb3
    go_wp2_with fail
    refine bodyPost_ret (v:=.tuple #[v,.slice pk m ck]) ?_ rfl (gives2_own (by rw[List.length_drop,hlen.out];try omega) (headS_len hlen.out (by omega)) HO3.out HK3.out HB3.out)
    simp[results,Tryz.results37,asAddr]
   case inr=>
    refine one_box (Φ:=fun W=>Calls _ _ _ W _) ?_
    intro V hV hVb
    have HV:Hid (Below w.heap.size w V):=HB.out.trans (hVb.mono HB.out.size)
    have q0:V.cell? ⟨wr.heap.size,0,none⟩=some (.slice (Option.map (fun x=>x.add (m*2)) a) 0 (c-m)):=(cell_of_row _ _ _ _ _ _ hV).trans rfl
    have hq:wr.heap.size<V.heap.size:=(Array.getElem?_eq_some_iff.1 hV).1
    have HOV:Hid (V.ownsRow w.heap.size 3 1 (.slice pk m ck) m (ics (headS l m))):=own_below HO.out (Nat.le_refl _) hVb
    have L2:Hid (LC V (Option.map (fun x=>x.add (m*2)) a) 0 (c-m) 2 (scs (l.drop m))):=by rw[List.drop_of_length_le (by rw[hlen.out];exact Nat.le_refl _)];exact lc_end (hL.out.below (Nat.le_refl _) HV.out)
    refine(sConcat_one wr.heap.size (Option.map (fun x=>x.add (m*2)) a) 0 (c-m) (scs (l.drop m)) (by omega) V hq q0 L2).mono ?_
    rintro e W3 ⟨⟨v,rfl,hown⟩,hb3⟩
    have HB3:Hid (Below w.heap.size w W3):=HV.out.trans (hb3.mono HV.out.size)
    have HO3:Hid (W3.ownsRow w.heap.size 120 2 v (0) (scs (l.drop m))):=own_base hown HV.out.size
    have HK3:Hid (W3.ownsRow w.heap.size 3 1 (.slice pk m ck) m (ics (headS l m))):=own_below HOV.out (Nat.le_refl _) hb3
    clear hV hVb HV q0 hq HOV L2 hown hb3
    go_wp2_with fail
    refine bodyPost_ret (v:=.tuple #[v,.slice pk m ck]) ?_ rfl (gives2_own (by rw[List.length_drop,hlen.out];try omega) (headS_len hlen.out (by omega)) HO3.out HK3.out HB3.out)
    simp[results,Tryz.results37,asAddr]
structure Rv (x y:List Int) (k:Nat):Prop where
 len:y.length=x.length
 out:∀i,i<x.length→(i<k∨x.length-1-i<k)→y[i]?=x[x.length-1-i]?
 mid:∀i,i<x.length→¬(i<k∨x.length-1-i<k)→y[i]?=x[i]?
theorem rv_zero (x:List Int):Rv x x 0:=⟨rfl,fun i _ h=>by omega,fun i _ _=>rfl⟩
theorem Rv.step {x y:List Int} {k j:Nat} (h:Rv x y k) (hj:k+j+1=x.length) (hkj:k<j) {a b:Int} (ha:y[k]?=some a) (hb:y[j]?=some b):Rv x ((y.set k b).set j a) (k+1):=by
 have hl:=h.len
 have ea:x[k]?=some a:=by rw[←h.mid k (by omega) (by omega)];exact ha
 have eb:x[j]?=some b:=by rw[←h.mid j (by omega) (by omega)];exact hb
 refine⟨by simp[hl],fun i hi hc=>?_,fun i hi hc=>?_⟩
 ·rw[List.getElem?_set,List.getElem?_set]
  by_cases e1:j=i
  ·subst e1
   rw[if_pos rfl,if_pos (by simp;omega),show x.length-1-j=k by omega,ea]
  ·rw[if_neg e1]
   by_cases e2:k=i
   ·subst e2
    rw[if_pos rfl,if_pos (by omega),show x.length-1-k=j by omega,eb]
   ·rw[if_neg e2]
    exact h.out i hi (by omega)
 ·rw[List.getElem?_set,List.getElem?_set,if_neg (by omega),if_neg (by omega)]
  exact h.mid i hi (by omega)
theorem Rv.all {x y:List Int} {k j:Nat} (h:Rv x y k) (hj:k+j+1=x.length) (hkj:j≤k):y=x.reverse:=by
 have hl:=h.len
 apply List.ext_getElem?
 intro i
 by_cases hi:i<x.length
 ·rw[List.getElem?_reverse hi]
  by_cases hc:i<k∨x.length-1-i<k
  ·exact h.out i hi hc
  ·rw[h.mid i hi hc,show x.length-1-i=i by omega]
 ·rw[List.getElem?_eq_none (by omega),List.getElem?_eq_none (by simp;omega)]
theorem grown_trans {a b c:World} {r:Option Nat} (h:a.grownBy b r) (k:b.grownBy c r):a.grownBy c r:=
 ⟨k.os.trans h.os,k.tape.trans h.tape,k.output.trans h.output,Nat.le_trans h.size k.size,fun i hi hr=>(k.block i (Nat.lt_of_lt_of_le hi h.size) hr).trans (h.block i hi hr)⟩
theorem grown_drew {a b:World} {r:Option Nat} (h:a.grownBy b r):a.grownBy b.drew r:=⟨h.os,h.tape,h.output,h.size,h.block⟩
theorem own_apart {w:World} {B B' e e' n n' size size':Nat} {v v':Value} {xs xs':List Value} (h:w.ownsRow B e size v n xs) (h':w.ownsRow B' e' size' v' n' xs') (he:e≠e'):v.ownBlock=none∨v.ownBlock≠v'.ownBlock:=by
 rcases h.2 with⟨rfl,_⟩|⟨g,cap,cur,rfl,_,hh,_⟩
 ·exact .inl rfl
 ·rcases h'.2 with⟨rfl,_⟩|⟨g',cap',cur',rfl,_,hh',_⟩
  ·exact .inr (by simp[Value.ownBlock])
  ·refine .inr fun e0=>he ?_
   have:g=g':=by simpa[Value.ownBlock]using e0
   subst this
   rw[hh]at hh'
   simpa using(Obj.cells.inj (Option.some.inj hh')).2.1
theorem iReverse_none (w:World) (a:Option Addr) (c:Nat):
  Calls Tryz.prog 49 #[.slice a 0 c] w fun e w'=>e=.returned (.tuple #[])∧w'=w:=by
 go_enter Tryz.func49,Tryz.ntmps49
 go_wp2_with fail
 refine wp_loop_rounds 1 ?_
 rw[rounds_succ]
 go_wp2_with fail
 go_end0
 exact⟨rfl,rfl⟩
theorem iReverse_some (g cap n B:Nat) (x:List Int) (hn:0<n) (hn2:n≤140737488355328) (hx:Hid (x.length=n)) (w:World) (hO:Hid (w.ownsRow B 3 1 (.slice (some ⟨g,0,none⟩) n cap) n (ics x))):
  Calls Tryz.prog 49 #[.slice (some ⟨g,0,none⟩) n cap] w fun e w'=>e=.returned (.tuple #[])∧Hid (w'.ownsRow B 3 1 (.slice (some ⟨g,0,none⟩) n cap) n (ics x.reverse))∧w.grownBy w' (some g):=by
 go_enter Tryz.func49,Tryz.ntmps49
 go_wp2_with fail
 go_loopw [2,3] (fun i j wr=>∃(k jj:Nat) (y:List Int),k+jj+1=n∧i=.int .i64 k∧j=.int .i64 jj∧Hid (wr.ownsRow B 3 1 (.slice (some ⟨g,0,none⟩) n cap) n (ics y))∧Hid (Rv x y k)∧Hid (w.grownBy wr (some g)))
  (fun i j _=>(intOf j).toNat+1-(intOf i).toNat)
 case atStart=>exact⟨0,n-1,x,by omega,rfl,by go_num,hO,rv_zero x,World.grownBy.refl _ _⟩
 case round=>
  obtain⟨k,j,y,hkj,rfl,rfl,HO,HR,HG⟩:=hrel
  by_cases hlt:k<j
  ·have hl:Hid (y.length=n):=HR.out.len.trans hx.out
   obtain⟨p,hp⟩:∃p,y[k]?=some p:=⟨_,List.getElem?_eq_getElem (by rw[hl.out];omega)⟩
   obtain⟨q,hq⟩:∃q,y[j]?=some q:=⟨_,List.getElem?_eq_getElem (by rw[hl.out];omega)⟩
   have c0:wr.cell? ⟨g,k,none⟩=some (.int .i64 p):=(HO.out.cellAt k (by omega)).trans (ics_get hp)
   have c1:wr.cell? ⟨g,j,none⟩=some (.int .i64 q):=(HO.out.cellAt j (by omega)).trans (ics_get hq)
   have f0:wr.frozen? ⟨g,k,none⟩=false:=HO.out.frozenAt _
   have f1:wr.frozen? ⟨g,j,none⟩=false:=HO.out.frozenAt _
   have hkn:k<n:=by omega
   have hjn:j<n:=by omega
   have Hp:Hid (y[k]?=some p):=hp
   have Hq:Hid (y[j]?=some q):=hq
   clear hp hq
   go_wp2_with fail
   go_region
   go_wp2_with fail
   have s1:=HO.out.stored k (.int .i64 q)
   have s2:=s1.1.stored j (.int .i64 p)
   rw[ics_set,ics_set]at s2
   exact⟨⟨k+1,j-1,_,by omega,by go_num,by go_num,s2.1.drew,HR.out.step (by rw[hx.out];exact hkj) hlt Hp.out Hq.out,grown_drew (grown_trans (grown_trans HG.out s1.2) s2.2)⟩,by simp[intOf];omega⟩
  ·go_wp2_with fail
   go_end0
   rw[HR.out.all (by rw[hx.out];exact hkj) (by omega)]at HO
   exact⟨rfl,HO,HG.out⟩
def styK (l:List Sl) (seq:Int) (k:Nat):List Sl:=(l.take k).filter fun q=>!above seq q
def gonK (l:List Sl) (seq:Int) (k:Nat):List Int:=((l.take k).filter fun q=>above seq q).map (·.1)
theorem sty_le (l:List Sl) (seq:Int) (k:Nat):(styK l seq k).length≤k:=Nat.le_trans (List.length_filter_le _ _) (by rw[List.length_take];omega)
theorem gon_le (l:List Sl) (seq:Int) (k:Nat):(gonK l seq k).length≤k:=by
 unfold gonK
 rw[List.length_map]
 exact Nat.le_trans (List.length_filter_le _ _) (by rw[List.length_take];omega)
theorem sty_goes {l:List Sl} {seq:Int} {k:Nat} {p:Sl} (h:l[k]?=some p) (ha:above seq p=true):styK l seq (k+1)=styK l seq k∧gonK l seq (k+1)=gonK l seq k++[p.1]:=by
 unfold styK gonK
 rw[take_at h,List.filter_append,List.filter_append,List.map_append]
 simp[ha]
theorem sty_stays {l:List Sl} {seq:Int} {k:Nat} {p:Sl} (h:l[k]?=some p) (ha:above seq p=false):styK l seq (k+1)=styK l seq k++[p]∧gonK l seq (k+1)=gonK l seq k:=by
 unfold styK gonK
 rw[take_at h,List.filter_append,List.filter_append,List.map_append]
 simp[ha]
theorem sty_all {l:List Sl} {seq:Int} {k:Nat} (h:l.length=k):styK l seq k=stayS l seq∧(gonK l seq k).reverse=cutS l seq:=by
 unfold styK gonK stayS cutS
 rw[List.take_of_length_le (by omega)]
 exact⟨rfl,rfl⟩
theorem pCut_any (a:Option Addr) (n c:Nat) (seq:Int) (l:List Sl) (hn:n*16≤140737488355328) (w:World) (hL:Hid (LC w a n c 2 (scs l))):
  Calls Tryz.prog 135 #[.slice a n c,.int .i64 seq] w fun e w'=>Gives2 w (stayS l seq) (cutS l seq) e w':=by
 obtain⟨i3,hi3,hz0,hz1,hz2⟩:=info_parts info3w
 obtain⟨iS,hiS,hs0,hs1,hs2⟩:=info_parts infoSl
 have hlen:Hid (l.length=n):=by have:=hL.out.len;rw[scs_len]at this;show _=_;omega
 go_enter Tryz.func135,Tryz.ntmps135
 go_wp2_with fail
 refine(pfrom_any seq _).mono ?_
 rintro e W1 ⟨rfl,hc,hb⟩
 have HB1:Hid (Below w.heap.size w W1):=hb
 have HA:Hid (Asks 143 w.heap.size (above seq) W1):=asks_from _ _ _ hc
 clear hc hb
 go_wp2_with fail
 go_loopw [6,7,15] (fun v u i wr=>∃k:Nat,k≤n∧i=.int .i64 k∧Hid (wr.ownsRow W1.heap.size 120 2 v (styK l seq k).length (scs (styK l seq k)))∧Hid (wr.ownsRow W1.heap.size 3 1 u (gonK l seq k).length (ics (gonK l seq k)))∧Hid (Below W1.heap.size W1 wr))
  (fun _ _ i _=>n-(intOf i).toNat)
 case atStart=>exact⟨0,by omega,rfl,World.ownsRow_nil _ _ _ _,World.ownsRow_nil _ _ _ _,Below.refl _ _⟩
 case round=>
  obtain⟨k,hk,rfl,HV,HU,HB⟩:=hrel
  have hsl:=sty_le l seq k
  have hgl:=gon_le l seq k
  by_cases hlt:k<n
  ·obtain⟨s,d,hsd⟩:=at_ex (l:=l) (k:=k) (by rw[hlen.out];exact hlt)
   obtain⟨bb,o,rfl,hb,hc⟩:=hL.out.sure (by omega)
   have HBW:Hid (Below w.heap.size w wr):=HB1.out.trans (HB.out.mono HB1.out.size)
   have c0:wr.cell? ⟨bb,o+k*2,none⟩=some (.int .i64 s):=(HBW.out.cell (p:=⟨bb,o+k*2,none⟩) hb).trans (hc _ _ (scs_seq _ _ _ hsd))
   have c1:wr.cell? ⟨bb,o+k*2+1,none⟩=some (.bool d):=(HBW.out.cell (p:=⟨bb,o+k*2+1,none⟩) hb).trans (by rw[Nat.add_assoc];exact hc _ _ (scs_done _ _ _ hsd))
   clear hc HBW
   go_upto_region 7 with fail
   refine one_box (Φ:=fun W=>Code.wp _ _ _ _ W) ?_
   intro U hU hUb
   have HBU:Hid (Below W1.heap.size W1 U):=HB.out.trans (hUb.mono HB.out.size)
   have HVU:=own_below HV.out (Nat.le_refl _) hUb
   have HUU:=own_below HU.out (Nat.le_refl _) hUb
   have e0:U.cell? ⟨wr.heap.size,0,none⟩=some (.int .i64 s):=(cell_of_row _ _ _ _ _ _ hU).trans rfl
   have e1:U.cell? ⟨wr.heap.size,1,none⟩=some (.bool d):=(cell_of_row _ _ _ _ _ _ hU).trans rfl
   have hqU:wr.heap.size<U.heap.size:=(Array.getElem?_eq_some_iff.1 hU).1
   have hcall:=HA.out U s d HBU.out
   clear hU hUb HB HV HU c0 c1
   generalize wr.heap.size=q at*
   cases ha:above seq (s,d)with
   |true=>
    rw[ha]at hcall
    obtain⟨HN1,HN2⟩:=sty_goes hsd ha
    have HN1':Hid (styK l seq (k+1)=styK l seq k):=HN1
    have HN2':Hid (gonK l seq (k+1)=gonK l seq k++[s]):=HN2
    clear HN1 HN2 ha hsd
    have HVU':Hid _:=HVU
    have HUU':Hid _:=HUU
    clear HVU HUU
    go_wp2_with fail
    refine hcall.mono ?_
    rintro e U2 ⟨rfl,hb2⟩
    have d0:U2.cell? ⟨q,0,none⟩=some (.int .i64 s):=(hb2.cell (p:=⟨q,0,none⟩) hqU).trans e0
    have HB2:Hid (Below W1.heap.size W1 U2):=HBU.out.trans (hb2.mono HBU.out.size)
    have HV2:Hid (U2.ownsRow W1.heap.size 120 2 u6 (styK l seq k).length (scs (styK l seq k))):=own_below HVU'.out (Nat.le_refl _) hb2
    have HU2:Hid (U2.ownsRow W1.heap.size 3 1 u7 (gonK l seq k).length (ics (gonK l seq k))):=own_below HUU'.out (Nat.le_refl _) hb2
    clear hb2 hcall e0 e1 HBU HVU' HUU' hqU
    go_wp2_with(at_builtin;refine wpList_append_lc _ rfl _ _ 29 rfl W1.heap.size 3 i3 _ 1 8 Tryz.underlying29 hi3 hz0 hz1 hz2 rfl (by decide) _ (gonK l seq k).length _ rfl (own_below HU2.out (Nat.le_refl _) ((Below.refl _ _).alloc (Nat.le_refl _) _)) _ 1 1 (ics [s]) rfl (lc_box (heap_alloc_new _ _) (ics_one [s]) rfl) (by unfold maxLen;omega) (by omega) (by have:=HB2.out.size;simp;omega) ?_;intro v1 w1 hown1 hgrow1)
    have HO1:Hid (w1.ownsRow W1.heap.size 3 1 v1 (gonK l seq (k+1)).length (ics (gonK l seq (k+1)))):=by rw[HN2'.out,ics_app,List.length_append];exact hown1
    have HO2:Hid (w1.ownsRow W1.heap.size 120 2 u6 (styK l seq (k+1)).length (scs (styK l seq (k+1)))):=by rw[HN1'.out];exact(HV2.out.alloc _).kept hgrow1 (own_apart HV2.out HU2.out (by decide))
    have HB3:Hid (Below W1.heap.size W1 w1):=(HB2.out.alloc HB2.out.size _).grown hgrow1 (by have:=HB2.out.size;simp;omega) (fun j hj=>(HU2.out.lt j hj).1)
    clear hown1 hgrow1 HB2 HV2 HU2 d0
    go_wp2_with fail
    exact⟨⟨k+1,by omega,by go_num,HO2,HO1,HB3⟩,by simp[intOf];omega⟩
   |false=>
    rw[ha]at hcall
    obtain⟨HN1,HN2⟩:=sty_stays hsd ha
    have HN1':Hid (styK l seq (k+1)=styK l seq k++[(s,d)]):=HN1
    have HN2':Hid (gonK l seq (k+1)=gonK l seq k):=HN2
    clear HN1 HN2 ha hsd
    have HVU':Hid _:=HVU
    have HUU':Hid _:=HUU
    clear HVU HUU
    go_wp2_with fail
    refine hcall.mono ?_
    rintro e U2 ⟨rfl,hb2⟩
    have d0:U2.cell? ⟨q,0,none⟩=some (.int .i64 s):=(hb2.cell (p:=⟨q,0,none⟩) hqU).trans e0
    have d1:U2.cell? ⟨q,1,none⟩=some (.bool d):=(hb2.cell (p:=⟨q,1,none⟩) hqU).trans e1
    have HB2:Hid (Below W1.heap.size W1 U2):=HBU.out.trans (hb2.mono HBU.out.size)
    have HV2:Hid (U2.ownsRow W1.heap.size 120 2 u6 (styK l seq k).length (scs (styK l seq k))):=own_below HVU'.out (Nat.le_refl _) hb2
    have HU2:Hid (U2.ownsRow W1.heap.size 3 1 u7 (gonK l seq k).length (ics (gonK l seq k))):=own_below HUU'.out (Nat.le_refl _) hb2
    clear hb2 hcall e0 e1 HBU HVU' HUU' hqU
    go_wp2_with(at_builtin;refine wpList_append_lc _ rfl _ _ 57 rfl W1.heap.size 120 iS _ 2 16 Tryz.underlying57 hiS hs0 hs1 hs2 rfl (by decide) _ (styK l seq k).length _ rfl (own_below HV2.out (Nat.le_refl _) ((Below.refl _ _).alloc (Nat.le_refl _) _)) _ 1 1 (scs [(s,d)]) rfl (lc_box (heap_alloc_new _ _) (scs_one [(s,d)]) rfl) (by unfold maxLen;omega) (by omega) (by have:=HB2.out.size;simp;omega) ?_;intro v1 w1 hown1 hgrow1)
    have HO1:Hid (w1.ownsRow W1.heap.size 120 2 v1 (styK l seq (k+1)).length (scs (styK l seq (k+1)))):=by rw[HN1'.out,scs_app,List.length_append];exact hown1
    have HO2:Hid (w1.ownsRow W1.heap.size 3 1 u7 (gonK l seq (k+1)).length (ics (gonK l seq (k+1)))):=by rw[HN2'.out];exact(HU2.out.alloc _).kept hgrow1 (own_apart HU2.out HV2.out (by decide))
    have HB3:Hid (Below W1.heap.size W1 w1):=(HB2.out.alloc HB2.out.size _).grown hgrow1 (by have:=HB2.out.size;simp;omega) (fun j hj=>(HV2.out.lt j hj).1)
    clear hown1 hgrow1 HB2 HV2 HU2 d0 d1
    go_wp2_with fail
    exact⟨⟨k+1,by omega,by go_num,HO1,HO2,HB3⟩,by simp[intOf];omega⟩
  ·have:k=n:=by omega
   subst this
   obtain⟨E1,E2⟩:=sty_all (seq:=seq) hlen.out
   rw[E1]at HV
   obtain⟨x,hx⟩:∃x,Hid (x=gonK l seq k):=⟨_,rfl⟩
   rw[←hx.out]at HU hgl E2
   have E3:Hid (x.reverse=cutS l seq):=E2
   have HBW:Hid (Below w.heap.size w wr):=HB1.out.trans (HB.out.mono HB1.out.size)
   clear E1 E2
   by_cases h0:x.length=0
   ·obtain rfl:x=[]:=List.eq_nil_of_length_eq_zero h0
    obtain⟨pu,cu,rfl⟩:=owns_slice' HU.out
    clear h0
    go_wp2_with fail
    refine(iReverse_none _ _ _).mono ?_
    rintro e W4 ⟨rfl,rfl⟩
    go_wp2_with fail
    refine bodyPost_ret (v:=.tuple #[u6,.slice pu 0 cu]) ?_ rfl (by rw[←E3.out];exact gives2_own rfl rfl (own_base HV.out HB1.out.size) (own_base HU.out HB1.out.size) HBW.out)
    simp[results,Tryz.results135,asAddr]
   ·obtain⟨g,cu,rfl⟩:=own_some HU.out (by omega)
    have hgb:=(HU.out.lt g rfl).1
    have hAp:=own_apart HV.out HU.out (by decide)
    go_wp2_with fail
    refine(iReverse_some g cu x.length W1.heap.size x (by omega) (by omega) rfl wr HU).mono ?_
    rintro e W4 ⟨rfl,hown,hgrow⟩
    have HV4:=HV.out.kept hgrow hAp
    have HB4:Hid (Below w.heap.size w W4):=HBW.out.grown hgrow HBW.out.size (fun j hj=>by cases hj;have:=HB1.out.size;omega)
    go_wp2_with fail
    refine bodyPost_ret (v:=.tuple #[u6,.slice (some ⟨g,0,none⟩) x.length cu]) ?_ rfl (by rw[←E3.out];exact gives2_own rfl (List.length_reverse ..) (own_base HV4 HB1.out.size) (own_base hown.out HB1.out.size) HB4.out)
    simp[results,Tryz.results135,asAddr]
end Go.Proofs.YtpiohehijkpghabGreatDoor.Wi
