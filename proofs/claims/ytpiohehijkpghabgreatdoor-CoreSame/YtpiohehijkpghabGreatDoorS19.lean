/- Cut: the program. -/
import Derived.Test.YtpiohehijkpghabGreatDoorS18
set_option maxRecDepth 20000
set_option maxHeartbeats 1000000
set_option linter.unusedVariables false
open Go.Proofs.Tryz
namespace Go.Proofs.YtpiohehijkpghabGreatDoor.Wi
open Go.RowKit
structure Rv(x y:List Int)(k:Nat):Prop where
 len:y.length=x.length
 out:∀i,i<x.length->(i<k\/x.length-1-i<k)->y[i]?=x[x.length-1-i]?
 mid:∀i,i<x.length->¬(i<k\/x.length-1-i<k)->y[i]?=x[i]?
theorem zha(x:List Int):Rv x x 0:=⟨rfl,fun i _ h=>by omega,fun i _ _=>rfl⟩
theorem Rv.step{x y:List Int}{k j:Nat}(h:Rv x y k)(hj:k+j+1=x.length)(hkj:k<j){a b:Int}(ha:y[k]?=some a)(hb:y[j]?=some b):Rv x ((y.set k b).set j a) (k+1):=by
 have hl:=h.len
 have ea:x[k]?=some a:=by rw[<-h.mid k (by omega) (by omega)];exact ha
 have eb:x[j]?=some b:=by rw[<-h.mid j (by omega) (by omega)];exact hb
 refine⟨by simp[hl],fun i hi hc=>?_,fun i hi hc=>?_⟩
 ·rw[List.getElem?_set,List.getElem?_set]
  by_cases e1:j=i
  ·subst e1
   rw[if_pos rfl,if_pos (by simp;omega),show x.length-1-j=k by omega,ea]
  ·rw[if_neg e1]
   by_cases e2:k=i
   ·subst e2
    rw[if_pos rfl,if_pos (by omega),show x.length-1-k=j by omega,eb]
   ·rw[if_neg e2]
    exact h.out i hi (by omega)
 ·rw[List.getElem?_set,List.getElem?_set,if_neg (by omega),if_neg (by omega)]
  exact h.mid i hi (by omega)
theorem Rv.all{x y:List Int}{k j:Nat}(h:Rv x y k)(hj:k+j+1=x.length)(hkj:j<=k):y=x.reverse:=by
 have hl:=h.len
 apply List.ext_getElem?
 intro i
 by_cases hi:i<x.length
 ·rw[List.getElem?_reverse hi]
  by_cases hc:i<k\/x.length-1-i<k
  ·exact h.out i hi hc
  ·rw[h.mid i hi hc,show x.length-1-i=i by omega]
 ·rw[List.getElem?_eq_none (by omega),List.getElem?_eq_none (by simp;omega)]
theorem zM{a b c:World}{r:Option Nat}(h:a.grownBy b r)(k:b.grownBy c r):a.grownBy c r:=
 ⟨k.os.trans h.os,k.tape.trans h.tape,k.output.trans h.output,Nat.le_trans h.size k.size,fun i hi hr=>(k.block i (Nat.lt_of_lt_of_le hi h.size) hr).trans (h.block i hi hr)⟩
theorem qb{a b:World}{r:Option Nat}(h:a.grownBy b r):a.grownBy b.drew r:=⟨h.os,h.tape,h.output,h.size,h.block⟩
theorem yZ{w:World}{B B' e e' n n' size size':Nat}{v v':Value}{xs xs':List Value}(h:w.ownsRow B e size v n xs)(h':w.ownsRow B' e' size' v' n' xs')(he:e≠e'):v.ownBlock=none\/v.ownBlock≠v'.ownBlock:=by
 rcases h.2 with⟨rfl,_⟩|⟨g,cap,cur,rfl,_,hh,_⟩
 ·exact .inl rfl
 ·rcases h'.2 with⟨rfl,_⟩|⟨g',cap',cur',rfl,_,hh',_⟩
  ·exact .inr (by simp[Value.ownBlock])
  ·refine .inr fun e0=>he ?_
   have:g=g':=by simpa[Value.ownBlock]using e0
   subst this
   rw[hh]at hh'
   simpa using(Obj.cells.inj (Option.some.inj hh')).2.1
theorem za6(w:World)(a:Option Addr)(c:Nat):
  Calls prog 49 #[.slice a 0 c] w fun e w'=>e=.returned (.tuple #[])/\w'=w:=by
 go_enter func49,ntmps49
 go_wp2_with fail
 refine wp_loop_rounds 1 ?_
 rw[rounds_succ]
 go_wp2_with fail
 go_end0
 exact⟨rfl,rfl⟩
theorem za7(g cap n B:Nat)(x:List Int)(hn:0<n)(hn2:n<=140737488355328)(hx:Hid (x.length=n))(w:World)(hO:Hid (w.ownsRow B 3 1 (.slice (some ⟨g,0,none⟩) n cap) n (ics x))):
  Calls prog 49 #[.slice (some ⟨g,0,none⟩) n cap] w fun e w'=>e=.returned (.tuple #[])/\Hid (w'.ownsRow B 3 1 (.slice (some ⟨g,0,none⟩) n cap) n (ics x.reverse))/\w.grownBy w' (some g):=by
 go_enter func49,ntmps49
 go_wp2_with fail
 go_loopw [2,3] (fun i j wr=>∃(k jj:Nat) (y:List Int),k+jj+1=n/\i=.int .i64 k/\j=.int .i64 jj/\Hid (wr.ownsRow B 3 1 (.slice (some ⟨g,0,none⟩) n cap) n (ics y))/\Hid (Rv x y k)/\Hid (w.grownBy wr (some g)))
  (fun i j _=>(intOf j).toNat+1-(intOf i).toNat)
 case atStart=>exact⟨0,n-1,x,by omega,rfl,by go_num,hO,zha x,World.grownBy.refl _ _⟩
 case round=>
  obtain⟨k,j,y,hkj,rfl,rfl,HO,HR,HG⟩:=hrel
  by_cases hlt:k<j
  ·have hl:Hid (y.length=n):=HR.out.len.trans hx.out
   obtain⟨p,hp⟩:∃p,y[k]?=some p:=⟨_,List.getElem?_eq_getElem (by rw[hl.out];omega)⟩
   obtain⟨q,hq⟩:∃q,y[j]?=some q:=⟨_,List.getElem?_eq_getElem (by rw[hl.out];omega)⟩
   have c0:wr.cell? ⟨g,k,none⟩=some (.int .i64 p):=(HO.out.cellAt k (by omega)).trans (jE hp)
   have c1:wr.cell? ⟨g,j,none⟩=some (.int .i64 q):=(HO.out.cellAt j (by omega)).trans (jE hq)
   have f0:wr.frozen? ⟨g,k,none⟩=false:=HO.out.frozenAt _
   have f1:wr.frozen? ⟨g,j,none⟩=false:=HO.out.frozenAt _
   have hkn:k<n:=by omega
   have hjn:j<n:=by omega
   have Hp:Hid (y[k]?=some p):=hp
   have Hq:Hid (y[j]?=some q):=hq
   clear hp hq
   go_wp2_with fail
   go_region
   go_wp2_with fail
   have s1:=HO.out.stored k (.int .i64 q)
   have s2:=s1.1.stored j (.int .i64 p)
   rw[zdk,zdk]at s2
   exact⟨⟨k+1,j-1,_,by omega,by go_num,by go_num,s2.1.drew,HR.out.step (by rw[hx.out];exact hkj) hlt Hp.out Hq.out,qb (zM (zM HG.out s1.2) s2.2)⟩,by simp[intOf];omega⟩
  ·go_wp2_with fail
   go_end0
   rw[HR.out.all (by rw[hx.out];exact hkj) (by omega)]at HO
   exact⟨rfl,HO,HG.out⟩
def styK(l:List Sl)(seq:Int)(k:Nat):List Sl:=(l.take k).filter fun q=>!above seq q
def gonK(l:List Sl)(seq:Int)(k:Nat):List Int:=((l.take k).filter fun q=>above seq q).map (·.1)
theorem zn2(l:List Sl)(seq:Int)(k:Nat):(styK l seq k).length<=k:=Nat.le_trans (List.length_filter_le _ _) (by rw[List.length_take];omega)
theorem zn3(l:List Sl)(seq:Int)(k:Nat):(gonK l seq k).length<=k:=by
 unfold gonK
 rw[List.length_map]
 exact Nat.le_trans (List.length_filter_le _ _) (by rw[List.length_take];omega)
theorem zjq{l:List Sl}{seq:Int}{k:Nat}{p:Sl}(h:l[k]?=some p)(ha:above seq p=true):styK l seq (k+1)=styK l seq k/\gonK l seq (k+1)=gonK l seq k++[p.1]:=by
 unfold styK gonK
 rw[take_at h,List.filter_append,List.filter_append,List.map_append]
 simp[ha]
theorem zhb{l:List Sl}{seq:Int}{k:Nat}{p:Sl}(h:l[k]?=some p)(ha:above seq p=false):styK l seq (k+1)=styK l seq k++[p]/\gonK l seq (k+1)=gonK l seq k:=by
 unfold styK gonK
 rw[take_at h,List.filter_append,List.filter_append,List.map_append]
 simp[ha]
theorem zlF{l:List Sl}{seq:Int}{k:Nat}(h:l.length=k):styK l seq k=yV l seq/\(gonK l seq k).reverse=cutS l seq:=by
 unfold styK gonK yV cutS
 rw[List.take_of_length_le (by omega)]
 exact⟨rfl,rfl⟩
theorem zjr(a:Option Addr)(n c:Nat)(seq:Int)(l:List Sl)(hn:n*16<=140737488355328)(w:World)(hL:Hid (LC w a n c 2 (scs l))):
  Calls prog 135 #[.slice a n c,.int .i64 seq] w fun e w'=>zcd w (yV l seq) (cutS l seq) e w':=by
 obtain⟨i3,hi3,hz0,hz1,hz2⟩:=info_parts zkC
 obtain⟨iS,hiS,hs0,hs1,hs2⟩:=info_parts zca
 have hlen:Hid (l.length=n):=by have:=hL.out.len;rw[ya]at this;show _=_;omega
 go_enter func135,ntmps135
 go_wp2_with fail
 refine(yX seq _).mono ?_
 rintro e W1 ⟨rfl,hc,hb⟩
 have HB1:Hid (Below w.heap.size w W1):=hb
 have HA:Hid (Asks 143 w.heap.size (above seq) W1):=yW _ _ _ hc
 clear hc hb
 go_wp2_with fail
 go_loopw [6,7,15] (fun v u i wr=>∃k:Nat,k<=n/\i=.int .i64 k/\Hid (wr.ownsRow W1.heap.size 120 2 v (styK l seq k).length (scs (styK l seq k)))/\Hid (wr.ownsRow W1.heap.size 3 1 u (gonK l seq k).length (ics (gonK l seq k)))/\Hid (Below W1.heap.size W1 wr))
  (fun _ _ i _=>n-(intOf i).toNat)
 case atStart=>exact⟨0,by omega,rfl,World.ownsRow_nil _ _ _ _,World.ownsRow_nil _ _ _ _,Below.refl _ _⟩
 case round=>
  obtain⟨k,hk,rfl,HV,HU,HB⟩:=hrel
  have hsl:=zn2 l seq k
  have hgl:=zn3 l seq k
  by_cases hlt:k<n
  ·obtain⟨s,d,hsd⟩:=zg5 (l:=l) (k:=k) (by rw[hlen.out];exact hlt)
   obtain⟨bb,o,rfl,hb,hc⟩:=hL.out.sure (by omega)
   have HBW:Hid (Below w.heap.size w wr):=HB1.out.trans (HB.out.mono HB1.out.size)
   have c0:wr.cell? ⟨bb,o+k*2,none⟩=some (.int .i64 s):=(HBW.out.cell (p:=⟨bb,o+k*2,none⟩) hb).trans (hc _ _ (za3 _ _ _ hsd))
   have c1:wr.cell? ⟨bb,o+k*2+1,none⟩=some (.bool d):=(HBW.out.cell (p:=⟨bb,o+k*2+1,none⟩) hb).trans (by rw[Nat.add_assoc];exact hc _ _ (ko _ _ _ hsd))
   clear hc HBW
   go_upto_region 7 with fail
   refine zA (Φ:=fun W=>Code.wp _ _ _ _ W) ?_
   intro U hU hUb
   have HBU:Hid (Below W1.heap.size W1 U):=HB.out.trans (hUb.mono HB.out.size)
   have HVU:=zy HV.out (Nat.le_refl _) hUb
   have HUU:=zy HU.out (Nat.le_refl _) hUb
   have e0:U.cell? ⟨wr.heap.size,0,none⟩=some (.int .i64 s):=(cell_of_row _ _ _ _ _ _ hU).trans rfl
   have e1:U.cell? ⟨wr.heap.size,1,none⟩=some (.bool d):=(cell_of_row _ _ _ _ _ _ hU).trans rfl
   have hqU:wr.heap.size<U.heap.size:=(Array.getElem?_eq_some_iff.1 hU).1
   have hcall:=HA.out U s d HBU.out
   clear hU hUb HB HV HU c0 c1
   generalize wr.heap.size=q at*
   cases ha:above seq (s,d)with
   |true=>
    rw[ha]at hcall
    obtain⟨HN1,HN2⟩:=zjq hsd ha
    have HN1':Hid (styK l seq (k+1)=styK l seq k):=HN1
    have HN2':Hid (gonK l seq (k+1)=gonK l seq k++[s]):=HN2
    clear HN1 HN2 ha hsd
    have HVU':Hid _:=HVU
    have HUU':Hid _:=HUU
    clear HVU HUU
    go_wp2_with fail
    refine hcall.mono ?_
    rintro e U2 ⟨rfl,hb2⟩
    have d0:U2.cell? ⟨q,0,none⟩=some (.int .i64 s):=(hb2.cell (p:=⟨q,0,none⟩) hqU).trans e0
    have HB2:Hid (Below W1.heap.size W1 U2):=HBU.out.trans (hb2.mono HBU.out.size)
    have HV2:Hid (U2.ownsRow W1.heap.size 120 2 u6 (styK l seq k).length (scs (styK l seq k))):=zy HVU'.out (Nat.le_refl _) hb2
    have HU2:Hid (U2.ownsRow W1.heap.size 3 1 u7 (gonK l seq k).length (ics (gonK l seq k))):=zy HUU'.out (Nat.le_refl _) hb2
    clear hb2 hcall e0 e1 HBU HVU' HUU' hqU
    go_wp2_with(at_builtin;refine zD _ rfl _ _ 29 rfl W1.heap.size 3 i3 _ 1 8 underlying29 hi3 hz0 hz1 hz2 rfl (by decide) _ (gonK l seq k).length _ rfl (zy HU2.out (Nat.le_refl _) ((Below.refl _ _).alloc (Nat.le_refl _) _)) _ 1 1 (ics [s]) rfl (zar (heap_alloc_new _ _) (jF [s]) rfl) (by unfold maxLen;omega) (by omega) (by have:=HB2.out.size;simp;omega) ?_;intro v1 w1 hown1 hgrow1)
    have HO1:Hid (w1.ownsRow W1.heap.size 3 1 v1 (gonK l seq (k+1)).length (ics (gonK l seq (k+1)))):=by rw[HN2'.out,za5,List.length_append];exact hown1
    have HO2:Hid (w1.ownsRow W1.heap.size 120 2 u6 (styK l seq (k+1)).length (scs (styK l seq (k+1)))):=by rw[HN1'.out];exact(HV2.out.alloc _).kept hgrow1 (yZ HV2.out HU2.out (by decide))
    have HB3:Hid (Below W1.heap.size W1 w1):=(HB2.out.alloc HB2.out.size _).grown hgrow1 (by have:=HB2.out.size;simp;omega) (fun j hj=>(HU2.out.lt j hj).1)
    clear hown1 hgrow1 HB2 HV2 HU2 d0
    go_wp2_with fail
    exact⟨⟨k+1,by omega,by go_num,HO2,HO1,HB3⟩,by simp[intOf];omega⟩
   |false=>
    rw[ha]at hcall
    obtain⟨HN1,HN2⟩:=zhb hsd ha
    have HN1':Hid (styK l seq (k+1)=styK l seq k++[(s,d)]):=HN1
    have HN2':Hid (gonK l seq (k+1)=gonK l seq k):=HN2
    clear HN1 HN2 ha hsd
    have HVU':Hid _:=HVU
    have HUU':Hid _:=HUU
    clear HVU HUU
    go_wp2_with fail
    refine hcall.mono ?_
    rintro e U2 ⟨rfl,hb2⟩
    have d0:U2.cell? ⟨q,0,none⟩=some (.int .i64 s):=(hb2.cell (p:=⟨q,0,none⟩) hqU).trans e0
    have d1:U2.cell? ⟨q,1,none⟩=some (.bool d):=(hb2.cell (p:=⟨q,1,none⟩) hqU).trans e1
    have HB2:Hid (Below W1.heap.size W1 U2):=HBU.out.trans (hb2.mono HBU.out.size)
    have HV2:Hid (U2.ownsRow W1.heap.size 120 2 u6 (styK l seq k).length (scs (styK l seq k))):=zy HVU'.out (Nat.le_refl _) hb2
    have HU2:Hid (U2.ownsRow W1.heap.size 3 1 u7 (gonK l seq k).length (ics (gonK l seq k))):=zy HUU'.out (Nat.le_refl _) hb2
    clear hb2 hcall e0 e1 HBU HVU' HUU' hqU
    go_wp2_with(at_builtin;refine zD _ rfl _ _ 57 rfl W1.heap.size 120 iS _ 2 16 underlying57 hiS hs0 hs1 hs2 rfl (by decide) _ (styK l seq k).length _ rfl (zy HV2.out (Nat.le_refl _) ((Below.refl _ _).alloc (Nat.le_refl _) _)) _ 1 1 (scs [(s,d)]) rfl (zar (heap_alloc_new _ _) (yU [(s,d)]) rfl) (by unfold maxLen;omega) (by omega) (by have:=HB2.out.size;simp;omega) ?_;intro v1 w1 hown1 hgrow1)
    have HO1:Hid (w1.ownsRow W1.heap.size 120 2 v1 (styK l seq (k+1)).length (scs (styK l seq (k+1)))):=by rw[HN1'.out,zdj,List.length_append];exact hown1
    have HO2:Hid (w1.ownsRow W1.heap.size 3 1 u7 (gonK l seq (k+1)).length (ics (gonK l seq (k+1)))):=by rw[HN2'.out];exact(HU2.out.alloc _).kept hgrow1 (yZ HU2.out HV2.out (by decide))
    have HB3:Hid (Below W1.heap.size W1 w1):=(HB2.out.alloc HB2.out.size _).grown hgrow1 (by have:=HB2.out.size;simp;omega) (fun j hj=>(HV2.out.lt j hj).1)
    clear hown1 hgrow1 HB2 HV2 HU2 d0 d1
    go_wp2_with fail
    exact⟨⟨k+1,by omega,by go_num,HO1,HO2,HB3⟩,by simp[intOf];omega⟩
  ·have:k=n:=by omega
   subst this
   obtain⟨E1,E2⟩:=zlF (seq:=seq) hlen.out
   rw[E1]at HV
   obtain⟨x,hx⟩:∃x,Hid (x=gonK l seq k):=⟨_,rfl⟩
   rw[<-hx.out]at HU hgl E2
   have E3:Hid (x.reverse=cutS l seq):=E2
   have HBW:Hid (Below w.heap.size w wr):=HB1.out.trans (HB.out.mono HB1.out.size)
   clear E1 E2
   by_cases h0:x.length=0
   ·obtain rfl:x=[]:=List.eq_nil_of_length_eq_zero h0
    obtain⟨pu,cu,rfl⟩:=yY HU.out
    clear h0
    go_wp2_with fail
    refine(za6 _ _ _).mono ?_
    rintro e W4 ⟨rfl,rfl⟩
    go_wp2_with fail
    refine bodyPost_ret (v:=.tuple #[u6,.slice pu 0 cu]) ?_ rfl (by rw[<-E3.out];exact ji rfl rfl (qP HV.out HB1.out.size) (qP HU.out HB1.out.size) HBW.out)
    simp[results,results135,asAddr]
   ·obtain⟨g,cu,rfl⟩:=zec HU.out (by omega)
    have hgb:=(HU.out.lt g rfl).1
    have hAp:=yZ HV.out HU.out (by decide)
    go_wp2_with fail
    refine(za7 g cu x.length W1.heap.size x (by omega) (by omega) rfl wr HU).mono ?_
    rintro e W4 ⟨rfl,hown,hgrow⟩
    have HV4:=HV.out.kept hgrow hAp
    have HB4:Hid (Below w.heap.size w W4):=HBW.out.grown hgrow HBW.out.size (fun j hj=>by cases hj;have:=HB1.out.size;omega)
    go_wp2_with fail
    refine bodyPost_ret (v:=.tuple #[u6,.slice (some ⟨g,0,none⟩) x.length cu]) ?_ rfl (by rw[<-E3.out];exact ji rfl (List.length_reverse ..) (qP HV4 HB1.out.size) (qP hown.out HB1.out.size) HB4.out)
    simp[results,results135,asAddr]
end Go.Proofs.YtpiohehijkpghabGreatDoor.Wi
