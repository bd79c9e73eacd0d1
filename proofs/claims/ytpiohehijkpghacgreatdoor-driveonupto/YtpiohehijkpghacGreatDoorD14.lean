/- What a core's small functions come to. -/
import Derived.Deep.AppendSrc
import Derived.Test.YtpiohehijkpghacGreatDoorD13
import Derived.Test.YtpiohehijkpghacGreatDoorD08
open Array renaming getElem?_eq_some_iff->Aa,getElem?_toList->Am,getElem?_eq_none->WY
open Go renaming cell_of_row->An
open Go.RowKit.Below renaming refl->Ag
open Go.Value renaming ownBlock->AA,slice->AC
open Go.World renaming cell?_of_block->Ad,block_lt_of_cell?->Ak,ownsRow_nil->Ax
open Go.World.grownBy renaming refl->AD
open List renaming getElem?_eq_some_iff->Af,filter_append->Aj,getElem?_set->WZ,eq_nil_of_length_eq_zero->Ao,getElem?_eq_getElem->Aq,length_take->Ar,getElem?_eq_none->WX,length_filter_le->Au,length_append->Aw,not_mem_nil->Ay,map_append->Az,mem_cons->AB
open Nat renaming le_refl->Ab,add_sub_cancel_left->Ae,le_trans->Ah,lt_of_lt_of_le->Ap,add_mul->Av
open Option.some renaming inj->Ai
set_option maxHeartbeats 1000000
set_option maxRecDepth 20000
set_option linter.unusedSimpArgs false
set_option linter.unusedVariables false
open Go.Proofs.Tryz
namespace Go.Proofs.YtpiohehijkpghacGreatDoor.Wi
open Go.RowKit
structure Rv(x y:List Int)(k:Nat):Prop where
 len:y.length=x.length
 out:∀i,i<x.length->(i<k\/x.length-1-i<k)->y[i]?=x[x.length-1-i]?
 mid:∀i,i<x.length->¬(i<k\/x.length-1-i<k)->y[i]?=x[i]?
theorem zg6(x:List Int):Rv x x 0:=⟨rfl,fun i _ h=>by omega,fun i _ _=>rfl⟩
theorem Rv.step{x y:List Int}{k j:Nat}(h:Rv x y k)(hj:k+j+1=x.length)(hkj:k<j){a b:Int}(ha:y[k]?=some a)(hb:y[j]?=some b):Rv x ((y.set k b).set j a) (k+1):=by
 have hl:=h.len
 have ea:x[k]?=some a:=by rw[<-h.mid k (by omega) (by omega)];exact ha
 have eb:x[j]?=some b:=by rw[<-h.mid j (by omega) (by omega)];exact hb
 refine⟨by simp[hl],fun i hi hc=>?_,fun i hi hc=>?_⟩
 ·rw[WZ,WZ]
  by_cases e1:j=i
  ·subst e1
   rw[if_pos rfl,if_pos (by simp;omega),show x.length-1-j=k by omega,ea]
  ·rw[if_neg e1]
   by_cases e2:k=i
   ·subst e2
    rw[if_pos rfl,if_pos (by omega),show x.length-1-k=j by omega,eb]
   ·rw[if_neg e2]
    exact h.out i hi (by omega)
 ·rw[WZ,WZ,if_neg (by omega),if_neg (by omega)]
  exact h.mid i hi (by omega)
theorem Rv.all{x y:List Int}{k j:Nat}(h:Rv x y k)(hj:k+j+1=x.length)(hkj:j<=k):y=x.reverse:=by
 have hl:=h.len
 apply List.ext_getElem?
 intro i
 by_cases hi:i<x.length
 ·rw[List.getElem?_reverse hi]
  by_cases hc:i<k\/x.length-1-i<k
  ·exact h.out i hi hc
  ·rw[h.mid i hi hc,show x.length-1-i=i by omega]
 ·rw[WX (by omega),WX (by simp;omega)]
theorem zB{a b c:World}{r:Option Nat}(h:a.grownBy b r)(k:b.grownBy c r):a.grownBy c r:=
 ⟨k.os.trans h.os,k.tape.trans h.tape,k.output.trans h.output,Ah h.size k.size,fun i hi hr=>(k.block i (Ap hi h.size) hr).trans (h.block i hi hr)⟩
theorem qG{a b:World}{r:Option Nat}(h:a.grownBy b r):a.grownBy b.drew r:=⟨h.os,h.tape,h.output,h.size,h.block⟩
theorem vy{w:World}{B B' e e' n n' size size':Nat}{v v':Value}{xs xs':List Value}(h:w.ownsRow B e size v n xs)(h':w.ownsRow B' e' size' v' n' xs')(he:e≠e'):v.ownBlock=none\/v.ownBlock≠v'.ownBlock:=by
 rcases h.2 with⟨rfl,_⟩|⟨g,cap,cur,rfl,_,hh,_⟩
 ·exact .inl rfl
 ·rcases h'.2 with⟨rfl,_⟩|⟨g',cap',cur',rfl,_,hh',_⟩
  ·exact .inr (by simp[AA])
  ·refine .inr fun e0=>he ?_
   have:g=g':=by simpa[AA]using e0
   subst this
   rw[hh]at hh'
   simpa using(Obj.cells.inj (Ai hh')).2.1
theorem za7(w:World)(a:Option Addr)(c:Nat):
  Calls prog 62 #[.slice a 0 c] w fun e w'=>e=.returned (.tuple #[])/\w'=w:=by
 go_enter func62,ntmps62
 go_wp2_with fail
 refine wp_loop_rounds 1 ?_
 rw[rounds_succ]
 go_wp2_with fail
 go_end0
 exact⟨rfl,rfl⟩
theorem za8(g cap n B:Nat)(x:List Int)(hn:0<n)(hn2:n<=140737488355328)(hx:Hid (x.length=n))(w:World)(hO:Hid (w.ownsRow B 3 1 (.slice (some ⟨g,0,none⟩) n cap) n (ics x))):
  Calls prog 62 #[.slice (some ⟨g,0,none⟩) n cap] w fun e w'=>e=.returned (.tuple #[])/\Hid (w'.ownsRow B 3 1 (.slice (some ⟨g,0,none⟩) n cap) n (ics x.reverse))/\w.grownBy w' (some g):=by
 go_enter func62,ntmps62
 go_wp2_with fail
 go_loopw [2,3] (fun i j wr=>∃(k jj:Nat) (y:List Int),k+jj+1=n/\i=.int .i64 k/\j=.int .i64 jj/\Hid (wr.ownsRow B 3 1 (.slice (some ⟨g,0,none⟩) n cap) n (ics y))/\Hid (Rv x y k)/\Hid (w.grownBy wr (some g)))
  (fun i j _=>(intOf j).toNat+1-(intOf i).toNat)
 case atStart=>exact⟨0,n-1,x,by omega,rfl,by go_num,hO,zg6 x,AD _ _⟩
 case round=>
  obtain⟨k,j,y,hkj,rfl,rfl,HO,HR,HG⟩:=hrel
  by_cases hlt:k<j
  ·have hl:Hid (y.length=n):=HR.out.len.trans hx.out
   obtain⟨p,hp⟩:∃p,y[k]?=some p:=⟨_,Aq (by rw[hl.out];omega)⟩
   obtain⟨q,hq⟩:∃q,y[j]?=some q:=⟨_,Aq (by rw[hl.out];omega)⟩
   have c0:wr.cell? ⟨g,k,none⟩=some (.int .i64 p):=(HO.out.cellAt k (by omega)).trans (jR hp)
   have c1:wr.cell? ⟨g,j,none⟩=some (.int .i64 q):=(HO.out.cellAt j (by omega)).trans (jR hq)
   have f0:wr.frozen? ⟨g,k,none⟩=false:=HO.out.frozenAt _
   have f1:wr.frozen? ⟨g,j,none⟩=false:=HO.out.frozenAt _
   have hkn:k<n:=by omega
   have hjn:j<n:=by omega
   have Hp:Hid (y[k]?=some p):=hp
   have Hq:Hid (y[j]?=some q):=hq
   clear hp hq
   go_wp2_with fail
   go_region
   go_wp2_with fail
   have s1:=HO.out.stored k (.int .i64 q)
   have s2:=s1.1.stored j (.int .i64 p)
   rw[zcO,zcO]at s2
   exact⟨⟨k+1,j-1,_,by omega,by go_num,by go_num,s2.1.drew,HR.out.step (by rw[hx.out];exact hkj) hlt Hp.out Hq.out,qG (zB (zB HG.out s1.2) s2.2)⟩,by simp[intOf];omega⟩
  ·go_wp2_with fail
   go_end0
   rw[HR.out.all (by rw[hx.out];exact hkj) (by omega)]at HO
   exact⟨rfl,HO,HG.out⟩
def styK(l:List Sl)(seq:Int)(k:Nat):List Sl:=(l.take k).filter fun q=>!above seq q
def gonK(l:List Sl)(seq:Int)(k:Nat):List Int:=((l.take k).filter fun q=>above seq q).map (·.1)
theorem zny(l:List Sl)(seq:Int)(k:Nat):(styK l seq k).length<=k:=Ah (Au _ _) (by rw[Ar];omega)
theorem znz(l:List Sl)(seq:Int)(k:Nat):(gonK l seq k).length<=k:=by
 unfold gonK
 rw[List.length_map]
 exact Ah (Au _ _) (by rw[Ar];omega)
theorem zjj{l:List Sl}{seq:Int}{k:Nat}{p:Sl}(h:l[k]?=some p)(ha:above seq p=true):styK l seq (k+1)=styK l seq k/\gonK l seq (k+1)=gonK l seq k++[p.1]:=by
 unfold styK gonK
 rw[take_at h,Aj,Aj,Az]
 simp[ha]
theorem zg7{l:List Sl}{seq:Int}{k:Nat}{p:Sl}(h:l[k]?=some p)(ha:above seq p=false):styK l seq (k+1)=styK l seq k++[p]/\gonK l seq (k+1)=gonK l seq k:=by
 unfold styK gonK
 rw[take_at h,Aj,Aj,Az]
 simp[ha]
theorem zlv{l:List Sl}{seq:Int}{k:Nat}(h:l.length=k):styK l seq k=vd l seq/\(gonK l seq k).reverse=cutS l seq:=by
 unfold styK gonK vd cutS
 rw[List.take_of_length_le (by omega)]
 exact⟨rfl,rfl⟩
theorem zjk(a:Option Addr)(n c:Nat)(seq:Int)(l:List Sl)(hn:n*16<=140737488355328)(w:World)(hL:Hid (LC w a n c 2 (scs l))):
  Calls prog 161 #[.slice a n c,.int .i64 seq] w fun e w'=>zbP w (vd l seq) (cutS l seq) e w':=by
 obtain⟨i3,hi3,hz0,hz1,hz2⟩:=info_parts zkf
 obtain⟨iS,hiS,hs0,hs1,hs2⟩:=info_parts zbK
 have hlen:Hid (l.length=n):=by have:=hL.out.len;rw[kL]at this;show _=_;omega
 go_enter func161,ntmps161
 go_wp2_with fail
 refine(zbM seq _).mono ?_
 rintro e W1 ⟨rfl,hc,hb⟩
 have HB1:Hid (Below w.heap.size w W1):=hb
 have HA:Hid (Asks 169 w.heap.size (above seq) W1):=zbL _ _ _ hc
 clear hc hb
 go_wp2_with fail
 go_loopw [6,7,15] (fun v u i wr=>∃k:Nat,k<=n/\i=.int .i64 k/\Hid (wr.ownsRow W1.heap.size 159 2 v (styK l seq k).length (scs (styK l seq k)))/\Hid (wr.ownsRow W1.heap.size 3 1 u (gonK l seq k).length (ics (gonK l seq k)))/\Hid (Below W1.heap.size W1 wr))
  (fun _ _ i _=>n-(intOf i).toNat)
 case atStart=>exact⟨0,by omega,rfl,Ax _ _ _ _,Ax _ _ _ _,Ag _ _⟩
 case round=>
  obtain⟨k,hk,rfl,HV,HU,HB⟩:=hrel
  have hsl:=zny l seq k
  have hgl:=znz l seq k
  by_cases hlt:k<n
  ·obtain⟨s,d,hsd⟩:=zgn (l:=l) (k:=k) (by rw[hlen.out];exact hlt)
   obtain⟨bb,o,rfl,hb,hc⟩:=hL.out.sure (by omega)
   have HBW:Hid (Below w.heap.size w wr):=HB1.out.trans (HB.out.mono HB1.out.size)
   have c0:wr.cell? ⟨bb,o+k*2,none⟩=some (.int .i64 s):=(HBW.out.cell (p:=⟨bb,o+k*2,none⟩) hb).trans (hc _ _ (zaN _ _ _ hsd))
   have c1:wr.cell? ⟨bb,o+k*2+1,none⟩=some (.bool d):=(HBW.out.cell (p:=⟨bb,o+k*2+1,none⟩) hb).trans (by rw[Nat.add_assoc];exact hc _ _ (ka _ _ _ hsd))
   clear hc HBW
   go_upto_region 7 with fail
   refine zj (Φ:=fun W=>Code.wp _ _ _ _ W) ?_
   intro U hU hUb
   have HBU:Hid (Below W1.heap.size W1 U):=HB.out.trans (hUb.mono HB.out.size)
   have HVU:=zr HV.out (Ab _) hUb
   have HUU:=zr HU.out (Ab _) hUb
   have e0:U.cell? ⟨wr.heap.size,0,none⟩=some (.int .i64 s):=(An _ _ _ _ _ _ hU).trans rfl
   have e1:U.cell? ⟨wr.heap.size,1,none⟩=some (.bool d):=(An _ _ _ _ _ _ hU).trans rfl
   have hqU:wr.heap.size<U.heap.size:=(Aa.1 hU).1
   have hcall:=HA.out U s d HBU.out
   clear hU hUb HB HV HU c0 c1
   generalize wr.heap.size=q at*
   cases ha:above seq (s,d)with
   |true=>
    rw[ha]at hcall
    obtain⟨HN1,HN2⟩:=zjj hsd ha
    have HN1':Hid (styK l seq (k+1)=styK l seq k):=HN1
    have HN2':Hid (gonK l seq (k+1)=gonK l seq k++[s]):=HN2
    clear HN1 HN2 ha hsd
    have HVU':Hid _:=HVU
    have HUU':Hid _:=HUU
    clear HVU HUU
    go_wp2_with fail
    refine hcall.mono ?_
    rintro e U2 ⟨rfl,hb2⟩
    have d0:U2.cell? ⟨q,0,none⟩=some (.int .i64 s):=(hb2.cell (p:=⟨q,0,none⟩) hqU).trans e0
    have HB2:Hid (Below W1.heap.size W1 U2):=HBU.out.trans (hb2.mono HBU.out.size)
    have HV2:Hid (U2.ownsRow W1.heap.size 159 2 u6 (styK l seq k).length (scs (styK l seq k))):=zr HVU'.out (Ab _) hb2
    have HU2:Hid (U2.ownsRow W1.heap.size 3 1 u7 (gonK l seq k).length (ics (gonK l seq k))):=zr HUU'.out (Ab _) hb2
    clear hb2 hcall e0 e1 HBU HVU' HUU' hqU
    go_wp2_with(at_builtin;refine zv _ rfl _ _ 29 rfl W1.heap.size 3 i3 _ 1 8 underlying29 hi3 hz0 hz1 hz2 rfl (by decide) _ (gonK l seq k).length _ rfl (zr HU2.out (Ab _) ((Ag _ _).alloc (Ab _) _)) _ 1 1 (ics [s]) rfl (zao (heap_alloc_new _ _) (jA [s]) rfl) (by unfold maxLen;omega) (by omega) (by have:=HB2.out.size;simp;omega) ?_;intro v1 w1 hown1 hgrow1)
    have HO1:Hid (w1.ownsRow W1.heap.size 3 1 v1 (gonK l seq (k+1)).length (ics (gonK l seq (k+1)))):=by rw[HN2'.out,zaO,Aw];exact hown1
    have HO2:Hid (w1.ownsRow W1.heap.size 159 2 u6 (styK l seq (k+1)).length (scs (styK l seq (k+1)))):=by rw[HN1'.out];exact(HV2.out.alloc _).kept hgrow1 (vy HV2.out HU2.out (by decide))
    have HB3:Hid (Below W1.heap.size W1 w1):=(HB2.out.alloc HB2.out.size _).grown hgrow1 (by have:=HB2.out.size;simp;omega) (fun j hj=>(HU2.out.lt j hj).1)
    clear hown1 hgrow1 HB2 HV2 HU2 d0
    go_wp2_with fail
    exact⟨⟨k+1,by omega,by go_num,HO2,HO1,HB3⟩,by simp[intOf];omega⟩
   |false=>
    rw[ha]at hcall
    obtain⟨HN1,HN2⟩:=zg7 hsd ha
    have HN1':Hid (styK l seq (k+1)=styK l seq k++[(s,d)]):=HN1
    have HN2':Hid (gonK l seq (k+1)=gonK l seq k):=HN2
    clear HN1 HN2 ha hsd
    have HVU':Hid _:=HVU
    have HUU':Hid _:=HUU
    clear HVU HUU
    go_wp2_with fail
    refine hcall.mono ?_
    rintro e U2 ⟨rfl,hb2⟩
    have d0:U2.cell? ⟨q,0,none⟩=some (.int .i64 s):=(hb2.cell (p:=⟨q,0,none⟩) hqU).trans e0
    have d1:U2.cell? ⟨q,1,none⟩=some (.bool d):=(hb2.cell (p:=⟨q,1,none⟩) hqU).trans e1
    have HB2:Hid (Below W1.heap.size W1 U2):=HBU.out.trans (hb2.mono HBU.out.size)
    have HV2:Hid (U2.ownsRow W1.heap.size 159 2 u6 (styK l seq k).length (scs (styK l seq k))):=zr HVU'.out (Ab _) hb2
    have HU2:Hid (U2.ownsRow W1.heap.size 3 1 u7 (gonK l seq k).length (ics (gonK l seq k))):=zr HUU'.out (Ab _) hb2
    clear hb2 hcall e0 e1 HBU HVU' HUU' hqU
    go_wp2_with(at_builtin;refine zv _ rfl _ _ 62 rfl W1.heap.size 159 iS _ 2 16 underlying62 hiS hs0 hs1 hs2 rfl (by decide) _ (styK l seq k).length _ rfl (zr HV2.out (Ab _) ((Ag _ _).alloc (Ab _) _)) _ 1 1 (scs [(s,d)]) rfl (zao (heap_alloc_new _ _) (yZ [(s,d)]) rfl) (by unfold maxLen;omega) (by omega) (by have:=HB2.out.size;simp;omega) ?_;intro v1 w1 hown1 hgrow1)
    have HO1:Hid (w1.ownsRow W1.heap.size 159 2 v1 (styK l seq (k+1)).length (scs (styK l seq (k+1)))):=by rw[HN1'.out,zcN,Aw];exact hown1
    have HO2:Hid (w1.ownsRow W1.heap.size 3 1 u7 (gonK l seq (k+1)).length (ics (gonK l seq (k+1)))):=by rw[HN2'.out];exact(HU2.out.alloc _).kept hgrow1 (vy HU2.out HV2.out (by decide))
    have HB3:Hid (Below W1.heap.size W1 w1):=(HB2.out.alloc HB2.out.size _).grown hgrow1 (by have:=HB2.out.size;simp;omega) (fun j hj=>(HV2.out.lt j hj).1)
    clear hown1 hgrow1 HB2 HV2 HU2 d0 d1
    go_wp2_with fail
    exact⟨⟨k+1,by omega,by go_num,HO1,HO2,HB3⟩,by simp[intOf];omega⟩
  ·have:k=n:=by omega
   subst this
   obtain⟨E1,E2⟩:=zlv (seq:=seq) hlen.out
   rw[E1]at HV
   obtain⟨x,hx⟩:∃x,Hid (x=gonK l seq k):=⟨_,rfl⟩
   rw[<-hx.out]at HU hgl E2
   have E3:Hid (x.reverse=cutS l seq):=E2
   have HBW:Hid (Below w.heap.size w wr):=HB1.out.trans (HB.out.mono HB1.out.size)
   clear E1 E2
   by_cases h0:x.length=0
   ·obtain rfl:x=[]:=Ao h0
    obtain⟨pu,cu,rfl⟩:=vm HU.out
    clear h0
    go_wp2_with fail
    refine(za7 _ _ _).mono ?_
    rintro e W4 ⟨rfl,rfl⟩
    go_wp2_with fail
    refine bodyPost_ret (v:=.tuple #[u6,.slice pu 0 cu]) ?_ rfl (by rw[<-E3.out];exact jH rfl rfl (qJ HV.out HB1.out.size) (qJ HU.out HB1.out.size) HBW.out)
    simp[results,results161,asAddr]
   ·obtain⟨g,cu,rfl⟩:=zd6 HU.out (by omega)
    have hgb:=(HU.out.lt g rfl).1
    have hAp:=vy HV.out HU.out (by decide)
    go_wp2_with fail
    refine(za8 g cu x.length W1.heap.size x (by omega) (by omega) rfl wr HU).mono ?_
    rintro e W4 ⟨rfl,hown,hgrow⟩
    have HV4:=HV.out.kept hgrow hAp
    have HB4:Hid (Below w.heap.size w W4):=HBW.out.grown hgrow HBW.out.size (fun j hj=>by cases hj;have:=HB1.out.size;omega)
    go_wp2_with fail
    refine bodyPost_ret (v:=.tuple #[u6,.slice (some ⟨g,0,none⟩) x.length cu]) ?_ rfl (by rw[<-E3.out];exact jH rfl (List.length_reverse ..) (qJ HV4 HB1.out.size) (qJ hown.out HB1.out.size) HB4.out)
    simp[results,results161,asAddr]
end Go.Proofs.YtpiohehijkpghacGreatDoor.Wi
namespace Go.Proofs.YtpiohehijkpghacGreatDoor.Co
open Go.RowKit
open Hy
open Wi Od Re.Hy
open Gu.Hy (Tb tcs)
def rowOf(f:Nat->Value)(n:Nat):Array Value:=((List.range n).map f).toArray
theorem zf(f:Nat->Value)(n:Nat):(rowOf f n).size=n:=by simp[rowOf]
theorem zu(f:Nat->Value){n i:Nat}(h:i<n):(rowOf f n)[i]?=some (f i):=by simp[rowOf,h]
theorem qk{f g:Nat->Value}{n:Nat}(h:∀i,i<n->f i=g i):rowOf f n=rowOf g n:=by
 unfold rowOf
 rw[List.map_congr_left (fun i hi=>h i (List.mem_range.1 hi))]
theorem zlw{A:Array Value}{f:Nat->Value}{n:Nat}(hs:A.size=n)(h:∀i,i<n->A[i]?=some (f i)):A=rowOf f n:=by
 apply Array.ext_getElem?
 intro i
 by_cases hi:i<n
 ·rw[h i hi,zu f hi]
 ·rw[WY (by omega),WY (by rw[zf];omega)]
theorem jM(f:Nat->Value)(n i:Nat)(v:Value):(rowOf f n).setIfInBounds i v=rowOf (fun j=>if j=i then v else f j) n:=by
 refine zlw (by simp[zf]) fun j hj=>?_
 rw[Array.getElem?_setIfInBounds]
 by_cases e:i=j
 ·subst e
  simp[zf,hj]
 ·have e':¬j=i:=fun h=>e h.symm
  simp[e,e',zu f hj]
def hat(R:Nat->Int)(pc st ca:Int)(i:Nat):Value:=if i<32 then .int .u32 (R i)else if i=32 then .int .u32 pc else if i=33 then .int .i64 st else .int .i64 ca
def tat(t:Tb)(i:Nat):Value:=
 if i<32 then(if i%2=0 then .int .i64 (t.L (i/2))else .int .u32 (t.G (i/2)))
 else(if i%4=0 then .int .u32 (t.P ((i-32)/4))else if i%4=1 then .int .u32 (t.A ((i-32)/4))else if i%4=2 then .int .u32 (t.S ((i-32)/4))else .int .i64 (t.U ((i-32)/4)))
def mat(P:Int)(r:Nat->Int)(v:Value)(i:Nat):Value:=if i=0 then .int .i64 P else if i<33 then .int .i64 (r (i-1))else v
theorem kY(R:Nat->Int)(pc st ca:Int):hcs R pc st ca=rowOf (hat R pc st ca) 35:=by rfl
theorem kZ(t:Tb):tcs t=rowOf (tat t) 64:=by rfl
theorem xP(P:Int)(r:Nat->Int)(v:Value):mcs P r v=rowOf (mat P r v) 34:=by rfl
structure Sls where
 c:Value
 m:Value
 f:Value
 s:Value
 u:Value
 a:Value
 r:Value
def kat(s:Cr)(L:Sls)(i:Nat):Value:=
 if i<4 then(if i=0 then .int .i64 s.win else if i=1 then .int .i64 s.phys else if i=2 then .int .i64 s.wide else L.c)
 else if i<39 then hat s.R s.pc s.st s.ca (i-4)
 else if i<43 then(if i=39 then L.m else if i=40 then .int .i64 s.cyc else if i=41 then .int .i64 s.tak else .int .i64 s.bck)
 else if i<107 then tat s.tb (i-43)
 else if i<141 then mat s.phys s.regs L.f (i-107)
 else if i<237 then .int .u32 (s.wd ((i-141:Nat):Int))
 else if i<333 then .bool (s.th ((i-237:Nat):Int))
 else if i=333 then L.s else if i=334 then L.u else if i=335 then L.a else if i=336 then L.r else if i=337 then .int .u32 s.fro else .bool s.opn
def flat{α:Type}(g:α->List Value):List α->List Value
 |[]=>[]
 |x::l=>g x++flat g l
theorem ks{α:Type}{g:α->List Value}{size:Nat}(hg:∀x,(g x).length=size):∀l:List α,(flat g l).length=l.length*size
 |[]=>by simp[flat]
 |x::l=>by simp[flat,hg,ks hg l,Av,Nat.add_comm]
theorem kt{α:Type}(g:α->List Value):∀l m:List α,flat g (l++m)=flat g l++flat g m
 |[],m=>rfl
 |x::l,m=>by simp[flat,kt g l m]
theorem qF{α:Type}{g:α->List Value}{size:Nat}(hg:∀x,(g x).length=size):∀{l:List α} {k j:Nat} {x:α} {u:Value},l[k]?=some x->(g x)[j]?=some u->(flat g l)[k*size+j]?=some u
 |[],k,j,x,u,h,_=>by simp at h
 |y::l,0,j,x,u,h,hu=>by
  simp at h
  subst h
  have hj:j<(g y).length:=(Af.1 hu).1
  rw[Nat.zero_mul,Nat.zero_add]
  show(g y++flat g l)[j]?=_
  rw[List.getElem?_append_left hj]
  exact hu
 |y::l,k+1,j,x,u,h,hu=>by
  have:=qF hg (l:=l) (k:=k) (by simpa using h) hu
  show(g y++flat g l)[(k+1)*size+j]?=_
  have e:(k+1)*size+j=(g y).length+(k*size+j):=by rw[hg,Av];omega
  rw[e,List.getElem?_append_right (by omega),Ae]
  exact this
theorem zem{α:Type}{g:α->List Value}(hg:∀x,∀u∈g x,u.oneCell'=true):∀l:List α,∀u∈flat g l,u.oneCell'=true
 |[],u,h=>by simp[flat]at h
 |x::l,u,h=>by
  rcases List.mem_append.1 h with h|h
  ·exact hg x u h
  ·exact zem hg l u h
theorem zb6{α:Type}{g:α->List Value}{size:Nat}(hg:∀x,(g x).length=size):∀(l:List α) (m:Nat),flat g (l.drop m)=(flat g l).drop (m*size)
 |l,0=>by simp
 |[],m+1=>by simp[flat]
 |x::l,m+1=>by
  have:=zb6 hg l m
  rw[List.drop_succ_cons,this]
  show _=(g x++flat g l).drop ((m+1)*size)
  have e1:(g x).drop ((m+1)*size)=[]:=List.drop_eq_nil_of_le (by rw[hg,Av];omega)
  rw[List.drop_append,hg,e1,show(m+1)*size-size=m*size by rw[Av];omega,List.nil_append]
def cml(c:Cm):List Value:=[.int .u32 c.pc,.int .u32 c.next,.int .i64 c.st,.int .i64 c.ca,.int .i64 c.rd,.int .u32 c.val,.int .u32 c.pl,.int .i64 c.many,.int .u32 c.data,.bool c.out,.int .u32 c.told]
def dgl(o:Dg):List Value:=[.int .i64 o.seq,.int .u32 o.pc,.int .i64 o.i.op,.int .i64 o.i.rd,.int .i64 o.i.s1,.int .i64 o.i.s2,.int .i32 o.i.im,.int .i64 o.st,.int .i64 o.a,.int .i64 o.b,.int .i64 o.rd,.int .i64 o.to,.int .i64 o.old,.int .u32 o.next,.bool o.gs,.int .i64 o.late,.bool o.car,
 .int .u32 o.c.pc,.int .u32 o.c.next,.int .i64 o.c.st,.int .i64 o.c.ca,.int .i64 o.c.rd,.int .u32 o.c.val,.int .u32 o.c.pl,.int .i64 o.c.many,.int .u32 o.c.data,.bool o.c.out,.int .u32 o.c.told]
abbrev dgv(o:Dg):Value:=.agg (dgl o).toArray
theorem zc7(c:Cm):(cml c).length=11:=rfl
theorem zF(o:Dg):(dgl o).length=28:=rfl
theorem zc8(c:Cm):∀u∈cml c,u.oneCell'=true:=by
 intro u hu
 simp only[cml,AB,Ay,or_false]at hu
 rcases hu with rfl|rfl|rfl|rfl|rfl|rfl|rfl|rfl|rfl|rfl|rfl<;>rfl
theorem za9(o:Dg):∀u∈dgl o,u.oneCell'=true:=by
 intro u hu
 simp only[dgl,AB,Ay,or_false]at hu
 rcases hu with rfl|rfl|rfl|rfl|rfl|rfl|rfl|rfl|rfl|rfl|rfl|rfl|rfl|rfl|rfl|rfl|rfl|rfl|rfl|rfl|rfl|rfl|rfl|rfl|rfl|rfl|rfl|rfl<;>rfl
theorem xy:∀l:List Ac,acs l=flat cel l
 |[]=>rfl
 |x::l=>by
  have:=xy l
  show cel x++acs l=cel x++flat cel l
  rw[this]
structure Us(w:World)(e size:Nat)(v:Value)(n:Nat)(xs:List Value):Prop where
 len:xs.length=n*size
 one:∀u∈xs,u.oneCell'=true
 is:(v=.slice none 0 0/\n=0)\/∃g o cap cur,v=.slice (some ⟨g,o,none⟩) n cap/\w.heap[g]?=some (.cells cur e (0,0))/\n<=cap/\cap<=maxLen/\o+cap*size<=cur.size/\(cur.toList.drop o).take (n*size)=xs
theorem Us.slice{w:World}{e size:Nat}{v:Value}{n:Nat}{xs:List Value}(h:Us w e size v n xs):∃p c,v=.slice p n c:=by
 rcases h.is with⟨h1,rfl⟩|⟨g,o,cap,cur,h1,_⟩
 ·exact⟨none,0,h1⟩
 ·exact⟨_,_,h1⟩
theorem Us.lc{w:World}{e size:Nat}{p:Option Addr}{n c:Nat}{xs:List Value}(h:Us w e size (.slice p n c) n xs):LC w p n c size xs:=by
 rcases h.is with⟨h1,rfl⟩|⟨g,o,cap,cur,h1,h2,h3,h4,h5,h6⟩
 ·obtain⟨rfl,-,rfl⟩:p=none/\0=0/\c=0:=by injection h1 with a b d;exact⟨a,b,d⟩
  obtain rfl:xs=[]:=Ao (by rw[h.len,Nat.zero_mul])
  exact vb w size
 ·obtain⟨rfl,-,rfl⟩:p=some ⟨g,o,none⟩/\n=n/\c=cap:=by injection h1 with a b d;exact⟨a,b,d⟩
  refine⟨h.len,h3,h4,fun h=>(by cases h),h.one,fun x hx h0=>⟨g,o,(Ai hx).symm,(Aa.1 h2).1,fun j u hj=>?_⟩⟩
  rw[An _ _ _ _ _ _ h2,<-Am]
  rw[<-h6]at hj
  have hlt:j<n*size:=by have:=(Af.1 hj).1;rw[Ar]at this;omega
  rw[List.getElem?_take_of_lt hlt,List.getElem?_drop]at hj
  exact hj
theorem Us.move{w w':World}{e size:Nat}{v:Value}{n:Nat}{xs:List Value}(h:Us w e size v n xs)(hb:∀g,v.ownBlock=some g->w'.heap[g]?=w.heap[g]?):Us w' e size v n xs:=
 ⟨h.len,h.one,h.is.imp id fun⟨g,o,cap,cur,h1,h2,r⟩=>⟨g,o,cap,cur,h1,(hb g (by rw[h1];rfl)).trans h2,r⟩⟩
theorem Us.block{w:World}{e size:Nat}{v:Value}{n:Nat}{xs:List Value}(h:Us w e size v n xs){g:Nat}(hg:v.ownBlock=some g):∃cur,w.heap[g]?=some (.cells cur e (0,0)):=by
 rcases h.is with⟨h1,_⟩|⟨g',o,cap,cur,h1,h2,_⟩
 ·rw[h1]at hg;cases hg
 ·rw[h1]at hg
  obtain rfl:g'=g:=Ai hg
  exact⟨cur,h2⟩
def own(b:Nat)(L:Sls)(g:Nat):Prop:=g=b\/L.c.ownBlock=some g\/L.u.ownBlock=some g\/L.a.ownBlock=some g
structure Its(N:Nat)(w:World)(b:Nat)(s:Cr)(L:Sls):Prop where
 ic:Us w 68 11 L.c s.coms.length (flat cml s.coms)
 iu:Us w 132 28 L.u s.under.length (flat dgl s.under)
 ia:Us w 135 7 L.a s.asked.length (flat cel s.asked)
 im:∃p cap,L.m=.slice p s.n cap/\Bys w p s.n cap s.f
 ifr:∃p cap,L.f=.slice p s.free.length cap/\Re.Lie w p s.free.length cap (fun i=>s.free.getD i 0)
 isl:∃p cap,L.s=.slice p s.slots.length cap/\LC w p s.slots.length cap 2 (scs s.slots)
 ir:∃p cap,L.r=.slice p s.scr.length cap/\LC w p s.scr.length cap 1 (ics s.scr)
 sm:∀g,L.m.ownBlock=some g->0<s.n->¬own b L g
 sf:∀g,L.f.ownBlock=some g->0<s.free.length->¬own b L g
 ss:∀g,L.s.ownBlock=some g->0<s.slots.length->¬own b L g
 sr:∀g,L.r.ownBlock=some g->0<s.scr.length->¬own b L g
 base:∀g,own b L g->N<=g
 tb:Tab w
 tb2:Tab2 w
 g1:0<N
 g2:2<N
 nN:N<=w.heap.size
structure St(N:Nat)(w:World)(b:Nat)(s:Cr)(L:Sls):Prop where
 row:w.heap[b]?=some (.cells (rowOf (kat s L) 339) 66 (0,0))
 its:Its N w b s L
structure To(b:Nat)(w:World)(L:Sls)(w':World)(L':Sls):Prop where
 os:w'.os=w.os
 tape:w'.tape=w.tape
 output:w'.output=w.output
 size:w.heap.size<=w'.heap.size
 block:∀g,g<w.heap.size->¬own b L g->w'.heap[g]?=w.heap[g]?
 fresh:∀g,own b L' g->own b L g\/w.heap.size<=g
theorem To.refl(b:Nat)(w:World)(L:Sls):To b w L w L:=⟨rfl,rfl,rfl,Ab _,fun _ _ _=>rfl,fun _ h=>.inl h⟩
theorem To.trans{b:Nat}{w w1 w2:World}{L L1 L2:Sls}(h:To b w L w1 L1)(k:To b w1 L1 w2 L2):To b w L w2 L2:=by
 refine⟨k.os.trans h.os,k.tape.trans h.tape,k.output.trans h.output,Ah h.size k.size,fun g hg hn=>?_,fun g hg=>?_⟩
 ·rw[k.block g (Ap hg h.size) (fun ho=>?_),h.block g hg hn]
  rcases h.fresh g ho with h'|h'
  ·exact hn h'
  ·omega
 ·rcases k.fresh g hg with h'|h'
  ·exact h.fresh g h'
  ·exact .inr (Ah h.size h')
theorem ze{b:Nat}{w w':World}(L:Sls)(h:Below w.heap.size w w'):To b w L w' L:=⟨h.os,h.tape,h.output,h.size,fun g hg _=>h.block g hg,fun _ h=>.inl h⟩
theorem qN{N:Nat}{w:World}{b:Nat}{s:Cr}{L:Sls}(h:St N w b s L){g:Nat}(hg:own b L g):g<w.heap.size:=by
 rcases hg with rfl|hg|hg|hg
 ·exact(Aa.1 h.row).1
 ·obtain⟨cur,e⟩:=h.its.ic.block hg;exact(Aa.1 e).1
 ·obtain⟨cur,e⟩:=h.its.iu.block hg;exact(Aa.1 e).1
 ·obtain⟨cur,e⟩:=h.its.ia.block hg;exact(Aa.1 e).1
end Go.Proofs.YtpiohehijkpghacGreatDoor.Co
namespace Go.Proofs.YtpiohehijkpghacGreatDoor.Co
open Go.RowKit
open Hy
open Wi Od Re.Hy
open Gu.Hy (Tb tcs)
def upf(f:Nat->Value)(i:Nat)(v:Value):Nat->Value:=fun j=>if j=i then v else f j
def ups(f:Nat->Value)(o n:Nat)(g:Nat->Value):Nat->Value:=fun j=>if o<=j/\j<o+n then g (j-o)else f j
theorem heap_put{w:World}{b i:Nat}{cs:Array Value}{t:TypeId}{fr:Nat×Nat}{v:Value}(h:w.heap[b]?=some (.cells cs t fr)):(w.setCell ⟨b,i,none⟩ v).heap[b]?=some (.cells (cs.setIfInBounds i v) t fr):=Re.zy h
theorem zc9{w:World}{b i n:Nat}{f:Nat->Value}{t:TypeId}{fr:Nat×Nat}{v:Value}(h:w.heap[b]?=some (.cells (rowOf f n) t fr)):(w.setCell ⟨b,i,none⟩ v).heap[b]?=some (.cells (rowOf (upf f i v) n) t fr):=by
 rw[heap_put h,jM]
 rfl
theorem zY(w:World)(b o:Nat)(vs:List Value){g:Nat}(h:g≠b):(w.setCells b o vs).heap[g]?=w.heap[g]?:=by
 induction vs generalizing w o with
 |nil=>rfl
 |cons v vs ih=>
  show((w.setCell ⟨b,o,none⟩ v).setCells b (o+1) vs).heap[g]?=_
  rw[ih]
  exact Re.zA v h
theorem vz(w:World)(b o:Nat)(vs:List Value):(w.setCells b o vs).heap.size=w.heap.size:=by
 induction vs generalizing w o with
 |nil=>rfl
 |cons v vs ih=>
  show((w.setCell ⟨b,o,none⟩ v).setCells b (o+1) vs).heap.size=_
  rw[ih]
  simp
theorem zba{b n:Nat}{t:TypeId}{fr:Nat×Nat}:∀(vs:List Value) {w:World} {o:Nat} {f:Nat->Value} (g:Nat->Value),(∀j u,vs[j]?=some u->u=g j)->w.heap[b]?=some (.cells (rowOf f n) t fr)->(w.setCells b o vs).heap[b]?=some (.cells (rowOf (ups f o vs.length g) n) t fr)
 |[],w,o,f,g,hg,h=>by
  show w.heap[b]?=_
  rw[h]
  congr 2
  refine qk fun i hi=>?_
  unfold ups
  rw[if_neg (by simp only[List.length_nil];omega)]
 |v::vs,w,o,f,g,hg,h=>by
  show((w.setCell ⟨b,o,none⟩ v).setCells b (o+1) vs).heap[b]?=_
  rw[zba vs (fun j=>g (j+1)) (fun j u hj=>hg (j+1) u (by simpa using hj)) (zc9 h)]
  congr 2
  refine qk fun i hi=>?_
  have h0:=hg 0 v rfl
  unfold ups upf
  rw[List.length_cons]
  by_cases e:i=o
  ·subst e
   rw[if_neg (by omega),if_pos rfl,if_pos (by omega),h0,Nat.sub_self]
  ·by_cases e2:o+1<=i/\i<o+1+vs.length
   ·rw[if_pos e2,if_pos (by omega),show i-o=i-(o+1)+1 by omega]
   ·rw[if_neg e2,if_neg e,if_neg (by omega)]
theorem jx{w:World}{b n o m:Nat}{f g:Nat->Value}{t:TypeId}{fr:Nat×Nat}(h:w.heap[b]?=some (.cells (rowOf f n) t fr))(hm:o+m<=n)(e:∀j,j<m->f (o+j)=g j):w.rangeAt b o (rowOf g m).toList:=fun j v hv=>by
 have hj:j<m:=by have:=(Af.1 hv).1;simpa[zf]using this
 rw[Am,zu g hj]at hv
 rw[An _ _ _ _ _ _ h,zu f (by omega),e j hj]
 exact hv
theorem xe{w:World}{b n o m:Nat}{f:Nat->Value}{t:TypeId}(h:w.heap[b]?=some (.cells (rowOf f n) t (0,0)))(hm:o+m<=n):w.there b o m:=fun j hj=>by
 refine⟨?_,frozen_of_row _ _ _ _ _ h⟩
 rw[An _ _ _ _ _ _ h,zu f (by omega)]
 rfl
theorem zd{w:World}{b n i:Nat}{f:Nat->Value}{t:TypeId}{fr:Nat×Nat}(h:w.heap[b]?=some (.cells (rowOf f n) t fr))(hi:i<n):w.cell? ⟨b,i,none⟩=some (f i):=by
 rw[An _ _ _ _ _ _ h,zu f hi]
theorem qH{w w':World}{a:Option Addr}{n c size:Nat}{cs:List Value}(h:LC w a n c size cs)(hs:w.heap.size<=w'.heap.size)(hb:0<n->∀x,a=some x->w'.heap[x.block]?=w.heap[x.block]?):LC w' a n c size cs:=
 ⟨h.len,h.le,h.top,h.nil,h.one,fun x hx h0=>by
  have e:=hb h0 x hx
  obtain⟨b,o,rfl,hlt,hc⟩:=h.ad x hx h0
  exact⟨b,o,rfl,Ap hlt hs,fun j u hj=>(Ad (w:=w) (a:=⟨b,o+j,none⟩) e).trans (hc j u hj)⟩⟩
theorem zbb{w w':World}{a:Option Addr}{n c:Nat}{f:Nat->Int}(h:Re.Lie w a n c f)(hb:0<n->∀x,a=some x->w'.heap[x.block]?=w.heap[x.block]?):Re.Lie w' a n c f:=
 ⟨h.le,h.top,h.nil,h.wf,fun x hx h0=>by
  have e:=hb h0 x hx
  obtain⟨b,o,rfl,hc⟩:=h.ad x hx h0
  exact⟨b,o,rfl,fun i hi=>(Ad (w:=w) (a:=⟨b,o+i,none⟩) e).trans (hc i hi)⟩⟩
theorem xz{w w':World}{p:Option Addr}{n c:Nat}{f:Nat->Int}(h:Bys w p n c f)(hb:0<n->∀x,p=some x->w'.heap[x.block]?=w.heap[x.block]?):Bys w' p n c f:=
 ⟨h.hn,h.hnc,fun h0=>by
  obtain⟨g,o,rfl,hl⟩:=h.hm h0
  have e:=hb h0 _ rfl
  exact⟨g,o,rfl,fun i hi=>(Ad (w:=w) (a:=⟨g,o+i,none⟩) e).trans (hl i hi)⟩,h.hf⟩
theorem Its.mv{N:Nat}{w w':World}{b:Nat}{s:Cr}{L:Sls}(h:Its N w b s L)(hs:w.heap.size<=w'.heap.size)(h1:∀g,¬own b L g->g<w.heap.size->w'.heap[g]?=w.heap[g]?)
  (h2:∀g,(L.c.ownBlock=some g\/L.u.ownBlock=some g\/L.a.ownBlock=some g)->w'.heap[g]?=w.heap[g]?):Its N w' b s L:=by
 have lt:∀{g:Nat} {j:Nat} {v:Value},w.cell? ⟨g,j,none⟩=some v->g<w.heap.size:=fun hv=>Ak _ _ hv
 obtain⟨pm,cm,em,hm⟩:=h.im
 obtain⟨pf,cf,ef,hf⟩:=h.ifr
 obtain⟨ps,cs,es,hsl⟩:=h.isl
 obtain⟨pr,cr,er,hr⟩:=h.ir
 have nT:0<w.heap.size:=h.tb.size
 have nT2:2<w.heap.size:=h.tb2.size
 have kT:w'.heap[0]?=w.heap[0]?:=h1 _ (fun ho=>by have:=h.base _ ho;have:=h.g1;omega) nT
 have kT2:w'.heap[2]?=w.heap[2]?:=h1 _ (fun ho=>by have:=h.base _ ho;have:=h.g2;omega) nT2
 refine⟨h.ic.move (fun g hg=>h2 g (.inl hg)),h.iu.move (fun g hg=>h2 g (.inr (.inl hg))),h.ia.move (fun g hg=>h2 g (.inr (.inr hg))),
  ⟨pm,cm,em,xz hm fun h0 x hx=>?_⟩,⟨pf,cf,ef,zbb hf fun h0 x hx=>?_⟩,⟨ps,cs,es,qH hsl hs fun h0 x hx=>?_⟩,⟨pr,cr,er,qH hr hs fun h0 x hx=>?_⟩,
  h.sm,h.sf,h.ss,h.sr,h.base,fun i hi=>(Ad (w:=w) (a:=⟨0,i,none⟩) kT).trans (h.tb i hi),fun i hi=>(Ad (w:=w) (a:=⟨2,i,none⟩) kT2).trans (h.tb2 i hi),h.g1,h.g2,Ah h.nN hs⟩
 ·obtain⟨g,o,e,hl⟩:=hm.hm h0
  rw[hx]at e
  cases e
  exact h1 g (h.sm g (by rw[em,hx];rfl) h0) (lt (hl 0 h0))
 ·obtain⟨g,o,e,hl⟩:=hf.ad x hx h0
  subst e
  exact h1 g (h.sf g (by rw[ef,hx];rfl) h0) (lt (hl 0 h0))
 ·obtain⟨g,o,e,hlt,_⟩:=hsl.ad x hx h0
  subst e
  exact h1 g (h.ss g (by rw[es,hx];rfl) h0) hlt
 ·obtain⟨g,o,e,hlt,_⟩:=hr.ad x hx h0
  subst e
  exact h1 g (h.sr g (by rw[er,hx];rfl) h0) hlt
theorem Its.lt{N:Nat}{w:World}{b:Nat}{s:Cr}{L:Sls}(h:Its N w b s L){g:Nat}(hg:L.c.ownBlock=some g\/L.u.ownBlock=some g\/L.a.ownBlock=some g):g<w.heap.size:=by
 rcases hg with hg|hg|hg
 ·obtain⟨cur,e⟩:=h.ic.block hg;exact(Aa.1 e).1
 ·obtain⟨cur,e⟩:=h.iu.block hg;exact(Aa.1 e).1
 ·obtain⟨cur,e⟩:=h.ia.block hg;exact(Aa.1 e).1
theorem Its.below{N:Nat}{w w':World}{b:Nat}{s:Cr}{L:Sls}(h:Its N w b s L)(hb:Below w.heap.size w w'):Its N w' b s L:=
 h.mv hb.size (fun g _ hg=>hb.block g hg) (fun g hg=>hb.block g (h.lt hg))
theorem St.below{N:Nat}{w w':World}{b:Nat}{s:Cr}{L:Sls}(h:St N w b s L)(hb:Below w.heap.size w w'):St N w' b s L:=
 ⟨(hb.block b (Aa.1 h.row).1).trans h.row,h.its.below hb⟩
theorem Its.ne{N:Nat}{w:World}{b:Nat}{s:Cr}{L:Sls}(h:Its N w b s L){cs:Array Value}{fr:Nat×Nat}(row:w.heap[b]?=some (.cells cs 66 fr)){g:Nat}(hg:L.c.ownBlock=some g\/L.u.ownBlock=some g\/L.a.ownBlock=some g):g≠b:=fun e=>by
 subst e
 rcases hg with hg|hg|hg
 ·obtain⟨cur,e⟩:=h.ic.block hg;rw[row]at e;cases e
 ·obtain⟨cur,e⟩:=h.iu.block hg;rw[row]at e;cases e
 ·obtain⟨cur,e⟩:=h.ia.block hg;rw[row]at e;cases e
theorem Its.core{N:Nat}{w w':World}{b:Nat}{s:Cr}{L:Sls}(h:Its N w b s L){cs:Array Value}{fr:Nat×Nat}(row:w.heap[b]?=some (.cells cs 66 fr))(hs:w'.heap.size=w.heap.size)(hb:∀g,g≠b->w'.heap[g]?=w.heap[g]?):Its N w' b s L:=
 h.mv (by omega) (fun g hg _=>hb g (fun e=>hg (.inl e))) (fun g hg=>hb g (h.ne row hg))
theorem Its.put{N:Nat}{w:World}{b:Nat}{s:Cr}{L:Sls}(h:Its N w b s L){cs:Array Value}{fr:Nat×Nat}(row:w.heap[b]?=some (.cells cs 66 fr))(i:Nat)(v:Value):Its N (w.setCell ⟨b,i,none⟩ v) b s L:=
 h.core row (by simp) (fun g hg=>Re.zA v hg)
theorem Its.puts{N:Nat}{w:World}{b:Nat}{s:Cr}{L:Sls}(h:Its N w b s L){cs:Array Value}{fr:Nat×Nat}(row:w.heap[b]?=some (.cells cs 66 fr))(o:Nat)(vs:List Value):Its N (w.setCells b o vs) b s L:=
 h.core row (vz w b o vs) (fun g hg=>zY w b o vs hg)
theorem St.cell{N:Nat}{w:World}{b:Nat}{s:Cr}{L:Sls}{f:Nat->Value}(row:w.heap[b]?=some (.cells (rowOf f 339) 66 (0,0)))(its:Its N w b s L)(i:Nat)(v:Value)(hk:∀j,j<339->upf f i v j=kat s L j):St N (w.setCell ⟨b,i,none⟩ v) b s L:=
 ⟨by rw[zc9 row,qk hk],its.put row i v⟩
theorem St.cells{N:Nat}{w:World}{b:Nat}{s:Cr}{L:Sls}{f g:Nat->Value}{n:Nat}(row:w.heap[b]?=some (.cells (rowOf f 339) 66 (0,0)))(its:Its N w b s L)(o:Nat)(hk:∀j,j<339->ups f o n g j=kat s L j):St N (w.setCells b o (rowOf g n).toList) b s L:=by
 refine⟨?_,its.puts row o _⟩
 have:=zba (rowOf g n).toList (w:=w) (o:=o) (b:=b) (f:=f) (n:=339) g (fun j u hj=>?_) row
 ·rw[this]
  congr 2
  rw[show(rowOf g n).toList.length=n by simp[zf]]
  exact qk hk
 ·have hj':j<n:=by have:=(Af.1 hj).1;simpa[zf]using this
  rw[Am,zu g hj']at hj
  exact(Ai hj).symm
theorem zg8{b:Nat}{w w':World}{L L':Sls}(ho:w'.os=w.os)(ht:w'.tape=w.tape)(hp:w'.output=w.output)(hs:w'.heap.size=w.heap.size)(hb:∀g,g≠b->w'.heap[g]?=w.heap[g]?)(hf:∀g,own b L' g->own b L g\/w.heap.size<=g):To b w L w' L':=
 ⟨ho,ht,hp,by omega,fun g _ hg=>hb g (fun e=>hg (.inl e)),hf⟩
theorem zlx(s:Cr)(L:Sls)(x:Int):∀j,j<339->upf (kat s L) 40 (.int .i64 x) j=kat {s with cyc:=x} L j:=fun j _=>by
 simp only[upf,kat]
 by_cases e:j=40
 ·subst e;rfl
 ·simp[e]
theorem zly(s:Cr)(L:Sls)(x:Int):∀j,j<339->upf (kat s L) 41 (.int .i64 x) j=kat {s with tak:=x} L j:=fun j _=>by
 simp only[upf,kat]
 by_cases e:j=41
 ·subst e;rfl
 ·simp[e]
theorem zlz(s:Cr)(L:Sls)(x:Int):∀j,j<339->upf (kat s L) 42 (.int .i64 x) j=kat {s with bck:=x} L j:=fun j _=>by
 simp only[upf,kat]
 by_cases e:j=42
 ·subst e;rfl
 simp only[e,if_false]
 by_cases h4:j<4
 ·simp only[h4,if_true,if_false]
 ·by_cases h39:j<39
  ·simp only[h4,h39,if_true,if_false]
  ·by_cases h43:j<43
   ·simp only[h4,h39,h43,if_true,if_false]
    have:j=39\/j=40\/j=41:=by omega
    rcases this with e|e|e<;>(subst e;rfl)
   ·by_cases h107:j<107
    ·simp only[h4,h39,h43,h107,if_true,if_false]
    ·by_cases h141:j<141
     ·simp only[h4,h39,h43,h107,h141,if_true,if_false]
     ·by_cases h237:j<237
      ·simp only[h4,h39,h43,h107,h141,h237,if_true,if_false]
      ·by_cases h333:j<333
       ·simp only[h4,h39,h43,h107,h141,h237,h333,if_true,if_false]
       ·simp only[h4,h39,h43,h107,h141,h237,h333,if_false]
theorem zlA(s:Cr)(L:Sls)(x:Int):∀j,j<339->upf (kat s L) 337 (.int .u32 x) j=kat {s with fro:=x} L j:=fun j _=>by
 simp only[upf,kat]
 by_cases e:j=337
 ·subst e;rfl
 ·simp[e]
theorem zlB(s:Cr)(L:Sls)(x:Bool):∀j,j<339->upf (kat s L) 338 (.bool x) j=kat {s with opn:=x} L j:=fun j _=>by
 simp only[upf,kat]
 by_cases e:j=338
 ·subst e;rfl
 simp only[e,if_false]
 by_cases h4:j<4
 ·simp only[h4,if_true,if_false]
 ·by_cases h39:j<39
  ·simp only[h4,h39,if_true,if_false]
  ·by_cases h43:j<43
   ·simp only[h4,h39,h43,if_true,if_false]
   ·by_cases h107:j<107
    ·simp only[h4,h39,h43,h107,if_true,if_false]
    ·by_cases h141:j<141
     ·simp only[h4,h39,h43,h107,h141,if_true,if_false]
     ·by_cases h237:j<237
      ·simp only[h4,h39,h43,h107,h141,h237,if_true,if_false]
      ·by_cases h333:j<333
       ·simp only[h4,h39,h43,h107,h141,h237,h333,if_true,if_false]
       ·simp only[h4,h39,h43,h107,h141,h237,h333,if_false]
        have:j=333\/j=334\/j=335\/j=336\/j=337:=by omega
        rcases this with e|e|e|e|e<;>(subst e;rfl)
theorem zo9(s:Cr)(L:Sls)(x:Value):∀j,j<339->upf (kat s L) 39 (x) j=kat s {L with m:=x} j:=fun j _=>by
 simp only[upf,kat]
 by_cases e:j=39
 ·subst e;rfl
 ·simp[e]
theorem znA(s:Cr)(L:Sls)(x:Value):∀j,j<339->upf (kat s L) 333 (x) j=kat s {L with s:=x} j:=fun j _=>by
 simp only[upf,kat]
 by_cases e:j=333
 ·subst e;rfl
 ·simp[e]
theorem znB(s:Cr)(L:Sls)(x:Value):∀j,j<339->upf (kat s L) 334 (x) j=kat s {L with u:=x} j:=fun j _=>by
 simp only[upf,kat]
 by_cases e:j=334
 ·subst e;rfl
 ·simp[e]
theorem znC(s:Cr)(L:Sls)(x:Value):∀j,j<339->upf (kat s L) 335 (x) j=kat s {L with a:=x} j:=fun j _=>by
 simp only[upf,kat]
 by_cases e:j=335
 ·subst e;rfl
 ·simp[e]
theorem znD(s:Cr)(L:Sls)(x:Value):∀j,j<339->upf (kat s L) 336 (x) j=kat s {L with r:=x} j:=fun j _=>by
 simp only[upf,kat]
 by_cases e:j=336
 ·subst e;rfl
 ·simp[e]
theorem zpa(s:Cr)(L:Sls)(x:Value):∀j,j<339->upf (kat s L) 3 x j=kat s {L with c:=x} j:=fun j _=>by
 simp only[upf,kat]
 by_cases e:j=3
 ·subst e;rfl
 simp only[e,if_false]
 by_cases h4:j<4
 ·simp only[h4,if_true,if_false]
  have:j=0\/j=1\/j=2:=by omega
  rcases this with e|e|e<;>(subst e;rfl)
 ·by_cases h39:j<39
  ·simp only[h4,h39,if_true,if_false]
  ·by_cases h43:j<43
   ·simp only[h4,h39,h43,if_true,if_false]
   ·by_cases h107:j<107
    ·simp only[h4,h39,h43,h107,if_true,if_false]
    ·by_cases h141:j<141
     ·simp only[h4,h39,h43,h107,h141,if_true,if_false]
     ·by_cases h237:j<237
      ·simp only[h4,h39,h43,h107,h141,h237,if_true,if_false]
      ·by_cases h333:j<333
       ·simp only[h4,h39,h43,h107,h141,h237,h333,if_true,if_false]
       ·simp only[h4,h39,h43,h107,h141,h237,h333,if_false]
theorem znE(s:Cr)(L:Sls)(x v:Int)(h0:0<=x)(h1:x<96):∀j,j<339->upf (kat s L) (141+x.toNat) (.int .u32 v) j=kat {s with wd:=upI s.wd x v} L j:=fun j _=>by
 simp only[upf,kat]
 by_cases e:j=141+x.toNat
 ·subst e
  rw[if_pos rfl,if_neg (by omega),if_neg (by omega),if_neg (by omega),if_neg (by omega),if_neg (by omega),if_pos (by omega)]
  unfold upI
  rw[if_pos (by omega)]
 simp only[e,if_false]
 by_cases h4:j<4
 ·simp only[h4,if_true,if_false]
 ·by_cases h39:j<39
  ·simp only[h4,h39,if_true,if_false]
  ·by_cases h43:j<43
   ·simp only[h4,h39,h43,if_true,if_false]
   ·by_cases h107:j<107
    ·simp only[h4,h39,h43,h107,if_true,if_false]
    ·by_cases h141:j<141
     ·simp only[h4,h39,h43,h107,h141,if_true,if_false]
     ·by_cases h237:j<237
      ·simp only[h4,h39,h43,h107,h141,h237,if_true,if_false]
       unfold upI
       rw[if_neg (by omega)]
      ·by_cases h333:j<333
       ·simp only[h4,h39,h43,h107,h141,h237,h333,if_true,if_false]
       ·simp only[h4,h39,h43,h107,h141,h237,h333,if_false]
theorem znF(s:Cr)(L:Sls)(x:Int)(v:Bool)(h0:0<=x)(h1:x<96):∀j,j<339->upf (kat s L) (237+x.toNat) (.bool v) j=kat {s with th:=upB s.th x v} L j:=fun j _=>by
 simp only[upf,kat]
 by_cases e:j=237+x.toNat
 ·subst e
  rw[if_pos rfl,if_neg (by omega),if_neg (by omega),if_neg (by omega),if_neg (by omega),if_neg (by omega),if_neg (by omega),if_pos (by omega)]
  unfold upB
  rw[if_pos (by omega)]
 simp only[e,if_false]
 by_cases h4:j<4
 ·simp only[h4,if_true,if_false]
 ·by_cases h39:j<39
  ·simp only[h4,h39,if_true,if_false]
  ·by_cases h43:j<43
   ·simp only[h4,h39,h43,if_true,if_false]
   ·by_cases h107:j<107
    ·simp only[h4,h39,h43,h107,if_true,if_false]
    ·by_cases h141:j<141
     ·simp only[h4,h39,h43,h107,h141,if_true,if_false]
     ·by_cases h237:j<237
      ·simp only[h4,h39,h43,h107,h141,h237,if_true,if_false]
      ·by_cases h333:j<333
       ·simp only[h4,h39,h43,h107,h141,h237,h333,if_true,if_false]
        unfold upB
        rw[if_neg (by omega)]
       ·simp only[h4,h39,h43,h107,h141,h237,h333,if_false]
theorem zjl(s:Cr)(L:Sls)(R:Nat->Int)(pc st ca:Int):∀j,j<339->ups (kat s L) 4 35 (hat R pc st ca) j=kat {s with R:=R,pc:=pc,st:=st,ca:=ca} L j:=fun j _=>by
 simp only[ups,kat]
 by_cases e:4<=j/\j<4+35
 ·rw[if_pos e,if_neg (by omega),if_pos (by omega)]
 simp only[e,if_false]
 by_cases h4:j<4
 ·simp only[h4,if_true,if_false]
 ·by_cases h39:j<39
  ·simp only[h4,h39,if_true,if_false]
   omega
  ·by_cases h43:j<43
   ·simp only[h4,h39,h43,if_true,if_false]
   ·by_cases h107:j<107
    ·simp only[h4,h39,h43,h107,if_true,if_false]
    ·by_cases h141:j<141
     ·simp only[h4,h39,h43,h107,h141,if_true,if_false]
     ·by_cases h237:j<237
      ·simp only[h4,h39,h43,h107,h141,h237,if_true,if_false]
      ·by_cases h333:j<333
       ·simp only[h4,h39,h43,h107,h141,h237,h333,if_true,if_false]
       ·simp only[h4,h39,h43,h107,h141,h237,h333,if_false]
theorem znG(s:Cr)(L:Sls)(t:Tb):∀j,j<339->ups (kat s L) 43 64 (tat t) j=kat {s with tb:=t} L j:=fun j _=>by
 simp only[ups,kat]
 by_cases e:43<=j/\j<43+64
 ·rw[if_pos e,if_neg (by omega),if_neg (by omega),if_neg (by omega),if_pos (by omega)]
 simp only[e,if_false]
 by_cases h4:j<4
 ·simp only[h4,if_true,if_false]
 ·by_cases h39:j<39
  ·simp only[h4,h39,if_true,if_false]
  ·by_cases h43:j<43
   ·simp only[h4,h39,h43,if_true,if_false]
   ·by_cases h107:j<107
    ·simp only[h4,h39,h43,h107,if_true,if_false]
     omega
    ·by_cases h141:j<141
     ·simp only[h4,h39,h43,h107,h141,if_true,if_false]
     ·by_cases h237:j<237
      ·simp only[h4,h39,h43,h107,h141,h237,if_true,if_false]
      ·by_cases h333:j<333
       ·simp only[h4,h39,h43,h107,h141,h237,h333,if_true,if_false]
       ·simp only[h4,h39,h43,h107,h141,h237,h333,if_false]
theorem zg9(s:Cr)(L:Sls)(r:Nat->Int)(v:Value)(fr:List Int):∀j,j<339->ups (kat s L) 107 34 (mat s.phys r v) j=kat {s with regs:=r,free:=fr} {L with f:=v} j:=fun j _=>by
 simp only[ups,kat]
 by_cases e:107<=j/\j<107+34
 ·rw[if_pos e,if_neg (by omega),if_neg (by omega),if_neg (by omega),if_neg (by omega),if_pos (by omega)]
 simp only[e,if_false]
 by_cases h4:j<4
 ·simp only[h4,if_true,if_false]
 ·by_cases h39:j<39
  ·simp only[h4,h39,if_true,if_false]
  ·by_cases h43:j<43
   ·simp only[h4,h39,h43,if_true,if_false]
   ·by_cases h107:j<107
    ·simp only[h4,h39,h43,h107,if_true,if_false]
    ·by_cases h141:j<141
     ·simp only[h4,h39,h43,h107,h141,if_true,if_false]
      omega
     ·by_cases h237:j<237
      ·simp only[h4,h39,h43,h107,h141,h237,if_true,if_false]
      ·by_cases h333:j<333
       ·simp only[h4,h39,h43,h107,h141,h237,h333,if_true,if_false]
       ·simp only[h4,h39,h43,h107,h141,h237,h333,if_false]
theorem zjm(s:Cr)(L:Sls):∀j,j<34->kat s L (107+j)=mat s.phys s.regs L.f j:=fun j hj=>by
 unfold kat
 rw[if_neg (by omega),if_neg (by omega),if_neg (by omega),if_neg (by omega),if_pos (by omega),Ae]
theorem zpb(s:Cr)(L:Sls):∀j,j<64->kat s L (43+j)=tat s.tb j:=fun j hj=>by
 unfold kat
 rw[if_neg (by omega),if_neg (by omega),if_neg (by omega),if_pos (by omega),Ae]
theorem zda(s:Cr)(L:Sls):∀j,j<35->kat s L (4+j)=hat s.R s.pc s.st s.ca j:=fun j hj=>by
 unfold kat
 rw[if_neg (by omega),if_pos (by omega),Ae]
theorem znH(s:Cr)(L:Sls)(x:Int)(h0:0<=x)(h1:x<96):kat s L (237+x.toNat)=.bool (s.th x):=by
 unfold kat
 rw[if_neg (by omega),if_neg (by omega),if_neg (by omega),if_neg (by omega),if_neg (by omega),if_neg (by omega),if_pos (by omega),Ae,Int.toNat_of_nonneg h0]
theorem ku(w:World)(b i:Nat)(v:Value):Below 0 w (w.setCell ⟨b,i,none⟩ v):=(Ag 0 w).setCell (p:=⟨b,i,none⟩) (Nat.zero_le _) v
theorem jN{b:Nat}(w:World){L L':Sls}(i:Nat)(v:Value)(hf:∀g,own b L' g->own b L g\/w.heap.size<=g):To b w L (w.setCell ⟨b,i,none⟩ v) L':=
 zg8 (ku w b i v).os (ku w b i v).tape (ku w b i v).output (by simp) (fun g hg=>Re.zA v hg) hf
theorem ya(w:World)(b o:Nat)(vs:List Value):(w.setCells b o vs).os=w.os/\(w.setCells b o vs).tape=w.tape/\(w.setCells b o vs).output=w.output:=by
 induction vs generalizing w o with
 |nil=>exact⟨rfl,rfl,rfl⟩
 |cons v vs ih=>
  have:=ih (w.setCell ⟨b,o,none⟩ v) (o+1)
  have h2:=ku w b o v
  exact⟨this.1.trans h2.os,this.2.1.trans h2.tape,this.2.2.trans h2.output⟩
theorem zdb{b:Nat}(w:World){L L':Sls}(o:Nat)(vs:List Value)(hf:∀g,own b L' g->own b L g\/w.heap.size<=g):To b w L (w.setCells b o vs) L':=
 zg8 (ya w b o vs).1 (ya w b o vs).2.1 (ya w b o vs).2.2 (vz w b o vs) (fun g hg=>zY w b o vs hg) hf
theorem Its.setR{N:Nat}{w:World}{b:Nat}{s:Cr}{L:Sls}(h:Its N w b s L){v:Value}{l:List Int}(hr:∃p cap,v=.slice p l.length cap/\LC w p l.length cap 1 (ics l))(hs:∀g,v.ownBlock=some g->0<l.length->¬own b L g):Its N w b {s with scr:=l} {L with r:=v}:=
 ⟨h.ic,h.iu,h.ia,h.im,h.ifr,h.isl,hr,h.sm,h.sf,h.ss,hs,h.base,h.tb,h.tb2,h.g1,h.g2,h.nN⟩
theorem Its.setS{N:Nat}{w:World}{b:Nat}{s:Cr}{L:Sls}(h:Its N w b s L){v:Value}{l:List Sl}(hr:∃p cap,v=.slice p l.length cap/\LC w p l.length cap 2 (scs l))(hs:∀g,v.ownBlock=some g->0<l.length->¬own b L g):Its N w b {s with slots:=l} {L with s:=v}:=
 ⟨h.ic,h.iu,h.ia,h.im,h.ifr,hr,h.ir,h.sm,h.sf,hs,h.sr,h.base,h.tb,h.tb2,h.g1,h.g2,h.nN⟩
theorem Its.setF{N:Nat}{w:World}{b:Nat}{s:Cr}{L:Sls}(h:Its N w b s L){v:Value}{l:List Int}(r:Nat->Int)(hr:∃p cap,v=.slice p l.length cap/\Re.Lie w p l.length cap (fun i=>l.getD i 0))(hs:∀g,v.ownBlock=some g->0<l.length->¬own b L g):Its N w b {s with regs:=r,free:=l} {L with f:=v}:=
 ⟨h.ic,h.iu,h.ia,h.im,hr,h.isl,h.ir,h.sm,hs,h.ss,h.sr,h.base,h.tb,h.tb2,h.g1,h.g2,h.nN⟩
theorem Its.setM{N:Nat}{w:World}{b:Nat}{s:Cr}{L:Sls}(h:Its N w b s L){v:Value}{f:Nat->Int}(hr:∃p cap,v=.slice p s.n cap/\Bys w p s.n cap f)(hs:∀g,v.ownBlock=some g->0<s.n->¬own b L g):Its N w b {s with f:=f} {L with m:=v}:=
 ⟨h.ic,h.iu,h.ia,hr,h.ifr,h.isl,h.ir,hs,h.sf,h.ss,h.sr,h.base,h.tb,h.tb2,h.g1,h.g2,h.nN⟩
theorem qm{b:Nat}{w:World}{L L':Sls}(hf:∀g,own b L' g->own b L g\/w.heap.size<=g){g:Nat}(hg:¬own b L g)(hl:g<w.heap.size):¬own b L' g:=fun h=>by
 rcases hf g h with h|h
 ·exact hg h
 ·omega
theorem Its.blk{N:Nat}{w:World}{b:Nat}{s:Cr}{L:Sls}(h:Its N w b s L):(∀g,L.m.ownBlock=some g->0<s.n->g<w.heap.size)/\(∀g,L.f.ownBlock=some g->0<s.free.length->g<w.heap.size)/\(∀g,L.s.ownBlock=some g->0<s.slots.length->g<w.heap.size)/\(∀g,L.r.ownBlock=some g->0<s.scr.length->g<w.heap.size):=by
 obtain⟨pm,cm,em,hm⟩:=h.im
 obtain⟨pf,cf,ef,hf⟩:=h.ifr
 obtain⟨ps,cs,es,hsl⟩:=h.isl
 obtain⟨pr,cr,er,hr⟩:=h.ir
 have ob:∀{p:Option Addr} {n c g:Nat},(AC p n c).ownBlock=some g->∃x,p=some x/\x.block=g:=fun{p n c g} e=>by
  cases p with
  |none=>cases e
  |some x=>exact⟨x,rfl,Ai e⟩
 refine⟨fun g hg h0=>?_,fun g hg h0=>?_,fun g hg h0=>?_,fun g hg h0=>?_⟩
 ·rw[em]at hg
  obtain⟨x,hx,rfl⟩:=ob hg
  obtain⟨g,o,e,hl⟩:=hm.hm h0
  rw[hx]at e
  cases e
  exact Ak _ _ (hl 0 h0)
 ·rw[ef]at hg
  obtain⟨x,hx,rfl⟩:=ob hg
  obtain⟨g,o,e,hl⟩:=hf.ad x hx h0
  subst e
  exact Ak _ _ (hl 0 h0)
 ·rw[es]at hg
  obtain⟨x,hx,rfl⟩:=ob hg
  obtain⟨g,o,e,hlt,_⟩:=hsl.ad x hx h0
  subst e
  exact hlt
 ·rw[er]at hg
  obtain⟨x,hx,rfl⟩:=ob hg
  obtain⟨g,o,e,hlt,_⟩:=hr.ad x hx h0
  subst e
  exact hlt
theorem Its.own{N:Nat}{w w':World}{b:Nat}{s:Cr}{L L':Sls}(h:Its N w b s L)(hT:To b w L w' L')(hm:L'.m=L.m)(hf:L'.f=L.f)(hs:L'.s=L.s)(hr:L'.r=L.r){co:List Cm}{un:List Dg}{ak:List Ac}
  (hc:Us w' 68 11 L'.c co.length (flat cml co)) (hu:Us w' 132 28 L'.u un.length (flat dgl un)) (ha:Us w' 135 7 L'.a ak.length (flat cel ak)):Its N w' b {s with coms:=co,under:=un,asked:=ak} L':=by
 obtain⟨b1,b2,b3,b4⟩:=h.blk
 have nT:0<w.heap.size:=h.tb.size
 have nT2:2<w.heap.size:=h.tb2.size
 have kT:w'.heap[0]?=w.heap[0]?:=hT.block _ nT (fun ho=>by have:=h.base _ ho;have:=h.g1;omega)
 have kT2:w'.heap[2]?=w.heap[2]?:=hT.block _ nT2 (fun ho=>by have:=h.base _ ho;have:=h.g2;omega)
 obtain⟨pm,cm,em,hm'⟩:=h.im
 obtain⟨pf,cf,ef,hf'⟩:=h.ifr
 obtain⟨ps,cs,es,hs'⟩:=h.isl
 obtain⟨pr,cr,er,hr'⟩:=h.ir
 have ow:∀{p:Option Addr} {n c:Nat} {x:Addr},p=some x->(AC p n c).ownBlock=some x.block:=fun e=>by rw[e];rfl
 refine⟨hc,hu,ha,⟨pm,cm,hm.trans em,xz hm' fun h0 x hx=>?_⟩,⟨pf,cf,hf.trans ef,zbb hf' fun h0 x hx=>?_⟩,⟨ps,cs,hs.trans es,qH hs' hT.size fun h0 x hx=>?_⟩,⟨pr,cr,hr.trans er,qH hr' hT.size fun h0 x hx=>?_⟩,
  fun g hg h0=>?_,fun g hg h0=>?_,fun g hg h0=>?_,fun g hg h0=>?_,fun g hg=>?_,fun i hi=>(Ad (w:=w) (a:=⟨0,i,none⟩) kT).trans (h.tb i hi),fun i hi=>(Ad (w:=w) (a:=⟨2,i,none⟩) kT2).trans (h.tb2 i hi),h.g1,h.g2,Ah h.nN hT.size⟩
 ·have e:=ow (n:=s.n) (c:=cm) hx
  exact hT.block _ (b1 _ (em▸e) h0) (h.sm _ (em▸e) h0)
 ·have e:=ow (n:=s.free.length) (c:=cf) hx
  exact hT.block _ (b2 _ (ef▸e) h0) (h.sf _ (ef▸e) h0)
 ·have e:=ow (n:=s.slots.length) (c:=cs) hx
  exact hT.block _ (b3 _ (es▸e) h0) (h.ss _ (es▸e) h0)
 ·have e:=ow (n:=s.scr.length) (c:=cr) hx
  exact hT.block _ (b4 _ (er▸e) h0) (h.sr _ (er▸e) h0)
 ·rw[hm]at hg;exact qm hT.fresh (h.sm g hg h0) (b1 g hg h0)
 ·rw[hf]at hg;exact qm hT.fresh (h.sf g hg h0) (b2 g hg h0)
 ·rw[hs]at hg;exact qm hT.fresh (h.ss g hg h0) (b3 g hg h0)
 ·rw[hr]at hg;exact qm hT.fresh (h.sr g hg h0) (b4 g hg h0)
 ·rcases hT.fresh g hg with h'|h'
  ·exact h.base g h'
  ·have:=h.nN;omega
theorem zfj(i:In)(w:World):Calls prog 93 #[ivI i] w fun e w'=>e=.returned (.int .i64 (gvs i))/\Below w.heap.size w w':=by
 obtain⟨op,rd,s1,s2,I⟩:=i
 unfold gvs
 simp only[]
 by_cases h:op=46
 ·subst h
  go_enter func93,ntmps93
  go_wp2
  go_ret
  exact⟨rfl,(Ag _ _).alloc (Ab _) _⟩
 ·have hq:(op==46)=false:=beq_eq_false_iff_ne.2 h
  rw[if_neg h]
  go_enter func93,ntmps93
  go_wp2
  go_ret
  exact⟨rfl,(Ag _ _).alloc (Ab _) _⟩
theorem vA(i:In)(w:World):Calls prog 125 #[ivI i] w fun e w'=>e=.returned (.bool (sts i))/\Below w.heap.size w w':=by
 obtain⟨op,rd,s1,s2,I⟩:=i
 unfold sts
 simp only[]
 go_enter func125,ntmps125
 go_wp2
 all_goals(go_ret;refine⟨?_,(Ag _ _).alloc (Ab _) _⟩;simp_all;try omega)
theorem zau(i:In)(w:World):Calls prog 116 #[ivI i] w fun e w'=>e=.returned (.bool (trn i))/\Below w.heap.size w w':=by
 obtain⟨op,rd,s1,s2,I⟩:=i
 unfold trn
 simp only[]
 go_enter func116,ntmps116
 go_wp2
 all_goals(go_ret;refine⟨?_,(Ag _ _).alloc (Ab _) _⟩;simp_all;try omega)
theorem jW(x a b:Int)(w:World):Calls prog 26 #[.int .i64 x,.int .i64 a,.int .i64 b] w fun e w'=>e=.returned (.bool (decide (a<=x/\x<=b)))/\w'=w:=by
 go_enter func26,ntmps26
 go_wp2
 all_goals(go_ret;refine⟨?_,rfl⟩;simp_all;try omega)
def mayC(win phys wide:Int):Bool:=decide (1<=win/\win<=32)&&decide (33<=phys/\phys<=96)&&decide (1<=wide/\wide<=4)
theorem zen(win phys wide:Int)(w:World):Calls prog 16 #[.agg #[.int .i64 win,.int .i64 phys,.int .i64 wide]] w fun e w'=>e=.returned (.bool (mayC win phys wide))/\Below w.heap.size w w':=by
 unfold mayC
 obtain⟨a,ha⟩:∃a,a=decide (1<=win/\win<=32):=⟨_,rfl⟩
 obtain⟨b,hb⟩:∃a,a=decide (33<=phys/\phys<=96):=⟨_,rfl⟩
 obtain⟨c,hc⟩:∃a,a=decide (1<=wide/\wide<=4):=⟨_,rfl⟩
 have C1:=fun w=>jW win 1 32 w
 have C2:=fun w=>jW phys 33 96 w
 have C3:=fun w=>jW wide 1 4 w
 rw[<-ha]at C1⊢
 rw[<-hb]at C2⊢
 rw[<-hc]at C3⊢
 clear ha hb hc
 cases a with
 |false=>
  go_enter func16,ntmps16
  go_wp2_with fail
  refine(C1 _).mono ?_
  rintro e w' ⟨rfl,rfl⟩
  go_wp2
  go_ret
  exact⟨rfl,(Ag _ _).alloc (Ab _) _⟩
 |true=>
  cases b with
  |false=>
   go_enter func16,ntmps16
   go_wp2_with fail
   refine(C1 _).mono ?_
   rintro e w' ⟨rfl,rfl⟩
   go_wp2_with fail
   refine(C2 _).mono ?_
   rintro e w' ⟨rfl,rfl⟩
   go_wp2
   go_ret
   exact⟨rfl,(Ag _ _).alloc (Ab _) _⟩
  |true=>
   go_enter func16,ntmps16
   go_wp2_with fail
   refine(C1 _).mono ?_
   rintro e w' ⟨rfl,rfl⟩
   go_wp2_with fail
   refine(C2 _).mono ?_
   rintro e w' ⟨rfl,rfl⟩
   go_wp2_with fail
   refine(C3 _).mono ?_
   rintro e w' ⟨rfl,rfl⟩
   go_wp2
   go_ret
   exact⟨rfl,(Ag _ _).alloc (Ab _) _⟩
end Go.Proofs.YtpiohehijkpghacGreatDoor.Co
