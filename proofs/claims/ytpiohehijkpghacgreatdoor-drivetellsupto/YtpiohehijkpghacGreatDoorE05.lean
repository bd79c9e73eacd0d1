/- What instructions do, as plain numbers: facts. Nothing of the program is named here. -/
import Derived.Deep.AppendSrc
import Derived.Test.YtpiohehijkpghacGreatDoorE04
open Array renaming getElem?_eq_some_iff->Ad,getElem?_toList->Ao,getElem?_setIfInBounds->AJ,getElem?_eq_getElem->Zb,size_setIfInBounds->Zf,getElem?_eq_none->Zj,getElem?_modify->Zo
open Bool renaming and_eq_true->ZA,false_and->ZK,true_and->ZN
open Go renaming wp_region_held_drew->Ah,wpAnyH_ready->Aj,cell_of_row->WZ,bodyPost_ret->Ap,wpList_load_row->Aq,wpList_store_row->Ar,heap_alloc2_new->Ay,wpAnyH_done->AB,results_cell_row->AE,frozen_of_row->AU,setRow_heap->AV,wpList_load_mid->AX,heap_alloc2_old->AY,run_loadVar_row->Zn,info_parts->Zr,setRow_other->Zw
open Go.Addr renaming add_lit->ZQ
open Go.AllReadyH renaming cons->Ae,nil->Af
open Go.Builtin renaming append_->ZG
open Go.Code renaming wp->AM
open Go.Ending renaming returned->ZH
open Go.Instr renaming makeFunc->Za,sureAddr->ZJ,loadAt->ZS
open Go.Region renaming wanted->Zq
open Go.Result renaming andThen_ok->Zd
open Go.RowKit.Below renaming refl->Ab
open Go.Sem renaming run_bind->Zu,run_pure->Zv
open Go.Value renaming ownBlock->AZ,oneCell'->ZI,slice->ZT
open Go.World renaming block_lt_of_cell?->Ak,cell?_of_block->Aw,ownsRow_nil->AQ,setRow_alloc_new->Zm,setCell->ZM
open Go.World.grownBy renaming refl->ZV
open Int renaming toNat_of_nonneg->AD,toNat_natCast->AK,eq_ofNat_of_zero_le->AO,toNat->Zh,ediv_one->ZR
open List renaming length_take->Ai,length_append->Am,getElem?_take_of_lt->An,getElem?_eq_some_iff->WY,getElem?_eq_getElem->WX,getElem?_drop->Au,mem_of_getElem?->Ax,getElem?_append_left->Az,getElem?_eq_none->AA,getElem?_append_right->AC,eq_nil_of_length_eq_zero->AF,filter_append->AN,getElem?_set->AP,append_assoc->AR,length_filter_le->AS,mem_append->AW,ext_getElem?->Zc,length_cons->Zg,take_of_length_le->Zi,drop_eq_nil_of_le->Zl,mem_of_mem_drop->Zp,take_add_one->Zt,drop_append->Zx,not_mem_nil->Zy,length_drop->Zz,length_map->ZC,map_append->ZD,nil_append->ZE,length_nil->ZF,mem_cons->ZL
open Nat renaming le_refl->Aa,lt_of_lt_of_le->Ag,add_sub_cancel_left->Av,add_mul->AG,le_trans->AH,mul_le_mul_right->AL,add_assoc->AT,zero_mul->Zk,zero_add->ZO,sub_self->ZP,sub_mul->ZU
open Option renaming isSome_some->Zs,getD_some->ZB
open Option.some renaming inj->AI,injEq->Ze
set_option maxHeartbeats 2000000
set_option maxRecDepth 20000
set_option linter.unusedSimpArgs false
set_option linter.unusedVariables false
open Go.Proofs.Tryz
namespace Go.Proofs.YtpiohehijkpghacGreatDoor.Wi
open Go.RowKit
structure Rv(x y:List Int)(k:Nat):Prop where
 len:y.length=x.length
 out:∀i,i<x.length->(i<k\/x.length-1-i<k)->y[i]?=x[x.length-1-i]?
 mid:∀i,i<x.length->¬(i<k\/x.length-1-i<k)->y[i]?=x[i]?
theorem zhv(x:List Int):Rv x x 0:=⟨rfl,λi _ h=>by omega,λi _ _=>rfl⟩
theorem Rv.step{x y:List Int}{k j:Nat}(h:Rv x y k)(hj:k+j+1=x.length)(hkj:k<j){a b:Int}(ha:y[k]?=some a)(hb:y[j]?=some b):Rv x ((y.set k b).set j a) (k+1):=by
 have hl:=h.len
 have ea:x[k]?=some a:=by rw[<-h.mid k (by omega) (by omega)];exact ha
 have eb:x[j]?=some b:=by rw[<-h.mid j (by omega) (by omega)];exact hb
 refine⟨by simp[hl],λi hi hc=>?_,λi hi hc=>?_⟩
 ·rw[AP,AP]
  by_cases e1:j=i
  ·subst e1
   rw[if_pos rfl,if_pos (by simp;omega),show x.length-1-j=k by omega,ea]
  ·rw[if_neg e1]
   by_cases e2:k=i
   ·subst e2
    rw[if_pos rfl,if_pos (by omega),show x.length-1-k=j by omega,eb]
   ·rw[if_neg e2]
    exact h.out i hi (by omega)
 ·rw[AP,AP,if_neg (by omega),if_neg (by omega)]
  exact h.mid i hi (by omega)
theorem Rv.all{x y:List Int}{k j:Nat}(h:Rv x y k)(hj:k+j+1=x.length)(hkj:j<=k):y=x.reverse:=by
 have hl:=h.len
 apply Zc
 intro i
 by_cases hi:i<x.length
 ·rw[List.getElem?_reverse hi]
  by_cases hc:i<k\/x.length-1-i<k
  ·exact h.out i hi hc
  ·rw[h.mid i hi hc,show x.length-1-i=i by omega]
 ·rw[AA (by omega),AA (by simp;omega)]
theorem zE{a b c:World}{r:Option Nat}(h:a.grownBy b r)(k:b.grownBy c r):a.grownBy c r:=
 ⟨k.os.trans h.os,k.tape.trans h.tape,k.output.trans h.output,AH h.size k.size,λi hi hr=>(k.block i (Ag hi h.size) hr).trans (h.block i hi hr)⟩
theorem qL{a b:World}{r:Option Nat}(h:a.grownBy b r):a.grownBy b.drew r:=⟨h.os,h.tape,h.output,h.size,h.block⟩
theorem vJ{w:World}{B B' e e' n n' size size':Nat}{v v':Value}{xs xs':List Value}(h:w.ownsRow B e size v n xs)(h':w.ownsRow B' e' size' v' n' xs')(he:e≠e'):v.ownBlock=none\/v.ownBlock≠v'.ownBlock:=by
 rcases h.2 with⟨rfl,_⟩|⟨g,cap,cur,rfl,_,hh,_⟩
 ·exact .inl rfl
 ·rcases h'.2 with⟨rfl,_⟩|⟨g',cap',cur',rfl,_,hh',_⟩
  ·exact .inr (by simp[AZ])
  ·refine .inr λe0=>he ?_
   have:g=g':=by simpa[AZ]using e0
   subst this
   rw[hh]at hh'
   simpa using(Obj.cells.inj (AI hh')).2.1
theorem zbk(w:World)(a:Option Addr)(c:Nat):
  Calls prog 62 #[.slice a 0 c] w λe w'=>e=.returned (.tuple #[])/\w'=w:=by
 go_enter func62,ntmps62
 go_wp2_with fail
 refine wp_loop_rounds 1 ?_
 rw[rounds_succ]
 go_wp2_with fail
 go_end0
 exact⟨rfl,rfl⟩
theorem zbl(g cap n B:Nat)(x:List Int)(hn:0<n)(hn2:n<=140737488355328)(hx:Hid (x.length=n))(w:World)(hO:Hid (w.ownsRow B 3 1 (.slice (some ⟨g,0,none⟩) n cap) n (ics x))):
  Calls prog 62 #[.slice (some ⟨g,0,none⟩) n cap] w λe w'=>e=.returned (.tuple #[])/\Hid (w'.ownsRow B 3 1 (.slice (some ⟨g,0,none⟩) n cap) n (ics x.reverse))/\w.grownBy w' (some g):=by
 go_enter func62,ntmps62
 go_wp2_with fail
 go_loopw [2,3] (λi j wr=>∃(k jj:Nat) (y:List Int),k+jj+1=n/\i=.int .i64 k/\j=.int .i64 jj/\Hid (wr.ownsRow B 3 1 (.slice (some ⟨g,0,none⟩) n cap) n (ics y))/\Hid (Rv x y k)/\Hid (w.grownBy wr (some g)))
  (λi j _=>(intOf j).toNat+1-(intOf i).toNat)
 case atStart=>exact⟨0,n-1,x,by omega,rfl,by go_num,hO,zhv x,ZV _ _⟩
 case round=>
  obtain⟨k,j,y,hkj,rfl,rfl,HO,HR,HG⟩:=hrel
  by_cases hlt:k<j
  ·have hl:Hid (y.length=n):=HR.out.len.trans hx.out
   obtain⟨p,hp⟩:∃p,y[k]?=some p:=⟨_,WX (by rw[hl.out];omega)⟩
   obtain⟨q,hq⟩:∃q,y[j]?=some q:=⟨_,WX (by rw[hl.out];omega)⟩
   have c0:wr.cell? ⟨g,k,none⟩=some (.int .i64 p):=(HO.out.cellAt k (by omega)).trans (jV hp)
   have c1:wr.cell? ⟨g,j,none⟩=some (.int .i64 q):=(HO.out.cellAt j (by omega)).trans (jV hq)
   have f0:wr.frozen? ⟨g,k,none⟩=false:=HO.out.frozenAt _
   have f1:wr.frozen? ⟨g,j,none⟩=false:=HO.out.frozenAt _
   have hkn:k<n:=by omega
   have hjn:j<n:=by omega
   have Hp:Hid (y[k]?=some p):=hp
   have Hq:Hid (y[j]?=some q):=hq
   clear hp hq
   go_wp2_with fail
   go_region
   go_wp2_with fail
   have s1:=HO.out.stored k (.int .i64 q)
   have s2:=s1.1.stored j (.int .i64 p)
   rw[zc7,zc7]at s2
   exact⟨⟨k+1,j-1,_,by omega,by go_num,by go_num,s2.1.drew,HR.out.step (by rw[hx.out];exact hkj) hlt Hp.out Hq.out,qL (zE (zE HG.out s1.2) s2.2)⟩,by simp[intOf];omega⟩
  ·go_wp2_with fail
   go_end0
   rw[HR.out.all (by rw[hx.out];exact hkj) (by omega)]at HO
   exact⟨rfl,HO,HG.out⟩
def styK(l:List Sl)(seq:Int)(k:Nat):List Sl:=(l.take k).filter λq=>!above seq q
def gonK(l:List Sl)(seq:Int)(k:Nat):List Int:=((l.take k).filter λq=>above seq q).map (·.1)
theorem zn5(l:List Sl)(seq:Int)(k:Nat):(styK l seq k).length<=k:=AH (AS _ _) (by rw[Ai];omega)
theorem zn6(l:List Sl)(seq:Int)(k:Nat):(gonK l seq k).length<=k:=by
 unfold gonK
 rw[ZC]
 exact AH (AS _ _) (by rw[Ai];omega)
theorem zjN{l:List Sl}{seq:Int}{k:Nat}{p:Sl}(h:l[k]?=some p)(ha:above seq p=true):styK l seq (k+1)=styK l seq k/\gonK l seq (k+1)=gonK l seq k++[p.1]:=by
 unfold styK gonK
 rw[take_at h,AN,AN,ZD]
 simp[ha]
theorem zhw{l:List Sl}{seq:Int}{k:Nat}{p:Sl}(h:l[k]?=some p)(ha:above seq p=false):styK l seq (k+1)=styK l seq k++[p]/\gonK l seq (k+1)=gonK l seq k:=by
 unfold styK gonK
 rw[take_at h,AN,AN,ZD]
 simp[ha]
theorem zl3{l:List Sl}{seq:Int}{k:Nat}(h:l.length=k):styK l seq k=vo l seq/\(gonK l seq k).reverse=cutS l seq:=by
 unfold styK gonK vo cutS
 rw[Zi (by omega)]
 exact⟨rfl,rfl⟩
theorem zjO(a:Option Addr)(n c:Nat)(seq:Int)(l:List Sl)(hn:n*16<=140737488355328)(w:World)(hL:Hid (LC w a n c 2 (scs l))):
  Calls prog 161 #[.slice a n c,.int .i64 seq] w λe w'=>zb7 w (vo l seq) (cutS l seq) e w':=by
 obtain⟨i3,hi3,hz0,hz1,hz2⟩:=Zr zkN
 obtain⟨iS,hiS,hs0,hs1,hs2⟩:=Zr zb2
 have hlen:Hid (l.length=n):=by have:=hL.out.len;rw[kW]at this;show _=_;omega
 go_enter func161,ntmps161
 go_wp2_with fail
 refine(zb4 seq _).mono ?_
 rintro e W1 ⟨rfl,hc,hb⟩
 have HB1:Hid (Below w.heap.size w W1):=hb
 have HA:Hid (Asks 169 w.heap.size (above seq) W1):=zb3 _ _ _ hc
 clear hc hb
 go_wp2_with fail
 go_loopw [6,7,15] (λv u i wr=>∃k:Nat,k<=n/\i=.int .i64 k/\Hid (wr.ownsRow W1.heap.size 159 2 v (styK l seq k).length (scs (styK l seq k)))/\Hid (wr.ownsRow W1.heap.size 3 1 u (gonK l seq k).length (ics (gonK l seq k)))/\Hid (Below W1.heap.size W1 wr))
  (λ_ _ i _=>n-(intOf i).toNat)
 case atStart=>exact⟨0,by omega,rfl,AQ _ _ _ _,AQ _ _ _ _,Ab _ _⟩
 case round=>
  obtain⟨k,hk,rfl,HV,HU,HB⟩:=hrel
  have hsl:=zn5 l seq k
  have hgl:=zn6 l seq k
  by_cases hlt:k<n
  ·obtain⟨s,d,hsd⟩:=zgM (l:=l) (k:=k) (by rw[hlen.out];exact hlt)
   obtain⟨bb,o,rfl,hb,hc⟩:=hL.out.sure (by omega)
   have HBW:Hid (Below w.heap.size w wr):=HB1.out.trans (HB.out.mono HB1.out.size)
   have c0:wr.cell? ⟨bb,o+k*2,none⟩=some (.int .i64 s):=(HBW.out.cell (p:=⟨bb,o+k*2,none⟩) hb).trans (hc _ _ (za0 _ _ _ hsd))
   have c1:wr.cell? ⟨bb,o+k*2+1,none⟩=some (.bool d):=(HBW.out.cell (p:=⟨bb,o+k*2+1,none⟩) hb).trans (by rw[AT];exact hc _ _ (kp _ _ _ hsd))
   clear hc HBW
   go_upto_region 7 with fail
   refine zh (Φ:=λW=>AM _ _ _ _ W) ?_
   intro U hU hUb
   have HBU:Hid (Below W1.heap.size W1 U):=HB.out.trans (hUb.mono HB.out.size)
   have HVU:=zv HV.out (Aa _) hUb
   have HUU:=zv HU.out (Aa _) hUb
   have e0:U.cell? ⟨wr.heap.size,0,none⟩=some (.int .i64 s):=(WZ _ _ _ _ _ _ hU).trans rfl
   have e1:U.cell? ⟨wr.heap.size,1,none⟩=some (.bool d):=(WZ _ _ _ _ _ _ hU).trans rfl
   have hqU:wr.heap.size<U.heap.size:=(Ad.1 hU).1
   have hcall:=HA.out U s d HBU.out
   clear hU hUb HB HV HU c0 c1
   generalize wr.heap.size=q at*
   cases ha:above seq (s,d)with
   |true=>
    rw[ha]at hcall
    obtain⟨HN1,HN2⟩:=zjN hsd ha
    have HN1':Hid (styK l seq (k+1)=styK l seq k):=HN1
    have HN2':Hid (gonK l seq (k+1)=gonK l seq k++[s]):=HN2
    clear HN1 HN2 ha hsd
    have HVU':Hid _:=HVU
    have HUU':Hid _:=HUU
    clear HVU HUU
    go_wp2_with fail
    refine hcall.mono ?_
    rintro e U2 ⟨rfl,hb2⟩
    have d0:U2.cell? ⟨q,0,none⟩=some (.int .i64 s):=(hb2.cell (p:=⟨q,0,none⟩) hqU).trans e0
    have HB2:Hid (Below W1.heap.size W1 U2):=HBU.out.trans (hb2.mono HBU.out.size)
    have HV2:Hid (U2.ownsRow W1.heap.size 159 2 u6 (styK l seq k).length (scs (styK l seq k))):=zv HVU'.out (Aa _) hb2
    have HU2:Hid (U2.ownsRow W1.heap.size 3 1 u7 (gonK l seq k).length (ics (gonK l seq k))):=zv HUU'.out (Aa _) hb2
    clear hb2 hcall e0 e1 HBU HVU' HUU' hqU
    go_wp2_with(at_builtin;refine zx _ rfl _ _ 29 rfl W1.heap.size 3 i3 _ 1 8 underlying29 hi3 hz0 hz1 hz2 rfl (by decide) _ (gonK l seq k).length _ rfl (zv HU2.out (Aa _) ((Ab _ _).alloc (Aa _) _)) _ 1 1 (ics [s]) rfl (zaB (heap_alloc_new _ _) (jD [s]) rfl) (by unfold maxLen;omega) (by omega) (by have:=HB2.out.size;simp;omega) ?_;intro v1 w1 hown1 hgrow1)
    have HO1:Hid (w1.ownsRow W1.heap.size 3 1 v1 (gonK l seq (k+1)).length (ics (gonK l seq (k+1)))):=by rw[HN2'.out,za1,Am];exact hown1
    have HO2:Hid (w1.ownsRow W1.heap.size 159 2 u6 (styK l seq (k+1)).length (scs (styK l seq (k+1)))):=by rw[HN1'.out];exact(HV2.out.alloc _).kept hgrow1 (vJ HV2.out HU2.out (by decide))
    have HB3:Hid (Below W1.heap.size W1 w1):=(HB2.out.alloc HB2.out.size _).grown hgrow1 (by have:=HB2.out.size;simp;omega) (λj hj=>(HU2.out.lt j hj).1)
    clear hown1 hgrow1 HB2 HV2 HU2 d0
    go_wp2_with fail
    exact⟨⟨k+1,by omega,by go_num,HO2,HO1,HB3⟩,by simp[intOf];omega⟩
   |false=>
    rw[ha]at hcall
    obtain⟨HN1,HN2⟩:=zhw hsd ha
    have HN1':Hid (styK l seq (k+1)=styK l seq k++[(s,d)]):=HN1
    have HN2':Hid (gonK l seq (k+1)=gonK l seq k):=HN2
    clear HN1 HN2 ha hsd
    have HVU':Hid _:=HVU
    have HUU':Hid _:=HUU
    clear HVU HUU
    go_wp2_with fail
    refine hcall.mono ?_
    rintro e U2 ⟨rfl,hb2⟩
    have d0:U2.cell? ⟨q,0,none⟩=some (.int .i64 s):=(hb2.cell (p:=⟨q,0,none⟩) hqU).trans e0
    have d1:U2.cell? ⟨q,1,none⟩=some (.bool d):=(hb2.cell (p:=⟨q,1,none⟩) hqU).trans e1
    have HB2:Hid (Below W1.heap.size W1 U2):=HBU.out.trans (hb2.mono HBU.out.size)
    have HV2:Hid (U2.ownsRow W1.heap.size 159 2 u6 (styK l seq k).length (scs (styK l seq k))):=zv HVU'.out (Aa _) hb2
    have HU2:Hid (U2.ownsRow W1.heap.size 3 1 u7 (gonK l seq k).length (ics (gonK l seq k))):=zv HUU'.out (Aa _) hb2
    clear hb2 hcall e0 e1 HBU HVU' HUU' hqU
    go_wp2_with(at_builtin;refine zx _ rfl _ _ 62 rfl W1.heap.size 159 iS _ 2 16 underlying62 hiS hs0 hs1 hs2 rfl (by decide) _ (styK l seq k).length _ rfl (zv HV2.out (Aa _) ((Ab _ _).alloc (Aa _) _)) _ 1 1 (scs [(s,d)]) rfl (zaB (heap_alloc_new _ _) (vm [(s,d)]) rfl) (by unfold maxLen;omega) (by omega) (by have:=HB2.out.size;simp;omega) ?_;intro v1 w1 hown1 hgrow1)
    have HO1:Hid (w1.ownsRow W1.heap.size 159 2 v1 (styK l seq (k+1)).length (scs (styK l seq (k+1)))):=by rw[HN1'.out,zc6,Am];exact hown1
    have HO2:Hid (w1.ownsRow W1.heap.size 3 1 u7 (gonK l seq (k+1)).length (ics (gonK l seq (k+1)))):=by rw[HN2'.out];exact(HU2.out.alloc _).kept hgrow1 (vJ HU2.out HV2.out (by decide))
    have HB3:Hid (Below W1.heap.size W1 w1):=(HB2.out.alloc HB2.out.size _).grown hgrow1 (by have:=HB2.out.size;simp;omega) (λj hj=>(HV2.out.lt j hj).1)
    clear hown1 hgrow1 HB2 HV2 HU2 d0 d1
    go_wp2_with fail
    exact⟨⟨k+1,by omega,by go_num,HO1,HO2,HB3⟩,by simp[intOf];omega⟩
  ·have:k=n:=by omega
   subst this
   obtain⟨E1,E2⟩:=zl3 (seq:=seq) hlen.out
   rw[E1]at HV
   obtain⟨x,hx⟩:∃x,Hid (x=gonK l seq k):=⟨_,rfl⟩
   rw[<-hx.out]at HU hgl E2
   have E3:Hid (x.reverse=cutS l seq):=E2
   have HBW:Hid (Below w.heap.size w wr):=HB1.out.trans (HB.out.mono HB1.out.size)
   clear E1 E2
   by_cases h0:x.length=0
   ·obtain rfl:x=[]:=AF h0
    obtain⟨pu,cu,rfl⟩:=vA HU.out
    clear h0
    go_wp2_with fail
    refine(zbk _ _ _).mono ?_
    rintro e W4 ⟨rfl,rfl⟩
    go_wp2_with fail
    refine Ap (v:=.tuple #[u6,.slice pu 0 cu]) ?_ rfl (by rw[<-E3.out];exact jK rfl rfl (qO HV.out HB1.out.size) (qO HU.out HB1.out.size) HBW.out)
    simp[results,results161,asAddr]
   ·obtain⟨g,cu,rfl⟩:=zes HU.out (by omega)
    have hgb:=(HU.out.lt g rfl).1
    have hAp:=vJ HV.out HU.out (by decide)
    go_wp2_with fail
    refine(zbl g cu x.length W1.heap.size x (by omega) (by omega) rfl wr HU).mono ?_
    rintro e W4 ⟨rfl,hown,hgrow⟩
    have HV4:=HV.out.kept hgrow hAp
    have HB4:Hid (Below w.heap.size w W4):=HBW.out.grown hgrow HBW.out.size (λj hj=>by cases hj;have:=HB1.out.size;omega)
    go_wp2_with fail
    refine Ap (v:=.tuple #[u6,.slice (some ⟨g,0,none⟩) x.length cu]) ?_ rfl (by rw[<-E3.out];exact jK rfl (List.length_reverse ..) (qO HV4 HB1.out.size) (qO hown.out HB1.out.size) HB4.out)
    simp[results,results161,asAddr]
end Go.Proofs.YtpiohehijkpghacGreatDoor.Wi
namespace Go.Proofs.YtpiohehijkpghacGreatDoor.Co
open Go.RowKit
open Hy
open Wi Od Re.Hy
open Gu.Hy (Tb tcs)
def rowOf(f:Nat->Value)(n:Nat):Array Value:=((List.range n).map f).toArray
theorem ze(f:Nat->Value)(n:Nat):(rowOf f n).size=n:=by simp[rowOf]
theorem zw(f:Nat->Value){n i:Nat}(h:i<n):(rowOf f n)[i]?=some (f i):=by simp[rowOf,h]
theorem qo{f g:Nat->Value}{n:Nat}(h:∀i,i<n->f i=g i):rowOf f n=rowOf g n:=by
 unfold rowOf
 rw[List.map_congr_left (λi hi=>h i (List.mem_range.1 hi))]
theorem zl4{A:Array Value}{f:Nat->Value}{n:Nat}(hs:A.size=n)(h:∀i,i<n->A[i]?=some (f i)):A=rowOf f n:=by
 apply Array.ext_getElem?
 intro i
 by_cases hi:i<n
 ·rw[h i hi,zw f hi]
 ·rw[Zj (by omega),Zj (by rw[ze];omega)]
theorem jP(f:Nat->Value)(n i:Nat)(v:Value):(rowOf f n).setIfInBounds i v=rowOf (λj=>if j=i then v else f j) n:=by
 refine zl4 (by simp[ze]) λj hj=>?_
 rw[AJ]
 by_cases e:i=j
 ·subst e
  simp[ze,hj]
 ·have e':¬j=i:=λh=>e h.symm
  simp[e,e',zw f hj]
def hat(R:Nat->Int)(pc st ca:Int)(i:Nat):Value:=if i<32 then .int .u32 (R i)else if i=32 then .int .u32 pc else if i=33 then .int .i64 st else .int .i64 ca
def tat(t:Tb)(i:Nat):Value:=
 if i<32 then(if i%2=0 then .int .i64 (t.L (i/2))else .int .u32 (t.G (i/2)))
 else(if i%4=0 then .int .u32 (t.P ((i-32)/4))else if i%4=1 then .int .u32 (t.A ((i-32)/4))else if i%4=2 then .int .u32 (t.S ((i-32)/4))else .int .i64 (t.U ((i-32)/4)))
def mat(P:Int)(r:Nat->Int)(v:Value)(i:Nat):Value:=if i=0 then .int .i64 P else if i<33 then .int .i64 (r (i-1))else v
theorem yh(R:Nat->Int)(pc st ca:Int):hcs R pc st ca=rowOf (hat R pc st ca) 35:=by rfl
theorem yi(t:Tb):tcs t=rowOf (tat t) 64:=by rfl
theorem xV(P:Int)(r:Nat->Int)(v:Value):mcs P r v=rowOf (mat P r v) 34:=by rfl
structure Sls where
 c:Value
 m:Value
 f:Value
 s:Value
 u:Value
 a:Value
 r:Value
def kat(s:Cr)(L:Sls)(i:Nat):Value:=
 if i<4 then(if i=0 then .int .i64 s.win else if i=1 then .int .i64 s.phys else if i=2 then .int .i64 s.wide else L.c)
 else if i<39 then hat s.R s.pc s.st s.ca (i-4)
 else if i<43 then(if i=39 then L.m else if i=40 then .int .i64 s.cyc else if i=41 then .int .i64 s.tak else .int .i64 s.bck)
 else if i<107 then tat s.tb (i-43)
 else if i<141 then mat s.phys s.regs L.f (i-107)
 else if i<237 then .int .u32 (s.wd ((i-141:Nat):Int))
 else if i<333 then .bool (s.th ((i-237:Nat):Int))
 else if i=333 then L.s else if i=334 then L.u else if i=335 then L.a else if i=336 then L.r else if i=337 then .int .u32 s.fro else .bool s.opn
def flat{α:Type}(g:α->List Value):List α->List Value
 |[]=>[]
 |x::l=>g x++flat g l
theorem kH{α:Type}{g:α->List Value}{size:Nat}(hg:∀x,(g x).length=size):∀l:List α,(flat g l).length=l.length*size
 |[]=>by simp[flat]
 |x::l=>by simp[flat,hg,kH hg l,AG,Nat.add_comm]
theorem kI{α:Type}(g:α->List Value):∀l m:List α,flat g (l++m)=flat g l++flat g m
 |[],m=>rfl
 |x::l,m=>by simp[flat,kI g l m]
theorem qK{α:Type}{g:α->List Value}{size:Nat}(hg:∀x,(g x).length=size):∀{l:List α} {k j:Nat} {x:α} {u:Value},l[k]?=some x->(g x)[j]?=some u->(flat g l)[k*size+j]?=some u
 |[],k,j,x,u,h,_=>by simp at h
 |y::l,0,j,x,u,h,hu=>by
  simp at h
  subst h
  have hj:j<(g y).length:=(WY.1 hu).1
  rw[Zk,ZO]
  show(g y++flat g l)[j]?=_
  rw[Az hj]
  exact hu
 |y::l,k+1,j,x,u,h,hu=>by
  have:=qK hg (l:=l) (k:=k) (by simpa using h) hu
  show(g y++flat g l)[(k+1)*size+j]?=_
  have e:(k+1)*size+j=(g y).length+(k*size+j):=by rw[hg,AG];omega
  rw[e,AC (by omega),Av]
  exact this
theorem zeI{α:Type}{g:α->List Value}(hg:∀x,∀u∈g x,u.oneCell'=true):∀l:List α,∀u∈flat g l,u.oneCell'=true
 |[],u,h=>by simp[flat]at h
 |x::l,u,h=>by
  rcases AW.1 h with h|h
  ·exact hg x u h
  ·exact zeI hg l u h
theorem zcp{α:Type}{g:α->List Value}{size:Nat}(hg:∀x,(g x).length=size):∀(l:List α) (m:Nat),flat g (l.drop m)=(flat g l).drop (m*size)
 |l,0=>by simp
 |[],m+1=>by simp[flat]
 |x::l,m+1=>by
  have:=zcp hg l m
  rw[List.drop_succ_cons,this]
  show _=(g x++flat g l).drop ((m+1)*size)
  have e1:(g x).drop ((m+1)*size)=[]:=Zl (by rw[hg,AG];omega)
  rw[Zx,hg,e1,show(m+1)*size-size=m*size by rw[AG];omega,ZE]
def cml(c:Cm):List Value:=[.int .u32 c.pc,.int .u32 c.next,.int .i64 c.st,.int .i64 c.ca,.int .i64 c.rd,.int .u32 c.val,.int .u32 c.pl,.int .i64 c.many,.int .u32 c.data,.bool c.out,.int .u32 c.told]
def dgl(o:Dg):List Value:=[.int .i64 o.seq,.int .u32 o.pc,.int .i64 o.i.op,.int .i64 o.i.rd,.int .i64 o.i.s1,.int .i64 o.i.s2,.int .i32 o.i.im,.int .i64 o.st,.int .i64 o.a,.int .i64 o.b,.int .i64 o.rd,.int .i64 o.to,.int .i64 o.old,.int .u32 o.next,.bool o.gs,.int .i64 o.late,.bool o.car,
 .int .u32 o.c.pc,.int .u32 o.c.next,.int .i64 o.c.st,.int .i64 o.c.ca,.int .i64 o.c.rd,.int .u32 o.c.val,.int .u32 o.c.pl,.int .i64 o.c.many,.int .u32 o.c.data,.bool o.c.out,.int .u32 o.c.told]
abbrev dgv(o:Dg):Value:=.agg (dgl o).toArray
theorem zdq(c:Cm):(cml c).length=11:=rfl
theorem zH(o:Dg):(dgl o).length=28:=rfl
theorem zdr(c:Cm):∀u∈cml c,u.oneCell'=true:=by
 intro u hu
 simp only[cml,ZL,Zy,or_false]at hu
 rcases hu with rfl|rfl|rfl|rfl|rfl|rfl|rfl|rfl|rfl|rfl|rfl<;>rfl
theorem zbm(o:Dg):∀u∈dgl o,u.oneCell'=true:=by
 intro u hu
 simp only[dgl,ZL,Zy,or_false]at hu
 rcases hu with rfl|rfl|rfl|rfl|rfl|rfl|rfl|rfl|rfl|rfl|rfl|rfl|rfl|rfl|rfl|rfl|rfl|rfl|rfl|rfl|rfl|rfl|rfl|rfl|rfl|rfl|rfl|rfl<;>rfl
theorem xD:∀l:List Ac,acs l=flat cel l
 |[]=>rfl
 |x::l=>by
  have:=xD l
  show cel x++acs l=cel x++flat cel l
  rw[this]
structure Us(w:World)(e size:Nat)(v:Value)(n:Nat)(xs:List Value):Prop where
 len:xs.length=n*size
 one:∀u∈xs,u.oneCell'=true
 is:(v=.slice none 0 0/\n=0)\/∃g o cap cur,v=.slice (some ⟨g,o,none⟩) n cap/\w.heap[g]?=some (.cells cur e (0,0))/\n<=cap/\cap<=maxLen/\o+cap*size<=cur.size/\(cur.toList.drop o).take (n*size)=xs
theorem Us.slice{w:World}{e size:Nat}{v:Value}{n:Nat}{xs:List Value}(h:Us w e size v n xs):∃p c,v=.slice p n c:=by
 rcases h.is with⟨h1,rfl⟩|⟨g,o,cap,cur,h1,_⟩
 ·exact⟨none,0,h1⟩
 ·exact⟨_,_,h1⟩
theorem Us.lc{w:World}{e size:Nat}{p:Option Addr}{n c:Nat}{xs:List Value}(h:Us w e size (.slice p n c) n xs):LC w p n c size xs:=by
 rcases h.is with⟨h1,rfl⟩|⟨g,o,cap,cur,h1,h2,h3,h4,h5,h6⟩
 ·obtain⟨rfl,-,rfl⟩:p=none/\0=0/\c=0:=by injection h1 with a b d;exact⟨a,b,d⟩
  obtain rfl:xs=[]:=AF (by rw[h.len,Zk])
  exact vn w size
 ·obtain⟨rfl,-,rfl⟩:p=some ⟨g,o,none⟩/\n=n/\c=cap:=by injection h1 with a b d;exact⟨a,b,d⟩
  refine⟨h.len,h3,h4,λh=>(by cases h),h.one,λx hx h0=>⟨g,o,(AI hx).symm,(Ad.1 h2).1,λj u hj=>?_⟩⟩
  rw[WZ _ _ _ _ _ _ h2,<-Ao]
  rw[<-h6]at hj
  have hlt:j<n*size:=by have:=(WY.1 hj).1;rw[Ai]at this;omega
  rw[An hlt,Au]at hj
  exact hj
theorem Us.move{w w':World}{e size:Nat}{v:Value}{n:Nat}{xs:List Value}(h:Us w e size v n xs)(hb:∀g,v.ownBlock=some g->w'.heap[g]?=w.heap[g]?):Us w' e size v n xs:=
 ⟨h.len,h.one,h.is.imp id λ⟨g,o,cap,cur,h1,h2,r⟩=>⟨g,o,cap,cur,h1,(hb g (by rw[h1];rfl)).trans h2,r⟩⟩
theorem Us.block{w:World}{e size:Nat}{v:Value}{n:Nat}{xs:List Value}(h:Us w e size v n xs){g:Nat}(hg:v.ownBlock=some g):∃cur,w.heap[g]?=some (.cells cur e (0,0)):=by
 rcases h.is with⟨h1,_⟩|⟨g',o,cap,cur,h1,h2,_⟩
 ·rw[h1]at hg;cases hg
 ·rw[h1]at hg
  obtain rfl:g'=g:=AI hg
  exact⟨cur,h2⟩
def own(b:Nat)(L:Sls)(g:Nat):Prop:=g=b\/L.c.ownBlock=some g\/L.u.ownBlock=some g\/L.a.ownBlock=some g
structure Its(N:Nat)(w:World)(b:Nat)(s:Cr)(L:Sls):Prop where
 ic:Us w 68 11 L.c s.coms.length (flat cml s.coms)
 iu:Us w 132 28 L.u s.under.length (flat dgl s.under)
 ia:Us w 135 7 L.a s.asked.length (flat cel s.asked)
 im:∃p cap,L.m=.slice p s.n cap/\Bys w p s.n cap s.f
 ifr:∃p cap,L.f=.slice p s.free.length cap/\Re.Lie w p s.free.length cap (λi=>s.free.getD i 0)
 isl:∃p cap,L.s=.slice p s.slots.length cap/\LC w p s.slots.length cap 2 (scs s.slots)
 ir:∃p cap,L.r=.slice p s.scr.length cap/\LC w p s.scr.length cap 1 (ics s.scr)
 sm:∀g,L.m.ownBlock=some g->0<s.n->¬own b L g
 sf:∀g,L.f.ownBlock=some g->0<s.free.length->¬own b L g
 ss:∀g,L.s.ownBlock=some g->0<s.slots.length->¬own b L g
 sr:∀g,L.r.ownBlock=some g->0<s.scr.length->¬own b L g
 base:∀g,own b L g->N<=g
 tb:Tab w
 tb2:Tab2 w
 g1:0<N
 g2:2<N
 nN:N<=w.heap.size
structure St(N:Nat)(w:World)(b:Nat)(s:Cr)(L:Sls):Prop where
 row:w.heap[b]?=some (.cells (rowOf (kat s L) 339) 66 (0,0))
 its:Its N w b s L
structure To(b:Nat)(w:World)(L:Sls)(w':World)(L':Sls):Prop where
 os:w'.os=w.os
 tape:w'.tape=w.tape
 output:w'.output=w.output
 size:w.heap.size<=w'.heap.size
 block:∀g,g<w.heap.size->¬own b L g->w'.heap[g]?=w.heap[g]?
 fresh:∀g,own b L' g->own b L g\/w.heap.size<=g
theorem To.refl(b:Nat)(w:World)(L:Sls):To b w L w L:=⟨rfl,rfl,rfl,Aa _,λ_ _ _=>rfl,λ_ h=>.inl h⟩
theorem To.trans{b:Nat}{w w1 w2:World}{L L1 L2:Sls}(h:To b w L w1 L1)(k:To b w1 L1 w2 L2):To b w L w2 L2:=by
 refine⟨k.os.trans h.os,k.tape.trans h.tape,k.output.trans h.output,AH h.size k.size,λg hg hn=>?_,λg hg=>?_⟩
 ·rw[k.block g (Ag hg h.size) (λho=>?_),h.block g hg hn]
  rcases h.fresh g ho with h'|h'
  ·exact hn h'
  ·omega
 ·rcases k.fresh g hg with h'|h'
  ·exact h.fresh g h'
  ·exact .inr (AH h.size h')
theorem zf{b:Nat}{w w':World}(L:Sls)(h:Below w.heap.size w w'):To b w L w' L:=⟨h.os,h.tape,h.output,h.size,λg hg _=>h.block g hg,λ_ h=>.inl h⟩
theorem qR{N:Nat}{w:World}{b:Nat}{s:Cr}{L:Sls}(h:St N w b s L){g:Nat}(hg:own b L g):g<w.heap.size:=by
 rcases hg with rfl|hg|hg|hg
 ·exact(Ad.1 h.row).1
 ·obtain⟨cur,e⟩:=h.its.ic.block hg;exact(Ad.1 e).1
 ·obtain⟨cur,e⟩:=h.its.iu.block hg;exact(Ad.1 e).1
 ·obtain⟨cur,e⟩:=h.its.ia.block hg;exact(Ad.1 e).1
end Go.Proofs.YtpiohehijkpghacGreatDoor.Co
namespace Go.Proofs.YtpiohehijkpghacGreatDoor.Co
open Go.RowKit
open Hy
open Wi Od Re.Hy
open Gu.Hy (Tb tcs)
def upf(f:Nat->Value)(i:Nat)(v:Value):Nat->Value:=λj=>if j=i then v else f j
def ups(f:Nat->Value)(o n:Nat)(g:Nat->Value):Nat->Value:=λj=>if o<=j/\j<o+n then g (j-o)else f j
theorem heap_put{w:World}{b i:Nat}{cs:Array Value}{t:TypeId}{fr:Nat×Nat}{v:Value}(h:w.heap[b]?=some (.cells cs t fr)):(w.setCell ⟨b,i,none⟩ v).heap[b]?=some (.cells (cs.setIfInBounds i v) t fr):=Re.zB h
theorem zds{w:World}{b i n:Nat}{f:Nat->Value}{t:TypeId}{fr:Nat×Nat}{v:Value}(h:w.heap[b]?=some (.cells (rowOf f n) t fr)):(w.setCell ⟨b,i,none⟩ v).heap[b]?=some (.cells (rowOf (upf f i v) n) t fr):=by
 rw[heap_put h,jP]
 rfl
theorem qa(w:World)(b o:Nat)(vs:List Value){g:Nat}(h:g≠b):(w.setCells b o vs).heap[g]?=w.heap[g]?:=by
 induction vs generalizing w o with
 |nil=>rfl
 |cons v vs ih=>
  show((w.setCell ⟨b,o,none⟩ v).setCells b (o+1) vs).heap[g]?=_
  rw[ih]
  exact Re.zD v h
theorem vK(w:World)(b o:Nat)(vs:List Value):(w.setCells b o vs).heap.size=w.heap.size:=by
 induction vs generalizing w o with
 |nil=>rfl
 |cons v vs ih=>
  show((w.setCell ⟨b,o,none⟩ v).setCells b (o+1) vs).heap.size=_
  rw[ih]
  simp
theorem zbn{b n:Nat}{t:TypeId}{fr:Nat×Nat}:∀(vs:List Value) {w:World} {o:Nat} {f:Nat->Value} (g:Nat->Value),(∀j u,vs[j]?=some u->u=g j)->w.heap[b]?=some (.cells (rowOf f n) t fr)->(w.setCells b o vs).heap[b]?=some (.cells (rowOf (ups f o vs.length g) n) t fr)
 |[],w,o,f,g,hg,h=>by
  show w.heap[b]?=_
  rw[h]
  congr 2
  refine qo λi hi=>?_
  unfold ups
  rw[if_neg (by simp only[ZF];omega)]
 |v::vs,w,o,f,g,hg,h=>by
  show((w.setCell ⟨b,o,none⟩ v).setCells b (o+1) vs).heap[b]?=_
  rw[zbn vs (λj=>g (j+1)) (λj u hj=>hg (j+1) u (by simpa using hj)) (zds h)]
  congr 2
  refine qo λi hi=>?_
  have h0:=hg 0 v rfl
  unfold ups upf
  rw[Zg]
  by_cases e:i=o
  ·subst e
   rw[if_neg (by omega),if_pos rfl,if_pos (by omega),h0,ZP]
  ·by_cases e2:o+1<=i/\i<o+1+vs.length
   ·rw[if_pos e2,if_pos (by omega),show i-o=i-(o+1)+1 by omega]
   ·rw[if_neg e2,if_neg e,if_neg (by omega)]
theorem jB{w:World}{b n o m:Nat}{f g:Nat->Value}{t:TypeId}{fr:Nat×Nat}(h:w.heap[b]?=some (.cells (rowOf f n) t fr))(hm:o+m<=n)(e:∀j,j<m->f (o+j)=g j):w.rangeAt b o (rowOf g m).toList:=λj v hv=>by
 have hj:j<m:=by have:=(WY.1 hv).1;simpa[ze]using this
 rw[Ao,zw g hj]at hv
 rw[WZ _ _ _ _ _ _ h,zw f (by omega),e j hj]
 exact hv
theorem xi{w:World}{b n o m:Nat}{f:Nat->Value}{t:TypeId}(h:w.heap[b]?=some (.cells (rowOf f n) t (0,0)))(hm:o+m<=n):w.there b o m:=λj hj=>by
 refine⟨?_,AU _ _ _ _ _ h⟩
 rw[WZ _ _ _ _ _ _ h,zw f (by omega)]
 rfl
theorem zd{w:World}{b n i:Nat}{f:Nat->Value}{t:TypeId}{fr:Nat×Nat}(h:w.heap[b]?=some (.cells (rowOf f n) t fr))(hi:i<n):w.cell? ⟨b,i,none⟩=some (f i):=by
 rw[WZ _ _ _ _ _ _ h,zw f hi]
theorem qM{w w':World}{a:Option Addr}{n c size:Nat}{cs:List Value}(h:LC w a n c size cs)(hs:w.heap.size<=w'.heap.size)(hb:0<n->∀x,a=some x->w'.heap[x.block]?=w.heap[x.block]?):LC w' a n c size cs:=
 ⟨h.len,h.le,h.top,h.nil,h.one,λx hx h0=>by
  have e:=hb h0 x hx
  obtain⟨b,o,rfl,hlt,hc⟩:=h.ad x hx h0
  exact⟨b,o,rfl,Ag hlt hs,λj u hj=>(Aw (w:=w) (a:=⟨b,o+j,none⟩) e).trans (hc j u hj)⟩⟩
theorem zbo{w w':World}{a:Option Addr}{n c:Nat}{f:Nat->Int}(h:Re.Lie w a n c f)(hb:0<n->∀x,a=some x->w'.heap[x.block]?=w.heap[x.block]?):Re.Lie w' a n c f:=
 ⟨h.le,h.top,h.nil,h.wf,λx hx h0=>by
  have e:=hb h0 x hx
  obtain⟨b,o,rfl,hc⟩:=h.ad x hx h0
  exact⟨b,o,rfl,λi hi=>(Aw (w:=w) (a:=⟨b,o+i,none⟩) e).trans (hc i hi)⟩⟩
theorem xE{w w':World}{p:Option Addr}{n c:Nat}{f:Nat->Int}(h:Bys w p n c f)(hb:0<n->∀x,p=some x->w'.heap[x.block]?=w.heap[x.block]?):Bys w' p n c f:=
 ⟨h.hn,h.hnc,λh0=>by
  obtain⟨g,o,rfl,hl⟩:=h.hm h0
  have e:=hb h0 _ rfl
  exact⟨g,o,rfl,λi hi=>(Aw (w:=w) (a:=⟨g,o+i,none⟩) e).trans (hl i hi)⟩,h.hf⟩
theorem Its.mv{N:Nat}{w w':World}{b:Nat}{s:Cr}{L:Sls}(h:Its N w b s L)(hs:w.heap.size<=w'.heap.size)(h1:∀g,¬own b L g->g<w.heap.size->w'.heap[g]?=w.heap[g]?)
  (h2:∀g,(L.c.ownBlock=some g\/L.u.ownBlock=some g\/L.a.ownBlock=some g)->w'.heap[g]?=w.heap[g]?):Its N w' b s L:=by
 have lt:∀{g:Nat} {j:Nat} {v:Value},w.cell? ⟨g,j,none⟩=some v->g<w.heap.size:=λhv=>Ak _ _ hv
 obtain⟨pm,cm,em,hm⟩:=h.im
 obtain⟨pf,cf,ef,hf⟩:=h.ifr
 obtain⟨ps,cs,es,hsl⟩:=h.isl
 obtain⟨pr,cr,er,hr⟩:=h.ir
 have nT:0<w.heap.size:=h.tb.size
 have nT2:2<w.heap.size:=h.tb2.size
 have kT:w'.heap[0]?=w.heap[0]?:=h1 _ (λho=>by have:=h.base _ ho;have:=h.g1;omega) nT
 have kT2:w'.heap[2]?=w.heap[2]?:=h1 _ (λho=>by have:=h.base _ ho;have:=h.g2;omega) nT2
 refine⟨h.ic.move (λg hg=>h2 g (.inl hg)),h.iu.move (λg hg=>h2 g (.inr (.inl hg))),h.ia.move (λg hg=>h2 g (.inr (.inr hg))),
  ⟨pm,cm,em,xE hm λh0 x hx=>?_⟩,⟨pf,cf,ef,zbo hf λh0 x hx=>?_⟩,⟨ps,cs,es,qM hsl hs λh0 x hx=>?_⟩,⟨pr,cr,er,qM hr hs λh0 x hx=>?_⟩,
  h.sm,h.sf,h.ss,h.sr,h.base,λi hi=>(Aw (w:=w) (a:=⟨0,i,none⟩) kT).trans (h.tb i hi),λi hi=>(Aw (w:=w) (a:=⟨2,i,none⟩) kT2).trans (h.tb2 i hi),h.g1,h.g2,AH h.nN hs⟩
 ·obtain⟨g,o,e,hl⟩:=hm.hm h0
  rw[hx]at e
  cases e
  exact h1 g (h.sm g (by rw[em,hx];rfl) h0) (lt (hl 0 h0))
 ·obtain⟨g,o,e,hl⟩:=hf.ad x hx h0
  subst e
  exact h1 g (h.sf g (by rw[ef,hx];rfl) h0) (lt (hl 0 h0))
 ·obtain⟨g,o,e,hlt,_⟩:=hsl.ad x hx h0
  subst e
  exact h1 g (h.ss g (by rw[es,hx];rfl) h0) hlt
 ·obtain⟨g,o,e,hlt,_⟩:=hr.ad x hx h0
  subst e
  exact h1 g (h.sr g (by rw[er,hx];rfl) h0) hlt
theorem Its.lt{N:Nat}{w:World}{b:Nat}{s:Cr}{L:Sls}(h:Its N w b s L){g:Nat}(hg:L.c.ownBlock=some g\/L.u.ownBlock=some g\/L.a.ownBlock=some g):g<w.heap.size:=by
 rcases hg with hg|hg|hg
 ·obtain⟨cur,e⟩:=h.ic.block hg;exact(Ad.1 e).1
 ·obtain⟨cur,e⟩:=h.iu.block hg;exact(Ad.1 e).1
 ·obtain⟨cur,e⟩:=h.ia.block hg;exact(Ad.1 e).1
theorem Its.below{N:Nat}{w w':World}{b:Nat}{s:Cr}{L:Sls}(h:Its N w b s L)(hb:Below w.heap.size w w'):Its N w' b s L:=
 h.mv hb.size (λg _ hg=>hb.block g hg) (λg hg=>hb.block g (h.lt hg))
theorem St.below{N:Nat}{w w':World}{b:Nat}{s:Cr}{L:Sls}(h:St N w b s L)(hb:Below w.heap.size w w'):St N w' b s L:=
 ⟨(hb.block b (Ad.1 h.row).1).trans h.row,h.its.below hb⟩
theorem Its.ne{N:Nat}{w:World}{b:Nat}{s:Cr}{L:Sls}(h:Its N w b s L){cs:Array Value}{fr:Nat×Nat}(row:w.heap[b]?=some (.cells cs 66 fr)){g:Nat}(hg:L.c.ownBlock=some g\/L.u.ownBlock=some g\/L.a.ownBlock=some g):g≠b:=λe=>by
 subst e
 rcases hg with hg|hg|hg
 ·obtain⟨cur,e⟩:=h.ic.block hg;rw[row]at e;cases e
 ·obtain⟨cur,e⟩:=h.iu.block hg;rw[row]at e;cases e
 ·obtain⟨cur,e⟩:=h.ia.block hg;rw[row]at e;cases e
theorem Its.core{N:Nat}{w w':World}{b:Nat}{s:Cr}{L:Sls}(h:Its N w b s L){cs:Array Value}{fr:Nat×Nat}(row:w.heap[b]?=some (.cells cs 66 fr))(hs:w'.heap.size=w.heap.size)(hb:∀g,g≠b->w'.heap[g]?=w.heap[g]?):Its N w' b s L:=
 h.mv (by omega) (λg hg _=>hb g (λe=>hg (.inl e))) (λg hg=>hb g (h.ne row hg))
theorem Its.put{N:Nat}{w:World}{b:Nat}{s:Cr}{L:Sls}(h:Its N w b s L){cs:Array Value}{fr:Nat×Nat}(row:w.heap[b]?=some (.cells cs 66 fr))(i:Nat)(v:Value):Its N (w.setCell ⟨b,i,none⟩ v) b s L:=
 h.core row (by simp) (λg hg=>Re.zD v hg)
theorem Its.puts{N:Nat}{w:World}{b:Nat}{s:Cr}{L:Sls}(h:Its N w b s L){cs:Array Value}{fr:Nat×Nat}(row:w.heap[b]?=some (.cells cs 66 fr))(o:Nat)(vs:List Value):Its N (w.setCells b o vs) b s L:=
 h.core row (vK w b o vs) (λg hg=>qa w b o vs hg)
theorem St.cell{N:Nat}{w:World}{b:Nat}{s:Cr}{L:Sls}{f:Nat->Value}(row:w.heap[b]?=some (.cells (rowOf f 339) 66 (0,0)))(its:Its N w b s L)(i:Nat)(v:Value)(hk:∀j,j<339->upf f i v j=kat s L j):St N (w.setCell ⟨b,i,none⟩ v) b s L:=
 ⟨by rw[zds row,qo hk],its.put row i v⟩
theorem St.cells{N:Nat}{w:World}{b:Nat}{s:Cr}{L:Sls}{f g:Nat->Value}{n:Nat}(row:w.heap[b]?=some (.cells (rowOf f 339) 66 (0,0)))(its:Its N w b s L)(o:Nat)(hk:∀j,j<339->ups f o n g j=kat s L j):St N (w.setCells b o (rowOf g n).toList) b s L:=by
 refine⟨?_,its.puts row o _⟩
 have:=zbn (rowOf g n).toList (w:=w) (o:=o) (b:=b) (f:=f) (n:=339) g (λj u hj=>?_) row
 ·rw[this]
  congr 2
  rw[show(rowOf g n).toList.length=n by simp[ze]]
  exact qo hk
 ·have hj':j<n:=by have:=(WY.1 hj).1;simpa[ze]using this
  rw[Ao,zw g hj']at hj
  exact(AI hj).symm
theorem zhx{b:Nat}{w w':World}{L L':Sls}(ho:w'.os=w.os)(ht:w'.tape=w.tape)(hp:w'.output=w.output)(hs:w'.heap.size=w.heap.size)(hb:∀g,g≠b->w'.heap[g]?=w.heap[g]?)(hf:∀g,own b L' g->own b L g\/w.heap.size<=g):To b w L w' L':=
 ⟨ho,ht,hp,by omega,λg _ hg=>hb g (λe=>hg (.inl e)),hf⟩
theorem zl5(s:Cr)(L:Sls)(x:Int):∀j,j<339->upf (kat s L) 40 (.int .i64 x) j=kat {s with cyc:=x} L j:=λj _=>by
 simp only[upf,kat]
 by_cases e:j=40
 ·subst e;rfl
 ·simp[e]
theorem zl6(s:Cr)(L:Sls)(x:Int):∀j,j<339->upf (kat s L) 41 (.int .i64 x) j=kat {s with tak:=x} L j:=λj _=>by
 simp only[upf,kat]
 by_cases e:j=41
 ·subst e;rfl
 ·simp[e]
theorem zl7(s:Cr)(L:Sls)(x:Int):∀j,j<339->upf (kat s L) 42 (.int .i64 x) j=kat {s with bck:=x} L j:=λj _=>by
 simp only[upf,kat]
 by_cases e:j=42
 ·subst e;rfl
 simp only[e,if_false]
 by_cases h4:j<4
 ·simp only[h4,if_true,if_false]
 ·by_cases h39:j<39
  ·simp only[h4,h39,if_true,if_false]
  ·by_cases h43:j<43
   ·simp only[h4,h39,h43,if_true,if_false]
    have:j=39\/j=40\/j=41:=by omega
    rcases this with e|e|e<;>(subst e;rfl)
   ·by_cases h107:j<107
    ·simp only[h4,h39,h43,h107,if_true,if_false]
    ·by_cases h141:j<141
     ·simp only[h4,h39,h43,h107,h141,if_true,if_false]
     ·by_cases h237:j<237
      ·simp only[h4,h39,h43,h107,h141,h237,if_true,if_false]
      ·by_cases h333:j<333
       ·simp only[h4,h39,h43,h107,h141,h237,h333,if_true,if_false]
       ·simp only[h4,h39,h43,h107,h141,h237,h333,if_false]
theorem zl8(s:Cr)(L:Sls)(x:Int):∀j,j<339->upf (kat s L) 337 (.int .u32 x) j=kat {s with fro:=x} L j:=λj _=>by
 simp only[upf,kat]
 by_cases e:j=337
 ·subst e;rfl
 ·simp[e]
theorem zl9(s:Cr)(L:Sls)(x:Bool):∀j,j<339->upf (kat s L) 338 (.bool x) j=kat {s with opn:=x} L j:=λj _=>by
 simp only[upf,kat]
 by_cases e:j=338
 ·subst e;rfl
 simp only[e,if_false]
 by_cases h4:j<4
 ·simp only[h4,if_true,if_false]
 ·by_cases h39:j<39
  ·simp only[h4,h39,if_true,if_false]
  ·by_cases h43:j<43
   ·simp only[h4,h39,h43,if_true,if_false]
   ·by_cases h107:j<107
    ·simp only[h4,h39,h43,h107,if_true,if_false]
    ·by_cases h141:j<141
     ·simp only[h4,h39,h43,h107,h141,if_true,if_false]
     ·by_cases h237:j<237
      ·simp only[h4,h39,h43,h107,h141,h237,if_true,if_false]
      ·by_cases h333:j<333
       ·simp only[h4,h39,h43,h107,h141,h237,h333,if_true,if_false]
       ·simp only[h4,h39,h43,h107,h141,h237,h333,if_false]
        have:j=333\/j=334\/j=335\/j=336\/j=337:=by omega
        rcases this with e|e|e|e|e<;>(subst e;rfl)
theorem zpG(s:Cr)(L:Sls)(x:Value):∀j,j<339->upf (kat s L) 39 (x) j=kat s {L with m:=x} j:=λj _=>by
 simp only[upf,kat]
 by_cases e:j=39
 ·subst e;rfl
 ·simp[e]
theorem zn7(s:Cr)(L:Sls)(x:Value):∀j,j<339->upf (kat s L) 333 (x) j=kat s {L with s:=x} j:=λj _=>by
 simp only[upf,kat]
 by_cases e:j=333
 ·subst e;rfl
 ·simp[e]
theorem zn8(s:Cr)(L:Sls)(x:Value):∀j,j<339->upf (kat s L) 334 (x) j=kat s {L with u:=x} j:=λj _=>by
 simp only[upf,kat]
 by_cases e:j=334
 ·subst e;rfl
 ·simp[e]
theorem zn9(s:Cr)(L:Sls)(x:Value):∀j,j<339->upf (kat s L) 335 (x) j=kat s {L with a:=x} j:=λj _=>by
 simp only[upf,kat]
 by_cases e:j=335
 ·subst e;rfl
 ·simp[e]
theorem zoa(s:Cr)(L:Sls)(x:Value):∀j,j<339->upf (kat s L) 336 (x) j=kat s {L with r:=x} j:=λj _=>by
 simp only[upf,kat]
 by_cases e:j=336
 ·subst e;rfl
 ·simp[e]
theorem zpH(s:Cr)(L:Sls)(x:Value):∀j,j<339->upf (kat s L) 3 x j=kat s {L with c:=x} j:=λj _=>by
 simp only[upf,kat]
 by_cases e:j=3
 ·subst e;rfl
 simp only[e,if_false]
 by_cases h4:j<4
 ·simp only[h4,if_true,if_false]
  have:j=0\/j=1\/j=2:=by omega
  rcases this with e|e|e<;>(subst e;rfl)
 ·by_cases h39:j<39
  ·simp only[h4,h39,if_true,if_false]
  ·by_cases h43:j<43
   ·simp only[h4,h39,h43,if_true,if_false]
   ·by_cases h107:j<107
    ·simp only[h4,h39,h43,h107,if_true,if_false]
    ·by_cases h141:j<141
     ·simp only[h4,h39,h43,h107,h141,if_true,if_false]
     ·by_cases h237:j<237
      ·simp only[h4,h39,h43,h107,h141,h237,if_true,if_false]
      ·by_cases h333:j<333
       ·simp only[h4,h39,h43,h107,h141,h237,h333,if_true,if_false]
       ·simp only[h4,h39,h43,h107,h141,h237,h333,if_false]
theorem zob(s:Cr)(L:Sls)(x v:Int)(h0:0<=x)(h1:x<96):∀j,j<339->upf (kat s L) (141+x.toNat) (.int .u32 v) j=kat {s with wd:=upI s.wd x v} L j:=λj _=>by
 simp only[upf,kat]
 by_cases e:j=141+x.toNat
 ·subst e
  rw[if_pos rfl,if_neg (by omega),if_neg (by omega),if_neg (by omega),if_neg (by omega),if_neg (by omega),if_pos (by omega)]
  unfold upI
  rw[if_pos (by omega)]
 simp only[e,if_false]
 by_cases h4:j<4
 ·simp only[h4,if_true,if_false]
 ·by_cases h39:j<39
  ·simp only[h4,h39,if_true,if_false]
  ·by_cases h43:j<43
   ·simp only[h4,h39,h43,if_true,if_false]
   ·by_cases h107:j<107
    ·simp only[h4,h39,h43,h107,if_true,if_false]
    ·by_cases h141:j<141
     ·simp only[h4,h39,h43,h107,h141,if_true,if_false]
     ·by_cases h237:j<237
      ·simp only[h4,h39,h43,h107,h141,h237,if_true,if_false]
       unfold upI
       rw[if_neg (by omega)]
      ·by_cases h333:j<333
       ·simp only[h4,h39,h43,h107,h141,h237,h333,if_true,if_false]
       ·simp only[h4,h39,h43,h107,h141,h237,h333,if_false]
theorem zoc(s:Cr)(L:Sls)(x:Int)(v:Bool)(h0:0<=x)(h1:x<96):∀j,j<339->upf (kat s L) (237+x.toNat) (.bool v) j=kat {s with th:=upB s.th x v} L j:=λj _=>by
 simp only[upf,kat]
 by_cases e:j=237+x.toNat
 ·subst e
  rw[if_pos rfl,if_neg (by omega),if_neg (by omega),if_neg (by omega),if_neg (by omega),if_neg (by omega),if_neg (by omega),if_pos (by omega)]
  unfold upB
  rw[if_pos (by omega)]
 simp only[e,if_false]
 by_cases h4:j<4
 ·simp only[h4,if_true,if_false]
 ·by_cases h39:j<39
  ·simp only[h4,h39,if_true,if_false]
  ·by_cases h43:j<43
   ·simp only[h4,h39,h43,if_true,if_false]
   ·by_cases h107:j<107
    ·simp only[h4,h39,h43,h107,if_true,if_false]
    ·by_cases h141:j<141
     ·simp only[h4,h39,h43,h107,h141,if_true,if_false]
     ·by_cases h237:j<237
      ·simp only[h4,h39,h43,h107,h141,h237,if_true,if_false]
      ·by_cases h333:j<333
       ·simp only[h4,h39,h43,h107,h141,h237,h333,if_true,if_false]
        unfold upB
        rw[if_neg (by omega)]
       ·simp only[h4,h39,h43,h107,h141,h237,h333,if_false]
theorem zjP(s:Cr)(L:Sls)(R:Nat->Int)(pc st ca:Int):∀j,j<339->ups (kat s L) 4 35 (hat R pc st ca) j=kat {s with R:=R,pc:=pc,st:=st,ca:=ca} L j:=λj _=>by
 simp only[ups,kat]
 by_cases e:4<=j/\j<4+35
 ·rw[if_pos e,if_neg (by omega),if_pos (by omega)]
 simp only[e,if_false]
 by_cases h4:j<4
 ·simp only[h4,if_true,if_false]
 ·by_cases h39:j<39
  ·simp only[h4,h39,if_true,if_false]
   omega
  ·by_cases h43:j<43
   ·simp only[h4,h39,h43,if_true,if_false]
   ·by_cases h107:j<107
    ·simp only[h4,h39,h43,h107,if_true,if_false]
    ·by_cases h141:j<141
     ·simp only[h4,h39,h43,h107,h141,if_true,if_false]
     ·by_cases h237:j<237
      ·simp only[h4,h39,h43,h107,h141,h237,if_true,if_false]
      ·by_cases h333:j<333
       ·simp only[h4,h39,h43,h107,h141,h237,h333,if_true,if_false]
       ·simp only[h4,h39,h43,h107,h141,h237,h333,if_false]
theorem zod(s:Cr)(L:Sls)(t:Tb):∀j,j<339->ups (kat s L) 43 64 (tat t) j=kat {s with tb:=t} L j:=λj _=>by
 simp only[ups,kat]
 by_cases e:43<=j/\j<43+64
 ·rw[if_pos e,if_neg (by omega),if_neg (by omega),if_neg (by omega),if_pos (by omega)]
 simp only[e,if_false]
 by_cases h4:j<4
 ·simp only[h4,if_true,if_false]
 ·by_cases h39:j<39
  ·simp only[h4,h39,if_true,if_false]
  ·by_cases h43:j<43
   ·simp only[h4,h39,h43,if_true,if_false]
   ·by_cases h107:j<107
    ·simp only[h4,h39,h43,h107,if_true,if_false]
     omega
    ·by_cases h141:j<141
     ·simp only[h4,h39,h43,h107,h141,if_true,if_false]
     ·by_cases h237:j<237
      ·simp only[h4,h39,h43,h107,h141,h237,if_true,if_false]
      ·by_cases h333:j<333
       ·simp only[h4,h39,h43,h107,h141,h237,h333,if_true,if_false]
       ·simp only[h4,h39,h43,h107,h141,h237,h333,if_false]
theorem zhy(s:Cr)(L:Sls)(r:Nat->Int)(v:Value)(fr:List Int):∀j,j<339->ups (kat s L) 107 34 (mat s.phys r v) j=kat {s with regs:=r,free:=fr} {L with f:=v} j:=λj _=>by
 simp only[ups,kat]
 by_cases e:107<=j/\j<107+34
 ·rw[if_pos e,if_neg (by omega),if_neg (by omega),if_neg (by omega),if_neg (by omega),if_pos (by omega)]
 simp only[e,if_false]
 by_cases h4:j<4
 ·simp only[h4,if_true,if_false]
 ·by_cases h39:j<39
  ·simp only[h4,h39,if_true,if_false]
  ·by_cases h43:j<43
   ·simp only[h4,h39,h43,if_true,if_false]
   ·by_cases h107:j<107
    ·simp only[h4,h39,h43,h107,if_true,if_false]
    ·by_cases h141:j<141
     ·simp only[h4,h39,h43,h107,h141,if_true,if_false]
      omega
     ·by_cases h237:j<237
      ·simp only[h4,h39,h43,h107,h141,h237,if_true,if_false]
      ·by_cases h333:j<333
       ·simp only[h4,h39,h43,h107,h141,h237,h333,if_true,if_false]
       ·simp only[h4,h39,h43,h107,h141,h237,h333,if_false]
theorem zjQ(s:Cr)(L:Sls):∀j,j<34->kat s L (107+j)=mat s.phys s.regs L.f j:=λj hj=>by
 unfold kat
 rw[if_neg (by omega),if_neg (by omega),if_neg (by omega),if_neg (by omega),if_pos (by omega),Av]
theorem zpI(s:Cr)(L:Sls):∀j,j<64->kat s L (43+j)=tat s.tb j:=λj hj=>by
 unfold kat
 rw[if_neg (by omega),if_neg (by omega),if_neg (by omega),if_pos (by omega),Av]
theorem zdt(s:Cr)(L:Sls):∀j,j<35->kat s L (4+j)=hat s.R s.pc s.st s.ca j:=λj hj=>by
 unfold kat
 rw[if_neg (by omega),if_pos (by omega),Av]
theorem zoe(s:Cr)(L:Sls)(x:Int)(h0:0<=x)(h1:x<96):kat s L (237+x.toNat)=.bool (s.th x):=by
 unfold kat
 rw[if_neg (by omega),if_neg (by omega),if_neg (by omega),if_neg (by omega),if_neg (by omega),if_neg (by omega),if_pos (by omega),Av,AD h0]
theorem kJ(w:World)(b i:Nat)(v:Value):Below 0 w (w.setCell ⟨b,i,none⟩ v):=(Ab 0 w).setCell (p:=⟨b,i,none⟩) (Nat.zero_le _) v
theorem jQ{b:Nat}(w:World){L L':Sls}(i:Nat)(v:Value)(hf:∀g,own b L' g->own b L g\/w.heap.size<=g):To b w L (w.setCell ⟨b,i,none⟩ v) L':=
 zhx (kJ w b i v).os (kJ w b i v).tape (kJ w b i v).output (by simp) (λg hg=>Re.zD v hg) hf
theorem yj(w:World)(b o:Nat)(vs:List Value):(w.setCells b o vs).os=w.os/\(w.setCells b o vs).tape=w.tape/\(w.setCells b o vs).output=w.output:=by
 induction vs generalizing w o with
 |nil=>exact⟨rfl,rfl,rfl⟩
 |cons v vs ih=>
  have:=ih (w.setCell ⟨b,o,none⟩ v) (o+1)
  have h2:=kJ w b o v
  exact⟨this.1.trans h2.os,this.2.1.trans h2.tape,this.2.2.trans h2.output⟩
theorem zdu{b:Nat}(w:World){L L':Sls}(o:Nat)(vs:List Value)(hf:∀g,own b L' g->own b L g\/w.heap.size<=g):To b w L (w.setCells b o vs) L':=
 zhx (yj w b o vs).1 (yj w b o vs).2.1 (yj w b o vs).2.2 (vK w b o vs) (λg hg=>qa w b o vs hg) hf
theorem Its.setR{N:Nat}{w:World}{b:Nat}{s:Cr}{L:Sls}(h:Its N w b s L){v:Value}{l:List Int}(hr:∃p cap,v=.slice p l.length cap/\LC w p l.length cap 1 (ics l))(hs:∀g,v.ownBlock=some g->0<l.length->¬own b L g):Its N w b {s with scr:=l} {L with r:=v}:=
 ⟨h.ic,h.iu,h.ia,h.im,h.ifr,h.isl,hr,h.sm,h.sf,h.ss,hs,h.base,h.tb,h.tb2,h.g1,h.g2,h.nN⟩
theorem Its.setS{N:Nat}{w:World}{b:Nat}{s:Cr}{L:Sls}(h:Its N w b s L){v:Value}{l:List Sl}(hr:∃p cap,v=.slice p l.length cap/\LC w p l.length cap 2 (scs l))(hs:∀g,v.ownBlock=some g->0<l.length->¬own b L g):Its N w b {s with slots:=l} {L with s:=v}:=
 ⟨h.ic,h.iu,h.ia,h.im,h.ifr,hr,h.ir,h.sm,h.sf,hs,h.sr,h.base,h.tb,h.tb2,h.g1,h.g2,h.nN⟩
theorem Its.setF{N:Nat}{w:World}{b:Nat}{s:Cr}{L:Sls}(h:Its N w b s L){v:Value}{l:List Int}(r:Nat->Int)(hr:∃p cap,v=.slice p l.length cap/\Re.Lie w p l.length cap (λi=>l.getD i 0))(hs:∀g,v.ownBlock=some g->0<l.length->¬own b L g):Its N w b {s with regs:=r,free:=l} {L with f:=v}:=
 ⟨h.ic,h.iu,h.ia,h.im,hr,h.isl,h.ir,h.sm,hs,h.ss,h.sr,h.base,h.tb,h.tb2,h.g1,h.g2,h.nN⟩
theorem Its.setM{N:Nat}{w:World}{b:Nat}{s:Cr}{L:Sls}(h:Its N w b s L){v:Value}{f:Nat->Int}(hr:∃p cap,v=.slice p s.n cap/\Bys w p s.n cap f)(hs:∀g,v.ownBlock=some g->0<s.n->¬own b L g):Its N w b {s with f:=f} {L with m:=v}:=
 ⟨h.ic,h.iu,h.ia,hr,h.ifr,h.isl,h.ir,hs,h.sf,h.ss,h.sr,h.base,h.tb,h.tb2,h.g1,h.g2,h.nN⟩
theorem qp{b:Nat}{w:World}{L L':Sls}(hf:∀g,own b L' g->own b L g\/w.heap.size<=g){g:Nat}(hg:¬own b L g)(hl:g<w.heap.size):¬own b L' g:=λh=>by
 rcases hf g h with h|h
 ·exact hg h
 ·omega
theorem Its.blk{N:Nat}{w:World}{b:Nat}{s:Cr}{L:Sls}(h:Its N w b s L):(∀g,L.m.ownBlock=some g->0<s.n->g<w.heap.size)/\(∀g,L.f.ownBlock=some g->0<s.free.length->g<w.heap.size)/\(∀g,L.s.ownBlock=some g->0<s.slots.length->g<w.heap.size)/\(∀g,L.r.ownBlock=some g->0<s.scr.length->g<w.heap.size):=by
 obtain⟨pm,cm,em,hm⟩:=h.im
 obtain⟨pf,cf,ef,hf⟩:=h.ifr
 obtain⟨ps,cs,es,hsl⟩:=h.isl
 obtain⟨pr,cr,er,hr⟩:=h.ir
 have ob:∀{p:Option Addr} {n c g:Nat},(ZT p n c).ownBlock=some g->∃x,p=some x/\x.block=g:=λ{p n c g} e=>by
  cases p with
  |none=>cases e
  |some x=>exact⟨x,rfl,AI e⟩
 refine⟨λg hg h0=>?_,λg hg h0=>?_,λg hg h0=>?_,λg hg h0=>?_⟩
 ·rw[em]at hg
  obtain⟨x,hx,rfl⟩:=ob hg
  obtain⟨g,o,e,hl⟩:=hm.hm h0
  rw[hx]at e
  cases e
  exact Ak _ _ (hl 0 h0)
 ·rw[ef]at hg
  obtain⟨x,hx,rfl⟩:=ob hg
  obtain⟨g,o,e,hl⟩:=hf.ad x hx h0
  subst e
  exact Ak _ _ (hl 0 h0)
 ·rw[es]at hg
  obtain⟨x,hx,rfl⟩:=ob hg
  obtain⟨g,o,e,hlt,_⟩:=hsl.ad x hx h0
  subst e
  exact hlt
 ·rw[er]at hg
  obtain⟨x,hx,rfl⟩:=ob hg
  obtain⟨g,o,e,hlt,_⟩:=hr.ad x hx h0
  subst e
  exact hlt
theorem Its.own{N:Nat}{w w':World}{b:Nat}{s:Cr}{L L':Sls}(h:Its N w b s L)(hT:To b w L w' L')(hm:L'.m=L.m)(hf:L'.f=L.f)(hs:L'.s=L.s)(hr:L'.r=L.r){co:List Cm}{un:List Dg}{ak:List Ac}
  (hc:Us w' 68 11 L'.c co.length (flat cml co)) (hu:Us w' 132 28 L'.u un.length (flat dgl un)) (ha:Us w' 135 7 L'.a ak.length (flat cel ak)):Its N w' b {s with coms:=co,under:=un,asked:=ak} L':=by
 obtain⟨b1,b2,b3,b4⟩:=h.blk
 have nT:0<w.heap.size:=h.tb.size
 have nT2:2<w.heap.size:=h.tb2.size
 have kT:w'.heap[0]?=w.heap[0]?:=hT.block _ nT (λho=>by have:=h.base _ ho;have:=h.g1;omega)
 have kT2:w'.heap[2]?=w.heap[2]?:=hT.block _ nT2 (λho=>by have:=h.base _ ho;have:=h.g2;omega)
 obtain⟨pm,cm,em,hm'⟩:=h.im
 obtain⟨pf,cf,ef,hf'⟩:=h.ifr
 obtain⟨ps,cs,es,hs'⟩:=h.isl
 obtain⟨pr,cr,er,hr'⟩:=h.ir
 have ow:∀{p:Option Addr} {n c:Nat} {x:Addr},p=some x->(ZT p n c).ownBlock=some x.block:=λe=>by rw[e];rfl
 refine⟨hc,hu,ha,⟨pm,cm,hm.trans em,xE hm' λh0 x hx=>?_⟩,⟨pf,cf,hf.trans ef,zbo hf' λh0 x hx=>?_⟩,⟨ps,cs,hs.trans es,qM hs' hT.size λh0 x hx=>?_⟩,⟨pr,cr,hr.trans er,qM hr' hT.size λh0 x hx=>?_⟩,
  λg hg h0=>?_,λg hg h0=>?_,λg hg h0=>?_,λg hg h0=>?_,λg hg=>?_,λi hi=>(Aw (w:=w) (a:=⟨0,i,none⟩) kT).trans (h.tb i hi),λi hi=>(Aw (w:=w) (a:=⟨2,i,none⟩) kT2).trans (h.tb2 i hi),h.g1,h.g2,AH h.nN hT.size⟩
 ·have e:=ow (n:=s.n) (c:=cm) hx
  exact hT.block _ (b1 _ (em▸e) h0) (h.sm _ (em▸e) h0)
 ·have e:=ow (n:=s.free.length) (c:=cf) hx
  exact hT.block _ (b2 _ (ef▸e) h0) (h.sf _ (ef▸e) h0)
 ·have e:=ow (n:=s.slots.length) (c:=cs) hx
  exact hT.block _ (b3 _ (es▸e) h0) (h.ss _ (es▸e) h0)
 ·have e:=ow (n:=s.scr.length) (c:=cr) hx
  exact hT.block _ (b4 _ (er▸e) h0) (h.sr _ (er▸e) h0)
 ·rw[hm]at hg;exact qp hT.fresh (h.sm g hg h0) (b1 g hg h0)
 ·rw[hf]at hg;exact qp hT.fresh (h.sf g hg h0) (b2 g hg h0)
 ·rw[hs]at hg;exact qp hT.fresh (h.ss g hg h0) (b3 g hg h0)
 ·rw[hr]at hg;exact qp hT.fresh (h.sr g hg h0) (b4 g hg h0)
 ·rcases hT.fresh g hg with h'|h'
  ·exact h.base g h'
  ·have:=h.nN;omega
theorem zfG(i:In)(w:World):Calls prog 93 #[ivI i] w λe w'=>e=.returned (.int .i64 (gvs i))/\Below w.heap.size w w':=by
 obtain⟨op,rd,s1,s2,I⟩:=i
 unfold gvs
 simp only[]
 by_cases h:op=46
 ·subst h
  go_enter func93,ntmps93
  go_wp2
  go_ret
  exact⟨rfl,(Ab _ _).alloc (Aa _) _⟩
 ·have hq:(op==46)=false:=beq_eq_false_iff_ne.2 h
  rw[if_neg h]
  go_enter func93,ntmps93
  go_wp2
  go_ret
  exact⟨rfl,(Ab _ _).alloc (Aa _) _⟩
theorem vL(i:In)(w:World):Calls prog 125 #[ivI i] w λe w'=>e=.returned (.bool (sts i))/\Below w.heap.size w w':=by
 obtain⟨op,rd,s1,s2,I⟩:=i
 unfold sts
 simp only[]
 go_enter func125,ntmps125
 go_wp2
 all_goals(go_ret;refine⟨?_,(Ab _ _).alloc (Aa _) _⟩;simp_all;try omega)
theorem zaH(i:In)(w:World):Calls prog 116 #[ivI i] w λe w'=>e=.returned (.bool (trn i))/\Below w.heap.size w w':=by
 obtain⟨op,rd,s1,s2,I⟩:=i
 unfold trn
 simp only[]
 go_enter func116,ntmps116
 go_wp2
 all_goals(go_ret;refine⟨?_,(Ab _ _).alloc (Aa _) _⟩;simp_all;try omega)
theorem xa(x a b:Int)(w:World):Calls prog 26 #[.int .i64 x,.int .i64 a,.int .i64 b] w λe w'=>e=.returned (.bool (decide (a<=x/\x<=b)))/\w'=w:=by
 go_enter func26,ntmps26
 go_wp2
 all_goals(go_ret;refine⟨?_,rfl⟩;simp_all;try omega)
def mayC(win phys wide:Int):Bool:=decide (1<=win/\win<=32)&&decide (33<=phys/\phys<=96)&&decide (1<=wide/\wide<=4)
theorem zeJ(win phys wide:Int)(w:World):Calls prog 16 #[.agg #[.int .i64 win,.int .i64 phys,.int .i64 wide]] w λe w'=>e=.returned (.bool (mayC win phys wide))/\Below w.heap.size w w':=by
 unfold mayC
 obtain⟨a,ha⟩:∃a,a=decide (1<=win/\win<=32):=⟨_,rfl⟩
 obtain⟨b,hb⟩:∃a,a=decide (33<=phys/\phys<=96):=⟨_,rfl⟩
 obtain⟨c,hc⟩:∃a,a=decide (1<=wide/\wide<=4):=⟨_,rfl⟩
 have C1:=λw=>xa win 1 32 w
 have C2:=λw=>xa phys 33 96 w
 have C3:=λw=>xa wide 1 4 w
 rw[<-ha]at C1⊢
 rw[<-hb]at C2⊢
 rw[<-hc]at C3⊢
 clear ha hb hc
 cases a with
 |false=>
  go_enter func16,ntmps16
  go_wp2_with fail
  refine(C1 _).mono ?_
  rintro e w' ⟨rfl,rfl⟩
  go_wp2
  go_ret
  exact⟨rfl,(Ab _ _).alloc (Aa _) _⟩
 |true=>
  cases b with
  |false=>
   go_enter func16,ntmps16
   go_wp2_with fail
   refine(C1 _).mono ?_
   rintro e w' ⟨rfl,rfl⟩
   go_wp2_with fail
   refine(C2 _).mono ?_
   rintro e w' ⟨rfl,rfl⟩
   go_wp2
   go_ret
   exact⟨rfl,(Ab _ _).alloc (Aa _) _⟩
  |true=>
   go_enter func16,ntmps16
   go_wp2_with fail
   refine(C1 _).mono ?_
   rintro e w' ⟨rfl,rfl⟩
   go_wp2_with fail
   refine(C2 _).mono ?_
   rintro e w' ⟨rfl,rfl⟩
   go_wp2_with fail
   refine(C3 _).mono ?_
   rintro e w' ⟨rfl,rfl⟩
   go_wp2
   go_ret
   exact⟨rfl,(Ab _ _).alloc (Aa _) _⟩
theorem hid{p:Prop}(h:p):Hid p:=h
theorem zhz{N:Nat}{w:World}{b:Nat}{s:Cr}{L:Sls}(S:St N w b s L)(hn:s.coms.length<=4000)(h0:0<=s.cyc)(h1:s.cyc<=6000):Calls prog 51 #[.pointer (some ⟨b,0,none⟩)] w λe w'=>e=.returned (.int .i64 (left s))/\Below w.heap.size w w':=by
 obtain⟨p,c,e⟩:=S.its.ic.slice
 have k3:w.cell? ⟨b,3,none⟩=some (.slice p s.coms.length c):=(zd S.row (by omega)).trans (congrArg some e)
 have k40:w.cell? ⟨b,40,none⟩=some (.int .i64 s.cyc):=(zd S.row (by omega)).trans rfl
 have hl:left s=2000-s.coms.length-(6000-s.cyc)/30:=rfl
 rw[hl]
 generalize s.coms.length=n at*
 generalize s.cyc=y at*
 clear S hl e
 go_enter func51,ntmps51
 go_wp2
 go_region
 go_wp2
 go_ret
 exact⟨rfl,(Ab _ _).drew⟩
theorem qw:(prog.info? 132).map (·.size)=some 28:=by kernel_rfl
def zma(g b:Nat)(p:Dg->Bool)(w:World):Prop:=∀(W:World) (o:Dg),Below w.heap.size w W->Calls prog g #[dgv o,.pointer (some ⟨b,0,none⟩)] W λe w'=>e=.returned (.bool (p o))/\Below W.heap.size W w'
theorem zfH(B:Nat)(q:Int)(w:World)(hc:w.cell? ⟨B,0,none⟩=some (.int .i64 q)):zma 84 B (λo=>decide (o.seq=q)) w:=λW o hW=>by
 have hB:B<w.heap.size:=Ak _ _ hc
 have hc':W.cell? ⟨B,0,none⟩=some (.int .i64 q):=(hW.cell (p:=⟨B,0,none⟩) hB).trans hc
 have hB':B<W.heap.size:=Ag hB hW.size
 obtain⟨D,hD⟩:∃D,D=(dgl o).toArray:=⟨_,rfl⟩
 have d0:D[0]?=some (.int .i64 o.seq):=by rw[hD];rfl
 show Calls _ _ #[.agg (dgl o).toArray,_] _ _
 rw[<-hD]
 simp only[]
 generalize o.seq=x at*
 clear hc hW hD hB
 by_cases e:x=q
 ·subst e
  go_enter func84,ntmps84
  go_wp2
  go_ret
  exact⟨by simp,(Ab _ _).alloc (Aa _) _⟩
 ·have e':(x==q)=false:=beq_eq_false_iff_ne.2 e
  go_enter func84,ntmps84
  go_wp2
  go_ret
  exact⟨by simp[e],(Ab _ _).alloc (Aa _) _⟩
theorem zjR:∀args w,(callFunc 84 args).run prog w=.ok (.enter 84 args) w:=enters_of func84 (by kernel_rfl) rfl
structure FirstD(p:Dg->Bool)(l:List Dg)(m:Nat):Prop where
 le:m<=l.length
 no:∀j q,j<m->l[j]?=some q->p q=false
 yes:∀q,l[m]?=some q->p q=true
theorem zbp{w:World}{bb o k:Nat}{l:List Dg}{q:Dg}(hc:∀j u,(flat dgl l)[j]?=some u->w.cell? ⟨bb,o+j,none⟩=some u)(hq:l[k]?=some q):w.rangeAt bb (o+k*28) (dgl q):=λj v hv=>by
 rw[AT]
 exact hc _ _ (qK zH hq hv)
theorem jE(g b:Nat)(p:Dg->Bool)(eg:∀args w,(callFunc g args).run prog w=.ok (.enter g args) w)(a:Option Addr)(n c:Nat)(hn:n<=140737488355328)(l:List Dg)(m:Nat)(hm:Hid (FirstD p l m))(r:Int)(hr:Hid (r=if m<n then(m:Int)else-1))(w:World)(hL:Hid (LC w a n c 28 (flat dgl l)))(hA:Hid (zma g b p w)):
  Calls prog 83 #[.slice a n c,.func (.func g) #[] #[.pointer (some ⟨b,0,none⟩)]] w λe w'=>e=.returned (.int .i64 r)/\Below w.heap.size w w':=by
 have hlen:Hid (l.length=n):=by have:=hL.out.len;rw[kH zH]at this;show _=_;omega
 have hmn:m<=n:=by have:=hm.out.le;have:=hlen.out;omega
 go_enter func83,ntmps83
 go_wp2_with fail
 go_loopw [8] (λi wr=>∃k:Nat,k<=m/\i=.int .i64 k/\Hid (Below w.heap.size w wr))
  (λi _=>n-(intOf i).toNat)
 case atStart=>exact⟨0,by omega,rfl,Ab _ _⟩
 case round=>
  obtain⟨k,hk,rfl,HB⟩:=hrel
  by_cases hlt:k<n
  ·obtain⟨q,hq⟩:∃q,l[k]?=some q:=⟨_,WX (by rw[hlen.out];exact hlt)⟩
   obtain⟨bb,o,rfl,hb,hc⟩:=hL.out.sure (by omega)
   have HR:Hid (wr.rangeAt bb (o+k*28) (dgl q)):=λj v hv=>(HB.out.cell (p:=⟨bb,o+k*28+j,none⟩) hb).trans (zbp hc hq j v hv)
   have hcall:=hA.out wr q HB.out
   by_cases hkm:k=m
   ·subst hkm
    have hp:p q=true:=hm.out.yes _ hq
    rw[hp]at hcall
    have hrk:r=k:=by rw[hr.out,if_pos hlt]
    subst hrk
    clear hc hq hp
    go_wp2_with(refine AX rfl 132 _ rfl bb (o+k*28) rfl (dgl q) _ HR.out underlying132 rfl qw ?_)
    refine hcall.mono ?_
    rintro e w' ⟨rfl,hb'⟩
    have HB':Hid (Below w.heap.size w w'):=HB.out.trans (hb'.mono HB.out.size)
    clear hcall hb' HR
    go_wp2_with fail
    go_ret
    exact⟨rfl,HB'.out⟩
   ·have hp:p q=false:=hm.out.no k _ (by omega) hq
    rw[hp]at hcall
    clear hc hq hp
    go_wp2_with(refine AX rfl 132 _ rfl bb (o+k*28) rfl (dgl q) _ HR.out underlying132 rfl qw ?_)
    refine hcall.mono ?_
    rintro e w' ⟨rfl,hb'⟩
    have HB':Hid (Below w.heap.size w w'):=HB.out.trans (hb'.mono HB.out.size)
    clear hcall hb' HR
    go_wp2_with fail
    exact⟨⟨k+1,by omega,by go_num,HB'⟩,by simp[intOf];omega⟩
  ·have:k=n:=by omega
   subst this
   have hrk:r=-1:=by rw[hr.out,if_neg (by omega)]
   subst hrk
   go_wp2_with fail
   go_ret
   exact⟨rfl,HB.out⟩
theorem qS{N:Nat}{w:World}{b:Nat}{s:Cr}{L:Sls}(S:St N w b s L)(q:Int)(m:Nat)(hm:FirstD (λo=>decide (o.seq=q)) s.under m)(hn:s.under.length<=100000):
  Calls prog 58 #[.pointer (some ⟨b,0,none⟩),.int .i64 q] w λe w'=>e=.returned (.int .i64 (if m<s.under.length then(m:Int)else-1))/\Below w.heap.size w w':=by
 have hmf:∀(fn:Fn) (first cap:Array Value) (w:World),(Za fn first cap).run prog w=.ok (.func fn first cap) w:=λ_ _ _ _=>rfl
 obtain⟨p,c,e⟩:=S.its.iu.slice
 have k334:w.cell? ⟨b,334,none⟩=some (.slice p s.under.length c):=(zd S.row (by omega)).trans (congrArg some e)
 have hb:b<w.heap.size:=(Ad.1 S.row).1
 have hU:=S.its.iu
 rw[e]at hU
 have HL:Hid (LC w p s.under.length c 28 (flat dgl s.under)):=hU.lc
 have HM:Hid (FirstD (λo=>decide (o.seq=q)) s.under m):=hm
 generalize hu:s.under=l at*
 obtain⟨r,hr⟩:∃r:Int,r=if m<l.length then(m:Int)else-1:=⟨_,rfl⟩
 rw[<-hr]
 have HR:Hid (r=if m<l.length then(m:Int)else-1):=hr
 clear S hU e hm hr
 go_enter func58,ntmps58
 go_wp2_with fail
 refine(jE 84 w.heap.size (λo=>decide (o.seq=q)) zjR p l.length c (by omega) l m HM r HR _ (hid (HL.out.below (Aa _) ((Ab _ _).alloc (Aa _) _))) (hid (zfH w.heap.size q _ (by simp)))).mono ?_
 rintro e w' ⟨rfl,hk⟩
 go_wp2_with fail
 go_ret
 exact⟨rfl,((Ab _ _).alloc (Aa _) _).trans (hk.mono (by simp))⟩
def sel(p:Dg->Bool)(l:List Dg)(k:Nat):List Int:=((l.take k).filter p).map (·.seq)
theorem zkU(p:Dg->Bool)(l:List Dg)(k:Nat):(sel p l k).length<=k:=by
 unfold sel
 rw[ZC]
 exact AH (AS _ _) (by rw[Ai];omega)
theorem zhA{p:Dg->Bool}{l:List Dg}{k:Nat}{q:Dg}(h:l[k]?=some q)(hp:p q=true):sel p l (k+1)=sel p l k++[q.seq]:=by
 unfold sel
 rw[Zt,h]
 simp[hp]
theorem zkV{p:Dg->Bool}{l:List Dg}{k:Nat}{q:Dg}(h:l[k]?=some q)(hp:p q=false):sel p l (k+1)=sel p l k:=by
 unfold sel
 rw[Zt,h]
 simp[hp]
theorem zhB(p:Dg->Bool)(l:List Dg){k:Nat}(h:l.length<=k):sel p l k=(l.filter p).map (·.seq):=by
 unfold sel
 rw[Zi h]
theorem zkW:(prog.info? 3).map (λi=>(i.zero,i.size,i.bytes))=some (some (.int .i64 0),1,8):=by kernel_rfl
theorem zM(o:Dg):(prog.info? 132).map (·.size)=some (dgl o).toArray.size:=by rw[qw];rfl
theorem jd(o:Dg):(dgl o).toArray.all (·.oneCell')=true:=all_oneCell_toArray (zbm o)
theorem zof(g:Nat)(p:Dg->Bool)(eg:∀args w,(callFunc g args).run prog w=.ok (.enter g args) w){N:Nat}{w:World}{b:Nat}{s:Cr}{L:Sls}(S:St N w b s L)(hn:s.under.length<=100000)
  (hA:Hid (∀(W:World) (o:Dg),Below w.heap.size w W->o∈s.under->Calls prog g #[dgv o] W λe w'=>e=.returned (.bool (p o))/\Below W.heap.size W w')):
  Calls prog 56 #[.pointer (some ⟨b,0,none⟩),.func (.func g) #[] #[]] w λe w'=>(∃v,e=.returned v/\w'.ownsRow w.heap.size 3 1 v ((s.under.filter p).map (·.seq)).length (ics ((s.under.filter p).map (·.seq))))/\Below w.heap.size w w':=by
 obtain⟨i3,hi3,hz0,hz1,hz2⟩:=Zr zkW
 obtain⟨a,c,e⟩:=S.its.iu.slice
 have k334:w.cell? ⟨b,334,none⟩=some (.slice a s.under.length c):=(zd S.row (by omega)).trans (congrArg some e)
 have hU:=S.its.iu
 rw[e]at hU
 have HL:Hid (LC w a s.under.length c 28 (flat dgl s.under)):=hU.lc
 generalize hu:s.under=l at*
 clear S hU e hu
 go_enter func56,ntmps56
 go_wp2_with fail
 go_loopw [5,13] (λv i wr=>∃k:Nat,k<=l.length/\i=.int .i64 k/\Hid (wr.ownsRow w.heap.size 3 1 v (sel p l k).length (ics (sel p l k)))/\Hid (Below w.heap.size w wr))
  (λ_ i _=>l.length-(intOf i).toNat)
 case atStart=>exact⟨0,by omega,rfl,AQ _ _ _ _,Ab _ _⟩
 case round=>
  obtain⟨k,hk,rfl,HV,HB⟩:=hrel
  have hsl:=zkU p l k
  by_cases hlt:k<l.length
  ·obtain⟨q,hq⟩:∃q,l[k]?=some q:=⟨_,WX hlt⟩
   obtain⟨bb,o,rfl,hb,hc⟩:=HL.out.sure (by omega)
   have HR:Hid (wr.rangeAt bb (o+k*28) (dgl q)):=λj v hv=>(HB.out.cell (p:=⟨bb,o+k*28+j,none⟩) hb).trans (zbp hc hq j v hv)
   have HA:Hid (∀W,Below w.heap.size w W->Calls prog g #[dgv q] W λe w'=>e=.returned (.bool (p q))/\Below W.heap.size W w'):=λW hW=>hA.out W q hW (Ax hq)
   clear hc
   obtain⟨D,hD⟩:∃D,D=(dgl q).toArray:=⟨_,rfl⟩
   have HD:Hid (D=(dgl q).toArray):=hD
   have d0:D[0]?=some (.int .i64 q.seq):=by rw[hD];rfl
   have HI:Hid ((prog.info? 132).map (·.size)=some D.size/\28=D.size/\D.all (·.oneCell')=true):=by rw[hD];exact⟨zM q,rfl,jd q⟩
   have HA2:Hid (∀W,Below w.heap.size w W->Calls prog g #[.agg D] W λe w'=>e=.returned (.bool (p q))/\Below W.heap.size W w'):=by rw[hD];exact HA
   clear hD HA
   go_upto_region 5 with(first|(refine AX rfl 132 _ rfl bb (o+k*28) rfl (dgl q) _ HR.out underlying132 rfl qw ?_;rw[<-HD.out])|(refine Ar rfl 132 _ _ rfl _ _ rfl rfl 132 _ (heap_alloc_new _ _) HI.out.1 HI.out.2.1 HI.out.2.2 ?_;rw[Zm]))
   refine Wi.zh (Φ:=λW=>AM _ _ _ _ W) ?_
   intro U hUr hUb
   have HBU:Hid (Below w.heap.size w U):=HB.out.trans (hUb.mono HB.out.size)
   have HVU:Hid (U.ownsRow w.heap.size 3 1 u5 (sel p l k).length (ics (sel p l k))):=zv HV.out (Aa _) hUb
   have HUr:Hid (U.heap[wr.heap.size]?=some (.cells D 132 (0,0))):=hUr
   have hqU:wr.heap.size<U.heap.size:=(Ad.1 hUr).1
   clear hUr hUb HB HV HR HD
   generalize wr.heap.size=z at*
   go_wp2_with(refine Aq rfl 132 _ rfl _ rfl 132 _ (0,0) _ HUr.out underlying132 rfl HI.out.1 ?_)
   cases ha:p q with
   |true=>
    have hcall:=HA2.out U HBU.out
    rw[ha]at hcall
    have HN:Hid (sel p l (k+1)=sel p l k++[q.seq]):=zhA hq ha
    clear ha hq HA2
    refine hcall.mono ?_
    rintro e U2 ⟨rfl,hb2⟩
    have e0:U2.cell? ⟨z,0,none⟩=some (.int .i64 q.seq):=(WZ _ _ _ _ _ _ ((hb2.block z hqU).trans HUr.out)).trans d0
    have HB2:Hid (Below w.heap.size w U2):=HBU.out.trans (hb2.mono HBU.out.size)
    have HV2:Hid (U2.ownsRow w.heap.size 3 1 u5 (sel p l k).length (ics (sel p l k))):=zv HVU.out (Aa _) hb2
    clear hb2 hcall HBU HVU HUr hqU d0 HI
    generalize q.seq=x at*
    go_wp2_with(at_builtin;refine zx _ rfl _ _ 29 rfl w.heap.size 3 i3 _ 1 8 underlying29 hi3 hz0 hz1 hz2 rfl (by decide) _ (sel p l k).length _ rfl (zv HV2.out (Aa _) ((Ab _ _).alloc (Aa _) _)) _ 1 1 (ics [x]) rfl (zaB (heap_alloc_new _ _) (jD [x]) rfl) (by unfold maxLen;omega) (by omega) (by have:=HB2.out.size;simp;omega) ?_;intro v1 w1 hown1 hgrow1)
    have HO1:Hid (w1.ownsRow w.heap.size 3 1 v1 (sel p l (k+1)).length (ics (sel p l (k+1)))):=by rw[HN.out,za1,Am];exact hown1
    have HB3:Hid (Below w.heap.size w w1):=(HB2.out.alloc HB2.out.size _).grown hgrow1 (by have:=HB2.out.size;simp;omega) (λj hj=>(HV2.out.lt j hj).1)
    clear hown1 hgrow1 HB2 HV2 e0
    go_wp2_with fail
    exact⟨⟨k+1,by omega,by go_num,HO1,HB3⟩,by simp[intOf];omega⟩
   |false=>
    have hcall:=HA2.out U HBU.out
    rw[ha]at hcall
    have HN:Hid (sel p l (k+1)=sel p l k):=zkV hq ha
    clear ha hq HA2
    refine hcall.mono ?_
    rintro e U2 ⟨rfl,hb2⟩
    have HB2:Hid (Below w.heap.size w U2):=HBU.out.trans (hb2.mono HBU.out.size)
    have HV2:Hid (U2.ownsRow w.heap.size 3 1 u5 (sel p l (k+1)).length (ics (sel p l (k+1)))):=by rw[HN.out];exact zv HVU.out (Aa _) hb2
    clear hb2 hcall HBU HVU HUr hqU d0 HI
    go_wp2_with fail
    exact⟨⟨k+1,by omega,by go_num,HV2,HB2⟩,by simp[intOf];omega⟩
  ·have:k=l.length:=by omega
   subst this
   have he:=zhB p l (Aa _)
   go_wp2_with fail
   go_ret
   exact⟨⟨_,rfl,by rw[<-he];exact HV.out⟩,HB.out⟩
theorem zog(g:Nat)(Q:Nat)(p:Dg->Bool)(eg:∀args w,(callFunc g args).run prog w=.ok (.enter g args) w){N:Nat}{w:World}{b:Nat}{s:Cr}{L:Sls}(S:St N w b s L)(hn:s.under.length<=100000)
  (hA:Hid (∀(W:World) (o:Dg),Below w.heap.size w W->o∈s.under->Calls prog g #[dgv o,.pointer (some ⟨Q,0,none⟩)] W λe w'=>e=.returned (.bool (p o))/\Below W.heap.size W w')):
  Calls prog 56 #[.pointer (some ⟨b,0,none⟩),.func (.func g) #[] #[.pointer (some ⟨Q,0,none⟩)]] w λe w'=>(∃v,e=.returned v/\w'.ownsRow w.heap.size 3 1 v ((s.under.filter p).map (·.seq)).length (ics ((s.under.filter p).map (·.seq))))/\Below w.heap.size w w':=by
 obtain⟨i3,hi3,hz0,hz1,hz2⟩:=Zr zkW
 obtain⟨a,c,e⟩:=S.its.iu.slice
 have k334:w.cell? ⟨b,334,none⟩=some (.slice a s.under.length c):=(zd S.row (by omega)).trans (congrArg some e)
 have hU:=S.its.iu
 rw[e]at hU
 have HL:Hid (LC w a s.under.length c 28 (flat dgl s.under)):=hU.lc
 generalize hu:s.under=l at*
 clear S hU e hu
 go_enter func56,ntmps56
 go_wp2_with fail
 go_loopw [5,13] (λv i wr=>∃k:Nat,k<=l.length/\i=.int .i64 k/\Hid (wr.ownsRow w.heap.size 3 1 v (sel p l k).length (ics (sel p l k)))/\Hid (Below w.heap.size w wr))
  (λ_ i _=>l.length-(intOf i).toNat)
 case atStart=>exact⟨0,by omega,rfl,AQ _ _ _ _,Ab _ _⟩
 case round=>
  obtain⟨k,hk,rfl,HV,HB⟩:=hrel
  have hsl:=zkU p l k
  by_cases hlt:k<l.length
  ·obtain⟨q,hq⟩:∃q,l[k]?=some q:=⟨_,WX hlt⟩
   obtain⟨bb,o,rfl,hb,hc⟩:=HL.out.sure (by omega)
   have HR:Hid (wr.rangeAt bb (o+k*28) (dgl q)):=λj v hv=>(HB.out.cell (p:=⟨bb,o+k*28+j,none⟩) hb).trans (zbp hc hq j v hv)
   have HA:Hid (∀W,Below w.heap.size w W->Calls prog g #[dgv q,.pointer (some ⟨Q,0,none⟩)] W λe w'=>e=.returned (.bool (p q))/\Below W.heap.size W w'):=λW hW=>hA.out W q hW (Ax hq)
   clear hc
   obtain⟨D,hD⟩:∃D,D=(dgl q).toArray:=⟨_,rfl⟩
   have HD:Hid (D=(dgl q).toArray):=hD
   have d0:D[0]?=some (.int .i64 q.seq):=by rw[hD];rfl
   have HI:Hid ((prog.info? 132).map (·.size)=some D.size/\28=D.size/\D.all (·.oneCell')=true):=by rw[hD];exact⟨zM q,rfl,jd q⟩
   have HA2:Hid (∀W,Below w.heap.size w W->Calls prog g #[.agg D,.pointer (some ⟨Q,0,none⟩)] W λe w'=>e=.returned (.bool (p q))/\Below W.heap.size W w'):=by rw[hD];exact HA
   clear hD HA
   go_upto_region 5 with(first|(refine AX rfl 132 _ rfl bb (o+k*28) rfl (dgl q) _ HR.out underlying132 rfl qw ?_;rw[<-HD.out])|(refine Ar rfl 132 _ _ rfl _ _ rfl rfl 132 _ (heap_alloc_new _ _) HI.out.1 HI.out.2.1 HI.out.2.2 ?_;rw[Zm]))
   refine Wi.zh (Φ:=λW=>AM _ _ _ _ W) ?_
   intro U hUr hUb
   have HBU:Hid (Below w.heap.size w U):=HB.out.trans (hUb.mono HB.out.size)
   have HVU:Hid (U.ownsRow w.heap.size 3 1 u5 (sel p l k).length (ics (sel p l k))):=zv HV.out (Aa _) hUb
   have HUr:Hid (U.heap[wr.heap.size]?=some (.cells D 132 (0,0))):=hUr
   have hqU:wr.heap.size<U.heap.size:=(Ad.1 hUr).1
   clear hUr hUb HB HV HR HD
   generalize wr.heap.size=z at*
   go_wp2_with(refine Aq rfl 132 _ rfl _ rfl 132 _ (0,0) _ HUr.out underlying132 rfl HI.out.1 ?_)
   cases ha:p q with
   |true=>
    have hcall:=HA2.out U HBU.out
    rw[ha]at hcall
    have HN:Hid (sel p l (k+1)=sel p l k++[q.seq]):=zhA hq ha
    clear ha hq HA2
    refine hcall.mono ?_
    rintro e U2 ⟨rfl,hb2⟩
    have e0:U2.cell? ⟨z,0,none⟩=some (.int .i64 q.seq):=(WZ _ _ _ _ _ _ ((hb2.block z hqU).trans HUr.out)).trans d0
    have HB2:Hid (Below w.heap.size w U2):=HBU.out.trans (hb2.mono HBU.out.size)
    have HV2:Hid (U2.ownsRow w.heap.size 3 1 u5 (sel p l k).length (ics (sel p l k))):=zv HVU.out (Aa _) hb2
    clear hb2 hcall HBU HVU HUr hqU d0 HI
    generalize q.seq=x at*
    go_wp2_with(at_builtin;refine zx _ rfl _ _ 29 rfl w.heap.size 3 i3 _ 1 8 underlying29 hi3 hz0 hz1 hz2 rfl (by decide) _ (sel p l k).length _ rfl (zv HV2.out (Aa _) ((Ab _ _).alloc (Aa _) _)) _ 1 1 (ics [x]) rfl (zaB (heap_alloc_new _ _) (jD [x]) rfl) (by unfold maxLen;omega) (by omega) (by have:=HB2.out.size;simp;omega) ?_;intro v1 w1 hown1 hgrow1)
    have HO1:Hid (w1.ownsRow w.heap.size 3 1 v1 (sel p l (k+1)).length (ics (sel p l (k+1)))):=by rw[HN.out,za1,Am];exact hown1
    have HB3:Hid (Below w.heap.size w w1):=(HB2.out.alloc HB2.out.size _).grown hgrow1 (by have:=HB2.out.size;simp;omega) (λj hj=>(HV2.out.lt j hj).1)
    clear hown1 hgrow1 HB2 HV2 e0
    go_wp2_with fail
    exact⟨⟨k+1,by omega,by go_num,HO1,HB3⟩,by simp[intOf];omega⟩
   |false=>
    have hcall:=HA2.out U HBU.out
    rw[ha]at hcall
    have HN:Hid (sel p l (k+1)=sel p l k):=zkV hq ha
    clear ha hq HA2
    refine hcall.mono ?_
    rintro e U2 ⟨rfl,hb2⟩
    have HB2:Hid (Below w.heap.size w U2):=HBU.out.trans (hb2.mono HBU.out.size)
    have HV2:Hid (U2.ownsRow w.heap.size 3 1 u5 (sel p l (k+1)).length (ics (sel p l (k+1)))):=by rw[HN.out];exact zv HVU.out (Aa _) hb2
    clear hb2 hcall HBU HVU HUr hqU d0 HI
    go_wp2_with fail
    exact⟨⟨k+1,by omega,by go_num,HV2,HB2⟩,by simp[intOf];omega⟩
  ·have:k=l.length:=by omega
   subst this
   have he:=zhB p l (Aa _)
   go_wp2_with fail
   go_ret
   exact⟨⟨_,rfl,by rw[<-he];exact HV.out⟩,HB.out⟩
theorem zjS:∀args w,(callFunc 57 args).run prog w=.ok (.enter 57 args) w:=enters_of func57 (by kernel_rfl) rfl
theorem zhC:∀args w,(callFunc 60 args).run prog w=.ok (.enter 60 args) w:=enters_of func60 (by kernel_rfl) rfl
theorem zfI(o:Dg)(W:World):Calls prog 57 #[dgv o] W λe w'=>e=.returned (.bool (decide (o.st=1)))/\Below W.heap.size W w':=by
 obtain⟨D,hD⟩:∃D,D=(dgl o).toArray:=⟨_,rfl⟩
 have d7:D[7]?=some (.int .i64 o.st):=by rw[hD];rfl
 show Calls _ _ #[.agg (dgl o).toArray] _ _
 rw[<-hD]
 generalize o.st=x at*
 clear hD
 by_cases e:x=1
 ·subst e
  go_enter func57,ntmps57
  go_wp2
  go_ret
  exact⟨by simp,(Ab _ _).alloc (Aa _) _⟩
 ·have e':(x==1)=false:=beq_eq_false_iff_ne.2 e
  go_enter func57,ntmps57
  go_wp2
  go_ret
  exact⟨by simp[e],(Ab _ _).alloc (Aa _) _⟩
theorem zdv{N:Nat}{w:World}{b:Nat}{s:Cr}{L:Sls}(S:St N w b s L)(Q:Nat)(hQ:w.cell? ⟨Q,0,none⟩=some (.pointer (some ⟨b,0,none⟩)))(o:Dg)(a0:0<=o.a)(a1:o.a<96)(b0:0<=o.b)(b1:o.b<96)(W:World)(hW:Below w.heap.size w W):
  Calls prog 60 #[dgv o,.pointer (some ⟨Q,0,none⟩)] W λe w'=>e=.returned (.bool (decide (o.st=0)&&s.th o.a&&s.th o.b))/\Below W.heap.size W w':=by
 have hb:b<w.heap.size:=(Ad.1 S.row).1
 have hq:Q<w.heap.size:=Ak _ _ hQ
 have kQ:W.cell? ⟨Q,0,none⟩=some (.pointer (some ⟨b,0,none⟩)):=(hW.cell (p:=⟨Q,0,none⟩) hq).trans hQ
 obtain⟨x,hx⟩:=AO a0
 obtain⟨y,hy⟩:=AO b0
 have kA:W.cell? ⟨b,237+x,none⟩=some (.bool (s.th o.a)):=(hW.cell (p:=⟨b,237+x,none⟩) hb).trans ((zd S.row (by omega)).trans (congrArg some (by have:=zoe s L o.a a0 a1;rw[show o.a.toNat=x by omega]at this;exact this)))
 have kB:W.cell? ⟨b,237+y,none⟩=some (.bool (s.th o.b)):=(hW.cell (p:=⟨b,237+y,none⟩) hb).trans ((zd S.row (by omega)).trans (congrArg some (by have:=zoe s L o.b b0 b1;rw[show o.b.toNat=y by omega]at this;exact this)))
 have hb':b<W.heap.size:=Ag hb hW.size
 have hq':Q<W.heap.size:=Ag hq hW.size
 obtain⟨D,hD⟩:∃D,D=(dgl o).toArray:=⟨_,rfl⟩
 have d7:D[7]?=some (.int .i64 o.st):=by rw[hD];rfl
 have d8:D[8]?=some (.int .i64 x):=by rw[hD,<-hx];rfl
 have d9:D[9]?=some (.int .i64 y):=by rw[hD,<-hy];rfl
 have x1:(x:Int)<96:=by omega
 have y1:(y:Int)<96:=by omega
 have x0:(0:Int)<=(x:Int):=by omega
 have y0:(0:Int)<=(y:Int):=by omega
 show Calls _ _ #[.agg (dgl o).toArray,_] _ _
 rw[<-hD]
 generalize s.th o.a=ta at*
 generalize s.th o.b=tb at*
 generalize o.st=z at*
 clear hD hQ hW S hx hy a0 a1 b0 b1
 by_cases e:z=0
 ·subst e
  cases ta with
  |false=>
   go_enter func60,ntmps60
   go_wp2
   go_quiet(fail)
   go_wp2
   go_ret
   exact⟨by simp,below_drewN ((Ab _ _).alloc (Aa _) _) _⟩
  |true=>
   go_enter func60,ntmps60
   go_wp2
   go_quiet(fail)
   go_wp2
   go_ret
   exact⟨by simp,below_drewN ((Ab _ _).alloc (Aa _) _) _⟩
 ·have e':(z==0)=false:=beq_eq_false_iff_ne.2 e
  go_enter func60,ntmps60
  go_wp2
  go_quiet(fail)
  go_wp2
  go_ret
  exact⟨by simp[e],below_drewN ((Ab _ _).alloc (Aa _) _) _⟩
end Go.Proofs.YtpiohehijkpghacGreatDoor.Co
namespace Go.Proofs.YtpiohehijkpghacGreatDoor.Co
open Go.RowKit
open Hy
open Wi Od Re.Hy
open Gu.Hy (Tb tcs)
theorem yV{g:Nat}{e:TypeId}{fr:Nat×Nat}:∀(news:List Value) {w:World} {off:Nat} {cur:Array Value},w.heap[g]?=some (.cells cur e fr)->off+news.length<=cur.size->
  ∃cur':Array Value,(w.setCells g off news).heap[g]?=some (.cells cur' e fr)/\cur'.size=cur.size/\∀j:Nat,cur'[j]?=if off<=j/\j<off+news.length then news[j-off]? else cur[j]?
 |[],w,off,cur,h,hf=>⟨cur,h,rfl,λj=>by rw[if_neg (by simp only[ZF];omega)]⟩
 |u::news,w,off,cur,h,hf=>by
  simp only[Zg]at hf
  obtain⟨cur',h1,h2,h3⟩:=yV news (w:=w.setCell ⟨g,off,none⟩ u) (off:=off+1) (heap_put h) (by rw[Zf];omega)
  refine⟨cur',h1,by rw[h2,Zf],λj=>?_⟩
  rw[h3]
  simp only[Zg]
  by_cases e0:j=off
  ·subst e0
   rw[if_neg (by omega),if_pos (by omega),ZP,AJ,if_pos rfl,if_pos (by omega)]
   rfl
  ·by_cases e1:off+1<=j/\j<off+1+news.length
   ·rw[if_pos e1,if_pos (by omega),show j-off=(j-(off+1))+1 by omega]
    rfl
   ·rw[if_neg e1,if_neg (by omega),AJ,if_neg (λh=>e0 h.symm)]
def ov(xs:List Value)(off:Nat)(news:List Value):List Value:=xs.take off++news++xs.drop (off+news.length)
theorem zoh{xs news:List Value}{off:Nat}(h:off+news.length<=xs.length):(ov xs off news).length=xs.length:=by
 unfold ov
 simp only[Am,Ai,Zz]
 omega
theorem zoi{xs news:List Value}{off:Nat}(h:off+news.length<=xs.length)(j:Nat):(ov xs off news)[j]?=if off<=j/\j<off+news.length then news[j-off]? else xs[j]?:=by
 unfold ov
 by_cases h1:j<off
 ·rw[if_neg (by omega),Az (by simp only[Am,Ai];omega),Az (by simp only[Ai];omega),An h1]
 ·by_cases h2:j<off+news.length
  ·rw[if_pos (by omega),Az (by simp only[Am,Ai];omega),AC (by simp only[Ai];omega),Ai,Nat.min_eq_left (by omega)]
  ·rw[if_neg (by omega),AC (by simp only[Am,Ai];omega),Au]
   congr 1
   simp only[Am,Ai]
   omega
theorem zoj{xs news:List Value}{off:Nat}(h:∀u∈xs,u.oneCell'=true)(h':∀u∈news,u.oneCell'=true):∀u∈ov xs off news,u.oneCell'=true:=by
 intro u hu
 unfold ov at hu
 rcases AW.1 hu with hu|hu
 ·rcases AW.1 hu with hu|hu
  ·exact h u (List.mem_of_mem_take hu)
  ·exact h' u hu
 ·exact h u (Zp hu)
theorem vM{α:Type}{g:α->List Value}{size:Nat}(hg:∀x,(g x).length=size):∀{l:List α} {k j:Nat} {x y:α} {news:List Value},l[k]?=some x->j+news.length<=size->g y=ov (g x) j news->ov (flat g l) (k*size+j) news=flat g (l.set k y)
 |[],k,j,x,y,news,h,_,_=>by simp at h
 |z::l,0,j,x,y,news,h,hj,e=>by
  simp at h
  subst h
  rw[Zk,ZO]
  show ov (g z++flat g l) j news=g y++flat g l
  rw[e]
  unfold ov
  have hz:=hg z
  rw[List.take_append_of_le_length (by omega),List.drop_append_of_le_length (by omega)]
  simp only[AR]
 |z::l,k+1,j,x,y,news,h,hj,e=>by
  have ih:=vM hg (l:=l) (k:=k) (by simpa using h) hj e
  show ov (g z++flat g l) ((k+1)*size+j) news=g z++flat g (l.set k y)
  have e1:(k+1)*size+j=(g z).length+(k*size+j):=by rw[hg,AG];omega
  rw[e1,<-ih]
  unfold ov
  rw[List.take_length_add_append,AR,AR,show(g z).length+(k*size+j)+news.length=(g z).length+(k*size+j+news.length) by omega,Zx]
  simp only[AR]
  rw[Zl (by omega),ZE,Av]
theorem Us.at{w:World}{e size:Nat}{v:Value}{n:Nat}{xs:List Value}(h:Us w e size v n xs)(h0:0<n):∃g o cap,v=.slice (some ⟨g,o,none⟩) n cap/\n<=cap/\cap<=maxLen/\g<w.heap.size/\(∀j u,xs[j]?=some u->w.cell? ⟨g,o+j,none⟩=some u)/\∀j,j<n*size->w.frozen? ⟨g,o+j,none⟩=false:=by
 rcases h.is with⟨_,rfl⟩|⟨g,o,cap,cur,h1,h2,h3,h4,h5,h6⟩
 ·omega
 ·refine⟨g,o,cap,h1,h3,h4,(Ad.1 h2).1,λj u hj=>?_,λj _=>AU _ _ _ _ _ h2⟩
  rw[WZ _ _ _ _ _ _ h2,<-Ao]
  rw[<-h6]at hj
  have hlt:j<n*size:=by have:=(WY.1 hj).1;rw[Ai]at this;omega
  rw[An hlt,Au]at hj
  exact hj
theorem Us.puts{w:World}{e size:Nat}{n cap g o:Nat}{xs:List Value}(h:Us w e size (.slice (some ⟨g,o,none⟩) n cap) n xs)(off:Nat)(news:List Value)(hf:off+news.length<=n*size)(h1:∀u∈news,u.oneCell'=true):Us (w.setCells g (o+off) news) e size (.slice (some ⟨g,o,none⟩) n cap) n (ov xs off news):=by
 have hxl:=h.len
 rcases h.is with⟨e0,_⟩|⟨g',o',cap',cur,e1,h2,h3,h4,h5,h6⟩
 ·cases e0
 ·cases e1
  have hns:n*size<=cap*size:=AL _ h3
  obtain⟨cur',c1,c2,c3⟩:=yV news (off:=o+off) h2 (by omega)
  refine⟨by rw[zoh (by omega)];exact hxl,zoj h.one h1,.inr ⟨g,o,cap,cur',rfl,c1,h3,h4,by omega,?_⟩⟩
  apply Zc
  intro j
  rw[zoi (by omega)]
  by_cases hj:j<n*size
  ·rw[An hj,Au,Ao,c3]
   by_cases hin:off<=j/\j<off+news.length
   ·rw[if_pos (by omega),if_pos hin]
    congr 1
    omega
   ·rw[if_neg (by omega),if_neg hin,<-h6,An hj,Au,Ao]
  ·rw[AA (by rw[Ai];omega),if_neg (by omega),AA (by omega)]
theorem Us.there{w:World}{e size:Nat}{n cap g o:Nat}{xs:List Value}(h:Us w e size (.slice (some ⟨g,o,none⟩) n cap) n xs)(off m:Nat)(hf:off+m<=n*size):w.there g (o+off) m:=by
 rcases h.is with⟨e0,_⟩|⟨g',o',cap',cur,e1,h2,h3,h4,h5,h6⟩
 ·cases e0
 ·cases e1
  have hns:n*size<=cap*size:=AL _ h3
  intro j hj
  refine⟨?_,AU _ _ _ _ _ h2⟩
  rw[WZ _ _ _ _ _ _ h2]
  rw[Zb (by omega)]
  rfl
theorem Us.drop{w:World}{e size:Nat}{n cap g o:Nat}{xs:List Value}(h:Us w e size (.slice (some ⟨g,o,none⟩) n cap) n xs)(m:Nat)(hm:m<=n)(hlt:m<cap):Us w e size (.slice (some ⟨g,o+m*size,none⟩) (n-m) (cap-m)) (n-m) (xs.drop (m*size)):=by
 have hxl:=h.len
 rcases h.is with⟨e0,_⟩|⟨g',o',cap',cur,e1,h2,h3,h4,h5,h6⟩
 ·cases e0
 ·cases e1
  have e3:(n-m)*size=n*size-m*size:=ZU ..
  have e4:(cap-m)*size=cap*size-m*size:=ZU ..
  have hms:m*size<=cap*size:=AL _ (Nat.le_of_lt hlt)
  refine⟨by rw[Zz];omega,λu hu=>h.one u (Zp hu),.inr ⟨g,o+m*size,cap-m,cur,rfl,h2,by omega,by omega,by omega,?_⟩⟩
  rw[<-h6,List.drop_take,List.drop_drop,e3]
theorem Us.empty{w:World}{e size:Nat}{n cap g o:Nat}{xs:List Value}(h:Us w e size (.slice (some ⟨g,o,none⟩) n cap) n xs):Us w e size (.slice (some ⟨g,o,none⟩) 0 0) 0 []:=by
 rcases h.is with⟨e0,_⟩|⟨g',o',cap',cur,e1,h2,h3,h4,h5,h6⟩
 ·cases e0
 ·cases e1
  exact⟨by simp,λu hu=>(by cases hu),.inr ⟨g,o,0,cur,rfl,h2,by omega,by omega,by omega,by simp⟩⟩
theorem zF(w:World)(b o:Nat)(vs:List Value):w.grownBy (w.setCells b o vs) (some b):=
 ⟨(yj w b o vs).1,(yj w b o vs).2.1,(yj w b o vs).2.2,by rw[vK];exact Aa _,λk _ hk=>qa w b o vs (λe=>hk (by rw[e]))⟩
theorem zhD{P:Program}(w:World)(t ty e:TypeId)(i:TypeInfo)(z:Value)(size bytes:Nat)(ht:P.underlying t=some (.slice e))(hi:P.info? e=some i)(hz:i.zero=some z)
  (hsize:i.size=size) (hby:i.bytes=bytes) (hzs:z.cells.size=size) (hsz:0<size)
  (v:Value) (n:Nat) (xs:List Value) (hU:Us w e size v n xs) (bx:Nat) (news:List Value) (hl:news.length=size) (hnews:∀j u,news[j]?=some u->w.cell? ⟨bx,j,none⟩=some u) (h1:∀u∈news,u.oneCell'=true)
  (h63:n+1<=1000000000000) (hbytes:(n+1)*bytes<=140737488355328):
  ∃v' w',(ZG #[t,t] ty #[v,.slice (some ⟨bx,0,none⟩) 1 1]).run P w=.ok v' w'/\Us w' e size v' (n+1) (xs++news)/\w.grownBy w' v.ownBlock/\(∀g,v'.ownBlock=some g->v.ownBlock=some g\/w.heap.size<=g):=by
 subst hsize
 subst hby
 have hml:n+1<=maxLen:=by simp only[maxLen];omega
 have hlen:(xs++news).length=(n+1)*i.size:=by rw[Am,hU.len,hl,AG];omega
 have hone:∀u∈xs++news,u.oneCell'=true:=λu hu=>by
  rcases AW.1 hu with h|h
  ·exact hU.one u h
  ·exact h1 u h
 have hsrc:Src P i.size t (.slice (some ⟨bx,0,none⟩) 1 1) 1 news w:=Src.ofSlice w ht ⟨bx,0,none⟩ 1 1 news (by omega) (λj u hj=>by rw[ZQ];simpa using hnews j u hj) h1
 have grown:∀(base:Option Addr) (old:Nat),old<n+1->(Builtin.firstCells i.size n (.slice base n old)).run P w.drew=.ok xs.toArray w.drew->Us w e i.size (.slice base n old) n xs->
   ∃v' w',(ZG #[t,t] ty #[.slice base n old,.slice (some ⟨bx,0,none⟩) 1 1]).run P w=.ok v' w'/\Us w' e i.size v' (n+1) (xs++news)/\w.grownBy w' (AZ (.slice base n old))/\(∀g,v'.ownBlock=some g->AZ (.slice base n old)=some g\/w.heap.size<=g):=by
  intro base old ho hf _
  have hr:=run_append_grow_src w t t ty e i z ht hi hz base n old xs hf (.slice (some ⟨bx,0,none⟩) 1 1) 1 news hsrc (by omega) (by omega) (growslice_fits (by omega) hbytes)
  have hge:=grownCap_ge w (n+1) old e
  have hcm:grownCap w (n+1) old e<=maxLen:=grownCap_le_maxLen w (n+1) old e hml
  refine⟨_,_,hr,⟨hlen,hone,.inr ⟨w.heap.size,0,_,_,rfl,heap_alloc_new w.drew _,hge,hcm,?_,?_⟩⟩,⟨rfl,rfl,rfl,by simp,λk hk _=>heap_alloc_old w.drew _ hk⟩,λg hg=>.inr (Nat.le_of_eq (AI hg))⟩
  ·have hx:=hU.len
   simp only[Array.size_append,List.size_toArray,Am,size_zeroCells,hzs,hx,hl]
   have:grownCap w (n+1) old e*i.size=(n+1)*i.size+(grownCap w (n+1) old e-(n+1))*i.size:=by rw[<-AG];congr 1;omega
   rw[this,AG]
   omega
  ·simp only[Array.toList_append,List.drop_zero]
   rw[<-hlen]
   exact List.take_left
 rcases hU.is with⟨rfl,rfl⟩|⟨g,o,cap,cur,rfl,h2,h3,h4,h5,h6⟩
 ·obtain rfl:xs=[]:=AF (by rw[hU.len,Zk])
  exact grown none 0 (by omega) (run_firstCells_none w.drew i.size 0 0 0) hU
 ·by_cases hroom:n+1<=cap
  ·have e5:(n+1)*i.size<=cap*i.size:=AL _ hroom
   have e6:(n+1)*i.size=n*i.size+i.size:=by rw[AG,Nat.one_mul]
   have hin:∀j,j<news.length->o+n*i.size+j<cur.size:=λj hj=>by omega
   have hr:=run_append_room_src w t t ty e i ht hi g o n cap (.slice (some ⟨bx,0,none⟩) 1 1) 1 news hsrc hroom (λj hj=>by rw[WZ _ _ _ _ _ _ h2,Zb (hin j hj)];rfl) (λj _=>AU _ _ _ _ _ h2)
   obtain⟨cur',c1,c2,c3⟩:=yV news (off:=o+n*i.size) h2 (by omega)
   refine⟨_,_,hr,⟨hlen,hone,.inr ⟨g,o,cap,cur',rfl,c1,hroom,h4,by omega,?_⟩⟩,zF w g _ news,λg' hg'=>.inl hg'⟩
   have hxl:=hU.len
   apply Zc
   intro j
   by_cases hj:j<(n+1)*i.size
   ·rw[An hj,Au,Ao,c3]
    by_cases hin:j<n*i.size
    ·rw[if_neg (by omega),Az (by omega),<-h6,An hin,Au,Ao]
    ·rw[if_pos (by omega),AC (by omega)]
     congr 1
     omega
   ·rw[AA (by rw[Ai];omega),AA (by omega)]
  ·refine grown (some ⟨g,o,none⟩) cap (by omega) ?_ hU
   refine run_firstCells_some w.drew i.size n ⟨g,o,none⟩ n cap xs hU.len (λj u hj=>?_)
   rw[ZQ]
   show w.drew.cell? ⟨g,o+j,none⟩=_
   have:w.drew.cell? ⟨g,o+j,none⟩=w.cell? ⟨g,o+j,none⟩:=rfl
   rw[this,WZ _ _ _ _ _ _ h2,<-Ao]
   rw[<-h6]at hj
   have hlt:j<n*i.size:=by have:=(WY.1 hj).1;rw[Ai]at this;omega
   rw[An hlt,Au]at hj
   exact hj
theorem qT{P:Program}{w:World}{o:Oper}{a:Act}{K:Act->World->Prop}{Q:Exit->Act->World->Prop}(s x:Operand)(t:TypeId)
  (ho:o.op=.call {callee:=.builtin .append,args:=#[s,x],argTypes:=#[t,t]})
  (e:TypeId) (i:TypeInfo) (z:Value) (size bytes:Nat) (ht:P.underlying t=some (.slice e)) (hi:P.info? e=some i) (hz:i.zero=some z)
  (hsize:i.size=size) (hby:i.bytes=bytes) (hzs:z.cells.size=size) (hsz:0<size)
  (v:Value) (n:Nat) (xs:List Value) (hs:a.eval s=v) (hU:Us w e size v n xs) (bx:Nat) (news:List Value) (hx:a.eval x=.slice (some ⟨bx,0,none⟩) 1 1) (hl:news.length=size) (hnews:∀j u,news[j]?=some u->w.cell? ⟨bx,j,none⟩=some u) (h1:∀u∈news,u.oneCell'=true)
  (h63:n+1<=1000000000000) (hbytes:(n+1)*bytes<=140737488355328)
  (h:∀v' w',Us w' e size v' (n+1) (xs++news)->w.grownBy w' v.ownBlock->(∀g,v'.ownBlock=some g->v.ownBlock=some g\/w.heap.size<=g)->K (a.put o.dst v') w'):o.wp P a w K Q:=by
 obtain⟨v',w',hr,h2,h3,h4⟩:=zhD (P:=P) w t o.type e i z size bytes ht hi hz hsize hby hzs hsz v n xs hU bx news hl hnews h1 h63 hbytes
 unfold Oper.wp execOp
 simp only[ho,resolve,invoke,builtin,Zu,Zv,Zd,List.map_toArray,List.map_cons,List.map_nil,hs,hx,hr]
 exact h v' w' h2 h3 h4
end Go.Proofs.YtpiohehijkpghacGreatDoor.Co
namespace Go.Proofs.YtpiohehijkpghacGreatDoor.Hy
open Go.RowKit
theorem yk(x:Int)(x0:0<=x)(x1:x<4294967296):pc x 0 0 0=0:=by
 have e:pc x 0 0 0=bits .and .u32 (x/1) 0*1%4294967296:=rfl
 rw[e,ZR,xu x x0 x1];rfl
theorem zdw(x:Int)(x0:0<=x)(x1:x<4294967296):pc x 12 20 12=x/4096%1048576*4096:=by
 have e:pc x 12 20 12=bits .and .u32 (x/4096) 1048575*4096%4294967296:=rfl
 rw[e,znv (x/4096) (by omega) (by omega)];omega
theorem zfJ(x:Int)(x0:0<=x)(x1:x<4294967296):pc x 31 1 20=x/2147483648%2*1048576:=by
 have e:pc x 31 1 20=bits .and .u32 (x/2147483648) 1*1048576%4294967296:=rfl
 rw[e,and1 (x/2147483648) (by omega) (by omega)];omega
theorem znk(x:Int)(x0:0<=x)(x1:x<4294967296):pc x 20 1 31=x/1048576%2*2147483648:=by
 have e:pc x 20 1 31=bits .and .u32 (x/1048576) 1*2147483648%4294967296:=rfl
 rw[e,and1 (x/1048576) (by omega) (by omega)];omega
theorem zfK(x:Int)(x0:0<=x)(x1:x<4294967296):pc x 12 8 12=x/4096%256*4096:=by
 have e:pc x 12 8 12=bits .and .u32 (x/4096) 255*4096%4294967296:=rfl
 rw[e,znu (x/4096) (by omega) (by omega)];omega
theorem zfL(x:Int)(x0:0<=x)(x1:x<4294967296):pc x 20 1 11=x/1048576%2*2048:=by
 have e:pc x 20 1 11=bits .and .u32 (x/1048576) 1*2048%4294967296:=rfl
 rw[e,and1 (x/1048576) (by omega) (by omega)];omega
theorem zfM(x:Int)(x0:0<=x)(x1:x<4294967296):pc x 21 10 1=x/2097152%1024*2:=by
 have e:pc x 21 10 1=bits .and .u32 (x/2097152) 1023*2%4294967296:=rfl
 rw[e,zlv (x/2097152) (by omega) (by omega)];omega
theorem zfN(x:Int)(x0:0<=x)(x1:x<4294967296):pc x 20 12 0=x/1048576%4096*1:=by
 have e:pc x 20 12 0=bits .and .u32 (x/1048576) 4095*1%4294967296:=rfl
 rw[e,zlw (x/1048576) (by omega) (by omega)];omega
theorem zhE(x:Int)(x0:0<=x)(x1:x<4294967296):pc x 20 5 0=x/1048576%32*1:=by
 have e:pc x 20 5 0=bits .and .u32 (x/1048576) 31*1%4294967296:=rfl
 rw[e,zgE (x/1048576) (by omega) (by omega)];omega
theorem zfO(x:Int)(x0:0<=x)(x1:x<4294967296):pc x 31 1 12=x/2147483648%2*4096:=by
 have e:pc x 31 1 12=bits .and .u32 (x/2147483648) 1*4096%4294967296:=rfl
 rw[e,and1 (x/2147483648) (by omega) (by omega)];omega
theorem zhF(x:Int)(x0:0<=x)(x1:x<4294967296):pc x 7 1 11=x/128%2*2048:=by
 have e:pc x 7 1 11=bits .and .u32 (x/128) 1*2048%4294967296:=rfl
 rw[e,and1 (x/128) (by omega) (by omega)];omega
theorem zhG(x:Int)(x0:0<=x)(x1:x<4294967296):pc x 25 6 5=x/33554432%64*32:=by
 have e:pc x 25 6 5=bits .and .u32 (x/33554432) 63*32%4294967296:=rfl
 rw[e,zpg (x/33554432) (by omega) (by omega)];omega
theorem zjT(x:Int)(x0:0<=x)(x1:x<4294967296):pc x 8 4 1=x/256%16*2:=by
 have e:pc x 8 4 1=bits .and .u32 (x/256) 15*2%4294967296:=rfl
 rw[e,zpf (x/256) (by omega) (by omega)];omega
theorem zhH(x:Int)(x0:0<=x)(x1:x<4294967296):pc x 25 7 5=x/33554432%128*32:=by
 have e:pc x 25 7 5=bits .and .u32 (x/33554432) 127*32%4294967296:=rfl
 rw[e,znt (x/33554432) (by omega) (by omega)];omega
theorem zjU(x:Int)(x0:0<=x)(x1:x<4294967296):pc x 7 5 0=x/128%32*1:=by
 have e:pc x 7 5 0=bits .and .u32 (x/128) 31*1%4294967296:=rfl
 rw[e,zgE (x/128) (by omega) (by omega)];omega
theorem ib_U(x:Int)(x0:0<=x)(x1:x<4294967296):ib (fm 1) x 4=x/4096%1048576*4096:=by
 have e:ib (fm 1) x 4=bits .or .u32 (bits .or .u32 (bits .or .u32 (bits .or .u32 0 (pc x 12 20 12)) (pc x 0 0 0)) (pc x 0 0 0)) (pc x 0 0 0):=rfl
 rw[e,zdw x x0 x1,yk x x0 x1]
 simp only[qD]
 rw[qi 12 32 (by omega) 4096 4294967296 _ (x/4096%1048576*4096) rfl rfl (by omega) (by omega) (jJ (0) (0) (by omega) (by omega) (by omega) (by omega)) (by omega) (by omega) (by omega) (by omega)]
 omega
theorem ib_J(x:Int)(x0:0<=x)(x1:x<4294967296):ib (fm 2) x 4=x/2147483648%2*1048576+x/4096%256*4096+x/1048576%2*2048+x/2097152%1024*2:=by
 have e:ib (fm 2) x 4=bits .or .u32 (bits .or .u32 (bits .or .u32 (bits .or .u32 0 (pc x 31 1 20)) (pc x 12 8 12)) (pc x 20 1 11)) (pc x 21 10 1):=rfl
 rw[e,zfJ x x0 x1,zfK x x0 x1,zfL x x0 x1,zfM x x0 x1]
 rw[qi 20 21 (by omega) 1048576 2097152 _ (x/2147483648%2*1048576) rfl rfl (by omega) (by omega) (jJ (0) (0) (by omega) (by omega) (by omega) (by omega)) (by omega) (by omega) (by omega) (by omega)]
 rw[qi 12 20 (by omega) 4096 1048576 _ (x/4096%256*4096) rfl rfl (by omega) (by omega) (jJ ((x/2147483648%2)*1) (0) (by omega) (by omega) (by omega) (by omega)) (by omega) (by omega) (by omega) (by omega)]
 rw[qi 11 12 (by omega) 2048 4096 _ (x/1048576%2*2048) rfl rfl (by omega) (by omega) (jJ ((x/2147483648%2)*256+(x/4096%256)*1) (0) (by omega) (by omega) (by omega) (by omega)) (by omega) (by omega) (by omega) (by omega)]
 rw[qi 1 11 (by omega) 2 2048 _ (x/2097152%1024*2) rfl rfl (by omega) (by omega) (jJ ((x/2147483648%2)*512+(x/4096%256)*2+(x/1048576%2)*1) (0) (by omega) (by omega) (by omega) (by omega)) (by omega) (by omega) (by omega) (by omega)]
 omega
theorem ib_I(x:Int)(x0:0<=x)(x1:x<4294967296):ib (fm 3) x 4=x/1048576%4096*1:=by
 have e:ib (fm 3) x 4=bits .or .u32 (bits .or .u32 (bits .or .u32 (bits .or .u32 0 (pc x 20 12 0)) (pc x 0 0 0)) (pc x 0 0 0)) (pc x 0 0 0):=rfl
 rw[e,zfN x x0 x1,yk x x0 x1]
 simp only[qD]
 rw[qi 0 12 (by omega) 1 4096 _ (x/1048576%4096*1) rfl rfl (by omega) (by omega) (jJ (0) (0) (by omega) (by omega) (by omega) (by omega)) (by omega) (by omega) (by omega) (by omega)]
 omega
theorem ib_H(x:Int)(x0:0<=x)(x1:x<4294967296):ib (fm 4) x 4=x/1048576%32*1:=by
 have e:ib (fm 4) x 4=bits .or .u32 (bits .or .u32 (bits .or .u32 (bits .or .u32 0 (pc x 20 5 0)) (pc x 0 0 0)) (pc x 0 0 0)) (pc x 0 0 0):=rfl
 rw[e,zhE x x0 x1,yk x x0 x1]
 simp only[qD]
 rw[qi 0 5 (by omega) 1 32 _ (x/1048576%32*1) rfl rfl (by omega) (by omega) (jJ (0) (0) (by omega) (by omega) (by omega) (by omega)) (by omega) (by omega) (by omega) (by omega)]
 omega
theorem ib_B(x:Int)(x0:0<=x)(x1:x<4294967296):ib (fm 5) x 4=x/2147483648%2*4096+x/128%2*2048+x/33554432%64*32+x/256%16*2:=by
 have e:ib (fm 5) x 4=bits .or .u32 (bits .or .u32 (bits .or .u32 (bits .or .u32 0 (pc x 31 1 12)) (pc x 7 1 11)) (pc x 25 6 5)) (pc x 8 4 1):=rfl
 rw[e,zfO x x0 x1,zhF x x0 x1,zhG x x0 x1,zjT x x0 x1]
 rw[qi 12 13 (by omega) 4096 8192 _ (x/2147483648%2*4096) rfl rfl (by omega) (by omega) (jJ (0) (0) (by omega) (by omega) (by omega) (by omega)) (by omega) (by omega) (by omega) (by omega)]
 rw[qi 11 12 (by omega) 2048 4096 _ (x/128%2*2048) rfl rfl (by omega) (by omega) (jJ ((x/2147483648%2)*1) (0) (by omega) (by omega) (by omega) (by omega)) (by omega) (by omega) (by omega) (by omega)]
 rw[qi 5 11 (by omega) 32 2048 _ (x/33554432%64*32) rfl rfl (by omega) (by omega) (jJ ((x/2147483648%2)*2+(x/128%2)*1) (0) (by omega) (by omega) (by omega) (by omega)) (by omega) (by omega) (by omega) (by omega)]
 rw[qi 1 5 (by omega) 2 32 _ (x/256%16*2) rfl rfl (by omega) (by omega) (jJ ((x/2147483648%2)*128+(x/128%2)*64+(x/33554432%64)*1) (0) (by omega) (by omega) (by omega) (by omega)) (by omega) (by omega) (by omega) (by omega)]
 omega
theorem ib_S(x:Int)(x0:0<=x)(x1:x<4294967296):ib (fm 6) x 4=x/33554432%128*32+x/128%32*1:=by
 have e:ib (fm 6) x 4=bits .or .u32 (bits .or .u32 (bits .or .u32 (bits .or .u32 0 (pc x 25 7 5)) (pc x 7 5 0)) (pc x 0 0 0)) (pc x 0 0 0):=rfl
 rw[e,zhH x x0 x1,zjU x x0 x1,yk x x0 x1]
 simp only[qD]
 rw[qi 5 12 (by omega) 32 4096 _ (x/33554432%128*32) rfl rfl (by omega) (by omega) (jJ (0) (0) (by omega) (by omega) (by omega) (by omega)) (by omega) (by omega) (by omega) (by omega)]
 rw[qi 0 5 (by omega) 1 32 _ (x/128%32*1) rfl rfl (by omega) (by omega) (jJ ((x/33554432%128)*1) (0) (by omega) (by omega) (by omega) (by omega)) (by omega) (by omega) (by omega) (by omega)]
 omega
theorem ib_R(x:Int)(x0:0<=x)(x1:x<4294967296):ib (fm 7) x 4=0:=by
 have e:ib (fm 7) x 4=bits .or .u32 (bits .or .u32 (bits .or .u32 (bits .or .u32 0 (pc x 0 0 0)) (pc x 0 0 0)) (pc x 0 0 0)) (pc x 0 0 0):=rfl
 rw[e,yk x x0 x1]
 simp only[qD]
 exact vj 0 (by omega) (by omega)
theorem ib_E(x:Int)(x0:0<=x)(x1:x<4294967296):ib (fm 8) x 4=0:=by
 have e:ib (fm 8) x 4=bits .or .u32 (bits .or .u32 (bits .or .u32 (bits .or .u32 0 (pc x 0 0 0)) (pc x 0 0 0)) (pc x 0 0 0)) (pc x 0 0 0):=rfl
 rw[e,yk x x0 x1]
 simp only[qD]
 exact vj 0 (by omega) (by omega)
end Go.Proofs.YtpiohehijkpghacGreatDoor.Hy
namespace Go.Proofs.YtpiohehijkpghacGreatDoor.Hy
open Go.RowKit
def sx(v half full:Int):Int:=if v<half then v else v-full
theorem zpJ(x:Int)(x0:0<=x)(x1:x<4294967296):rim (fm 1) x=sx (x/4096*4096) 2147483648 4294967296:=by
 have e:rim (fm 1) x=wrap32 (ib (fm 1) x 4*1%4294967296)/1:=rfl
 rw[e,ib_U x x0 x1];unfold sx wrap32;split<;>omega
theorem zpK(x:Int)(x0:0<=x)(x1:x<4294967296):rim (fm 2) x=sx (x/2147483648%2*1048576+x/4096%256*4096+x/1048576%2*2048+x/2097152%1024*2) 1048576 2097152:=by
 have e:rim (fm 2) x=wrap32 (ib (fm 2) x 4*2048%4294967296)/2048:=rfl
 rw[e,ib_J x x0 x1]
 have h:0<=x/2147483648%2*1048576+x/4096%256*4096+x/1048576%2*2048+x/2097152%1024*2/\x/2147483648%2*1048576+x/4096%256*4096+x/1048576%2*2048+x/2097152%1024*2<2097152:=by omega
 revert h
 generalize x/2147483648%2*1048576+x/4096%256*4096+x/1048576%2*2048+x/2097152%1024*2=v
 intro h
 unfold sx wrap32;split<;>omega
theorem zpL(x:Int)(x0:0<=x)(x1:x<4294967296):rim (fm 3) x=sx (x/1048576) 2048 4096:=by
 have e:rim (fm 3) x=wrap32 (ib (fm 3) x 4*1048576%4294967296)/1048576:=rfl
 rw[e,ib_I x x0 x1];unfold sx wrap32;split<;>omega
theorem zpM(x:Int)(x0:0<=x)(x1:x<4294967296):rim (fm 4) x=x/1048576%32:=by
 have e:rim (fm 4) x=wrap32 (ib (fm 4) x 4*1%4294967296)/1:=rfl
 rw[e,ib_H x x0 x1];unfold wrap32;omega
theorem zpN(x:Int)(x0:0<=x)(x1:x<4294967296):rim (fm 5) x=sx (x/2147483648%2*4096+x/128%2*2048+x/33554432%64*32+x/256%16*2) 4096 8192:=by
 have e:rim (fm 5) x=wrap32 (ib (fm 5) x 4*524288%4294967296)/524288:=rfl
 rw[e,ib_B x x0 x1]
 have h:0<=x/2147483648%2*4096+x/128%2*2048+x/33554432%64*32+x/256%16*2/\x/2147483648%2*4096+x/128%2*2048+x/33554432%64*32+x/256%16*2<8192:=by omega
 revert h
 generalize x/2147483648%2*4096+x/128%2*2048+x/33554432%64*32+x/256%16*2=v
 intro h
 unfold sx wrap32;split<;>omega
theorem zpO(x:Int)(x0:0<=x)(x1:x<4294967296):rim (fm 6) x=sx (x/33554432*32+x/128%32) 2048 4096:=by
 have e:rim (fm 6) x=wrap32 (ib (fm 6) x 4*1048576%4294967296)/1048576:=rfl
 rw[e,ib_S x x0 x1]
 have h:0<=x/33554432*32+x/128%32/\x/33554432*32+x/128%32<4096:=by omega
 have e2:x/33554432%128*32+x/128%32*1=x/33554432*32+x/128%32:=by omega
 rw[e2]
 revert h
 generalize x/33554432*32+x/128%32=v
 intro h
 unfold sx wrap32;split<;>omega
theorem zpP(x:Int)(x0:0<=x)(x1:x<4294967296):rim (fm 7) x=0:=by
 have e:rim (fm 7) x=wrap32 (ib (fm 7) x 4*1%4294967296)/1:=rfl
 rw[e,ib_R x x0 x1];unfold wrap32;omega
theorem zpQ(x:Int)(x0:0<=x)(x1:x<4294967296):rim (fm 8) x=0:=by
 have e:rim (fm 8) x=wrap32 (ib (fm 8) x 4*1%4294967296)/1:=rfl
 rw[e,ib_E x x0 x1];unfold wrap32;omega
theorem zpR(x:Int)(x0:0<=x)(x1:x<4294967296):rrg x 128 31=x/128%32:=by
 unfold rrg;rw[zgE _ (by omega) (by omega)];unfold wrap64;omega
theorem zok(x:Int)(x0:0<=x)(x1:x<4294967296):rrg x 32768 31=x/32768%32:=by
 unfold rrg;rw[zgE _ (by omega) (by omega)];unfold wrap64;omega
theorem zol(x:Int)(x0:0<=x)(x1:x<4294967296):rrg x 1048576 31=x/1048576%32:=by
 unfold rrg;rw[zgE _ (by omega) (by omega)];unfold wrap64;omega
theorem zeK(x:Int)(x0:0<=x)(x1:x<4294967296):rrg x 128 0=0:=by
 unfold rrg;rw[xu _ (by omega) (by omega)];unfold wrap64;omega
theorem zmb(x:Int)(x0:0<=x)(x1:x<4294967296):rrg x 32768 0=0:=by
 unfold rrg;rw[xu _ (by omega) (by omega)];unfold wrap64;omega
theorem zmc(x:Int)(x0:0<=x)(x1:x<4294967296):rrg x 1048576 0=0:=by
 unfold rrg;rw[xu _ (by omega) (by omega)];unfold wrap64;omega
end Go.Proofs.YtpiohehijkpghacGreatDoor.Hy
namespace Go.Proofs.YtpiohehijkpghacGreatDoor
open Go.RowKit
open Hy
theorem fm1:∀m,m<49->(fm (kn m) 1=31\/fm (kn m) 1=0):=by decide
theorem fm2:∀m,m<49->(fm (kn m) 2=31\/fm (kn m) 2=0):=by decide
theorem fm3:∀m,m<49->(fm (kn m) 3=31\/fm (kn m) 3=0):=by decide
theorem fm1b:∀m,m<11->5<=m->fm (kn m) 1=0:=by decide
theorem zkX(m:Nat)(hm:m<49)(x:Int)(x0:0<=x)(x1:x<=4294967295):0<=rrg x 128 (fm (kn m) 1)/\rrg x 128 (fm (kn m) 1)<32:=by
 rcases fm1 m hm with h|h
 ·rw[h,zpR x x0 (by omega)];omega
 ·rw[h,zeK x x0 (by omega)];omega
theorem zhI(m:Nat)(hm:m<49)(x:Int)(x0:0<=x)(x1:x<=4294967295):0<=rrg x 32768 (fm (kn m) 2)/\rrg x 32768 (fm (kn m) 2)<32:=by
 rcases fm2 m hm with h|h
 ·rw[h,zok x x0 (by omega)];omega
 ·rw[h,zmb x x0 (by omega)];omega
theorem zhJ(m:Nat)(hm:m<49)(x:Int)(x0:0<=x)(x1:x<=4294967295):0<=rrg x 1048576 (fm (kn m) 3)/\rrg x 1048576 (fm (kn m) 3)<32:=by
 rcases fm3 m hm with h|h
 ·rw[h,zol x x0 (by omega)];omega
 ·rw[h,zmc x x0 (by omega)];omega
theorem zhK(m:Nat)(h0:5<=m)(h1:m<=10)(x:Int)(x0:0<=x)(x1:x<=4294967295):rrg x 128 (fm (kn m) 1)=0:=by
 rw[fm1b m (by omega) h0,zeK x x0 (by omega)]
theorem zmd(m:Nat)(hm0:1<=m)(hm:m<=48)(x:Int)(x0:0<=x)(x1:x<=4294967295):-2147483648<=rim (fm (kn m)) x/\rim (fm (kn m)) x<=2147483647:=by
 obtain⟨h9,_,h1⟩:=zns m (by omega)
 have h1':1<=kn m:=by first|exact h1 hm0|exact h1
 generalize kn m=F at h9 h1'
 have x2:x<4294967296:=by omega
 rcases(by omega:F=1\/F=2\/F=3\/F=4\/F=5\/F=6\/F=7\/F=8)with rfl|rfl|rfl|rfl|rfl|rfl|rfl|rfl
 ·rw[zpJ x x0 x2];unfold sx;split<;>omega
 ·rw[zpK x x0 x2];unfold sx;split<;>omega
 ·rw[zpL x x0 x2];unfold sx;split<;>omega
 ·rw[zpM x x0 x2];omega
 ·rw[zpN x x0 x2];unfold sx;split<;>omega
 ·rw[zpO x x0 x2];unfold sx;split<;>omega
 ·rw[zpP x x0 x2];omega
 ·rw[zpQ x x0 x2];omega
def dcdN(X:Int):Nat->Option Nat
 |0=>none
 |k+1=>match dcdN X k with
  |some m=>some m
  |none=>if hit (k+1) X=true then some (k+1)else none
theorem vN(X:Int):∀k,(∀m,1<=m->m<=k->hit m X=false)->dcdN X k=none
 |0,_=>rfl
 |k+1,h=>by
  unfold dcdN
  rw[vN X k (λm h1 h2=>h m h1 (by omega))]
  simp only[]
  rw[h (k+1) (by omega) (Aa _)]
  rfl
theorem zcq(X:Int)(n:Nat)(h1:1<=n)(hn:hit n X=true)(hf:∀m,1<=m->m<n->hit m X=false):∀k,n<=k->dcdN X k=some n
 |0,h=>absurd h (by omega)
 |k+1,h=>by
  unfold dcdN
  by_cases e:n=k+1
  ·subst e
   rw[vN X k (λm a b=>hf m a (by omega))]
   simp only[hn,if_true]
  ·rw[zcq X n h1 hn hf k (by omega)]
def dcdW(X:Int):Option In:=match dcdN X 48 with
 |some m=>some ⟨m,(rrg X 128 (fm (kn m) 1)).toNat,(rrg X 32768 (fm (kn m) 2)).toNat,(rrg X 1048576 (fm (kn m) 3)).toNat,rim (fm (kn m)) X⟩
 |none=>none
end Go.Proofs.YtpiohehijkpghacGreatDoor
namespace Go.Proofs.YtpiohehijkpghacGreatDoor.Gu
open Go.RowKit
open Gu.Hy
theorem jF(pc:Int)(p0:0<=pc)(p1:pc<=4294967295)(w:World):
  Calls prog 150 #[.int .u32 pc] w λe w'=>e=.returned (.int .u32 (pc/4%16))/\w'=w:=by
 go_enter func150,ntmps150
 go_wp2
 go_ret
 exact⟨by go_num,rfl⟩
theorem yx(pc:Int)(p0:0<=pc)(p1:pc<=4294967295)(w:World):
  Calls prog 153 #[.int .u32 pc] w λe w'=>e=.returned (.int .u32 (pc/4%8))/\w'=w:=by
 go_enter func153,ntmps153
 go_wp2
 go_ret
 exact⟨by go_num,rfl⟩
theorem vO(n:Int)(w:World):
  Calls prog 184 #[.int .i64 n] w λe w'=>e=.returned (.int .i64 (bnd n))/\w'=w:=by
 go_enter func184,ntmps184
 go_wp2
 all_goals(go_ret;refine⟨?_,rfl⟩;simp_all[bnd])
 all_goals omega
theorem zcr(n:Int):0<=bnd n/\bnd n<=3:=by
 unfold bnd
 split
 ·omega
 ·split<;>omega
theorem zcs(n:Int)(w:World):
  Calls prog 151 #[.int .i64 n] w λe w'=>e=.returned (.int .i64 (bnd (bnd n+1)))/\w'=w:=by
 obtain⟨b0,b1⟩:=zcr n
 obtain⟨b,hb⟩:∃b,b=bnd n:=⟨_,rfl⟩
 have H:=vO n
 rw[<-hb]at b0 b1 H⊢
 clear hb
 go_enter func151,ntmps151
 go_wp2_with(go_at_call 184;refine(H _).mono ?_;rintro e w' ⟨rfl,rfl⟩)
 all_goals(go_ret;refine⟨?_,rfl⟩;unfold bnd;try simp)
 all_goals(repeat' split)<;>first|omega|rfl|skip
theorem zhL(n:Int)(w:World):
  Calls prog 152 #[.int .i64 n] w λe w'=>e=.returned (.int .i64 (bnd (bnd n-1)))/\w'=w:=by
 obtain⟨b0,b1⟩:=zcr n
 obtain⟨b,hb⟩:∃b,b=bnd n:=⟨_,rfl⟩
 have H:=vO n
 rw[<-hb]at b0 b1 H⊢
 clear hb
 go_enter func152,ntmps152
 go_wp2_with(go_at_call 184;refine(H _).mono ?_;rintro e w' ⟨rfl,rfl⟩)
 all_goals(go_ret;refine⟨?_,rfl⟩;unfold bnd;try simp)
 all_goals(repeat' split)<;>first|omega|rfl|skip
theorem below_drewN{B:Nat}{a w:World}(h:Below B a w)(n:Nat):Below B a (w.drewN n):=⟨h.os,h.tape,h.output,h.size,h.block⟩
theorem zdx(T:Array Value)(pc:Int)(p0:0<=pc)(p1:pc<=4294967295)(L G:Int)(B:Bool)(k:Nat)(hk:k<16)(he:Hid ((k:Int)=pc/4%16))(hB:Hid (B=decide (2<=L)))
  (hL:T[k*2]?=some (.int .i64 L)) (hG:T[k*2+1]?=some (.int .u32 G)) (w:World):
  Calls prog 172 #[.agg T,.int .u32 pc] w λe w'=>e=.returned (.tuple #[.bool B,.int .u32 G])/\Below w.heap.size w w':=by
 have C:=jF pc p0 p1
 rw[<-he.out]at C
 have k0:(0:Int)<=(k:Int):=by omega
 have k1:(k:Int)<16:=by omega
 go_enter func172,ntmps172
 go_wp2_with fail
 refine(C _).mono ?_
 rintro e w' ⟨rfl,rfl⟩
 go_wp2_with fail
 go_region
 go_wp2_with fail
 go_ret2
 exact⟨by rw[hB.out];rfl,(((Ab _ _).alloc (Aa _) _).alloc (by simp) _).drew⟩
theorem zfP(T:Array Value)(pc:Int)(p0:0<=pc)(p1:pc<=4294967295)(P A S U V:Int)(B:Bool)(a0:0<=A)(a1:A<=4294967295)(s0:0<=S)(s1:S<=4294967295)(k:Nat)(hk:k<8)(he:Hid ((k:Int)=pc/4%8))
  (hB:Hid (B=decide (P=pc/\2<=U))) (hV:Hid (V=if B then(A+S)%4294967296 else 0))
  (hP:T[32+k*4]?=some (.int .u32 P)) (hA:T[32+k*4+1]?=some (.int .u32 A)) (hS:T[32+k*4+2]?=some (.int .u32 S)) (hU:T[32+k*4+3]?=some (.int .i64 U)) (w:World):
  Calls prog 173 #[.agg T,.int .u32 pc] w λe w'=>e=.returned (.tuple #[.int .u32 V,.bool B])/\Below w.heap.size w w':=by
 have C:=yx pc p0 p1
 rw[<-he.out]at C
 have k0:(0:Int)<=(k:Int):=by omega
 have k1:(k:Int)<8:=by omega
 go_enter func173,ntmps173
 go_wp2_with fail
 refine(C _).mono ?_
 rintro e w' ⟨rfl,rfl⟩
 go_wp2_with fail
 all_goals go_ret2
 all_goals(refine⟨?_,((Ab _ _).alloc (Aa _) _).alloc (by simp) _⟩;rw[hV.out,hB.out];simp_all)
 all_goals(intro h;omega)
end Go.Proofs.YtpiohehijkpghacGreatDoor.Gu
namespace Go.Proofs.YtpiohehijkpghacGreatDoor.Gu
open Go.RowKit
open Gu.Hy
theorem yl:(prog.info? 56).map (·.size)=some 64:=by kernel_rfl
def Ones(H:Array Value):Prop:=H.all (·.oneCell')=true
theorem Ones.set{H:Array Value}(h:Ones H)(i:Nat)(v:Value)(hv:v.oneCell'=true):Ones (H.setIfInBounds i v):=by
 unfold Ones at*
 rw[Array.all_eq_true_iff_forall_mem]at*
 intro x hx
 obtain⟨j,hj,e⟩:=Array.getElem_of_mem hx
 have hj':j<H.size:=by simpa using hj
 rw[Array.getElem_setIfInBounds hj']at e
 split at e
 ·rw[<-e];exact hv
 ·rw[<-e];exact h _ (Array.getElem_mem hj')
theorem zc{B:Nat}{a w:World}(h:Below B a w){g:Nat}(hg:B<=g)(cs:Array Value):Below B a (w.setRow g cs):=
 ⟨h.os,h.tape,h.output,by simpa using h.size,λk hk=>(Zw _ _ _ _ (by omega)).trans (h.block k hk)⟩
structure Tbl(T:Array Value):Prop where
 size:T.size=64
 ones:Ones T
theorem Tbl.set{T:Array Value}(h:Tbl T)(i:Nat)(k:IntKind)(v:Int):Tbl (T.setIfInBounds i (.int k v)):=⟨by simp[h.size],h.ones.set _ _ rfl⟩
theorem Tbl.info{T:Array Value}(h:Tbl T):(prog.info? 56).map (·.size)=some T.size:=by rw[yl,h.size]
theorem yD(T:Array Value)(hT:Hid (Tbl T))(pc tg:Int)(p0:0<=pc)(p1:pc<=4294967295)(L G N:Int)(k:Nat)(hk:k<16)(he:Hid ((k:Int)=pc/4%16))(hN:Hid (N=bnd (bnd L+1)))
  (hL:T[k*2]?=some (.int .i64 L)) (hG:T[k*2+1]?=some (.int .u32 G)) (w:World):
  Calls prog 117 #[.agg T,.int .u32 pc,.bool true,.int .u32 tg] w λe w'=>e=.returned (.agg ((T.setIfInBounds (k*2) (.int .i64 N)).setIfInBounds (k*2+1) (.int .u32 tg)))/\Below w.heap.size w w':=by
 have C:=jF pc p0 p1
 have D:=zcs L
 rw[<-he.out]at C
 rw[<-hN.out]at D
 have k0:(0:Int)<=(k:Int):=by omega
 have k1:(k:Int)<16:=by omega
 have HD:Hid (Tbl ((T.setIfInBounds (k*2) (.int .i64 N)).setIfInBounds (k*2+1) (.int .u32 tg))):=(hT.out.set _ _ _).set _ _ _
 go_enter func117,ntmps117
 go_wp2_with fail
 refine(C _).mono ?_
 rintro e w' ⟨rfl,rfl⟩
 go_wp2_with fail
 refine(D _).mono ?_
 rintro e w' ⟨rfl,rfl⟩
 go_wp2_with(first|(refine Aq rfl 56 _ rfl _ rfl 56 _ (0,0) _ (AY _ _ _) underlying56 rfl HD.out.info ?_)|(refine Ar rfl 56 _ _ rfl _ _ rfl rfl 56 _ (Ay _ _ _) HD.out.info HD.out.size.symm HD.out.ones ?_))
 exact Ap (v:=.agg _) (AE results117 _ _ _ 56 _ (0,0) _ rfl (AV _ _ _ _ _ _ (Ay _ _ _)) underlying56 rfl HD.out.info) rfl ⟨rfl,zc (((Ab _ _).alloc (Aa _) _).alloc (by simp) _) (by simp) _⟩
theorem vP(T:Array Value)(hT:Hid (Tbl T))(pc tg:Int)(p0:0<=pc)(p1:pc<=4294967295)(L N:Int)(k:Nat)(hk:k<16)(he:Hid ((k:Int)=pc/4%16))(hN:Hid (N=bnd (bnd L-1)))
  (hL:T[k*2]?=some (.int .i64 L)) (w:World):
  Calls prog 117 #[.agg T,.int .u32 pc,.bool false,.int .u32 tg] w λe w'=>e=.returned (.agg (T.setIfInBounds (k*2) (.int .i64 N)))/\Below w.heap.size w w':=by
 have C:=jF pc p0 p1
 have D:=zhL L
 rw[<-he.out]at C
 rw[<-hN.out]at D
 have k0:(0:Int)<=(k:Int):=by omega
 have k1:(k:Int)<16:=by omega
 have HD:Hid (Tbl (T.setIfInBounds (k*2) (.int .i64 N))):=hT.out.set _ _ _
 go_enter func117,ntmps117
 go_wp2_with fail
 refine(C _).mono ?_
 rintro e w' ⟨rfl,rfl⟩
 go_wp2_with fail
 refine(D _).mono ?_
 rintro e w' ⟨rfl,rfl⟩
 go_wp2_with(first|(refine Aq rfl 56 _ rfl _ rfl 56 _ (0,0) _ (AY _ _ _) underlying56 rfl HD.out.info ?_)|(refine Ar rfl 56 _ _ rfl _ _ rfl rfl 56 _ (Ay _ _ _) HD.out.info HD.out.size.symm HD.out.ones ?_))
 exact Ap (v:=.agg _) (AE results117 _ _ _ 56 _ (0,0) _ rfl (AV _ _ _ _ _ _ (Ay _ _ _)) underlying56 rfl HD.out.info) rfl ⟨rfl,zc (((Ab _ _).alloc (Aa _) _).alloc (by simp) _) (by simp) _⟩
def lS(P A S pc v:Int):Int:=if P=pc then(if v=(A+S)%4294967296 then S else(v-A)%4294967296)else 0
def lU(P A S U pc v:Int):Int:=if P=pc then(if v=(A+S)%4294967296 then bnd (bnd U+1)else 0)else 0
theorem ym:(prog.info? 53).map (·.size)=some 4:=by kernel_rfl
theorem zdy(pc v P A S U X Y:Int)(a0:0<=A)(a1:A<=4294967295)(s0:0<=S)(s1:S<=4294967295)(v0:0<=v)(v1:v<=4294967295)(hX:Hid (X=lS P A S pc v))(hY:Hid (Y=lU P A S U pc v))(w:World):
  Calls prog 154 #[.agg #[.int .u32 P,.int .u32 A,.int .u32 S,.int .i64 U],.int .u32 pc,.int .u32 v] w λe w'=>e=.returned (.agg #[.int .u32 pc,.int .u32 v,.int .u32 X,.int .i64 Y])/\Below w.heap.size w w':=by
 obtain⟨N,hN⟩:∃N,N=bnd (bnd U+1):=⟨_,rfl⟩
 have D:=zcs U
 rw[<-hN]at D
 have HN:Hid (N=bnd (bnd U+1)):=hN
 clear hN
 by_cases hp:P=pc
 ·by_cases hv:v=(A+S)%4294967296
  ·have X1:X=S:=by rw[hX.out];simp[lS,hp,<-hv]
   have Y1:Y=N:=by rw[hY.out,HN.out];simp[lU,hp,<-hv]
   subst X1 Y1
   have hv':(v==(A+X)%4294967296)=true:=by simpa using hv
   clear hX hY HN hv
   go_enter func154,ntmps154
   go_wp2_with fail
   go_region_with (first|(go_at_call 151;refine(D _).mono ?_;rintro e w' ⟨rfl,rfl⟩))
   all_goals(go_wp2_with fail)
   all_goals exact Ap (v:=.agg _) (AE results154 _ _ _ 53 _ (0,0) _ rfl (Ay _ _ _) underlying53 rfl ym) rfl ⟨rfl,(((Ab _ _).alloc (Aa _) _).alloc (by simp) _).drew⟩
  ·have X1:X=(v-A)%4294967296:=by rw[hX.out];simp[lS,hp,hv]
   have Y1:Y=0:=by rw[hY.out];simp[lU,hp,hv]
   subst X1 Y1
   clear hX hY HN
   have hv':(v==(A+S)%4294967296)=false:=by simpa using hv
   go_enter func154,ntmps154
   go_wp2_with fail
   all_goals exact Ap (v:=.agg _) (AE results154 _ _ _ 53 _ (0,0) _ rfl (Ay _ _ _) underlying53 rfl ym) rfl ⟨rfl,((Ab _ _).alloc (Aa _) _).alloc (by simp) _⟩
 ·have X1:X=0:=by rw[hX.out];simp[lS,hp]
  have Y1:Y=0:=by rw[hY.out];simp[lU,hp]
  subst X1 Y1
  clear hX hY HN
  have hp':(P != pc)=true:=by simpa using hp
  go_enter func154,ntmps154
  go_wp2_with fail
  all_goals exact Ap (v:=.agg _) (AE results154 _ _ _ 53 _ (0,0) _ rfl (Ay _ _ _) underlying53 rfl ym) rfl ⟨rfl,((Ab _ _).alloc (Aa _) _).alloc (by simp) _⟩
abbrev zt:Array Value:=tcs ⟨λ_=>0,λ_=>0,λ_=>0,λ_=>0,λ_=>0,λ_=>0⟩
theorem zme:zt.size=64:=rfl
theorem zB{w:World}{b i:Nat}{cs:Array Value}{t:TypeId}{fr:Nat×Nat}{v:Value}(h:w.heap[b]?=some (.cells cs t fr)):(w.setCell ⟨b,i,none⟩ v).heap[b]?=some (.cells (cs.setIfInBounds i v) t fr):=by
 simp[ZM,Zo,h]
theorem zi{w:World}{b g i:Nat}{o:Obj}{v:Value}(h:w.heap[g]?=some o)(hne:b≠g):(w.setCell ⟨b,i,none⟩ v).heap[g]?=some o:=by
 simp[ZM,Zo,h,hne]
theorem row4{w:World}{b i0 i1 i2 i3:Nat}{cs:Array Value}{t:TypeId}{fr:Nat×Nat}{v0 v1 v2 v3:Value}(h:w.heap[b]?=some (.cells cs t fr)):((((w.setCell ⟨b,i0,none⟩ v0).setCell ⟨b,i1,none⟩ v1).setCell ⟨b,i2,none⟩ v2).setCell ⟨b,i3,none⟩ v3).heap[b]?=some (.cells ((((cs.setIfInBounds i0 v0).setIfInBounds i1 v1).setIfInBounds i2 v2).setIfInBounds i3 v3) t fr):=zB (zB (zB (zB h)))
theorem zpS{w:World}{b g i0 i1 i2 i3:Nat}{o:Obj}{v0 v1 v2 v3:Value}(h:w.heap[g]?=some o)(hne:b≠g):((((w.setCell ⟨b,i0,none⟩ v0).setCell ⟨b,i1,none⟩ v1).setCell ⟨b,i2,none⟩ v2).setCell ⟨b,i3,none⟩ v3).heap[g]?=some o:=zi (zi (zi (zi h hne) hne) hne) hne
theorem zom{w w2:World}{i0 i1 i2 i3:Nat}{v0 v1 v2 v3:Value}(h:Below w.heap.size w w2):Below w.heap.size w ((((w2.setCell ⟨w.heap.size,i0,none⟩ v0).setCell ⟨w.heap.size,i1,none⟩ v1).setCell ⟨w.heap.size,i2,none⟩ v2).setCell ⟨w.heap.size,i3,none⟩ v3):=(((h.setCell (Aa _) _).setCell (Aa _) _).setCell (Aa _) _).setCell (Aa _) _
theorem vQ(T:Array Value)(hT:Hid (Tbl T))(pc v:Int)(p0:0<=pc)(p1:pc<=4294967295)(v0:0<=v)(v1:v<=4294967295)(P A S U X Y:Int)(a0:0<=A)(a1:A<=4294967295)(s0:0<=S)(s1:S<=4294967295)(k:Nat)(hk:k<8)(he:Hid ((k:Int)=pc/4%8))
  (hX:Hid (X=lS P A S pc v)) (hY:Hid (Y=lU P A S U pc v))
  (hP:T[32+k*4]?=some (.int .u32 P)) (hA:T[32+k*4+1]?=some (.int .u32 A)) (hS:T[32+k*4+2]?=some (.int .u32 S)) (hU:T[32+k*4+3]?=some (.int .i64 U)) (w:World):
  Calls prog 118 #[.agg T,.int .u32 pc,.int .u32 v] w λe w'=>e=.returned (.agg ((((T.setIfInBounds (32+k*4) (.int .u32 pc)).setIfInBounds (32+k*4+1) (.int .u32 v)).setIfInBounds (32+k*4+2) (.int .u32 X)).setIfInBounds (32+k*4+3) (.int .i64 Y)))/\Below w.heap.size w w':=by
 have C:=yx pc p0 p1
 have D:=zdy pc v P A S U X Y a0 a1 s0 s1 v0 v1 hX hY
 rw[<-he.out]at C
 have k0:(0:Int)<=(k:Int):=by omega
 have k1:(k:Int)<8:=by omega
 have HD:Hid (Tbl ((((T.setIfInBounds (32+k*4) (.int .u32 pc)).setIfInBounds (32+k*4+1) (.int .u32 v)).setIfInBounds (32+k*4+2) (.int .u32 X)).setIfInBounds (32+k*4+3) (.int .i64 Y))):=(((hT.out.set _ _ _).set _ _ _).set _ _ _).set _ _ _
 go_enter func118,ntmps118
 go_wp2_with fail
 refine(C _).mono ?_
 rintro e w' ⟨rfl,rfl⟩
 go_wp2_with fail
 refine(D _).mono ?_
 rintro e w2 ⟨rfl,hk⟩
 have hs2:=hk.size
 simp at hs2
 have hb0:Below w.heap.size w w2:=(((Ab _ _).alloc (Aa _) _).alloc (by simp) _).trans (hk.mono (by simp;omega))
 have hrow:w2.heap[w.heap.size]?=some (.cells T 56 (0,0)):=(hk.block _ (by simp;omega)).trans (AY _ _ _)
 obtain⟨Z,hZ,hres⟩:∃Z:Array Value,Hid (Z.size=64)/\w2.heap[w.heap.size+1]?=some (.cells Z 56 (0,0)):=⟨zt,zme,(hk.block _ (by simp)).trans (Ay _ _ _)⟩
 have c0:=(WZ w2 w.heap.size _ _ _ _ hrow).trans hP
 have c1:=(WZ w2 w.heap.size _ _ _ _ hrow).trans hA
 have c2:=(WZ w2 w.heap.size _ _ _ _ hrow).trans hS
 have c3:=(WZ w2 w.heap.size _ _ _ _ hrow).trans hU
 have hf:∀j,w2.frozen? ⟨w.heap.size,j,none⟩=false:=λj=>AU _ _ j _ _ hrow
 have HR:Hid (w2.heap[w.heap.size]?=some (.cells T 56 (0,0))):=hrow
 have HZ:Hid (w2.heap[w.heap.size+1]?=some (.cells Z 56 (0,0))):=hres
 have hs3:w.heap.size<w2.heap.size:=by omega
 have hs4:w.heap.size+1<w2.heap.size:=by omega
 clear hk hrow hres hs2 C D hX hY hP hA hS hU
 have HR4:Hid (((((w2.setCell ⟨w.heap.size,32+k*4,none⟩ (.int .u32 pc)).setCell ⟨w.heap.size,32+k*4+1,none⟩ (.int .u32 v)).setCell ⟨w.heap.size,32+k*4+2,none⟩ (.int .u32 X)).setCell ⟨w.heap.size,32+k*4+3,none⟩ (.int .i64 Y)).heap[w.heap.size]?=some (.cells ((((T.setIfInBounds (32+k*4) (.int .u32 pc)).setIfInBounds (32+k*4+1) (.int .u32 v)).setIfInBounds (32+k*4+2) (.int .u32 X)).setIfInBounds (32+k*4+3) (.int .i64 Y)) 56 (0,0))):=row4 HR.out
 have HZ4:Hid (((((w2.setCell ⟨w.heap.size,32+k*4,none⟩ (.int .u32 pc)).setCell ⟨w.heap.size,32+k*4+1,none⟩ (.int .u32 v)).setCell ⟨w.heap.size,32+k*4+2,none⟩ (.int .u32 X)).setCell ⟨w.heap.size,32+k*4+3,none⟩ (.int .i64 Y)).heap[w.heap.size+1]?=some (.cells Z 56 (0,0))):=zpS HZ.out (by omega)
 have HB4:Hid (Below w.heap.size w ((((w2.setCell ⟨w.heap.size,32+k*4,none⟩ (.int .u32 pc)).setCell ⟨w.heap.size,32+k*4+1,none⟩ (.int .u32 v)).setCell ⟨w.heap.size,32+k*4+2,none⟩ (.int .u32 X)).setCell ⟨w.heap.size,32+k*4+3,none⟩ (.int .i64 Y))):=zom hb0
 clear hb0 HR HZ
 go_upto_region 3 with fail
 go_wp2_with(first|(refine Aq rfl 56 _ rfl _ rfl 56 _ (0,0) _ HR4.out underlying56 rfl HD.out.info ?_)|(refine Ar rfl 56 _ _ rfl _ _ rfl rfl 56 _ HZ4.out HD.out.info (hZ.out.trans HD.out.size.symm) HD.out.ones ?_))
 exact Ap (v:=.agg _) (AE results118 _ _ _ 56 _ (0,0) _ rfl (AV _ _ _ _ _ _ HZ4.out) underlying56 rfl HD.out.info) rfl ⟨rfl,zc HB4.out (by omega) _⟩
end Go.Proofs.YtpiohehijkpghacGreatDoor.Gu
namespace Go.Proofs.YtpiohehijkpghacGreatDoor.Gu
open Go.RowKit
open Gu.Hy
structure TbOk(t:Tb):Prop where
 G:∀i,i<16->0<=t.G i/\t.G i<=4294967295
 P:∀i,i<8->0<=t.P i/\t.P i<=4294967295
 A:∀i,i<8->0<=t.A i/\t.A i<=4294967295
 S:∀i,i<8->0<=t.S i/\t.S i<=4294967295
theorem zdz(t:Tb):Tbl (tcs t):=⟨rfl,by unfold Ones;simp[ZI]⟩
def zdA(t:Tb)(k:Nat)(tk:Bool)(g:Int):Tb:=if tk then{t with L:=up t.L k (bnd (bnd (t.L k)+1)),G:=up t.G k g}else{t with L:=up t.L k (bnd (bnd (t.L k)-1))}
def zdB(t:Tb)(k:Nat)(pc v:Int):Tb:={t with P:=up t.P k pc,A:=up t.A k v,S:=up t.S k (lS (t.P k) (t.A k) (t.S k) pc v),U:=up t.U k (lU (t.P k) (t.A k) (t.S k) (t.U k) pc v)}
abbrev kb(pc:Int):Nat:=(pc/4%16).toNat
abbrev kw(pc:Int):Nat:=(pc/4%8).toNat
theorem gB(t:Tb)(pc tg:Int)(p0:0<=pc)(p1:pc<=4294967295)(tk:Bool)(w:World):
  Calls prog 117 #[.agg (tcs t),.int .u32 pc,.bool tk,.int .u32 tg] w λe w'=>e=.returned (.agg (tcs (zdA t (kb pc) tk tg)))/\Below w.heap.size w w':=by
 have hk:kb pc<16:=by unfold kb;omega
 have he:Hid ((kb pc:Int)=pc/4%16):=by show _=_;unfold kb;omega
 cases tk
 ·have h:=vP (tcs t) (zdz t) pc tg p0 p1 (t.L (kb pc)) _ (kb pc) hk he rfl (zlJ t _ hk) w
  rw[znP t _ _ hk]at h
  exact h
 ·have h:=yD (tcs t) (zdz t) pc tg p0 p1 (t.L (kb pc)) (t.G (kb pc)) _ (kb pc) hk he rfl (zlJ t _ hk) (znQ t _ hk) w
  rw[znP t _ _ hk,zpA _ _ _ hk]at h
  exact h
theorem gV(t:Tb)(ht:TbOk t)(pc v:Int)(p0:0<=pc)(p1:pc<=4294967295)(v0:0<=v)(v1:v<=4294967295)(w:World):
  Calls prog 118 #[.agg (tcs t),.int .u32 pc,.int .u32 v] w λe w'=>e=.returned (.agg (tcs (zdB t (kw pc) pc v)))/\Below w.heap.size w w':=by
 have hk:kw pc<8:=by unfold kw;omega
 have he:Hid ((kw pc:Int)=pc/4%8):=by show _=_;unfold kw;omega
 have h:=vQ (tcs t) (zdz t) pc v p0 p1 v0 v1 (t.P (kw pc)) (t.A (kw pc)) (t.S (kw pc)) (t.U (kw pc)) _ _ (ht.A _ hk).1 (ht.A _ hk).2 (ht.S _ hk).1 (ht.S _ hk).2 (kw pc) hk he rfl rfl (znR t _ hk) (znS t _ hk) (znT t _ hk) (znU t _ hk) w
 rw[znI t _ _ hk,zpB _ _ _ hk,zpC _ _ _ hk,zpD _ _ _ hk]at h
 exact h
def zon(t:Tb)(k:Nat):Bool:=decide (2<=t.L k)
def zmf(t:Tb)(k:Nat)(pc:Int):Bool:=decide (t.P k=pc/\2<=t.U k)
def isV(t:Tb)(k:Nat)(pc:Int):Int:=if zmf t k pc then(t.A k+t.S k)%4294967296 else 0
theorem gBr(t:Tb)(pc:Int)(p0:0<=pc)(p1:pc<=4294967295)(w:World):
  Calls prog 172 #[.agg (tcs t),.int .u32 pc] w λe w'=>e=.returned (.tuple #[.bool (zon t (kb pc)),.int .u32 (t.G (kb pc))])/\Below w.heap.size w w':=by
 have hk:kb pc<16:=by unfold kb;omega
 have he:Hid ((kb pc:Int)=pc/4%16):=by show _=_;unfold kb;omega
 exact zdx (tcs t) pc p0 p1 _ _ _ (kb pc) hk he rfl (zlJ t _ hk) (znQ t _ hk) w
theorem gVa(t:Tb)(ht:TbOk t)(pc:Int)(p0:0<=pc)(p1:pc<=4294967295)(w:World):
  Calls prog 173 #[.agg (tcs t),.int .u32 pc] w λe w'=>e=.returned (.tuple #[.int .u32 (isV t (kw pc) pc),.bool (zmf t (kw pc) pc)])/\Below w.heap.size w w':=by
 have hk:kw pc<8:=by unfold kw;omega
 have he:Hid ((kw pc:Int)=pc/4%8):=by show _=_;unfold kw;omega
 exact zfP (tcs t) pc p0 p1 _ _ _ _ _ _ (ht.A _ hk).1 (ht.A _ hk).2 (ht.S _ hk).1 (ht.S _ hk).2 (kw pc) hk he rfl rfl (znR t _ hk) (znS t _ hk) (znT t _ hk) (znU t _ hk) w
theorem zk{w:World}{b:Nat}{o:Obj}(h:w.heap[b]?=some o):b<w.heap.size:=(Ad.1 h).1
theorem heap_alloc_new(w:World)(o:Obj):(w.alloc o).heap[w.heap.size]?=some o:=by
 show(w.heap.push o)[w.heap.size]?=some o
 simp
theorem zb{P:Program}{ops:Array Oper}{S:World->Prop}{op:Oper}{a:Act}(hw:Zq op (yielded ops a.tmps)=true)(ty:TypeId)(x:Operand)(ho:op.op=.load ty x)
  (g:Nat) (hx:a.eval x=.pointer (some ⟨g,0,none⟩)) (t:TypeId) (cs:Array Value) (fr:Nat×Nat) (d:TypeDesc) (hS:∀w,S w->w.heap[g]?=some (.cells cs t fr))
  (hu:P.underlying ty=some d) (hd:(match d with|.struct _|.array _ _=>true|_=>false)=true) (hi:(P.info? ty).map (·.size)=some cs.size):YieldsIf P ops S op (.agg cs) a:=
 .inl ⟨hw,λw hw'=>by
  unfold execOp
  simp only[ho,hx,ZS,ZJ,Zu,Zv,Zd,Zn w g t ty cs fr d (hS w hw') hu hd hi]⟩
theorem qX{P:Program}{ops:Array Oper}{rest:List Oper}{o:Oper}{a:Act}{W:World}{Q:Exit->Act->World->Prop}(hgd:o.guard=none)(ty:TypeId)(x y:Operand)(ho:o.op=.store ty x y)
  (cells:Array Value) (t:TypeId) (old:Array Value) (hx:a.eval x=.pointer (some ⟨W.heap.size,0,none⟩)) (hy:a.eval y=.agg cells)
  (hi:(P.info? ty).map (·.size)=some cells.size) (hold:old.size=cells.size) (h1:cells.all (·.oneCell')=true)
  (h:∀V:World,V.heap[W.heap.size]?=some (.cells cells t (0,0))->Below W.heap.size W V->wpList P ops Q rest (a.put o.dst undef) V):wpList P ops Q (o::rest) a (W.alloc (.cells old t (0,0))):=
 Ar hgd ty x y ho W.heap.size cells hx hy t old (heap_alloc_new _ _) hi hold h1 (h _ (AV _ _ _ _ _ _ (heap_alloc_new _ _)) (zc ((Ab _ _).alloc (Aa _) _) (Aa _) _))
end Go.Proofs.YtpiohehijkpghacGreatDoor.Gu
namespace Go.Proofs.YtpiohehijkpghacGreatDoor.Co
open Go.RowKit
open Hy
open Wi Od Re.Hy
open Gu.Hy (Tb tcs)
def dcdM(x:Int):Option In:=if 0<=x/\x<=4294967295 then dcdW x else none
def brM(t:Tb)(pc:Int):Bool×Int:=(Gu.zon t (Gu.kb pc),t.G (Gu.kb pc))
def vaM(t:Tb)(pc:Int):Int×Bool:=(Gu.isV t (Gu.kw pc) pc,Gu.zmf t (Gu.kw pc) pc)
def lbM(t:Tb)(pc:Int)(tk:Bool)(g:Int):Tb:=Gu.zdA t (Gu.kb pc) tk g
def lvM(t:Tb)(pc v:Int):Tb:=Gu.zdB t (Gu.kw pc) pc v
def mach:Mc:=⟨dcdM,doW,brM,vaM,lbM,lvM⟩
theorem zhM(X:Int):∀k m,dcdN X k=some m->1<=m/\m<=k
 |0,m,h=>by cases h
 |k+1,m,h=>by
  unfold dcdN at h
  cases e:dcdN X k with
  |some j=>
   rw[e]at h
   simp only[Ze]at h
   subst h
   have:=zhM X k _ e
   omega
  |none=>
   rw[e]at h
   simp only[]at h
   split at h
   ·simp only[Ze]at h;omega
   ·cases h
theorem fm1s:∀m,m<49->((16<=m/\m<=18)\/47<=m)->fm (kn m) 1=0:=by decide
theorem zct{x:Int}{i:In}(h:dcdM x=some i):0<=x/\x<=4294967295/\∃m,dcdN x 48=some m/\1<=m/\m<=48/\i=⟨m,(rrg x 128 (fm (kn m) 1)).toNat,(rrg x 32768 (fm (kn m) 2)).toNat,(rrg x 1048576 (fm (kn m) 3)).toNat,rim (fm (kn m)) x⟩:=by
 unfold dcdM at h
 split at h
 ·rename_i hx
  unfold dcdW at h
  cases e:dcdN x 48 with
  |none=>rw[e]at h;cases h
  |some m=>
   rw[e]at h
   simp only[Ze]at h
   have:=zhM x 48 m e
   exact⟨hx.1,hx.2,m,rfl,this.1,this.2,h.symm⟩
 ·cases h
theorem vR{x:Int}{i:In}(h:dcdM x=some i):InOk i:=by
 obtain⟨x0,x1,m,hm,m0,m1,rfl⟩:=zct h
 have h1:=zkX m (by omega) x x0 x1
 have h2:=zhI m (by omega) x x0 x1
 have h3:=zhJ m (by omega) x x0 x1
 have h4:=zmd m m0 m1 x x0 x1
 exact⟨by show Zh _<32;omega,by show Zh _<32;omega,by show Zh _<32;omega,h4.1,h4.2,by show(1:Int)<=m;omega,by show(m:Int)<=48;omega⟩
theorem zhN{x:Int}{i:In}(h:dcdM x=some i)(ho:(5<=i.op/\i.op<=10)\/(16<=i.op/\i.op<=18)\/47<=i.op):i.rd=0:=by
 obtain⟨x0,x1,m,hm,m0,m1,rfl⟩:=zct h
 simp only[]at ho⊢
 rcases ho with ho|ho|ho
 ·rw[zhK m (by omega) (by omega) x x0 x1];rfl
 ·rw[fm1s m (by omega) (by omega),zeK x x0 (by omega)];rfl
 ·rw[fm1s m (by omega) (by omega),zeK x x0 (by omega)];rfl
theorem zeL{op:Int}(h:16<=op/\op<=18):(stn op=1\/stn op=2\/stn op=4):=by
 rcases(by omega:op=16\/op=17\/op=18)with rfl|rfl|rfl<;>simp[stn]
theorem xj(i:In)(pc a b:Int)(n:Nat):(16<=i.op/\i.op<=18/\fits n (place i a) (stn i.op)=true/\doW i pc a b n=⟨pc,(pc+4)%4294967296,0,0,0,0,place i a,stn i.op,b%p256 (stn i.op).toNat,false,0⟩)\/(16<=i.op/\i.op<=18/\doW i pc a b n=qn pc 4)\/(i.op=46/\doW i pc a b n=onC pc 0 0)\/
  (i.op=47/\(doW i pc a b n=⟨pc,pc,1,0,0,0,0,0,0,false,0⟩\/doW i pc a b n=⟨pc,(pc+4)%4294967296,0,0,0,0,0,0,0,true,b⟩\/doW i pc a b n=qn pc 5))\/(i.op=48/\doW i pc a b n=qn pc 6)\/(¬(16<=i.op/\i.op<=18)/\i.op≠46/\i.op≠47/\i.op≠48/\doW i pc a b n=zje pc (nxW i pc a b) i.rd (rkW i pc a b)):=by
 unfold doW
 by_cases h1:sts i=true
 ·rw[if_pos h1]
  have h1':16<=i.op/\i.op<=18:=by simpa[sts]using h1
  by_cases h2:fits n (place i a) (stn i.op)=true
  ·rw[if_pos h2];exact .inl ⟨h1'.1,h1'.2,h2,rfl⟩
  ·rw[if_neg h2];exact .inr (.inl ⟨h1'.1,h1'.2,rfl⟩)
 ·have h1':¬(16<=i.op/\i.op<=18):=by simpa[sts]using h1
  rw[if_neg h1]
  by_cases h2:i.op=46
  ·rw[if_pos h2];exact .inr (.inr (.inl ⟨h2,rfl⟩))
  rw[if_neg h2]
  by_cases h3:i.op=47
  ·rw[if_pos h3]
   refine .inr (.inr (.inr (.inl ⟨h3,?_⟩)))
   by_cases h4:a=0
   ·rw[if_pos h4];exact .inl rfl
   ·rw[if_neg h4]
    by_cases h5:a=1
    ·rw[if_pos h5];exact .inr (.inl rfl)
    ·rw[if_neg h5];exact .inr (.inr rfl)
  rw[if_neg h3]
  by_cases h4:i.op=48
  ·rw[if_pos h4];exact .inr (.inr (.inr (.inr (.inl ⟨h4,rfl⟩))))
  ·rw[if_neg h4];exact .inr (.inr (.inr (.inr (.inr ⟨h1',h2,h3,h4,rfl⟩))))
theorem vS{i:In}(h:i.op<4\/10<i.op):trn i=false:=by unfold trn;exact decide_eq_false (by omega)
theorem zdC{i:In}(h:i.op≠46):gvs i=i.rd:=if_neg h
theorem zN:MOk mach:=by
 refine⟨λ{x i} h=>?_,λ{x i} pc a b n h hl hs=>?_,λ{x i} pc a b n h hl hs=>?_,λ{x i} pc a b n h hl=>?_⟩
 ·have:=vR h
  exact⟨this.lr,this.l1,this.l2,this.o0,this.o1⟩
 ·show(doW i pc a b n).next=pc/\(doW i pc a b n).rd=0/\i.op≠3/\trn i=false/\(doW i pc a b n).many=0
  have hs':(doW i pc a b n).st≠0:=hs
  rcases xj i pc a b n with⟨h1,h2,h3,e⟩|⟨h1,h2,e⟩|⟨h1,e⟩|⟨h1,e|e|e⟩|⟨h1,e⟩|⟨h1,h2,h3,h4,e⟩<;>rw[e]at hs'⊢
  ·exact absurd rfl hs'
  ·exact⟨rfl,rfl,by omega,vS (by omega),rfl⟩
  ·exact absurd rfl hs'
  ·exact⟨rfl,rfl,by omega,vS (by omega),rfl⟩
  ·exact absurd rfl hs'
  ·exact⟨rfl,rfl,by omega,vS (by omega),rfl⟩
  ·exact⟨rfl,rfl,by omega,vS (by omega),rfl⟩
  ·exact absurd rfl hs'
 ·show(doW i pc a b n).rd=gvs i
  have hs':(doW i pc a b n).st=0:=hs
  rcases xj i pc a b n with⟨h1,h2,h3,e⟩|⟨h1,h2,e⟩|⟨h1,e⟩|⟨h1,e|e|e⟩|⟨h1,e⟩|⟨h1,h2,h3,h4,e⟩<;>rw[e]at hs'⊢
  ·rw[zdC (by omega),zhN h (by omega)]
  ·exact absurd (show(2:Int)=0 from hs') (by decide)
  ·unfold gvs;rw[if_pos h1];rfl
  ·exact absurd (show(1:Int)=0 from hs') (by decide)
  ·rw[zdC (by omega),zhN h (by omega)]
  ·exact absurd (show(2:Int)=0 from hs') (by decide)
  ·exact absurd (show(2:Int)=0 from hs') (by decide)
  ·rw[zdC (by omega)];rfl
 ·show(doW i pc a b n).many=0\/(sts i=true/\((doW i pc a b n).many=1\/(doW i pc a b n).many=2\/(doW i pc a b n).many=4)/\0<=(doW i pc a b n).pl/\(doW i pc a b n).pl+(doW i pc a b n).many<=n)
  rcases xj i pc a b n with⟨h1,h2,h3,e⟩|⟨h1,h2,e⟩|⟨h1,e⟩|⟨h1,e|e|e⟩|⟨h1,e⟩|⟨h1,h2,h3,h4,e⟩<;>rw[e]
  ·refine .inr ⟨by unfold sts;exact decide_eq_true ⟨h1,h2⟩,zeL ⟨h1,h2⟩,(jA h3).1,(jA h3).2.2⟩
  all_goals exact .inl rfl
def U32(x:Int):Prop:=0<=x/\x<=4294967295
structure CmR(c:Cm):Prop where
 pc:U32 c.pc
 next:U32 c.next
 st:0<=c.st/\c.st<=2
 ca:0<=c.ca/\c.ca<=6
 rd:c.rd<32
 val:U32 c.val
 pl:U32 c.pl
 many:c.many=0\/c.many=1\/c.many=2\/c.many=4
 data:U32 c.data
 told:U32 c.told
theorem u0:U32 0:=⟨by omega,by omega⟩
theorem s02:(0:Int)<=0/\(0:Int)<=2:=by omega
theorem s12:(0:Int)<=1/\(1:Int)<=2:=by omega
theorem s22:(0:Int)<=2/\(2:Int)<=2:=by omega
theorem s06:(0:Int)<=0/\(0:Int)<=6:=by omega
theorem z32:0<32:=by decide
theorem umod(x:Int):U32 (x%4294967296):=⟨by omega,by omega⟩
theorem zpT:CmR zcm:=⟨u0,u0,s02,s06,z32,u0,u0,.inl rfl,u0,u0⟩
theorem jC{pc k:Int}(h:U32 pc)(hk:0<=k/\k<=6):CmR (qn pc k):=⟨h,h,s22,hk,z32,u0,u0,.inl rfl,u0,u0⟩
theorem zeM{pc v:Int}{rd:Nat}(h:U32 pc)(hr:rd<32)(hv:U32 v):CmR (onC pc rd v):=
 ⟨h,umod _,s02,s06,hr,by show U32 (if rd=0 then 0 else v);split;exact u0;exact hv,u0,.inl rfl,u0,u0⟩
theorem zjV{pc nx v:Int}{rd:Nat}(h:U32 pc)(hn:U32 nx)(hr:rd<32)(hv:U32 v):CmR (zje pc nx rd v):=
 ⟨h,hn,s02,s06,hr,by show U32 (if rd=0 then 0 else v);split;exact u0;exact hv,u0,.inl rfl,u0,u0⟩
theorem zmg(i:In)(pc a b:Int):U32 (nxW i pc a b):=by
 unfold nxW U32
 split
 ·omega
 ·split
  ·omega
  ·split<;>omega
theorem zmh(i:In)(pc a b:Int)(ha:U32 a)(hb:U32 b):U32 (rkW i pc a b):=by
 unfold rkW
 split
 ·exact umod _
 ·split
  ·exact umod _
  ·split
   ·exact umod _
   ·split
    ·exact zbU _ _ _ ha.1 ha.2 (umod _).1 (umod _).2
    ·exact zbU _ _ _ ha.1 ha.2 hb.1 hb.2
theorem zkY{i:In}(hi:InOk i){pc a b:Int}{n:Nat}(hp:U32 pc)(ha:U32 a)(hb:U32 b):CmR (doW i pc a b n):=by
 rcases xj i pc a b n with⟨h1,h2,h3,e⟩|⟨h1,h2,e⟩|⟨h1,e⟩|⟨h1,e|e|e⟩|⟨h1,e⟩|⟨h1,h2,h3,h4,e⟩<;>rw[e]
 ·refine⟨hp,umod _,s02,s06,z32,u0,umod _,.inr (zeL ⟨h1,h2⟩),?_,u0⟩
  show U32 (b%p256 (stn i.op).toNat)
  unfold U32
  have hb':=hb
  unfold U32 at hb'
  rcases zeL ⟨h1,h2⟩with e|e|e<;>rw[e]<;>simp[p256]<;>omega
 ·exact jC hp ⟨by decide,by decide⟩
 ·exact zeM hp (by decide) u0
 ·exact⟨hp,hp,s12,s06,z32,u0,u0,.inl rfl,u0,u0⟩
 ·exact⟨hp,umod _,s02,s06,z32,u0,u0,.inl rfl,u0,hb⟩
 ·exact jC hp ⟨by decide,by decide⟩
 ·exact jC hp ⟨by decide,by decide⟩
 ·exact zjV hp (zmg _ _ _ _) hi.lr (zmh _ _ _ _ ha hb)
theorem zoo{t:Tb}(ht:Gu.TbOk t)(pc:Int)(hp:U32 pc):U32 (brM t pc).2:=ht.G _ (by unfold Gu.kb U32 at*;omega)
theorem zop{t:Tb}(ht:Gu.TbOk t)(pc:Int):U32 (vaM t pc).1:=by
 show U32 (Gu.isV t (Gu.kw pc) pc)
 unfold Gu.isV
 split
 ·exact umod _
 ·exact u0
theorem zeN{f:Nat->Int}{n k:Nat}{v:Int}(h:∀i,i<n->0<=f i/\f i<=4294967295)(hv:U32 v):∀i,i<n->0<=Gu.Hy.up f k v i/\Gu.Hy.up f k v i<=4294967295:=λi hi=>by
 unfold Gu.Hy.up
 split
 ·exact hv
 ·exact h i hi
theorem zpU{t:Tb}(ht:Gu.TbOk t)(pc:Int)(tk:Bool){g:Int}(hg:U32 g):Gu.TbOk (lbM t pc tk g):=by
 unfold lbM Gu.zdA
 cases tk with
 |true=>exact⟨zeN ht.G hg,ht.P,ht.A,ht.S⟩
 |false=>exact⟨ht.G,ht.P,ht.A,ht.S⟩
end Go.Proofs.YtpiohehijkpghacGreatDoor.Co
namespace Go.Proofs.YtpiohehijkpghacGreatDoor.Od
open Go.Proofs.YtpiohehijkpghacGreatDoor.Wi
open Go.RowKit
open Hy
theorem je:(prog.info? 135).map (·.size)=some 7:=by kernel_rfl
theorem zk{w:World}{b:Nat}{o:Obj}(h:w.heap[b]?=some o):b<w.heap.size:=(Ad.1 h).1
theorem zc{B:Nat}{a w:World}(h:Below B a w){g:Nat}(hg:B<=g)(cs:Array Value):Below B a (w.setRow g cs):=
 ⟨h.os,h.tape,h.output,by simpa using h.size,λk hk=>(Zw _ _ _ _ (by omega)).trans (h.block k hk)⟩
theorem zh{Φ:World->Prop}{w:World}{A:Obj}(h:∀W:World,W.heap[w.heap.size]?=some A->Below w.heap.size w W->Φ W):Φ (w.alloc A):=
 h _ (heap_alloc_new _ _) ((Ab _ _).alloc (Aa _) _)
theorem jr{Φ:World->Prop}{w:World}{A B:Obj}(h:∀W:World,W.heap[w.heap.size]?=some A->W.heap[w.heap.size+1]?=some B->Below w.heap.size w W->w.heap.size+2<=W.heap.size->Φ W):Φ ((w.alloc A).alloc B):=
 h _ (AY _ _ _) (Ay _ _ _) (((Ab _ _).alloc (Aa _) _).alloc (by simp) _) (by simp)
theorem zb{P:Program}{ops:Array Oper}{S:World->Prop}{op:Oper}{a:Act}(hw:Zq op (yielded ops a.tmps)=true)(ty:TypeId)(x:Operand)(ho:op.op=.load ty x)
  (g:Nat) (hx:a.eval x=.pointer (some ⟨g,0,none⟩)) (t:TypeId) (cs:Array Value) (fr:Nat×Nat) (d:TypeDesc) (hS:∀w,S w->w.heap[g]?=some (.cells cs t fr))
  (hu:P.underlying ty=some d) (hd:(match d with|.struct _|.array _ _=>true|_=>false)=true) (hi:(P.info? ty).map (·.size)=some cs.size):YieldsIf P ops S op (.agg cs) a:=
 .inl ⟨hw,λw hw'=>by
  unfold execOp
  simp only[ho,hx,ZS,ZJ,Zu,Zv,Zd,Zn w g t ty cs fr d (hS w hw') hu hd hi]⟩
theorem qX{P:Program}{ops:Array Oper}{rest:List Oper}{o:Oper}{a:Act}{W:World}{Q:Exit->Act->World->Prop}(hgd:o.guard=none)(ty:TypeId)(x y:Operand)(ho:o.op=.store ty x y)
  (cells:Array Value) (t:TypeId) (old:Array Value) (hx:a.eval x=.pointer (some ⟨W.heap.size,0,none⟩)) (hy:a.eval y=.agg cells)
  (hi:(P.info? ty).map (·.size)=some cells.size) (hold:old.size=cells.size) (h1:cells.all (·.oneCell')=true)
  (h:∀V:World,V.heap[W.heap.size]?=some (.cells cells t (0,0))->Below W.heap.size W V->wpList P ops Q rest (a.put o.dst undef) V):wpList P ops Q (o::rest) a (W.alloc (.cells old t (0,0))):=
 Ar hgd ty x y ho W.heap.size cells hx hy t old (heap_alloc_new _ _) hi hold h1 (h _ (AV _ _ _ _ _ _ (heap_alloc_new _ _)) (zc ((Ab _ _).alloc (Aa _) _) (Aa _) _))
def Box(w:World)(b:Nat)(p:Ac):Prop:=w.heap[b]?=some (.cells #[.int .i64 p.seq,.bool p.st,.bool p.kn,.int .u32 p.pl,.int .i64 p.many,.int .u32 p.data,.bool p.done] 135 (0,0))
theorem Box.below{w w':World}{b B:Nat}{p:Ac}(h:Box w b p)(hB:w.heap.size<=B)(hb:Below B w w'):Box w' b p:=(hb.block b (Ag (zk h) hB)).trans h
theorem Box.cell{w:World}{b:Nat}{p:Ac}(h:Box w b p){j:Nat}{u:Value}(hj:(cel p)[j]?=some u):w.cell? ⟨b,j,none⟩=some u:=(WZ _ _ _ _ _ _ h).trans (by simpa[cel]using hj)
theorem zaI(p:Ac)(w:World):Calls prog 185 #[acv p] w λe w'=>e=.returned (.int .u64 (wd p))/\Below w.heap.size w w':=by
 obtain⟨s,t,k,x,m,d,o⟩:=p
 rcases(by omega:m<0\/(0<=m/\m<=4)\/4<m)with h|h|h
 ·have HV:Hid (wd ⟨s,t,k,x,m,d,o⟩=0):=by show wd _=_;simp[wd,h]
  go_enter func185,ntmps185
  go_wp2
  go_ret
  exact⟨zZ (by have:=HV.out;omega),(Ab _ _).alloc (Aa _) _⟩
 ·have HV:Hid (wd ⟨s,t,k,x,m,d,o⟩=m):=by show wd _=_;simp[wd];omega
  go_enter func185,ntmps185
  go_wp2
  go_ret
  exact⟨zZ (by have:=HV.out;omega),(Ab _ _).alloc (Aa _) _⟩
 ·have HV:Hid (wd ⟨s,t,k,x,m,d,o⟩=4):=by show wd _=_;simp[wd];omega
  go_enter func185,ntmps185
  go_wp2
  go_ret
  exact⟨zZ (by have:=HV.out;omega),(Ab _ _).alloc (Aa _) _⟩
theorem zaJ(p:Ac)(seq:Int)(w:World):Calls prog 123 #[acv p,.int .i64 seq] w λe w'=>e=.returned (.bool (ahd seq p))/\Below w.heap.size w w':=by
 obtain⟨s,t,k,x,m,d,o⟩:=p
 go_enter func123,ntmps123
 go_wp2
 all_goals(go_ret;refine⟨?_,(Ab _ _).alloc (Aa _) _⟩;simp_all[ahd])
theorem zhO(p:Ac)(seq:Int)(w:World):Calls prog 187 #[acv p,.int .i64 seq] w λe w'=>e=.returned (.bool (ovr seq p))/\Below w.heap.size w w':=by
 obtain⟨s,t,k,x,m,d,o⟩:=p
 go_enter func187,ntmps187
 go_wp2
 all_goals(go_ret;refine⟨?_,(Ab _ _).alloc (Aa _) _⟩;simp_all[ovr])
def ldo(many:Int):Int:=if many=1 then 14 else if many=2 then 15 else if many=4 then 13 else 0
theorem zcu(many:Int)(w:World):Calls prog 119 #[.int .i64 many] w λe w'=>e=.returned (.int .i64 (ldo many))/\w'=w:=by
 go_enter func119,ntmps119
 go_wp2
 all_goals(go_ret;refine⟨?_,rfl⟩;simp_all[ldo])
theorem zeO(p:Ac)(ho:p.Ok)(x:Int)(x0:0<=x)(x1:x<=18446744073709551615)(w:World):Calls prog 155 #[acv p,.int .u64 x] w λe w'=>e=.returned (.bool (hs p x))/\Below w.heap.size w w':=by
 have C:=λw=>zaI p w
 have hr:=zen p
 obtain⟨D,hD⟩:∃D,D=wd p:=⟨_,rfl⟩
 have HV:Hid (hs p x=decide (p.pl<=x/\x<p.pl+D)):=by rw[hD];rfl
 rw[<-hD]at C hr
 clear hD
 obtain⟨h1,h2,_,_,_,_⟩:=ho
 obtain⟨s,t,k,y,m,d,o⟩:=p
 simp only at h1 h2 HV
 by_cases hle:y<=x
 ·go_enter func155,ntmps155
  go_wp2_with fail
  refine(C _).mono ?_
  rintro e w' ⟨rfl,hb⟩
  have HB:Hid (Below w.heap.size w w'):=((Ab _ w).alloc (Aa _) _).trans (hb.mono (by simp))
  clear C hb
  go_wp2_with fail
  go_ret
  exact⟨by rw[HV.out];simp[hle],HB.out⟩
 ·go_enter func155,ntmps155
  go_wp2_with fail
  go_ret
  exact⟨by rw[HV.out];simp;omega,(Ab _ _).alloc (Aa _) _⟩
end Go.Proofs.YtpiohehijkpghacGreatDoor.Od
namespace Go.Proofs.YtpiohehijkpghacGreatDoor.Od
open Go.Proofs.YtpiohehijkpghacGreatDoor.Wi
open Go.RowKit
open Hy
theorem zhP(s a:Ac)(hs1:Hid s.Ok)(ha:Hid a.Ok)(w:World):Calls prog 188 #[acv s,acv a] w λe w'=>e=.returned (.bool (mt s a))/\Below w.heap.size w w':=by
 obtain⟨D,hD⟩:∃D:Nat,wd a=D:=⟨(wd a).toNat,by have:=zen a;omega⟩
 have hD4:D<=4:=by have:=zen a;omega
 have C:=λw=>zaI a w
 rw[hD]at C
 have HD:Hid (wd a=D):=hD
 clear hD
 have p0:=ha.out.p0
 have p1:=ha.out.p1
 go_enter func188,ntmps188
 go_upto_region 1 with fail
 refine jr (Φ:=λW=>AM _ _ _ _ W) ?_
 intro W h1 h2 hb hsz
 have B1:Hid (Box W w.heap.size s):=h1
 have B2:Hid (Box W (w.heap.size+1) a):=h2
 have HB0:Hid (Below w.heap.size w W):=hb
 clear h1 h2 hb
 go_wp2_with(refine Aq rfl 135 _ rfl _ rfl 135 _ (0,0) _ B2.out underlying135 rfl je ?_)
 refine(C _).mono ?_
 rintro e W1 ⟨rfl,hb⟩
 have HB1:Hid (Below W.heap.size W W1):=hb
 clear hb C
 go_wp2_with fail
 go_loopw [8] (λi wr=>∃k:Nat,k<=D/\i=.int .u64 k/\Hid (Below W.heap.size W wr)/\Hid (∀j:Nat,j<k->hs s (a.pl+j)=false))
  (λi _=>D-(intOf i).toNat)
 case atStart=>exact⟨0,by omega,rfl,HB1,λj hj=>absurd hj (by omega)⟩
 case round=>
  obtain⟨k,hk,rfl,HB,HN⟩:=hrel
  have R1:Hid (Box wr w.heap.size s):=B1.out.below (Aa _) HB.out
  have c3:wr.cell? ⟨w.heap.size+1,3,none⟩=some (.int .u32 a.pl):=(B2.out.below (Aa _) HB.out).cell rfl
  by_cases hlt:k<D
  ·have C:=λw=>zeO s hs1.out (a.pl+k) (by omega) (by omega) w
   cases hh:hs s (a.pl+k)with
   |true=>
    rw[hh]at C
    have HM:Hid (mt s a=true):=znC hh (decide_eq_true ⟨by omega,by rw[HD.out];omega⟩)
    clear hh
    go_wp2_with(refine Aq rfl 135 _ rfl _ rfl 135 _ (0,0) _ R1.out underlying135 rfl je ?_)
    refine(C _).mono ?_
    rintro e W2 ⟨rfl,hb⟩
    have HB2:Hid (Below w.heap.size w W2):=HB0.out.trans ((HB.out.trans (hb.mono HB.out.size)).mono HB0.out.size)
    clear hb C
    go_wp2_with fail
    go_ret
    exact⟨by rw[HM.out];rfl,HB2.out⟩
   |false=>
    rw[hh]at C
    have HN':Hid (∀j:Nat,j<k+1->hs s (a.pl+j)=false):=λj hj=>by
     by_cases e:j=k
     ·rw[e];exact hh
     ·exact HN.out j (by omega)
    clear hh
    go_wp2_with(refine Aq rfl 135 _ rfl _ rfl 135 _ (0,0) _ R1.out underlying135 rfl je ?_)
    refine(C _).mono ?_
    rintro e W2 ⟨rfl,hb⟩
    have HB2:Hid (Below W.heap.size W W2):=HB.out.trans (hb.mono HB.out.size)
    clear hb C
    go_wp2_with fail
    exact⟨⟨k+1,by omega,by go_num,HB2,HN'⟩,by simp[intOf];omega⟩
  ·have HM:Hid (mt s a=false):=by
    show mt s a=false
    cases hm:mt s a with
    |false=>rfl
    |true=>
     obtain⟨x,_,h1,h2⟩:=zpz hm
     simp only[hs,decide_eq_true_eq]at h2
     rw[HD.out]at h2
     have:=HN.out (x-a.pl).toNat (by omega)
     rw[show a.pl+((x-a.pl).toNat:Int)=x by omega,h1]at this
     cases this
   have HB2:Hid (Below w.heap.size w wr):=HB0.out.trans (HB.out.mono HB0.out.size)
   go_wp2_with fail
   go_ret
   exact⟨by rw[HM.out];rfl,HB2.out⟩
def Asks(g:Nat)(b:Nat)(p:Ac->Bool)(w:World):Prop:=
 ∀(W:World) (q:Ac),Below w.heap.size w W->Calls prog g #[acv q,.pointer (some ⟨b,0,none⟩)] W λe w'=>e=.returned (.bool (p q))/\Below W.heap.size W w'
theorem zjW(B:Nat)(seq:Int)(w:World)(hc:w.cell? ⟨B,0,none⟩=some (.int .i64 seq)):Asks 122 B (unk seq) w:=by
 intro W q hb
 have hB:B<w.heap.size:=Ak _ _ hc
 have hc1:W.cell? ⟨B,0,none⟩=some (.int .i64 seq):=(hb.cell (p:=⟨B,0,none⟩) hB).trans hc
 have hB1:B<W.heap.size:=Ag hB hb.size
 clear hb hc hB
 have C:=λw=>zaJ q seq w
 go_enter func122,ntmps122
 go_upto_region 1 with fail
 refine zh (Φ:=λW=>AM _ _ _ _ W) ?_
 intro V h1 hb
 have B1:Hid (Box V W.heap.size q):=h1
 have HB1:Hid (Below W.heap.size W V):=hb
 have c1:V.cell? ⟨B,0,none⟩=some (.int .i64 seq):=(hb.cell (p:=⟨B,0,none⟩) hB1).trans hc1
 clear h1 hb hc1
 cases hh:ahd seq q with
 |true=>
  rw[hh]at C
  have HM:Hid (unk seq q=!q.kn):=by show(_&&_)=_;rw[hh];rfl
  clear hh
  go_wp2_with(refine Aq rfl 135 _ rfl _ rfl 135 _ (0,0) _ B1.out underlying135 rfl je ?_)
  refine(C _).mono ?_
  rintro e W2 ⟨rfl,hb⟩
  have HB2:Hid (Below W.heap.size W W2):=HB1.out.trans (hb.mono HB1.out.size)
  have c2:W2.cell? ⟨W.heap.size,2,none⟩=some (.bool q.kn):=(B1.out.below (Aa _) hb).cell rfl
  clear hb C
  go_wp2_with fail
  go_ret
  exact⟨by rw[HM.out];rfl,HB2.out⟩
 |false=>
  rw[hh]at C
  have HM:Hid (unk seq q=false):=by show(_&&_)=_;rw[hh];rfl
  clear hh
  go_wp2_with(refine Aq rfl 135 _ rfl _ rfl 135 _ (0,0) _ B1.out underlying135 rfl je ?_)
  refine(C _).mono ?_
  rintro e W2 ⟨rfl,hb⟩
  have HB2:Hid (Below W.heap.size W W2):=HB1.out.trans (hb.mono HB1.out.size)
  clear hb C
  go_wp2_with fail
  go_ret
  exact⟨by rw[HM.out];rfl,HB2.out⟩
theorem zeP(B:Nat)(seq:Int)(w:World)(hc:w.cell? ⟨B,0,none⟩=some (.int .i64 seq)):Asks 186 B (sto1 seq) w:=by
 intro W q hb
 have hB:B<w.heap.size:=Ak _ _ hc
 have hc1:W.cell? ⟨B,0,none⟩=some (.int .i64 seq):=(hb.cell (p:=⟨B,0,none⟩) hB).trans hc
 have hB1:B<W.heap.size:=Ag hB hb.size
 clear hb hc hB
 obtain⟨s,t,k,x,m,d,o⟩:=q
 go_enter func186,ntmps186
 go_wp2
 all_goals(go_ret;refine⟨?_,(Ab _ _).alloc (Aa _) _⟩;simp_all[sto1]<;>rfl)
theorem zoq:∀args w,(callFunc 122 args).run prog w=.ok (.enter 122 args) w:=enters_of func122 (by kernel_rfl) rfl
theorem zkZ:∀args w,(callFunc 186 args).run prog w=.ok (.enter 186 args) w:=enters_of func186 (by kernel_rfl) rfl
theorem qh(g b:Nat)(p:Ac->Bool)(eg:∀args w,(callFunc g args).run prog w=.ok (.enter g args) w)(a:Option Addr)(n c:Nat)(hn:n<=140737488355328)(l:List Ac)(m:Nat)(hm:Hid (FirstA p l m))(r:Int)(hr:Hid (r=if m<n then(m:Int)else-1))(w:World)(hL:Hid (LC w a n c 7 (acs l)))(hA:Hid (Asks g b p w)):
  Calls prog 81 #[.slice a n c,.func (.func g) #[] #[.pointer (some ⟨b,0,none⟩)]] w λe w'=>e=.returned (.int .i64 r)/\Below w.heap.size w w':=by
 have hlen:Hid (l.length=n):=by have:=hL.out.len;rw[vr]at this;show _=_;omega
 have hmn:m<=n:=by have:=hm.out.le;have:=hlen.out;omega
 go_enter func81,ntmps81
 go_wp2_with fail
 go_loopw [8] (λi wr=>∃k:Nat,k<=m/\i=.int .i64 k/\Hid (Below w.heap.size w wr))
  (λi _=>n-(intOf i).toNat)
 case atStart=>exact⟨0,by omega,rfl,Ab _ _⟩
 case round=>
  obtain⟨k,hk,rfl,HB⟩:=hrel
  by_cases hlt:k<n
  ·obtain⟨q,hq⟩:=zep (l:=l) (k:=k) (by rw[hlen.out];exact hlt)
   obtain⟨bb,o,rfl,hb,hc⟩:=hL.out.sure (by omega)
   have cc:∀j u,(cel q)[j]?=some u->wr.cell? ⟨bb,o+(k*7+j),none⟩=some u:=λj u hj=>(HB.out.cell (p:=⟨bb,o+(k*7+j),none⟩) hb).trans (hc _ _ (yv _ _ _ _ _ hq hj))
   have c0:wr.cell? ⟨bb,o+k*7,none⟩=some (.int .i64 q.seq):=cc 0 _ rfl
   have c1:wr.cell? ⟨bb,o+k*7+1,none⟩=some (.bool q.st):=cc 1 _ rfl
   have c2:wr.cell? ⟨bb,o+k*7+2,none⟩=some (.bool q.kn):=cc 2 _ rfl
   have c3:wr.cell? ⟨bb,o+k*7+3,none⟩=some (.int .u32 q.pl):=cc 3 _ rfl
   have c4:wr.cell? ⟨bb,o+k*7+4,none⟩=some (.int .i64 q.many):=cc 4 _ rfl
   have c5:wr.cell? ⟨bb,o+k*7+5,none⟩=some (.int .u32 q.data):=cc 5 _ rfl
   have c6:wr.cell? ⟨bb,o+k*7+6,none⟩=some (.bool q.done):=cc 6 _ rfl
   have hcall:=hA.out wr q HB.out
   by_cases hkm:k=m
   ·subst hkm
    have hp:p q=true:=hm.out.yes _ hq
    rw[hp]at hcall
    have hrk:r=k:=by rw[hr.out,if_pos hlt]
    subst hrk
    clear hc hq hp cc
    go_wp2_with fail
    refine hcall.mono ?_
    rintro e w' ⟨rfl,hb'⟩
    have HB':Hid (Below w.heap.size w w'):=HB.out.trans (hb'.mono HB.out.size)
    clear hcall hb' c0 c1 c2 c3 c4 c5 c6
    go_wp2_with fail
    go_ret
    exact⟨rfl,HB'.out⟩
   ·have hp:p q=false:=hm.out.no k _ (by omega) hq
    rw[hp]at hcall
    clear hc hq hp cc
    go_wp2_with fail
    refine hcall.mono ?_
    rintro e w' ⟨rfl,hb'⟩
    have HB':Hid (Below w.heap.size w w'):=HB.out.trans (hb'.mono HB.out.size)
    clear hcall hb' c0 c1 c2 c3 c4 c5 c6
    go_wp2_with fail
    exact⟨⟨k+1,by omega,by go_num,HB'⟩,by simp[intOf];omega⟩
  ·have:k=n:=by omega
   subst this
   have hrk:r=-1:=by rw[hr.out,if_neg (by omega)]
   subst hrk
   go_wp2_with fail
   go_ret
   exact⟨rfl,HB.out⟩
theorem yn(g b:Nat)(p:Ac->Bool)(eg:∀args w,(callFunc g args).run prog w=.ok (.enter g args) w)(a:Option Addr)(n c:Nat)(hn:n<=140737488355328)(l:List Ac)(m:Nat)(hm:Hid (FirstA p l m))(r:Bool)(hr:Hid (r=decide (m<n)))(w:World)(hL:Hid (LC w a n c 7 (acs l)))(hA:Hid (Asks g b p w)):
  Calls prog 121 #[.slice a n c,.func (.func g) #[] #[.pointer (some ⟨b,0,none⟩)]] w λe w'=>e=.returned (.bool r)/\Below w.heap.size w w':=by
 obtain⟨x,hx⟩:∃x,Hid (x=if m<n then(m:Int)else-1):=⟨_,rfl⟩
 have C:=λw hL hA=>qh g b p eg a n c hn l m hm x hx w hL hA
 have hr2:Hid (decide (0<=x)=r):=by
  show _=_
  rw[hr.out,hx.out]
  by_cases h:m<n
  ·rw[if_pos h];simp[h]
  ·rw[if_neg h];simp[h]
 go_enter func121,ntmps121
 go_wp2_with fail
 refine(C _ hL hA).mono ?_
 rintro e w' ⟨rfl,hb⟩
 have HB:Hid (Below w.heap.size w w'):=hb
 clear hb C
 go_wp2_with fail
 go_ret
 exact⟨by simp[hr2.out],HB.out⟩
end Go.Proofs.YtpiohehijkpghacGreatDoor.Od
namespace Go.Proofs.YtpiohehijkpghacGreatDoor.Od
open Go.Proofs.YtpiohehijkpghacGreatDoor.Wi
open Go.RowKit
open Hy
theorem below_drewN{B:Nat}{a w:World}(h:Below B a w)(q:Nat):Below B a (w.drewN q):=⟨h.os,h.tape,h.output,h.size,h.block⟩
def plc(o:Option Nat):Int:=match o with
 |none=>-1
 |some j=>j
theorem zor{seq x:Int}{q:Ac}(h:ahd seq q=false):gv seq x q=false:=by unfold gv;rw[h];rfl
theorem zos{seq x:Int}{q:Ac}(h:q.kn=false):gv seq x q=false:=by unfold gv;rw[h];simp
theorem zot{seq x:Int}{q:Ac}(h:hs q x=false):gv seq x q=false:=by unfold gv;rw[h];simp
theorem zou{seq x:Int}{q:Ac}(h1:ahd seq q=true)(h2:q.kn=true)(h3:hs q x=true):gv seq x q=true:=by unfold gv;rw[h1,h2,h3];rfl
theorem zdD(a:Option Addr)(n c:Nat)(seq x:Int)(l:List Ac)(hok:Hid (∀q∈l,q.Ok))(x0:0<=x)(x1:x<=4294967295)(r:Int)(f:Bool)(hr:Hid (r=seen l seq x 0 n))(hf:Hid (f=(bst l seq x n).isSome))(hn:n<=140737488355328)(w:World)(hL:Hid (LC w a n c 7 (acs l))):
  Calls prog 120 #[.slice a n c,.int .i64 seq,.int .u64 x] w λe w'=>e=.returned (.tuple #[.int .u8 r,.bool f])/\Below w.heap.size w w':=by
 have hlen:Hid (l.length=n):=by have:=hL.out.len;rw[vr]at this;show _=_;omega
 go_enter func120,ntmps120
 go_wp2_with fail
 go_loopw [8,13] (λt i wr=>∃(k:Nat) (T:Int),k<=n/\i=.int .i64 k/\t=.int .i64 T/\Hid (T=plc (bst l seq x k))/\Hid (Below w.heap.size w wr))
  (λ_ i _=>n-(intOf i).toNat)
 case atStart=>exact⟨0,-1,by omega,rfl,rfl,rfl,Ab _ _⟩
 case round=>
  obtain⟨k,T,hk,rfl,rfl,HT,HB⟩:=hrel
  by_cases hlt:k<n
  ·obtain⟨q,hq⟩:=zep (l:=l) (k:=k) (by rw[hlen.out];exact hlt)
   have hqo:Hid q.Ok:=hok.out q (Ax hq)
   obtain⟨bb,o,rfl,hb,hc⟩:=hL.out.sure (by omega)
   have HC:Hid (∀j u,(acs l)[j]?=some u->w.cell? ⟨bb,o+j,none⟩=some u):=hc
   have cc:∀j u,(cel q)[j]?=some u->wr.cell? ⟨bb,o+(k*7+j),none⟩=some u:=λj u hj=>(HB.out.cell (p:=⟨bb,o+(k*7+j),none⟩) hb).trans (hc _ _ (yv _ _ _ _ _ hq hj))
   have c0:wr.cell? ⟨bb,o+k*7,none⟩=some (.int .i64 q.seq):=cc 0 _ rfl
   have c1:wr.cell? ⟨bb,o+k*7+1,none⟩=some (.bool q.st):=cc 1 _ rfl
   have c2:wr.cell? ⟨bb,o+k*7+2,none⟩=some (.bool q.kn):=cc 2 _ rfl
   have c3:wr.cell? ⟨bb,o+k*7+3,none⟩=some (.int .u32 q.pl):=cc 3 _ rfl
   have c4:wr.cell? ⟨bb,o+k*7+4,none⟩=some (.int .i64 q.many):=cc 4 _ rfl
   have c5:wr.cell? ⟨bb,o+k*7+5,none⟩=some (.int .u32 q.data):=cc 5 _ rfl
   have c6:wr.cell? ⟨bb,o+k*7+6,none⟩=some (.bool q.done):=cc 6 _ rfl
   have HQ:Hid (l[k]?=some q):=hq
   clear hc hq cc
   go_upto_region 5 with fail
   refine zh (Φ:=λW=>AM _ _ _ _ W) ?_
   intro V hV hVb
   have BV:Hid (Box V wr.heap.size q):=hV
   have HBV:Hid (Below w.heap.size w V):=HB.out.trans (hVb.mono HB.out.size)
   clear hV hVb HB c0 c1 c2 c3 c4 c5 c6
   have C1:=λw=>zaJ q seq w
   have C2:=λw=>zeO q hqo.out x x0 (by omega) w
   cases hah:ahd seq q with
   |false=>
    rw[hah]at C1
    have HN:Hid (T=plc (bst l seq x (k+1))):=by rw[zgP HQ.out (zor hah)];exact HT
    clear hah C2
    refine Ah (S:=λw'=>Below V.heap.size V w') (by kernel_rfl) ((Ab _ _).drew) (λhH=>?_)
    refine Co.tH 0 (acv q) rfl (zb (by rfl) 135 _ rfl _ rfl 135 _ (0,0) _ (λw hSw=>(BV.out).below (Aa _) hSw) underlying135 rfl je) hH ?_;go_simp
    refine Co.tI 1 (.int .i64 seq) ?_;go_simp
    refine Aj (rs:=[2]) (by kernel_rfl) (by simp) ?_
    refine Ae rfl (λK hK=>?_) Af
    go_simp
    refine(C1 _).mono ?_
    rintro e W1 ⟨rfl,hk⟩
    go_wp2_with fail
    refine hK.out _ _ (hH.trans (hk.mono hH.size)) (λhH=>?_)
    clear hK K hk
    try go_simp
    refine Co.tI 3 (.bool false) ?_;go_simp
    refine Co.tN 4 ?_;go_simp
    refine Co.tN 5 ?_;go_simp
    refine Co.tI 6 (.bool false) ?_;go_simp
    refine Co.tI 7 (.bool false) ?_;go_simp
    refine Co.tN 8 ?_;go_simp
    refine Co.tN 9 ?_;go_simp
    refine Co.tN 10 ?_;go_simp
    refine Co.tI 11 (.bool false) ?_;go_simp
    refine Co.tI 12 (.bool false) ?_;go_simp
    refine Co.tN 13 ?_;go_simp
    refine Co.tN 14 ?_;go_simp
    refine Co.tN 15 ?_;go_simp
    refine Co.tN 16 ?_;go_simp
    refine Co.tN 17 ?_;go_simp
    refine Co.tN 18 ?_;go_simp
    refine Co.tN 19 ?_;go_simp
    refine Co.tN 20 ?_;go_simp
    refine Co.tN 21 ?_;go_simp
    refine Co.tN 22 ?_;go_simp
    refine Co.tN 23 ?_;go_simp
    refine Co.tN 24 ?_;go_simp
    refine Co.tI 25 (.bool false) ?_;go_simp
    refine AB (by kernel_rfl) ?_ _
    try go_simp
    have HF:Hid (Below w.heap.size w W1):=HBV.out.trans (hH.mono HBV.out.size)
    clear hH
    go_wp2_with fail
    exact⟨⟨k+1,_,by omega,by go_num,rfl,HN,HF⟩,by simp[intOf];omega⟩
   |true=>
    rw[hah]at C1
    have HA:Hid (ahd seq q=true):=hah
    clear hah
    cases hkn:q.kn with
    |false=>
     have HN:Hid (T=plc (bst l seq x (k+1))):=by rw[zgP HQ.out (zos hkn)];exact HT
     clear C2
     refine Ah (S:=λw'=>Below V.heap.size V w') (by kernel_rfl) ((Ab _ _).drew) (λhH=>?_)
     refine Co.tH 0 (acv q) rfl (zb (by rfl) 135 _ rfl _ rfl 135 _ (0,0) _ (λw hSw=>(BV.out).below (Aa _) hSw) underlying135 rfl je) hH ?_;go_simp
     refine Co.tI 1 (.int .i64 seq) ?_;go_simp
     refine Aj (rs:=[2]) (by kernel_rfl) (by simp) ?_
     refine Ae rfl (λK hK=>?_) Af
     go_simp
     refine(C1 _).mono ?_
     rintro e W1 ⟨rfl,hk⟩
     go_wp2_with fail
     refine hK.out _ _ (hH.trans (hk.mono hH.size)) (λhH=>?_)
     clear hK K hk
     try go_simp
     refine Co.tI 3 (.bool true) ?_;go_simp
     refine Co.tI 4 (.pointer (some ⟨wr.heap.size,2,none⟩)) ?_;go_simp
     refine Co.tH 5 (.bool false) rfl (Or.inl ⟨by rfl,by intro w hSw;have h2:=(BV.out.below (Aa _) hSw).cell (j:=2) rfl;rw[hkn]at h2;go_simp⟩) hH ?_;go_simp
     refine Co.tI 6 (.bool false) ?_;go_simp
     refine Co.tI 7 (.bool false) ?_;go_simp
     refine Co.tN 8 ?_;go_simp
     refine Co.tN 9 ?_;go_simp
     refine Co.tN 10 ?_;go_simp
     refine Co.tI 11 (.bool false) ?_;go_simp
     refine Co.tI 12 (.bool false) ?_;go_simp
     refine Co.tN 13 ?_;go_simp
     refine Co.tN 14 ?_;go_simp
     refine Co.tN 15 ?_;go_simp
     refine Co.tN 16 ?_;go_simp
     refine Co.tN 17 ?_;go_simp
     refine Co.tN 18 ?_;go_simp
     refine Co.tN 19 ?_;go_simp
     refine Co.tN 20 ?_;go_simp
     refine Co.tN 21 ?_;go_simp
     refine Co.tN 22 ?_;go_simp
     refine Co.tN 23 ?_;go_simp
     refine Co.tN 24 ?_;go_simp
     refine Co.tI 25 (.bool false) ?_;go_simp
     refine AB (by kernel_rfl) ?_ _
     try go_simp
     have HF:Hid (Below w.heap.size w W1):=HBV.out.trans (hH.mono HBV.out.size)
     clear hH
     go_wp2_with fail
     exact⟨⟨k+1,_,by omega,by go_num,rfl,HN,HF⟩,by simp[intOf];omega⟩
    |true=>
     cases hhs:hs q x with
     |false=>
      rw[hhs]at C2
      have HN:Hid (T=plc (bst l seq x (k+1))):=by rw[zgP HQ.out (zot hhs)];exact HT
      clear hhs
      refine Ah (S:=λw'=>Below V.heap.size V w') (by kernel_rfl) ((Ab _ _).drew) (λhH=>?_)
      refine Co.tH 0 (acv q) rfl (zb (by rfl) 135 _ rfl _ rfl 135 _ (0,0) _ (λw hSw=>(BV.out).below (Aa _) hSw) underlying135 rfl je) hH ?_;go_simp
      refine Co.tI 1 (.int .i64 seq) ?_;go_simp
      refine Aj (rs:=[2]) (by kernel_rfl) (by simp) ?_
      refine Ae rfl (λK hK=>?_) Af
      go_simp
      refine(C1 _).mono ?_
      rintro e W1 ⟨rfl,hk⟩
      go_wp2_with fail
      refine hK.out _ _ (hH.trans (hk.mono hH.size)) (λhH=>?_)
      clear hK K hk
      try go_simp
      refine Co.tI 3 (.bool true) ?_;go_simp
      refine Co.tI 4 (.pointer (some ⟨wr.heap.size,2,none⟩)) ?_;go_simp
      refine Co.tH 5 (.bool true) rfl (Or.inl ⟨by rfl,by intro w hSw;have h2:=(BV.out.below (Aa _) hSw).cell (j:=2) rfl;rw[hkn]at h2;go_simp⟩) hH ?_;go_simp
      refine Co.tI 6 (.bool true) ?_;go_simp
      refine Co.tI 7 (.bool true) ?_;go_simp
      refine Co.tH 8 (acv q) rfl (zb (by rfl) 135 _ rfl _ rfl 135 _ (0,0) _ (λw hSw=>(BV.out).below (Aa _) hSw) underlying135 rfl je) hH ?_;go_simp
      refine Co.tI 9 (.int .u64 x) ?_;go_simp
      refine Aj (rs:=[10]) (by kernel_rfl) (by simp) ?_
      refine Ae rfl (λK hK=>?_) Af
      go_simp
      refine(C2 _).mono ?_
      rintro e W2 ⟨rfl,hk⟩
      go_wp2_with fail
      refine hK.out _ _ (hH.trans (hk.mono hH.size)) (λhH=>?_)
      clear hK K hk
      try go_simp
      refine Co.tI 11 (.bool false) ?_;go_simp
      refine Co.tI 12 (.bool false) ?_;go_simp
      refine Co.tN 13 ?_;go_simp
      refine Co.tN 14 ?_;go_simp
      refine Co.tN 15 ?_;go_simp
      refine Co.tN 16 ?_;go_simp
      refine Co.tN 17 ?_;go_simp
      refine Co.tN 18 ?_;go_simp
      refine Co.tN 19 ?_;go_simp
      refine Co.tN 20 ?_;go_simp
      refine Co.tN 21 ?_;go_simp
      refine Co.tN 22 ?_;go_simp
      refine Co.tN 23 ?_;go_simp
      refine Co.tN 24 ?_;go_simp
      refine Co.tI 25 (.bool false) ?_;go_simp
      refine AB (by kernel_rfl) ?_ _
      try go_simp
      have HF:Hid (Below w.heap.size w W2):=HBV.out.trans (hH.mono HBV.out.size)
      clear hH
      go_wp2_with fail
      exact⟨⟨k+1,_,by omega,by go_num,rfl,HN,HF⟩,by simp[intOf];omega⟩
     |true=>
      rw[hhs]at C2
      have HG:Hid (gv seq x q=true):=zou HA.out hkn hhs
      clear hhs HA
      cases hbs:bst l seq x k with
      |none=>
       obtain rfl:T=-1:=by rw[HT.out,hbs];rfl
       have HN:Hid ((k:Int)=plc (bst l seq x (k+1))):=by rw[zgQ HQ.out HG.out hbs];rfl
       clear hbs HT
       refine Ah (S:=λw'=>Below V.heap.size V w') (by kernel_rfl) ((Ab _ _).drew) (λhH=>?_)
       refine Co.tH 0 (acv q) rfl (zb (by rfl) 135 _ rfl _ rfl 135 _ (0,0) _ (λw hSw=>(BV.out).below (Aa _) hSw) underlying135 rfl je) hH ?_;go_simp
       refine Co.tI 1 (.int .i64 seq) ?_;go_simp
       refine Aj (rs:=[2]) (by kernel_rfl) (by simp) ?_
       refine Ae rfl (λK hK=>?_) Af
       go_simp
       refine(C1 _).mono ?_
       rintro e W1 ⟨rfl,hk⟩
       go_wp2_with fail
       refine hK.out _ _ (hH.trans (hk.mono hH.size)) (λhH=>?_)
       clear hK K hk
       try go_simp
       refine Co.tI 3 (.bool true) ?_;go_simp
       refine Co.tI 4 (.pointer (some ⟨wr.heap.size,2,none⟩)) ?_;go_simp
       refine Co.tH 5 (.bool true) rfl (Or.inl ⟨by rfl,by intro w hSw;have h2:=(BV.out.below (Aa _) hSw).cell (j:=2) rfl;rw[hkn]at h2;go_simp⟩) hH ?_;go_simp
       refine Co.tI 6 (.bool true) ?_;go_simp
       refine Co.tI 7 (.bool true) ?_;go_simp
       refine Co.tH 8 (acv q) rfl (zb (by rfl) 135 _ rfl _ rfl 135 _ (0,0) _ (λw hSw=>(BV.out).below (Aa _) hSw) underlying135 rfl je) hH ?_;go_simp
       refine Co.tI 9 (.int .u64 x) ?_;go_simp
       refine Aj (rs:=[10]) (by kernel_rfl) (by simp) ?_
       refine Ae rfl (λK hK=>?_) Af
       go_simp
       refine(C2 _).mono ?_
       rintro e W2 ⟨rfl,hk⟩
       go_wp2_with fail
       refine hK.out _ _ (hH.trans (hk.mono hH.size)) (λhH=>?_)
       clear hK K hk
       try go_simp
       refine Co.tI 11 (.bool true) ?_;go_simp
       refine Co.tI 12 (.bool true) ?_;go_simp
       refine Co.tI 13 (.int .i64 (-1)) ?_;go_simp
       refine Co.tI 14 (.bool true) ?_;go_simp
       refine Co.tI 15 (.bool true) ?_;go_simp
       refine Co.tN 16 ?_;go_simp
       refine Co.tN 17 ?_;go_simp
       refine Co.tN 18 ?_;go_simp
       refine Co.tN 19 ?_;go_simp
       refine Co.tN 20 ?_;go_simp
       refine Co.tN 21 ?_;go_simp
       refine Co.tN 22 ?_;go_simp
       refine Co.tN 23 ?_;go_simp
       refine Co.tI 24 (.bool true) ?_;go_simp
       refine Co.tI 25 (.bool true) ?_;go_simp
       refine AB (by kernel_rfl) ?_ _
       try go_simp
       have HF:Hid (Below w.heap.size w W2):=HBV.out.trans (hH.mono HBV.out.size)
       clear hH
       go_wp2_with fail
       exact⟨⟨k+1,_,by omega,by go_num,rfl,HN,HF⟩,by simp[intOf];omega⟩
      |some j=>
       obtain rfl:T=(j:Int):=by rw[HT.out,hbs];rfl
       have HS:Hid (bst l seq x k=some j):=hbs
       obtain⟨hjk,q1,hq1,_⟩:=kr _ _ _ _ _ hbs
       have hbV:bb<V.heap.size:=Ag hb HBV.out.size
       have cj:V.cell? ⟨bb,o+j*7,none⟩=some (.int .i64 q1.seq):=(HBV.out.cell (p:=⟨bb,o+j*7,none⟩) hb).trans (HC.out _ _ (yv _ _ 0 _ _ hq1 rfl))
       have HJ:Hid (l[j]?=some q1):=hq1
       have hjn:j<n:=by omega
       clear hbs hq1 HT
       by_cases hle:q1.seq<=q.seq
       case' pos=>
        have HN:Hid ((k:Int)=plc (bst l seq x (k+1))):=by rw[zjg HQ.out HG.out HS.out HJ.out hle];rfl
        refine Ah (S:=λw'=>Below V.heap.size V w') (by kernel_rfl) ((Ab _ _).drew) (λhH=>?_)
        refine Co.tH 0 (acv q) rfl (zb (by rfl) 135 _ rfl _ rfl 135 _ (0,0) _ (λw hSw=>(BV.out).below (Aa _) hSw) underlying135 rfl je) hH ?_;go_simp
        refine Co.tI 1 (.int .i64 seq) ?_;go_simp
        refine Aj (rs:=[2]) (by kernel_rfl) (by simp) ?_
        refine Ae rfl (λK hK=>?_) Af
        go_simp
        refine(C1 _).mono ?_
        rintro e W1 ⟨rfl,hk⟩
        go_wp2_with fail
        refine hK.out _ _ (hH.trans (hk.mono hH.size)) (λhH=>?_)
        clear hK K hk
        try go_simp
        refine Co.tI 3 (.bool true) ?_;go_simp
        refine Co.tI 4 (.pointer (some ⟨wr.heap.size,2,none⟩)) ?_;go_simp
        refine Co.tH 5 (.bool true) rfl (Or.inl ⟨by rfl,by intro w hSw;have h2:=(BV.out.below (Aa _) hSw).cell (j:=2) rfl;rw[hkn]at h2;go_simp⟩) hH ?_;go_simp
        refine Co.tI 6 (.bool true) ?_;go_simp
        refine Co.tI 7 (.bool true) ?_;go_simp
        refine Co.tH 8 (acv q) rfl (zb (by rfl) 135 _ rfl _ rfl 135 _ (0,0) _ (λw hSw=>(BV.out).below (Aa _) hSw) underlying135 rfl je) hH ?_;go_simp
        refine Co.tI 9 (.int .u64 x) ?_;go_simp
        refine Aj (rs:=[10]) (by kernel_rfl) (by simp) ?_
        refine Ae rfl (λK hK=>?_) Af
        go_simp
        refine(C2 _).mono ?_
        rintro e W2 ⟨rfl,hk⟩
        go_wp2_with fail
        refine hK.out _ _ (hH.trans (hk.mono hH.size)) (λhH=>?_)
        clear hK K hk
        try go_simp
        refine Co.tI 11 (.bool true) ?_;go_simp
        refine Co.tI 12 (.bool true) ?_;go_simp
        refine Co.tI 13 (.int .i64 j) ?_;go_simp
        refine Co.tI 14 (.bool false) ?_;go_simp
        refine Co.tI 15 (.bool false) ?_;go_simp
        refine Co.tI 16 (.pointer (some ⟨wr.heap.size,0,none⟩)) ?_;go_simp
        refine Co.tH 17 (.int .i64 q.seq) rfl (Or.inl ⟨by rfl,by intro w hSw;have h2:=(BV.out.below (Aa _) hSw).cell (j:=0) rfl;go_simp⟩) hH ?_;go_simp
        refine Co.tI 18 (.slice (some ⟨bb,o,none⟩) n c) ?_;go_simp
        refine Co.tI 19 (.int .i64 j) ?_;go_simp
        refine Co.tI 20 (.pointer (some ⟨bb,o+j*7,none⟩)) ?_;go_simp
        refine Co.tI 21 (.pointer (some ⟨bb,o+j*7,none⟩)) ?_;go_simp
        refine Co.tH 22 (.int .i64 q1.seq) rfl (Or.inl ⟨by rfl,by intro w hSw;have h2:=(hSw.cell (p:=⟨bb,o+j*7,none⟩) hbV).trans cj;go_simp⟩) hH ?_;go_simp
        refine Co.tI 23 (.bool true) ?_;go_simp
        refine Co.tI 24 (.bool true) ?_;go_simp
        refine Co.tI 25 (.bool true) ?_;go_simp
       case' neg=>
        have HN:Hid ((j:Int)=plc (bst l seq x (k+1))):=by rw[zjh HQ.out HS.out HJ.out (by omega),HS.out];rfl
        refine Ah (S:=λw'=>Below V.heap.size V w') (by kernel_rfl) ((Ab _ _).drew) (λhH=>?_)
        refine Co.tH 0 (acv q) rfl (zb (by rfl) 135 _ rfl _ rfl 135 _ (0,0) _ (λw hSw=>(BV.out).below (Aa _) hSw) underlying135 rfl je) hH ?_;go_simp
        refine Co.tI 1 (.int .i64 seq) ?_;go_simp
        refine Aj (rs:=[2]) (by kernel_rfl) (by simp) ?_
        refine Ae rfl (λK hK=>?_) Af
        go_simp
        refine(C1 _).mono ?_
        rintro e W1 ⟨rfl,hk⟩
        go_wp2_with fail
        refine hK.out _ _ (hH.trans (hk.mono hH.size)) (λhH=>?_)
        clear hK K hk
        try go_simp
        refine Co.tI 3 (.bool true) ?_;go_simp
        refine Co.tI 4 (.pointer (some ⟨wr.heap.size,2,none⟩)) ?_;go_simp
        refine Co.tH 5 (.bool true) rfl (Or.inl ⟨by rfl,by intro w hSw;have h2:=(BV.out.below (Aa _) hSw).cell (j:=2) rfl;rw[hkn]at h2;go_simp⟩) hH ?_;go_simp
        refine Co.tI 6 (.bool true) ?_;go_simp
        refine Co.tI 7 (.bool true) ?_;go_simp
        refine Co.tH 8 (acv q) rfl (zb (by rfl) 135 _ rfl _ rfl 135 _ (0,0) _ (λw hSw=>(BV.out).below (Aa _) hSw) underlying135 rfl je) hH ?_;go_simp
        refine Co.tI 9 (.int .u64 x) ?_;go_simp
        refine Aj (rs:=[10]) (by kernel_rfl) (by simp) ?_
        refine Ae rfl (λK hK=>?_) Af
        go_simp
        refine(C2 _).mono ?_
        rintro e W2 ⟨rfl,hk⟩
        go_wp2_with fail
        refine hK.out _ _ (hH.trans (hk.mono hH.size)) (λhH=>?_)
        clear hK K hk
        try go_simp
        refine Co.tI 11 (.bool true) ?_;go_simp
        refine Co.tI 12 (.bool true) ?_;go_simp
        refine Co.tI 13 (.int .i64 j) ?_;go_simp
        refine Co.tI 14 (.bool false) ?_;go_simp
        refine Co.tI 15 (.bool false) ?_;go_simp
        refine Co.tI 16 (.pointer (some ⟨wr.heap.size,0,none⟩)) ?_;go_simp
        refine Co.tH 17 (.int .i64 q.seq) rfl (Or.inl ⟨by rfl,by intro w hSw;have h2:=(BV.out.below (Aa _) hSw).cell (j:=0) rfl;go_simp⟩) hH ?_;go_simp
        refine Co.tI 18 (.slice (some ⟨bb,o,none⟩) n c) ?_;go_simp
        refine Co.tI 19 (.int .i64 j) ?_;go_simp
        refine Co.tI 20 (.pointer (some ⟨bb,o+j*7,none⟩)) ?_;go_simp
        refine Co.tI 21 (.pointer (some ⟨bb,o+j*7,none⟩)) ?_;go_simp
        refine Co.tH 22 (.int .i64 q1.seq) rfl (Or.inl ⟨by rfl,by intro w hSw;have h2:=(hSw.cell (p:=⟨bb,o+j*7,none⟩) hbV).trans cj;go_simp⟩) hH ?_;go_simp
        refine Co.tI 23 (.bool false) ?_;go_simp
        refine Co.tI 24 (.bool false) ?_;go_simp
        refine Co.tI 25 (.bool false) ?_;go_simp
       all_goals
        refine AB (by kernel_rfl) ?_ _
        try go_simp
        have HF:Hid (Below w.heap.size w W2):=HBV.out.trans (hH.mono HBV.out.size)
        clear hH
        go_wp2_with fail
        exact⟨⟨k+1,_,by omega,by go_num,rfl,HN,HF⟩,by simp[intOf];omega⟩
  ·obtain rfl:k=n:=by omega
   cases hbs:bst l seq x k with
   |none=>
    obtain rfl:T=-1:=by rw[HT.out,hbs];rfl
    obtain rfl:r=0:=by rw[hr.out,seen_none hbs]
    obtain rfl:f=false:=by rw[hf.out,hbs];rfl
    clear hbs
    go_wp2_with fail
    refine Ap (v:=.tuple #[.int .u8 0,.bool false]) ?_ rfl ⟨rfl,HB.out⟩
    simp[results,results120,asAddr]
   |some j=>
    obtain rfl:T=(j:Int):=by rw[HT.out,hbs];rfl
    obtain⟨hjk,q1,hq1,hg1⟩:=kr _ _ _ _ _ hbs
    obtain rfl:f=true:=by rw[hf.out,hbs];rfl
    have hrq:Hid (r=byt q1 x):=by show r=_;rw[hr.out,ks hbs hq1]
    obtain⟨bb,o,rfl,hb,hc⟩:=hL.out.sure (by omega)
    have e5:wr.cell? ⟨bb,o+j*7+5,none⟩=some (.int .u32 q1.data):=by rw[AT];exact(HB.out.cell (p:=⟨bb,o+(j*7+5),none⟩) hb).trans (hc _ _ (yv _ _ 5 _ _ hq1 rfl))
    have e3:wr.cell? ⟨bb,o+j*7+3,none⟩=some (.int .u32 q1.pl):=by rw[AT];exact(HB.out.cell (p:=⟨bb,o+(j*7+3),none⟩) hb).trans (hc _ _ (yv _ _ 3 _ _ hq1 rfl))
    have hok1:=hok.out q1 (Ax hq1)
    have p0:=hok1.p0
    have p1:=hok1.p1
    have d0:=hok1.d0
    have d1:=hok1.d1
    have hsx:q1.pl<=x/\x<q1.pl+wd q1:=by
     unfold gv at hg1
     simp only[ZA]at hg1
     simpa[hs]using hg1.2
    have hw4:=zen q1
    obtain⟨i,hi⟩:∃i:Nat,x=q1.pl+i:=⟨(x-q1.pl).toNat,by omega⟩
    have hi4:i<4:=by omega
    obtain⟨P,hP⟩:∃P,P=q1.pl:=⟨_,rfl⟩
    obtain⟨D,hD⟩:∃D,D=q1.data:=⟨_,rfl⟩
    have HV:Hid (r=D/two (8*i)%256):=by
     show r=_
     rw[hrq.out,byt,hD,show(x-q1.pl).toNat=i by omega]
    rw[<-hP]at p0 p1 hi e3
    rw[<-hD]at d0 d1 e5
    subst hi
    clear hc hq1 hg1 hsx hw4 hok1 hP hD hbs
    have HE:Hid ((8*(P+(i:Int)-P)).toNat=8*i):=by show _=_;omega
    go_upto_region 10 with fail
    go_quiet(fail)
    go_wp2_with fail
    refine Ap (v:=.tuple #[.int .u8 r,.bool true]) ?_ rfl ⟨rfl,below_drewN HB.out nq⟩
    rw[HV.out]
    simp[results,results120,asAddr,HE.out,two]
end Go.Proofs.YtpiohehijkpghacGreatDoor.Od
namespace Go.Proofs.YtpiohehijkpghacGreatDoor.Od
open Go.Proofs.YtpiohehijkpghacGreatDoor.Wi
open Go.RowKit
open Hy
def Told(o:Option Int)(y:Int)(f:Bool):Prop:=f=o.isSome/\y=o.getD 0
theorem told_none{o:Option Int}(h:o=none):Told o 0 false:=by subst h;exact⟨rfl,rfl⟩
theorem vT{o:Option Int}{y:Int}(h:o=some y):Told o y true:=by subst h;exact⟨rfl,rfl⟩
theorem Told.none'{y:Int}{f:Bool}(h:Told none y f):y=0/\f=false:=⟨h.2,h.1⟩
theorem Told.some'{z y:Int}{f:Bool}(h:Told (some z) y f):y=z/\f=true:=⟨h.2,h.1⟩
theorem zov(a:Option Addr)(n c:Nat)(seq:Int)(l:List Ac)(hm:Hid (FirstA (sto1 seq) l n))(hn:n<=140737488355328)(w:World)(hL:Hid (LC w a n c 7 (acs l))):
  Calls prog 160 #[.slice a n c,.int .i64 seq] w λe w'=>e=.returned (.tuple #[.int .i64 0,.bool false])/\Below w.heap.size w w':=by
 have hmf:∀(fn:Fn) (first cap:Array Value) (w:World),(Za fn first cap).run prog w=.ok (.func fn first cap) w:=λ_ _ _ _=>rfl
 go_enter func160,ntmps160
 go_wp2_with fail
 refine zh (Φ:=λW=>Calls _ _ _ W _) ?_
 intro V hV hVb
 have HV:Hid (Below w.heap.size w V):=hVb
 have HA:Hid (Asks 186 w.heap.size (sto1 seq) V):=zeP _ _ _ ((WZ _ _ _ _ _ _ hV).trans rfl)
 clear hV hVb
 refine(qh 186 w.heap.size (sto1 seq) zkZ a n c (by omega) l n hm (-1) (show _=_ by simp) V (hL.out.below (Aa _) HV.out) HA).mono ?_
 rintro e W1 ⟨rfl,hb⟩
 have HB:Hid (Below w.heap.size w W1):=HV.out.trans (hb.mono HV.out.size)
 clear hb HA HV
 go_wp2_with fail
 refine Ap (v:=.tuple #[.int .i64 0,.bool false]) ?_ rfl ⟨rfl,HB.out⟩
 simp[results,results160,asAddr]
theorem zfQ(a:Option Addr)(n c:Nat)(seq:Int)(l:List Ac)(hok:Hid (∀q∈l,q.Ok))(m:Nat)(hm:Hid (FirstA (sto1 seq) l m))(hmn:m<n)(s:Ac)(hs:Hid (l[m]?=some s))(y0:Int)(f0:Bool)(hT:Hid (Told (lst l s n) y0 f0))(hn:n<=140737488355328)(w:World)(hL:Hid (LC w a n c 7 (acs l))):
  Calls prog 160 #[.slice a n c,.int .i64 seq] w λe w'=>e=.returned (.tuple #[.int .i64 y0,.bool f0])/\Below w.heap.size w w':=by
 have hmf:∀(fn:Fn) (first cap:Array Value) (w:World),(Za fn first cap).run prog w=.ok (.func fn first cap) w:=λ_ _ _ _=>rfl
 have hlen:Hid (l.length=n):=by have:=hL.out.len;rw[vr]at this;show _=_;omega
 have hso:Hid s.Ok:=hok.out s (Ax hs.out)
 have hsq:Hid (s.seq=seq):=by
  have:=hm.out.yes _ hs.out
  unfold sto1 at this
  simp only[ZA,decide_eq_true_eq]at this
  exact this.2
 obtain⟨bb,o,rfl,hb,hc⟩:=hL.out.sure (by omega)
 have HC:Hid (∀j u,(acs l)[j]?=some u->w.cell? ⟨bb,o+j,none⟩=some u):=hc
 clear hc
 go_enter func160,ntmps160
 go_wp2_with fail
 refine zh (Φ:=λW=>Calls _ _ _ W _) ?_
 intro V0 hV hVb
 have HV:Hid (Below w.heap.size w V0):=hVb
 have cs0:V0.cell? ⟨w.heap.size,0,none⟩=some (.int .i64 seq):=(WZ _ _ _ _ _ _ hV).trans rfl
 have hw0:w.heap.size<V0.heap.size:=zk hV
 have HA:Hid (Asks 186 w.heap.size (sto1 seq) V0):=zeP _ _ _ cs0
 clear hV hVb
 refine(qh 186 w.heap.size (sto1 seq) zkZ _ n c (by omega) l m hm m (show _=_ by rw[if_pos hmn]) V0 (hL.out.below (Aa _) HV.out) HA).mono ?_
 rintro e W ⟨rfl,hbW⟩
 have HW:Hid (Below w.heap.size w W):=HV.out.trans (hbW.mono HV.out.size)
 have csW:W.cell? ⟨w.heap.size,0,none⟩=some (.int .i64 seq):=(hbW.cell (p:=⟨w.heap.size,0,none⟩) hw0).trans cs0
 have hwW:w.heap.size<W.heap.size:=Ag hw0 hbW.size
 have HCS:Hid (W.cell? ⟨w.heap.size,0,none⟩=some (.int .i64 seq)):=csW
 have hbb:bb<W.heap.size:=Ag hb HW.out.size
 have HCW:Hid (∀j u,(acs l)[j]?=some u->W.cell? ⟨bb,o+j,none⟩=some u):=λj u hj=>(HW.out.cell (p:=⟨bb,o+j,none⟩) hb).trans (HC.out j u hj)
 clear hbW HA HV cs0 hw0 csW
 go_wp2_with fail
 go_loopw [7,8,18] (λt u i wr=>∃(k:Nat) (y:Int) (f:Bool),k<=n/\i=.int .i64 k/\t=.int .i64 y/\u=.bool f/\Hid (Told (lst l s k) y f)/\Hid (Below W.heap.size W wr))
  (λ_ _ i _=>n-(intOf i).toNat)
 case atStart=>exact⟨0,0,false,by omega,rfl,rfl,rfl,told_none rfl,Ab _ _⟩
 case round=>
  obtain⟨k,y,f,hk,rfl,rfl,rfl,HT,HB⟩:=hrel
  by_cases hlt:k<n
  ·obtain⟨q,hq⟩:=zep (l:=l) (k:=k) (by rw[hlen.out];exact hlt)
   have hqo:Hid q.Ok:=hok.out q (Ax hq)
   have cc:∀j u,(cel q)[j]?=some u->wr.cell? ⟨bb,o+(k*7+j),none⟩=some u:=λj u hj=>(HB.out.cell (p:=⟨bb,o+(k*7+j),none⟩) hbb).trans (HCW.out _ _ (yv _ _ _ _ _ hq hj))
   have c0:wr.cell? ⟨bb,o+k*7,none⟩=some (.int .i64 q.seq):=cc 0 _ rfl
   have c1:wr.cell? ⟨bb,o+k*7+1,none⟩=some (.bool q.st):=cc 1 _ rfl
   have c2:wr.cell? ⟨bb,o+k*7+2,none⟩=some (.bool q.kn):=cc 2 _ rfl
   have c3:wr.cell? ⟨bb,o+k*7+3,none⟩=some (.int .u32 q.pl):=cc 3 _ rfl
   have c4:wr.cell? ⟨bb,o+k*7+4,none⟩=some (.int .i64 q.many):=cc 4 _ rfl
   have c5:wr.cell? ⟨bb,o+k*7+5,none⟩=some (.int .u32 q.data):=cc 5 _ rfl
   have c6:wr.cell? ⟨bb,o+k*7+6,none⟩=some (.bool q.done):=cc 6 _ rfl
   have HQ:Hid (l[k]?=some q):=hq
   clear hq cc
   go_upto_region 8 with fail
   refine zh (Φ:=λW=>AM _ _ _ _ W) ?_
   intro V hV hVb
   have BV:Hid (Box V wr.heap.size q):=hV
   have HBV:Hid (Below W.heap.size W V):=HB.out.trans (hVb.mono HB.out.size)
   clear hV hVb HB c0 c1 c2 c3 c4 c5 c6
   have hbV:bb<V.heap.size:=Ag hbb HBV.out.size
   have hwV:w.heap.size<V.heap.size:=Ag hwW HBV.out.size
   have cs:V.cell? ⟨w.heap.size,0,none⟩=some (.int .i64 seq):=(HBV.out.cell (p:=⟨w.heap.size,0,none⟩) hwW).trans HCS.out
   have ss:∀j u,(cel s)[j]?=some u->V.cell? ⟨bb,o+(m*7+j),none⟩=some u:=λj u hj=>(HBV.out.cell (p:=⟨bb,o+(m*7+j),none⟩) hbb).trans (HCW.out _ _ (yv _ _ _ _ _ hs.out hj))
   have s0:V.cell? ⟨bb,o+m*7,none⟩=some (.int .i64 s.seq):=ss 0 _ rfl
   have s1:V.cell? ⟨bb,o+m*7+1,none⟩=some (.bool s.st):=ss 1 _ rfl
   have s2:V.cell? ⟨bb,o+m*7+2,none⟩=some (.bool s.kn):=ss 2 _ rfl
   have s3:V.cell? ⟨bb,o+m*7+3,none⟩=some (.int .u32 s.pl):=ss 3 _ rfl
   have s4:V.cell? ⟨bb,o+m*7+4,none⟩=some (.int .i64 s.many):=ss 4 _ rfl
   have s5:V.cell? ⟨bb,o+m*7+5,none⟩=some (.int .u32 s.data):=ss 5 _ rfl
   have s6:V.cell? ⟨bb,o+m*7+6,none⟩=some (.bool s.done):=ss 6 _ rfl
   clear ss
   have C1:=λw=>zhO q seq w
   have C2:=λw=>zhP s q hso hqo w
   cases hov:ovr seq q with
   |false=>
    rw[hov]at C1
    have HN:Hid (Told (lst l s (k+1)) y f):=by rw[zkK HQ.out (by rw[hsq.out,hov];rfl)];exact HT
    clear hov C2
    refine Ah (S:=λw'=>Below V.heap.size V w') (by kernel_rfl) ((Ab _ _).drew) (λhH=>?_)
    refine Co.tH 0 (acv q) rfl (zb (by rfl) 135 _ rfl _ rfl 135 _ (0,0) _ (λw hSw=>(BV.out).below (Aa _) hSw) underlying135 rfl je) hH ?_;go_simp
    refine Co.tH 1 (.int .i64 seq) rfl (Or.inl ⟨by rfl,by intro wz hSw;have h0:=(hSw.cell (p:=⟨w.heap.size,0,none⟩) hwV).trans cs;go_simp⟩) hH ?_;go_simp
    refine Aj (rs:=[2]) (by kernel_rfl) (by simp) ?_
    refine Ae rfl (λK hK=>?_) Af
    go_simp
    refine(C1 _).mono ?_
    rintro e W1 ⟨rfl,hk⟩
    go_wp2_with fail
    refine hK.out _ _ (hH.trans (hk.mono hH.size)) (λhH=>?_)
    clear hK K hk
    try go_simp
    refine Co.tI 3 (.bool false) ?_;go_simp
    refine Co.tN 4 ?_;go_simp
    refine Co.tN 5 ?_;go_simp
    refine Co.tN 6 ?_;go_simp
    refine Co.tN 7 ?_;go_simp
    refine Co.tN 8 ?_;go_simp
    refine Co.tN 9 ?_;go_simp
    refine Co.tI 10 (.bool false) ?_;go_simp
    refine Co.tI 11 (.bool false) ?_;go_simp
    refine Co.tN 12 ?_;go_simp
    refine Co.tN 13 ?_;go_simp
    refine Co.tN 14 ?_;go_simp
    refine Co.tN 15 ?_;go_simp
    refine Co.tN 16 ?_;go_simp
    refine Co.tN 17 ?_;go_simp
    refine Co.tN 18 ?_;go_simp
    refine Co.tN 19 ?_;go_simp
    refine Co.tI 20 (.bool false) ?_;go_simp
    refine AB (by kernel_rfl) ?_ _
    try go_simp
    have HF:Hid (Below W.heap.size W W1):=HBV.out.trans (hH.mono HBV.out.size)
    have c0:W1.cell? ⟨wr.heap.size,0,none⟩=some (.int .i64 q.seq):=(BV.out.below (Aa _) hH).cell rfl
    clear hH
    go_wp2_with fail
    exact⟨⟨k+1,_,_,by omega,by go_num,rfl,rfl,HN,HF⟩,by simp[intOf];omega⟩
   |true=>
    rw[hov]at C1
    have HO:Hid (ovr s.seq q=true):=by rw[hsq.out];exact hov
    clear hov
    cases hmt:mt s q with
    |false=>
     rw[hmt]at C2
     have HN:Hid (Told (lst l s (k+1)) y f):=by rw[zkK HQ.out (by rw[hmt];simp)];exact HT
     clear hmt
     refine Ah (S:=λw'=>Below V.heap.size V w') (by kernel_rfl) ((Ab _ _).drew) (λhH=>?_)
     refine Co.tH 0 (acv q) rfl (zb (by rfl) 135 _ rfl _ rfl 135 _ (0,0) _ (λw hSw=>(BV.out).below (Aa _) hSw) underlying135 rfl je) hH ?_;go_simp
     refine Co.tH 1 (.int .i64 seq) rfl (Or.inl ⟨by rfl,by intro wz hSw;have h0:=(hSw.cell (p:=⟨w.heap.size,0,none⟩) hwV).trans cs;go_simp⟩) hH ?_;go_simp
     refine Aj (rs:=[2]) (by kernel_rfl) (by simp) ?_
     refine Ae rfl (λK hK=>?_) Af
     go_simp
     refine(C1 _).mono ?_
     rintro e W1 ⟨rfl,hk⟩
     go_wp2_with fail
     refine hK.out _ _ (hH.trans (hk.mono hH.size)) (λhH=>?_)
     clear hK K hk
     try go_simp
     refine Co.tI 3 (.bool true) ?_;go_simp
     refine Co.tI 4 (.slice (some ⟨bb,o,none⟩) n c) ?_;go_simp
     refine Co.tI 5 (.int .i64 m) ?_;go_simp
     refine Co.tI 6 (.pointer (some ⟨bb,o+m*7,none⟩)) ?_;go_simp
     refine Co.tH 7 (acv s) rfl (Or.inl ⟨by rfl,by intro wz hSw;have h0:=(hSw.cell (p:=⟨bb,o+m*7,none⟩) hbV).trans s0;have h1:=(hSw.cell (p:=⟨bb,o+m*7+1,none⟩) hbV).trans s1;have h2:=(hSw.cell (p:=⟨bb,o+m*7+2,none⟩) hbV).trans s2;have h3:=(hSw.cell (p:=⟨bb,o+m*7+3,none⟩) hbV).trans s3;have h4:=(hSw.cell (p:=⟨bb,o+m*7+4,none⟩) hbV).trans s4;have h5:=(hSw.cell (p:=⟨bb,o+m*7+5,none⟩) hbV).trans s5;have h6:=(hSw.cell (p:=⟨bb,o+m*7+6,none⟩) hbV).trans s6;go_simp⟩) hH ?_;go_simp
     refine Co.tH 8 (acv q) rfl (zb (by rfl) 135 _ rfl _ rfl 135 _ (0,0) _ (λw hSw=>(BV.out).below (Aa _) hSw) underlying135 rfl je) hH ?_;go_simp
     refine Aj (rs:=[9]) (by kernel_rfl) (by simp) ?_
     refine Ae rfl (λK hK=>?_) Af
     go_simp
     refine(C2 _).mono ?_
     rintro e W2 ⟨rfl,hk⟩
     go_wp2_with fail
     refine hK.out _ _ (hH.trans (hk.mono hH.size)) (λhH=>?_)
     clear hK K hk
     try go_simp
     refine Co.tI 10 (.bool false) ?_;go_simp
     refine Co.tI 11 (.bool false) ?_;go_simp
     refine Co.tN 12 ?_;go_simp
     refine Co.tN 13 ?_;go_simp
     refine Co.tN 14 ?_;go_simp
     refine Co.tN 15 ?_;go_simp
     refine Co.tN 16 ?_;go_simp
     refine Co.tN 17 ?_;go_simp
     refine Co.tN 18 ?_;go_simp
     refine Co.tN 19 ?_;go_simp
     refine Co.tI 20 (.bool false) ?_;go_simp
     refine AB (by kernel_rfl) ?_ _
     try go_simp
     have HF:Hid (Below W.heap.size W W2):=HBV.out.trans (hH.mono HBV.out.size)
     have c0:W2.cell? ⟨wr.heap.size,0,none⟩=some (.int .i64 q.seq):=(BV.out.below (Aa _) hH).cell rfl
     clear hH
     go_wp2_with fail
     exact⟨⟨k+1,_,_,by omega,by go_num,rfl,rfl,HN,HF⟩,by simp[intOf];omega⟩
    |true=>
     rw[hmt]at C2
     have HG:Hid ((ovr s.seq q&&mt s q)=true):=by rw[HO.out,hmt];rfl
     clear hmt HO
     cases hls:lst l s k with
     |none=>
      rw[hls]at HT
      obtain⟨rfl,rfl⟩:=HT.out.none'
      have HN:Hid (Told (lst l s (k+1)) q.seq true):=vT (zgR HQ.out HG.out hls)
      clear hls HT
      refine Ah (S:=λw'=>Below V.heap.size V w') (by kernel_rfl) ((Ab _ _).drew) (λhH=>?_)
      refine Co.tH 0 (acv q) rfl (zb (by rfl) 135 _ rfl _ rfl 135 _ (0,0) _ (λw hSw=>(BV.out).below (Aa _) hSw) underlying135 rfl je) hH ?_;go_simp
      refine Co.tH 1 (.int .i64 seq) rfl (Or.inl ⟨by rfl,by intro wz hSw;have h0:=(hSw.cell (p:=⟨w.heap.size,0,none⟩) hwV).trans cs;go_simp⟩) hH ?_;go_simp
      refine Aj (rs:=[2]) (by kernel_rfl) (by simp) ?_
      refine Ae rfl (λK hK=>?_) Af
      go_simp
      refine(C1 _).mono ?_
      rintro e W1 ⟨rfl,hk⟩
      go_wp2_with fail
      refine hK.out _ _ (hH.trans (hk.mono hH.size)) (λhH=>?_)
      clear hK K hk
      try go_simp
      refine Co.tI 3 (.bool true) ?_;go_simp
      refine Co.tI 4 (.slice (some ⟨bb,o,none⟩) n c) ?_;go_simp
      refine Co.tI 5 (.int .i64 m) ?_;go_simp
      refine Co.tI 6 (.pointer (some ⟨bb,o+m*7,none⟩)) ?_;go_simp
      refine Co.tH 7 (acv s) rfl (Or.inl ⟨by rfl,by intro wz hSw;have h0:=(hSw.cell (p:=⟨bb,o+m*7,none⟩) hbV).trans s0;have h1:=(hSw.cell (p:=⟨bb,o+m*7+1,none⟩) hbV).trans s1;have h2:=(hSw.cell (p:=⟨bb,o+m*7+2,none⟩) hbV).trans s2;have h3:=(hSw.cell (p:=⟨bb,o+m*7+3,none⟩) hbV).trans s3;have h4:=(hSw.cell (p:=⟨bb,o+m*7+4,none⟩) hbV).trans s4;have h5:=(hSw.cell (p:=⟨bb,o+m*7+5,none⟩) hbV).trans s5;have h6:=(hSw.cell (p:=⟨bb,o+m*7+6,none⟩) hbV).trans s6;go_simp⟩) hH ?_;go_simp
      refine Co.tH 8 (acv q) rfl (zb (by rfl) 135 _ rfl _ rfl 135 _ (0,0) _ (λw hSw=>(BV.out).below (Aa _) hSw) underlying135 rfl je) hH ?_;go_simp
      refine Aj (rs:=[9]) (by kernel_rfl) (by simp) ?_
      refine Ae rfl (λK hK=>?_) Af
      go_simp
      refine(C2 _).mono ?_
      rintro e W2 ⟨rfl,hk⟩
      go_wp2_with fail
      refine hK.out _ _ (hH.trans (hk.mono hH.size)) (λhH=>?_)
      clear hK K hk
      try go_simp
      refine Co.tI 10 (.bool true) ?_;go_simp
      refine Co.tI 11 (.bool true) ?_;go_simp
      refine Co.tI 12 (.bool false) ?_;go_simp
      refine Co.tI 13 (.bool true) ?_;go_simp
      refine Co.tI 14 (.bool true) ?_;go_simp
      refine Co.tN 15 ?_;go_simp
      refine Co.tN 16 ?_;go_simp
      refine Co.tN 17 ?_;go_simp
      refine Co.tN 18 ?_;go_simp
      refine Co.tI 19 (.bool true) ?_;go_simp
      refine Co.tI 20 (.bool true) ?_;go_simp
      refine AB (by kernel_rfl) ?_ _
      try go_simp
      have HF:Hid (Below W.heap.size W W2):=HBV.out.trans (hH.mono HBV.out.size)
      have c0:W2.cell? ⟨wr.heap.size,0,none⟩=some (.int .i64 q.seq):=(BV.out.below (Aa _) hH).cell rfl
      clear hH
      go_wp2_with fail
      exact⟨⟨k+1,_,_,by omega,by go_num,rfl,rfl,HN,HF⟩,by simp[intOf];omega⟩
     |some z=>
      rw[hls]at HT
      obtain⟨rfl,rfl⟩:=HT.out.some'
      have HS:Hid (lst l s k=some y):=hls
      clear hls HT
      by_cases hle:q.seq<y
      case' pos=>
       have HN:Hid (Told (lst l s (k+1)) q.seq true):=vT (zji HQ.out HG.out HS.out hle)
       refine Ah (S:=λw'=>Below V.heap.size V w') (by kernel_rfl) ((Ab _ _).drew) (λhH=>?_)
       refine Co.tH 0 (acv q) rfl (zb (by rfl) 135 _ rfl _ rfl 135 _ (0,0) _ (λw hSw=>(BV.out).below (Aa _) hSw) underlying135 rfl je) hH ?_;go_simp
       refine Co.tH 1 (.int .i64 seq) rfl (Or.inl ⟨by rfl,by intro wz hSw;have h0:=(hSw.cell (p:=⟨w.heap.size,0,none⟩) hwV).trans cs;go_simp⟩) hH ?_;go_simp
       refine Aj (rs:=[2]) (by kernel_rfl) (by simp) ?_
       refine Ae rfl (λK hK=>?_) Af
       go_simp
       refine(C1 _).mono ?_
       rintro e W1 ⟨rfl,hk⟩
       go_wp2_with fail
       refine hK.out _ _ (hH.trans (hk.mono hH.size)) (λhH=>?_)
       clear hK K hk
       try go_simp
       refine Co.tI 3 (.bool true) ?_;go_simp
       refine Co.tI 4 (.slice (some ⟨bb,o,none⟩) n c) ?_;go_simp
       refine Co.tI 5 (.int .i64 m) ?_;go_simp
       refine Co.tI 6 (.pointer (some ⟨bb,o+m*7,none⟩)) ?_;go_simp
       refine Co.tH 7 (acv s) rfl (Or.inl ⟨by rfl,by intro wz hSw;have h0:=(hSw.cell (p:=⟨bb,o+m*7,none⟩) hbV).trans s0;have h1:=(hSw.cell (p:=⟨bb,o+m*7+1,none⟩) hbV).trans s1;have h2:=(hSw.cell (p:=⟨bb,o+m*7+2,none⟩) hbV).trans s2;have h3:=(hSw.cell (p:=⟨bb,o+m*7+3,none⟩) hbV).trans s3;have h4:=(hSw.cell (p:=⟨bb,o+m*7+4,none⟩) hbV).trans s4;have h5:=(hSw.cell (p:=⟨bb,o+m*7+5,none⟩) hbV).trans s5;have h6:=(hSw.cell (p:=⟨bb,o+m*7+6,none⟩) hbV).trans s6;go_simp⟩) hH ?_;go_simp
       refine Co.tH 8 (acv q) rfl (zb (by rfl) 135 _ rfl _ rfl 135 _ (0,0) _ (λw hSw=>(BV.out).below (Aa _) hSw) underlying135 rfl je) hH ?_;go_simp
       refine Aj (rs:=[9]) (by kernel_rfl) (by simp) ?_
       refine Ae rfl (λK hK=>?_) Af
       go_simp
       refine(C2 _).mono ?_
       rintro e W2 ⟨rfl,hk⟩
       go_wp2_with fail
       refine hK.out _ _ (hH.trans (hk.mono hH.size)) (λhH=>?_)
       clear hK K hk
       try go_simp
       refine Co.tI 10 (.bool true) ?_;go_simp
       refine Co.tI 11 (.bool true) ?_;go_simp
       refine Co.tI 12 (.bool true) ?_;go_simp
       refine Co.tI 13 (.bool false) ?_;go_simp
       refine Co.tI 14 (.bool false) ?_;go_simp
       refine Co.tI 15 (.pointer (some ⟨wr.heap.size,0,none⟩)) ?_;go_simp
       refine Co.tH 16 (.int .i64 q.seq) rfl (Or.inl ⟨by rfl,by intro wz hSw;have h2:=(BV.out.below (Aa _) hSw).cell (j:=0) rfl;go_simp⟩) hH ?_;go_simp
       refine Co.tI 17 (.int .i64 y) ?_;go_simp
       refine Co.tI 18 (.bool true) ?_;go_simp
       refine Co.tI 19 (.bool true) ?_;go_simp
       refine Co.tI 20 (.bool true) ?_;go_simp
      case' neg=>
       have HN:Hid (Told (lst l s (k+1)) y true):=vT ((zjj HQ.out HS.out (by omega)).trans HS.out)
       refine Ah (S:=λw'=>Below V.heap.size V w') (by kernel_rfl) ((Ab _ _).drew) (λhH=>?_)
       refine Co.tH 0 (acv q) rfl (zb (by rfl) 135 _ rfl _ rfl 135 _ (0,0) _ (λw hSw=>(BV.out).below (Aa _) hSw) underlying135 rfl je) hH ?_;go_simp
       refine Co.tH 1 (.int .i64 seq) rfl (Or.inl ⟨by rfl,by intro wz hSw;have h0:=(hSw.cell (p:=⟨w.heap.size,0,none⟩) hwV).trans cs;go_simp⟩) hH ?_;go_simp
       refine Aj (rs:=[2]) (by kernel_rfl) (by simp) ?_
       refine Ae rfl (λK hK=>?_) Af
       go_simp
       refine(C1 _).mono ?_
       rintro e W1 ⟨rfl,hk⟩
       go_wp2_with fail
       refine hK.out _ _ (hH.trans (hk.mono hH.size)) (λhH=>?_)
       clear hK K hk
       try go_simp
       refine Co.tI 3 (.bool true) ?_;go_simp
       refine Co.tI 4 (.slice (some ⟨bb,o,none⟩) n c) ?_;go_simp
       refine Co.tI 5 (.int .i64 m) ?_;go_simp
       refine Co.tI 6 (.pointer (some ⟨bb,o+m*7,none⟩)) ?_;go_simp
       refine Co.tH 7 (acv s) rfl (Or.inl ⟨by rfl,by intro wz hSw;have h0:=(hSw.cell (p:=⟨bb,o+m*7,none⟩) hbV).trans s0;have h1:=(hSw.cell (p:=⟨bb,o+m*7+1,none⟩) hbV).trans s1;have h2:=(hSw.cell (p:=⟨bb,o+m*7+2,none⟩) hbV).trans s2;have h3:=(hSw.cell (p:=⟨bb,o+m*7+3,none⟩) hbV).trans s3;have h4:=(hSw.cell (p:=⟨bb,o+m*7+4,none⟩) hbV).trans s4;have h5:=(hSw.cell (p:=⟨bb,o+m*7+5,none⟩) hbV).trans s5;have h6:=(hSw.cell (p:=⟨bb,o+m*7+6,none⟩) hbV).trans s6;go_simp⟩) hH ?_;go_simp
       refine Co.tH 8 (acv q) rfl (zb (by rfl) 135 _ rfl _ rfl 135 _ (0,0) _ (λw hSw=>(BV.out).below (Aa _) hSw) underlying135 rfl je) hH ?_;go_simp
       refine Aj (rs:=[9]) (by kernel_rfl) (by simp) ?_
       refine Ae rfl (λK hK=>?_) Af
       go_simp
       refine(C2 _).mono ?_
       rintro e W2 ⟨rfl,hk⟩
       go_wp2_with fail
       refine hK.out _ _ (hH.trans (hk.mono hH.size)) (λhH=>?_)
       clear hK K hk
       try go_simp
       refine Co.tI 10 (.bool true) ?_;go_simp
       refine Co.tI 11 (.bool true) ?_;go_simp
       refine Co.tI 12 (.bool true) ?_;go_simp
       refine Co.tI 13 (.bool false) ?_;go_simp
       refine Co.tI 14 (.bool false) ?_;go_simp
       refine Co.tI 15 (.pointer (some ⟨wr.heap.size,0,none⟩)) ?_;go_simp
       refine Co.tH 16 (.int .i64 q.seq) rfl (Or.inl ⟨by rfl,by intro wz hSw;have h2:=(BV.out.below (Aa _) hSw).cell (j:=0) rfl;go_simp⟩) hH ?_;go_simp
       refine Co.tI 17 (.int .i64 y) ?_;go_simp
       refine Co.tI 18 (.bool false) ?_;go_simp
       refine Co.tI 19 (.bool false) ?_;go_simp
       refine Co.tI 20 (.bool false) ?_;go_simp
      all_goals
       refine AB (by kernel_rfl) ?_ _
       try go_simp
       have HF:Hid (Below W.heap.size W W2):=HBV.out.trans (hH.mono HBV.out.size)
       have c0:W2.cell? ⟨wr.heap.size,0,none⟩=some (.int .i64 q.seq):=(BV.out.below (Aa _) hH).cell rfl
       clear hH
       go_wp2_with fail
       exact⟨⟨k+1,_,_,by omega,by go_num,rfl,rfl,HN,HF⟩,by simp[intOf];omega⟩
  ·obtain rfl:k=n:=by omega
   obtain⟨rfl,rfl⟩:y0=y/\f0=f:=⟨hT.out.2.trans HT.out.2.symm,hT.out.1.trans HT.out.1.symm⟩
   have HF:Hid (Below w.heap.size w wr):=HW.out.trans (HB.out.mono HW.out.size)
   go_wp2_with fail
   refine Ap (v:=.tuple #[.int .i64 y0,.bool f0]) ?_ rfl ⟨rfl,HF.out⟩
   simp[results,results160,asAddr]
theorem zo{P:Program}{ops:Array Oper}{rest:List Oper}{o:Oper}{a:Act}{w:World}{Q:Exit->Act->World->Prop}(hw:Zq o (yielded ops a.tmps)=true)(ty:TypeId)(x:Operand)(ho:o.op=.load ty x)
  (g:Nat) (hx:a.eval x=.pointer (some ⟨g,0,none⟩)) (t:TypeId) (cs:Array Value) (fr:Nat×Nat) (d:TypeDesc) (hg:w.heap[g]?=some (.cells cs t fr))
  (hu:P.underlying ty=some d) (hd:(match d with|.struct _|.array _ _=>true|_=>false)=true) (hi:(P.info? ty).map (·.size)=some cs.size)
  (h:wpList P ops Q rest (a.put o.dst (.agg cs)) w):wpList P ops Q (o::rest) a w:=by
 unfold wpList
 rw[if_pos hw]
 exact Or.inl (wp_load_row ty x ho g hx t cs fr d hg hu hd hi h)
end Go.Proofs.YtpiohehijkpghacGreatDoor.Od
namespace Go.Proofs.YtpiohehijkpghacGreatDoor.Od
open Go.Proofs.YtpiohehijkpghacGreatDoor.Wi
open Go.RowKit
open Hy
def mix(l:List Ac)(seq:Int)(n A m:Nat)(f:Nat->Int)(k:Nat):Nat->Int:=λi=>if i<k then sb l seq n A f i else upto m (λi=>f (A+i)) i
theorem zhQ{l:List Ac}{seq:Int}{n A m ml:Nat}{f:Nat->Int}(hf:∀i,i<ml->0<=f i/\f i<=255)(h:A+m<=ml)(k:Nat)(hk:k<=m):∀i,0<=mix l seq n A m f k i/\mix l seq n A m f k i<=255:=by
 intro i
 unfold mix
 split
 ·exact zbY (hf _ (by omega))
 ·unfold upto
  split
  ·exact hf _ (by omega)
  ·omega
theorem zjX(l:List Ac)(seq:Int)(n A m:Nat)(f:Nat->Int)(hm:m=1\/m=2\/m=4):le (λi=>f (A+i)) m=four (mix l seq n A m f 0):=by
 rw[zgS m hm]
 rfl
theorem zmi(l:List Ac)(seq:Int)(n A m:Nat)(f:Nat->Int)(hm:m=1\/m=2\/m=4):four (mix l seq n A m f m)=le (sb l seq n A f) m:=by
 rw[zgS m hm]
 rcases hm with rfl|rfl|rfl<;>simp[four,mix,upto]
theorem zjY(l:List Ac)(seq:Int)(n A m:Nat)(f:Nat->Int)(k:Nat)(hk:k<m)(h:bst l seq ((A:Int)+k) n=none):four (mix l seq n A m f k)=four (mix l seq n A m f (k+1)):=by
 have e:mix l seq n A m f k=mix l seq n A m f (k+1):=by
  funext i
  unfold mix
  by_cases h1:i<k
  ·rw[if_pos h1,if_pos (by omega)]
  ·by_cases h2:i=k
   ·subst h2
    rw[if_neg (by omega),if_pos (by omega),upto,if_pos hk,sb,seen_none h]
   ·rw[if_neg h1,if_neg (by omega)]
 rw[e]
theorem zmj(l:List Ac)(seq:Int)(n A m:Nat)(f:Nat->Int)(k:Nat):put1 (mix l seq n A m f k) k (sb l seq n A f k)=mix l seq n A m f (k+1):=by
 funext i
 unfold put1 mix
 by_cases h2:i=k
 ·subst h2;rw[if_pos rfl,if_pos (by omega)]
 ·rw[if_neg h2]
  by_cases h1:i<k
  ·rw[if_pos h1,if_pos (by omega)]
  ·rw[if_neg h1,if_neg (by omega)]
theorem zcv{l:List Ac}{seq x m:Int}{n:Nat}(h:(bst l seq x n).isSome=true):seen l seq x 0 n=seen l seq x m n:=by
 cases hb:bst l seq x n with
 |none=>rw[hb]at h;cases h
 |some j=>
  obtain⟨_,q,hq,_⟩:=kr _ _ _ _ _ hb
  rw[ks hb hq,ks hb hq]
theorem zow{many:Int}{A ml:Nat}(h:¬Fit many A ml):¬(0<ldn (ldo many)/\(A:Int)%ldn (ldo many)=0/\(A:Int)+ldn (ldo many)<=ml):=by
 intro⟨h1,h2,h3⟩
 by_cases hm:many=1\/many=2\/many=4
 ·have e:ldn (ldo many)=many:=by rcases hm with rfl|rfl|rfl<;>rfl
  rw[e]at h2 h3
  exact h ⟨hm,h2,h3⟩
 ·have e:ldo many=0:=by unfold ldo;rw[if_neg (by omega),if_neg (by omega),if_neg (by omega)]
  rw[e]at h1
  exact absurd h1 (by decide)
theorem zmk(a:Option Addr)(n c:Nat)(p:Option Addr)(ml mc:Nat)(seq many:Int)(A:Nat)(hA:A<=4294967295)(hml:ml<=140737488355328)(h:¬Fit many A ml)(w:World):
  Calls prog 86 #[.slice a n c,.slice p ml mc,.int .i64 seq,.int .u32 A,.int .i64 many] w λe w'=>e=.returned (.tuple #[.int .u32 0,.bool false,.bool false])/\Below w.heap.size w w':=by
 have C1:=λw=>zcu many w
 have C2:=λw=>zgF p ml mc (ldo many) A hml (by omega) (by omega) (zow h) w
 obtain⟨op,hop⟩:∃op,op=ldo many:=⟨_,rfl⟩
 rw[<-hop]at C1 C2
 clear h hop
 go_enter func86,ntmps86
 go_upto_region 1 with fail
 refine zh (Φ:=λW=>AM _ _ _ _ W) ?_
 intro V hV hVb
 have HB:Hid (Below w.heap.size w V):=hVb
 clear hV hVb
 go_wp2_with fail
 refine(C1 _).mono ?_
 rintro e w' ⟨rfl,rfl⟩
 go_wp2_with fail
 refine(C2 _).mono ?_
 rintro e w' ⟨rfl,rfl⟩
 clear C1 C2
 go_wp2_with fail
 refine Ap (v:=.tuple #[.int .u32 0,.bool false,.bool false]) ?_ rfl ⟨rfl,HB.out⟩
 simp[results,results86,asAddr]
theorem zjZ(a:Option Addr)(n c:Nat)(l:List Ac)(hok:Hid (∀q∈l,q.Ok))(g o ml mc:Nat)(hmc:ml<=mc)(f:Nat->Int)(seq:Int)(A m:Nat)(hA:A<=4294967295)(hml:ml<=140737488355328)(hm:m=1\/m=2\/m=4)(hA0:A%m=0)(hAm:A+m<=ml)(hfr:Hid (∀i,i<ml->0<=f i/\f i<=255))(R:Int)(hR:Hid (R=le (sb l seq n A f) m))(U:Bool)(hU:Hid (Sure l seq n U))(hn:n<=140737488355328)(w:World)(hL:Hid (LC w a n c 7 (acs l)))(hM:Hid (Lies w g o ml f))(hg:Hid (g<w.heap.size)):
  Calls prog 86 #[.slice a n c,.slice (some ⟨g,o,none⟩) ml mc,.int .i64 seq,.int .u32 A,.int .i64 m] w λe w'=>e=.returned (.tuple #[.int .u32 R,.bool true,.bool U])/\Below w.heap.size w w':=by
 have hmf:∀(fn:Fn) (first cap:Array Value) (w:World),(Za fn first cap).run prog w=.ok (.func fn first cap) w:=λ_ _ _ _=>rfl
 have hlen:Hid (l.length=n):=by have:=hL.out.len;rw[vr]at this;show _=_;omega
 have hAm4:A+m<=4294967296:=by rcases hm with rfl|rfl|rfl<;>omega
 have hm4:1<=m/\m<=4:=by omega
 have HM:Hid (m=1\/m=2\/m=4):=hm
 have C1:=λw=>zcu m w
 have hld:ldn (ldo m)=(m:Int):=by rcases hm with rfl|rfl|rfl<;>rfl
 have hlv:ldv (ldo m) (λi=>f (A+i))=four (mix l seq n A m f 0):=by
  rw[<-zjX l seq n A m f hm]
  rcases hm with rfl|rfl|rfl<;>rfl
 have C2:=λw hc=>zel g o ml mc (ldo m) A m (λi=>f (A+i)) hld hml (by omega) (by omega) hA0 hAm hmc w (λi hi=>hfr.out _ (by omega)) hc
 rw[hlv]at C2
 obtain⟨op,hop⟩:∃op,op=ldo m:=⟨_,rfl⟩
 obtain⟨Z,hZ⟩:∃Z,Z=four (mix l seq n A m f 0):=⟨_,rfl⟩
 rw[<-hop]at C1 C2
 rw[<-hZ]at C2
 have HZ:Hid (Z=four (mix l seq n A m f 0)):=hZ
 clear hm hop hld hlv hZ hA0
 obtain⟨mU,hmU⟩:=kt (unk seq) l
 have HU:Hid (FirstA (unk seq) l mU):=hmU
 clear hmU
 go_enter func86,ntmps86
 go_upto_region 1 with fail
 refine zh (Φ:=λW=>AM _ _ _ _ W) ?_
 intro V hV hVb
 have HV:Hid (Below w.heap.size w V):=hVb
 have hgV:Hid (g<V.heap.size):=Ag hg.out hVb.size
 have hwV:w.heap.size<V.heap.size:=zk hV
 have HC:Hid (V.cell? ⟨w.heap.size,0,none⟩=some (.int .i64 seq)):=(WZ _ _ _ _ _ _ hV).trans rfl
 have hLV:Hid (LC V a n c 7 (acs l)):=hL.out.below (Aa _) hVb
 have hMV:Hid (Lies V g o ml f):=λi hi=>(hVb.cell (p:=⟨g,o+i,none⟩) hg.out).trans (hM.out i hi)
 clear hV hVb
 go_wp2_with fail
 refine(C1 _).mono ?_
 rintro e w' ⟨rfl,rfl⟩
 go_wp2_with fail
 refine(C2 _ (λi hi=>by rw[AT];exact hMV.out (A+i) (by omega))).mono ?_
 rintro e w' ⟨rfl,rfl⟩
 clear C1 C2
 go_wp2_with fail
 go_loopw [13,29] (λt i wr=>∃(k:Nat) (Y:Int),k<=m/\i=.int .i64 k/\t=.int .u32 Y/\Hid (Y=four (mix l seq n A m f k))/\Hid (Below w'.heap.size w' wr))
  (λ_ i _=>m-(intOf i).toNat)
 case atStart=>exact⟨0,Z,by omega,rfl,rfl,HZ,Ab _ _⟩
 case round=>
  obtain⟨k,Y,hk,rfl,rfl,HY,HB⟩:=hrel
  have cs:wr.cell? ⟨w.heap.size,0,none⟩=some (.int .i64 seq):=(HB.out.cell (p:=⟨w.heap.size,0,none⟩) hwV).trans HC.out
  have hLr:Hid (LC wr a n c 7 (acs l)):=hLV.out.below (Aa _) HB.out
  by_cases hlt:k<m
  ·obtain⟨r,hr⟩:∃r,Hid (r=seen l seq ((A:Int)+k) 0 n):=⟨_,rfl⟩
   obtain⟨F,hF⟩:∃F,Hid (F=(bst l seq ((A:Int)+k) n).isSome):=⟨_,rfl⟩
   have C:=λw hL=>zdD a n c seq ((A:Int)+k) l hok (by omega) (by omega) r F hr hF hn w hL
   cases hFF:F with
   |false=>
    subst hFF
    have HN:Hid (Y=four (mix l seq n A m f (k+1))):=by
     show _=_
     rw[HY.out,zjY l seq n A m f k hlt ?_]
     cases hb:bst l seq ((A:Int)+k) n with
     |none=>rfl
     |some j=>have:=hF.out;rw[hb]at this;cases this
    go_wp2_with fail
    refine(C _ hLr).mono ?_
    rintro e W1 ⟨rfl,hk1⟩
    have HF1:Hid (Below w'.heap.size w' W1):=HB.out.trans (hk1.mono HB.out.size)
    clear hk1 C
    go_wp2_with fail
    exact⟨⟨k+1,_,by omega,by go_num,rfl,HN,HF1⟩,by simp[intOf];omega⟩
   |true=>
    subst hFF
    have hr2:0<=r/\r<=255:=by rw[hr.out];exact zeo _ _ _ _ _ ⟨by omega,by omega⟩
    have hYr:0<=Y/\Y<4294967296:=by
     rw[HY.out]
     have h:=zhQ (l:=l) (seq:=seq) (n:=n) hfr.out hAm k (by omega)
     have h0:=h 0
     have h1:=h 1
     have h2:=h 2
     have h3:=h 3
     unfold four
     omega
    have HN:∀P:Int,P=((2^(8*k):Nat):Int)->Hid (bits .or .u32 (bits .andNot .u32 Y (255*P)) (r*P)=four (mix l seq n A m f (k+1))):=λP hP=>by
     show _=_
     rw[zjl k (mix l seq n A m f k) r Y P (by omega) hP (zhQ hfr.out hAm k (by omega)) hr2.1 hr2.2 HY.out]
     rw[show r=sb l seq n A f k from hr.out.trans (zcv hF.out.symm),zmj]
    go_wp2_with fail
    refine(C _ hLr).mono ?_
    rintro e W1 ⟨rfl,hk1⟩
    have HF1:Hid (Below w'.heap.size w' W1):=HB.out.trans (hk1.mono HB.out.size)
    clear hk1 C cs hLr
    go_upto_region 9 with fail
    rcases(by omega:k=0\/k=1\/k=2\/k=3)with rfl|rfl|rfl|rfl
    ·have HN1:Hid (bits .or .u32 (bits .andNot .u32 Y 255) r=four (mix l seq n A m f 1)):=by have h:=(HN 1 rfl).out;rw[Int.mul_one,Int.mul_one]at h;exact h
     clear HN
     go_quiet(fail)
     go_wp2_with fail
     exact⟨⟨1,_,by omega,by go_num,rfl,HN1,below_drewN HF1.out nq⟩,by simp[intOf];omega⟩
    ·have HN1:=HN 256 rfl
     clear HN
     go_quiet(fail)
     go_wp2_with fail
     exact⟨⟨2,_,by omega,by go_num,rfl,HN1,below_drewN HF1.out nq⟩,by simp[intOf];omega⟩
    ·have HN1:=HN 65536 rfl
     clear HN
     go_quiet(fail)
     go_wp2_with fail
     exact⟨⟨3,_,by omega,by go_num,rfl,HN1,below_drewN HF1.out nq⟩,by simp[intOf];omega⟩
    ·have HN1:=HN 16777216 rfl
     clear HN
     go_quiet(fail)
     go_wp2_with fail
     exact⟨⟨4,_,by omega,by go_num,rfl,HN1,below_drewN HF1.out nq⟩,by simp[intOf];omega⟩
  ·obtain rfl:k=m:=by omega
   have hYR:Y=R:=by rw[HY.out,hR.out,zmi l seq n A k f HM.out]
   subst hYR
   have HUU:Hid (U=!(decide (mU<n))):=hU.out.eq HU.out hlen.out
   obtain⟨b,hb⟩:∃b,Hid (b=decide (mU<n)):=⟨_,rfl⟩
   have HUB:Hid (U=!b):=by rw[hb.out];exact HUU
   have HA:Hid (Asks 122 w.heap.size (unk seq) wr):=zjW _ _ _ cs
   clear cs HUU
   go_wp2_with fail
   refine(yn 122 w.heap.size (unk seq) zoq a n c (by omega) l mU HU b hb wr hLr HA).mono ?_
   rintro e W1 ⟨rfl,hk1⟩
   have HF1:Hid (Below w.heap.size w W1):=HV.out.trans ((HB.out.trans (hk1.mono HB.out.size)).mono HV.out.size)
   clear hk1 HA
   go_wp2_with fail
   refine Ap (v:=.tuple #[.int .u32 Y,.bool true,.bool U]) ?_ rfl ⟨rfl,HF1.out⟩
   rw[HUB.out]
   simp[results,results86,asAddr]
end Go.Proofs.YtpiohehijkpghacGreatDoor.Od
namespace Go.Proofs.YtpiohehijkpghacGreatDoor.Co
open Go.RowKit
open Hy
open Wi Od Re.Hy
open Gu.Hy (Tb tcs)
theorem zn{w w':World}{a:Addr}{v:Value}(hb:Below w.heap.size w w')(h:w.cell? a=some v):w'.cell? a=some v:=(hb.cell (p:=a) (Ak _ _ h)).trans h
theorem xk{w w':World}{b o:Nat}{cs:List Value}(hb:Below w.heap.size w w')(h:w.rangeAt b o cs):w'.rangeAt b o cs:=λj v hj=>zn hb (h j v hj)
theorem zeQ{n:Nat}{x:Int}(h0:0<=x){m:Nat}(hm:m=1\/m=2\/m=4):fits n x m=true↔Fit (m:Int) x.toNat n:=by
 unfold fits Fit
 rw[decide_eq_true_eq,AD h0]
 constructor
 ·rintro⟨_,h1,h2⟩
  exact⟨by omega,h1,h2⟩
 ·rintro⟨_,h1,h2⟩
  exact⟨h0,h1,h2⟩
theorem zhR(l:List Ac)(seq:Int):Sure l seq l.length (seeU l seq):=by
 unfold Sure seeU
 rw[List.all_eq_true]
 constructor
 ·intro h j q hj hq
  have:=h q (Ax hq)
  simpa using this
 ·intro h q hq
  obtain⟨j,hj,hjq⟩:=List.getElem_of_mem hq
  have:=h j q hj (by rw[WX hj,hjq])
  simp[this]
def seeA(s:Cr)(seq x:Int)(m:Nat):Value:=.tuple #[.int .u32 (if fits s.n x m then seeV s.asked seq x m s.f else 0),.bool (fits s.n x m),.bool (fits s.n x m&&seeU s.asked seq)]
theorem cSee{N:Nat}{w:World}{b:Nat}{s:Cr}{L:Sls}(S:St N w b s L)(hok:∀q∈s.asked,q.Ok)(hn:s.asked.length<=100000000)(seq x:Int)(hx:U32 x)(m:Nat)(hm:m=1\/m=2\/m=4)(W:World)(hW:Below w.heap.size w W):
  Calls prog 86 #[L.a,L.m,.int .i64 seq,.int .u32 x,.int .i64 m] W λe w'=>e=.returned (seeA s seq x m)/\Below W.heap.size W w':=by
 have S:=S.below hW
 obtain⟨a,c,ea⟩:=S.its.ia.slice
 obtain⟨p,mc,em,hB⟩:=S.its.im
 have hU:=S.its.ia
 rw[ea]at hU
 have HL:=hU.lc
 rw[<-xD]at HL
 obtain⟨A,rfl⟩:=AO hx.1
 have hA:A<=4294967295:=by have:=hx.2;omega
 have hml:s.n<=4096:=hB.hn
 rw[ea,em]
 unfold seeA
 by_cases hf:fits s.n A m=true
 ·have hfit:=(zeQ (n:=s.n) hx.1 hm).1 hf
  obtain⟨_,h1,h2⟩:=hfit
  rw[AK]at h1 h2
  rw[hf,ZN,if_pos rfl]
  have hmm:A+m<=s.n:=by omega
  obtain⟨g,o,rfl,hl⟩:=hB.hm (by omega)
  refine zjZ a s.asked.length c s.asked hok g o s.n mc hB.hnc s.f seq A m hA (by omega) hm (by omega) hmm hB.hf _ (show _=_ from ?_) _ (zhR _ _) (by omega) W HL hl ?_
  ·unfold seeV
   rw[AK,AK]
  ·exact Ak _ _ (hl 0 (by omega))
 ·have hnf:¬Fit (m:Int) A s.n:=λh=>hf ((zeQ (n:=s.n) hx.1 hm).2 (by rw[AK];exact h))
  have hff:fits s.n A m=false:=by simpa using hf
  rw[hff,ZK,if_neg (by decide)]
  exact zmk a s.asked.length c p s.n mc seq m A hA (by omega) hnf W
theorem zdE{x:Int}(hx:U32 x)(w:World)(ht:Tab w):Calls prog 19 #[.int .u32 x] w λe w'=>e=.returned (.tuple #[ivI ((dcdM x).getD zin),.bool (dcdM x).isSome])/\Below w.heap.size w w':=by
 have hd:dcdM x=dcdW x:=if_pos hx
 refine(zfA x hx.1 hx.2 w ht).mono ?_
 rintro e w' ⟨⟨n,n1,n2,hh,hf,rfl⟩|⟨hno,rfl⟩,hb⟩
 ·refine⟨?_,hb⟩
  have h1:=zkX n (by omega) x hx.1 hx.2
  have h2:=zhI n (by omega) x hx.1 hx.2
  have h3:=zhJ n (by omega) x hx.1 hx.2
  rw[hd]
  unfold dcdW
  rw[zcq x n n1 hh hf 48 n2]
  simp only[ZB,Zs]
  show ZH (.tuple #[iv n _ _ _ _,_])=ZH (.tuple #[iv _ ((Zh _:Nat):Int) ((Zh _:Nat):Int) ((Zh _:Nat):Int) _,_])
  rw[AD h1.1,AD h2.1,AD h3.1]
 ·refine⟨?_,hb⟩
  rw[hd]
  unfold dcdW
  rw[vN x 48 hno]
  rfl
theorem le_rng{g:Nat->Int}{m:Nat}(hm:m<=4)(h:∀i,i<m->0<=g i/\g i<=255):U32 (le g m):=by
 unfold U32
 rcases(by omega:m=0\/m=1\/m=2\/m=3\/m=4)with rfl|rfl|rfl|rfl|rfl
 ·simp[le]
 ·have:=h 0 (by omega);simp[le];omega
 ·have:=h 0 (by omega);have:=h 1 (by omega);simp[le];omega
 ·have:=h 0 (by omega);have:=h 1 (by omega);have:=h 2 (by omega);simp[le];omega
 ·have:=h 0 (by omega);have:=h 1 (by omega);have:=h 2 (by omega);have:=h 3 (by omega);simp[le];omega
theorem zhS{s:Cr}{seq x:Int}{m:Nat}(hf:∀i,i<s.n->0<=s.f i/\s.f i<=255)(hm:m<=4)(h:fits s.n x m=true):U32 (seeV s.asked seq x m s.f):=by
 have hp:=jA h
 unfold seeV
 rw[AK]
 exact le_rng hm λi hi=>zbY (hf _ (by omega))
theorem xF{P:Program}{fn:Func}{p u:Tmp}{ty:TypeId}(h:fn.results=#[.cell p ty,.tmp u])(tmps:Array Value)(w:World)(g:Nat)(t:TypeId)(cs:Array Value)(fr:Nat×Nat)(d:TypeDesc)(x:Value)
  (hp:tmps.getD p undef=.pointer (some ⟨g,0,none⟩)) (hx:tmps.getD u undef=x) (hg:w.heap[g]?=some (.cells cs t fr))
  (hu:P.underlying ty=some d) (hd:(match d with|.struct _|.array _ _=>true|_=>false)=true) (hi:(P.info? ty).map (·.size)=some cs.size):
  (results fn tmps).run P w=.ok (.tuple #[.agg cs,x]) w:=by
 have hp':tmps[p]?.getD undef=.pointer (some ⟨g,0,none⟩):=by simpa using hp
 have hx':tmps[u]?.getD undef=x:=by simpa using hx
 simp[results,h,hp',hx',asAddr,Zn w g t ty cs fr d hg hu hd hi]
theorem zeR:(prog.info? 78).map (·.size)=some 5:=by kernel_rfl
def ivL(i:In):Array Value:=#[.int .i64 i.op,.int .i64 i.rd,.int .i64 i.s1,.int .i64 i.s2,.int .i32 i.im]
theorem jv(i:In):(prog.info? 78).map (·.size)=some (ivL i).size/\(ivL zin).size=(ivL i).size/\(ivL i).all (·.oneCell')=true:=by
 refine⟨zeR,rfl,?_⟩
 unfold ivL
 simp[ZI]
theorem yo{w:World}{g:Nat}{cur new:Array Value}{t:TypeId}{fr:Nat×Nat}(h:w.heap[g]?=some (.cells cur t fr)):(w.setRow g new).heap[g]?=some (.cells new t fr):=AV w g cur new t fr h
theorem below_setRow{B:Nat}{a w:World}{g:Nat}(h:Below B a w)(new:Array Value)(hg:B<=g:=by exact Aa _):Below B a (w.setRow g new):=
 h.trans ⟨rfl,rfl,rfl,by simp,λk hk=>Zw w g k _ (by omega)⟩
theorem zhT{N:Nat}{w:World}{b:Nat}{s:Cr}{L:Sls}(S:St N w b s L)(hok:∀q∈s.asked,q.Ok)(hn:s.asked.length<=100000000)(hfro:U32 s.fro):Calls prog 92 #[.pointer (some ⟨b,0,none⟩),.int .i64 s.tak] w λe w'=>e=.returned (.tuple #[ivI (rdI mach s).1,.int .i64 (rdI mach s).2])/\Below w.heap.size w w':=by
 have CS0:=λW hW=>cSee S hok hn s.tak s.fro hfro 4 (by omega) W hW
 obtain⟨a,c,ea⟩:=S.its.ia.slice
 obtain⟨p,mc,em,hB⟩:=S.its.im
 have k335:w.cell? ⟨b,335,none⟩=some (.slice a s.asked.length c):=(zd S.row (by omega)).trans (congrArg some ea)
 have k39:w.cell? ⟨b,39,none⟩=some (.slice p s.n mc):=(zd S.row (by omega)).trans (congrArg some em)
 have k337:w.cell? ⟨b,337,none⟩=some (.int .u32 s.fro):=(zd S.row (by omega)).trans rfl
 have hb:b<w.heap.size:=(Ad.1 S.row).1
 have HT:Hid (Tab w):=S.its.tb
 have e4:((4:Nat):Int)=4:=rfl
 unfold seeA at CS0
 rw[ea,em,e4]at CS0
 have HF:=hB.hf
 cases hf:fits s.n s.fro 4 with
 |false=>
  have e1:rdI mach s=(zin,1):=by unfold rdI;rw[if_neg (by rw[hf];decide)]
  rw[e1]
  rw[hf]at CS0
  simp only[ZK,if_neg Bool.false_ne_true]at CS0
  have CS:Hid (∀W,Below w.heap.size w W->Calls prog 86 #[.slice a s.asked.length c,.slice p s.n mc,.int .i64 s.tak,.int .u32 s.fro,.int .i64 4] W λe w'=>e=.returned (.tuple #[.int .u32 0,.bool false,.bool false])/\Below W.heap.size W w'):=CS0
  generalize s.asked.length=n at*
  generalize s.n=ml at*
  generalize s.fro=x at*
  generalize s.tak=q at*
  clear CS0 S hok hB ea em e1 hf HF
  go_enter func92,ntmps92
  go_upto_region 1 with fail
  refine Wi.zh (Φ:=λW=>AM _ _ _ _ W) ?_
  intro V hV hVb
  have k335:=zn hVb k335
  have k39:=zn hVb k39
  have k337:=zn hVb k337
  have HVb:Hid (Below w.heap.size w V):=hVb
  have HV:Hid (V.heap[w.heap.size]?=some (.cells #[.int .i64 0,.int .i64 0,.int .i64 0,.int .i64 0,.int .i32 0] 78 (0,0))):=hV
  clear hV hVb
  refine Ah (S:=λw'=>w'.cell? ⟨b,335,none⟩=some (.slice a n c)/\w'.cell? ⟨b,39,none⟩=some (.slice p ml mc)/\w'.cell? ⟨b,337,none⟩=some (.int .u32 x)) (by kernel_rfl) (⟨k335,k39,k337⟩) (λhH=>?_)
  refine tI 0 (.pointer (some ⟨b,0,none⟩)) ?_;go_simp
  refine tI 1 (.pointer (some ⟨b,0,none⟩)) ?_;go_simp
  refine tI 2 (.pointer (some ⟨b,335,none⟩)) ?_;go_simp
  refine tH 3 (.slice a n c) rfl (Or.inl ⟨by rfl,by intro wz hSw;have hc:=hSw.1;go_simp⟩) hH ?_;go_simp
  refine tI 4 (.pointer (some ⟨b,0,none⟩)) ?_;go_simp
  refine tI 5 (.pointer (some ⟨b,0,none⟩)) ?_;go_simp
  refine tI 6 (.pointer (some ⟨b,3,none⟩)) ?_;go_simp
  refine tI 7 (.pointer (some ⟨b,39,none⟩)) ?_;go_simp
  refine tH 8 (.slice p ml mc) rfl (Or.inl ⟨by rfl,by intro wz hSw;have hc:=hSw.2.1;go_simp⟩) hH ?_;go_simp
  refine tI 9 (.int .i64 q) ?_;go_simp
  refine tI 10 (.pointer (some ⟨b,0,none⟩)) ?_;go_simp
  refine tI 11 (.pointer (some ⟨b,0,none⟩)) ?_;go_simp
  refine tI 12 (.pointer (some ⟨b,337,none⟩)) ?_;go_simp
  refine tH 13 (.int .u32 x) rfl (Or.inl ⟨by rfl,by intro wz hSw;have hc:=hSw.2.2;go_simp⟩) hH ?_;go_simp
  refine Aj (rs:=[14]) (by kernel_rfl) (by simp) ?_
  refine Ae rfl (λK hK=>?_) Af
  go_simp
  refine(CS.out _ (HVb.out.trans ((Ab _ _).drew))).mono ?_
  rintro e V1 ⟨rfl,hk⟩
  have HB1:Hid (Below V.heap.size V V1):=zg hk (Aa _)
  go_wp2_with fail
  refine hK.out _ _ (⟨zn hk (hH.1),zn hk (hH.2.1),zn hk (hH.2.2)⟩) (λhH=>?_)
  clear hK K
  try go_simp
  refine tI 15 (.tuple #[.int .u32 0,.bool false,.bool false]) ?_;go_simp
  refine tI 16 (.int .u32 0) ?_;go_simp
  refine tI 17 (.bool false) ?_;go_simp
  refine tI 18 (.bool false) ?_;go_simp
  refine tI 19 (.int .u32 0) ?_;go_simp
  refine tI 20 (.bool false) ?_;go_simp
  refine tI 21 (.bool false) ?_;go_simp
  refine AB (by kernel_rfl) ?_ _
  have HF1:Hid (Below w.heap.size w V1):=HVb.out.trans (HB1.out.mono HVb.out.size)
  have HR:Hid (V1.heap[w.heap.size]?=some (.cells (ivL zin) 78 (0,0))):=(HB1.out.block _ (zk HV.out)).trans HV.out
  clear hH HVb HV HB1 k335 k39 k337 CS hk
  go_wp2_with(refine Ar rfl 78 _ _ rfl _ _ rfl rfl 78 _ HR.out (jv zin).1 (jv zin).2.1 (jv zin).2.2 ?_)
  exact Ap (v:=.tuple #[ivI zin,.int .i64 1]) (xF results92 _ _ _ 78 _ (0,0) _ _ rfl rfl (yo HR.out) underlying78 rfl (jv zin).1) rfl ⟨rfl,below_setRow HF1.out _⟩
 |true=>
  have hy:U32 (seeV s.asked s.tak s.fro 4 s.f):=zhS (m:=4) hB.hf (by omega) hf
  rw[hf]at CS0
  simp only[ZN,if_true]at CS0
  have e1:rdI mach s=(match dcdM (seeV s.asked s.tak s.fro 4 s.f)with|some i=>(i,0)|none=>(zin,2)):=by unfold rdI;rw[if_pos hf];rfl
  rw[e1]
  have CS:Hid (∀W,Below w.heap.size w W->Calls prog 86 #[.slice a s.asked.length c,.slice p s.n mc,.int .i64 s.tak,.int .u32 s.fro,.int .i64 4] W λe w'=>e=.returned (.tuple #[.int .u32 (seeV s.asked s.tak s.fro 4 s.f),.bool true,.bool (seeU s.asked s.tak)])/\Below W.heap.size W w'):=CS0
  generalize seeV s.asked s.tak s.fro 4 s.f=y at*
  generalize seeU s.asked s.tak=U at*
  have CD:Hid (∀W,Tab W->Calls prog 19 #[.int .u32 y] W λe w'=>e=.returned (.tuple #[ivI ((dcdM y).getD zin),.bool (dcdM y).isSome])/\Below W.heap.size W w'):=λW hW=>zdE hy W hW
  generalize s.asked.length=n at*
  generalize s.n=ml at*
  generalize s.fro=x at*
  generalize s.tak=q at*
  clear CS0 S hok hB ea em e1 hf HF hy
  cases hd:dcdM y with
  |none=>
   rw[hd]at CD
   simp only[Option.getD_none,Option.isSome_none]at CD
   clear hd
   go_enter func92,ntmps92
   go_upto_region 1 with fail
   refine Wi.zh (Φ:=λW=>AM _ _ _ _ W) ?_
   intro V hV hVb
   have k335:=zn hVb k335
   have k39:=zn hVb k39
   have k337:=zn hVb k337
   have HVb:Hid (Below w.heap.size w V):=hVb
   have HV:Hid (V.heap[w.heap.size]?=some (.cells #[.int .i64 0,.int .i64 0,.int .i64 0,.int .i64 0,.int .i32 0] 78 (0,0))):=hV
   clear hV hVb
   refine Ah (S:=λw'=>w'.cell? ⟨b,335,none⟩=some (.slice a n c)/\w'.cell? ⟨b,39,none⟩=some (.slice p ml mc)/\w'.cell? ⟨b,337,none⟩=some (.int .u32 x)) (by kernel_rfl) (⟨k335,k39,k337⟩) (λhH=>?_)
   refine tI 0 (.pointer (some ⟨b,0,none⟩)) ?_;go_simp
   refine tI 1 (.pointer (some ⟨b,0,none⟩)) ?_;go_simp
   refine tI 2 (.pointer (some ⟨b,335,none⟩)) ?_;go_simp
   refine tH 3 (.slice a n c) rfl (Or.inl ⟨by rfl,by intro wz hSw;have hc:=hSw.1;go_simp⟩) hH ?_;go_simp
   refine tI 4 (.pointer (some ⟨b,0,none⟩)) ?_;go_simp
   refine tI 5 (.pointer (some ⟨b,0,none⟩)) ?_;go_simp
   refine tI 6 (.pointer (some ⟨b,3,none⟩)) ?_;go_simp
   refine tI 7 (.pointer (some ⟨b,39,none⟩)) ?_;go_simp
   refine tH 8 (.slice p ml mc) rfl (Or.inl ⟨by rfl,by intro wz hSw;have hc:=hSw.2.1;go_simp⟩) hH ?_;go_simp
   refine tI 9 (.int .i64 q) ?_;go_simp
   refine tI 10 (.pointer (some ⟨b,0,none⟩)) ?_;go_simp
   refine tI 11 (.pointer (some ⟨b,0,none⟩)) ?_;go_simp
   refine tI 12 (.pointer (some ⟨b,337,none⟩)) ?_;go_simp
   refine tH 13 (.int .u32 x) rfl (Or.inl ⟨by rfl,by intro wz hSw;have hc:=hSw.2.2;go_simp⟩) hH ?_;go_simp
   refine Aj (rs:=[14]) (by kernel_rfl) (by simp) ?_
   refine Ae rfl (λK hK=>?_) Af
   go_simp
   refine(CS.out _ (HVb.out.trans ((Ab _ _).drew))).mono ?_
   rintro e V1 ⟨rfl,hk⟩
   have HB1:Hid (Below V.heap.size V V1):=zg hk (Aa _)
   go_wp2_with fail
   refine hK.out _ _ (⟨zn hk (hH.1),zn hk (hH.2.1),zn hk (hH.2.2)⟩) (λhH=>?_)
   clear hK K
   try go_simp
   refine tI 15 (.tuple #[.int .u32 y,.bool true,.bool U]) ?_;go_simp
   refine tI 16 (.int .u32 y) ?_;go_simp
   refine tI 17 (.bool true) ?_;go_simp
   refine tI 18 (.bool U) ?_;go_simp
   refine tI 19 (.int .u32 y) ?_;go_simp
   refine tI 20 (.bool true) ?_;go_simp
   refine tI 21 (.bool U) ?_;go_simp
   refine AB (by kernel_rfl) ?_ _
   have HF1:Hid (Below w.heap.size w V1):=HVb.out.trans (HB1.out.mono HVb.out.size)
   have HR:Hid (V1.heap[w.heap.size]?=some (.cells (ivL zin) 78 (0,0))):=(HB1.out.block _ (zk HV.out)).trans HV.out
   clear hH HVb HV HB1 k335 k39 k337 CS hk
   go_wp2_with fail
   refine(CD.out _ (HT.out.below HF1.out HT.out.size)).mono ?_
   rintro e V2 ⟨rfl,hk2⟩
   have HR:Hid (V2.heap[w.heap.size]?=some (.cells (ivL zin) 78 (0,0))):=(hk2.block _ (zk HR.out)).trans HR.out
   have HF1:Hid (Below w.heap.size w V2):=HF1.out.trans (hk2.mono HF1.out.size)
   clear hk2 CD
   go_upto_region 6 with fail
   refine Wi.zh (Φ:=λW=>AM _ _ _ _ W) ?_
   intro V3 hV3 hb3
   have HR:Hid (V3.heap[w.heap.size]?=some (.cells (ivL zin) 78 (0,0))):=(hb3.block _ (zk HR.out)).trans HR.out
   have HF1:Hid (Below w.heap.size w V3):=HF1.out.trans (hb3.mono HF1.out.size)
   have HV3:Hid (V3.heap[V2.heap.size]?=some (.cells (ivL zin) 78 (0,0))):=hV3
   clear hV3 hb3
   generalize V2.heap.size=z at*
   go_wp2_with(refine Ar rfl 78 _ _ rfl _ _ rfl rfl 78 _ HR.out (jv zin).1 (jv zin).2.1 (jv zin).2.2 ?_)
   exact Ap (v:=.tuple #[ivI zin,.int .i64 2]) (xF results92 _ _ _ 78 _ (0,0) _ _ rfl rfl (yo HR.out) underlying78 rfl (jv zin).1) rfl ⟨rfl,below_setRow HF1.out _⟩
  |some i=>
   rw[hd]at CD
   simp only[ZB,Zs]at CD
   clear hd
   go_enter func92,ntmps92
   go_upto_region 1 with fail
   refine Wi.zh (Φ:=λW=>AM _ _ _ _ W) ?_
   intro V hV hVb
   have k335:=zn hVb k335
   have k39:=zn hVb k39
   have k337:=zn hVb k337
   have HVb:Hid (Below w.heap.size w V):=hVb
   have HV:Hid (V.heap[w.heap.size]?=some (.cells #[.int .i64 0,.int .i64 0,.int .i64 0,.int .i64 0,.int .i32 0] 78 (0,0))):=hV
   clear hV hVb
   refine Ah (S:=λw'=>w'.cell? ⟨b,335,none⟩=some (.slice a n c)/\w'.cell? ⟨b,39,none⟩=some (.slice p ml mc)/\w'.cell? ⟨b,337,none⟩=some (.int .u32 x)) (by kernel_rfl) (⟨k335,k39,k337⟩) (λhH=>?_)
   refine tI 0 (.pointer (some ⟨b,0,none⟩)) ?_;go_simp
   refine tI 1 (.pointer (some ⟨b,0,none⟩)) ?_;go_simp
   refine tI 2 (.pointer (some ⟨b,335,none⟩)) ?_;go_simp
   refine tH 3 (.slice a n c) rfl (Or.inl ⟨by rfl,by intro wz hSw;have hc:=hSw.1;go_simp⟩) hH ?_;go_simp
   refine tI 4 (.pointer (some ⟨b,0,none⟩)) ?_;go_simp
   refine tI 5 (.pointer (some ⟨b,0,none⟩)) ?_;go_simp
   refine tI 6 (.pointer (some ⟨b,3,none⟩)) ?_;go_simp
   refine tI 7 (.pointer (some ⟨b,39,none⟩)) ?_;go_simp
   refine tH 8 (.slice p ml mc) rfl (Or.inl ⟨by rfl,by intro wz hSw;have hc:=hSw.2.1;go_simp⟩) hH ?_;go_simp
   refine tI 9 (.int .i64 q) ?_;go_simp
   refine tI 10 (.pointer (some ⟨b,0,none⟩)) ?_;go_simp
   refine tI 11 (.pointer (some ⟨b,0,none⟩)) ?_;go_simp
   refine tI 12 (.pointer (some ⟨b,337,none⟩)) ?_;go_simp
   refine tH 13 (.int .u32 x) rfl (Or.inl ⟨by rfl,by intro wz hSw;have hc:=hSw.2.2;go_simp⟩) hH ?_;go_simp
   refine Aj (rs:=[14]) (by kernel_rfl) (by simp) ?_
   refine Ae rfl (λK hK=>?_) Af
   go_simp
   refine(CS.out _ (HVb.out.trans ((Ab _ _).drew))).mono ?_
   rintro e V1 ⟨rfl,hk⟩
   have HB1:Hid (Below V.heap.size V V1):=zg hk (Aa _)
   go_wp2_with fail
   refine hK.out _ _ (⟨zn hk (hH.1),zn hk (hH.2.1),zn hk (hH.2.2)⟩) (λhH=>?_)
   clear hK K
   try go_simp
   refine tI 15 (.tuple #[.int .u32 y,.bool true,.bool U]) ?_;go_simp
   refine tI 16 (.int .u32 y) ?_;go_simp
   refine tI 17 (.bool true) ?_;go_simp
   refine tI 18 (.bool U) ?_;go_simp
   refine tI 19 (.int .u32 y) ?_;go_simp
   refine tI 20 (.bool true) ?_;go_simp
   refine tI 21 (.bool U) ?_;go_simp
   refine AB (by kernel_rfl) ?_ _
   have HF1:Hid (Below w.heap.size w V1):=HVb.out.trans (HB1.out.mono HVb.out.size)
   have HR:Hid (V1.heap[w.heap.size]?=some (.cells (ivL zin) 78 (0,0))):=(HB1.out.block _ (zk HV.out)).trans HV.out
   clear hH HVb HV HB1 k335 k39 k337 CS hk
   go_wp2_with fail
   refine(CD.out _ (HT.out.below HF1.out HT.out.size)).mono ?_
   rintro e V2 ⟨rfl,hk2⟩
   have HR:Hid (V2.heap[w.heap.size]?=some (.cells (ivL zin) 78 (0,0))):=(hk2.block _ (zk HR.out)).trans HR.out
   have HF1:Hid (Below w.heap.size w V2):=HF1.out.trans (hk2.mono HF1.out.size)
   clear hk2 CD
   go_upto_region 7 with fail
   refine Wi.zh (Φ:=λW=>AM _ _ _ _ W) ?_
   intro V3 hV3 hb3
   have HR:Hid (V3.heap[w.heap.size]?=some (.cells (ivL zin) 78 (0,0))):=(hb3.block _ (zk HR.out)).trans HR.out
   have HF1:Hid (Below w.heap.size w V3):=HF1.out.trans (hb3.mono HF1.out.size)
   have HV3:Hid (V3.heap[V2.heap.size]?=some (.cells (ivL i) 78 (0,0))):=hV3
   clear hV3 hb3
   generalize V2.heap.size=z at*
   go_wp2_with(first|refine Aq rfl 78 _ rfl _ rfl 78 _ (0,0) _ HV3.out underlying78 rfl (jv i).1 ?_|refine Ar rfl 78 _ _ rfl _ _ rfl rfl 78 _ HR.out (jv i).1 (jv i).2.1 (jv i).2.2 ?_)
   exact Ap (v:=.tuple #[ivI i,.int .i64 0]) (xF results92 _ _ _ 78 _ (0,0) _ _ rfl rfl (yo HR.out) underlying78 rfl (jv i).1) rfl ⟨rfl,below_setRow HF1.out _⟩
end Go.Proofs.YtpiohehijkpghacGreatDoor.Co
namespace Go.Proofs.YtpiohehijkpghacGreatDoor
open Go.RowKit
open Hy
theorem zdF(h a n c:Nat)(m B:Nat)(W:Int)(f:Nat->Int)(hm:m=1\/m=2\/m=4)(hmn:a+m<=n)(hn:n<=140737488355328)(W0:0<=W)(W1:W<=4294967295)(w:World)(H:Fr w B h n f):
  Calls prog 112 #[.slice (some ⟨h,a,none⟩) (n-a) c,.int .u32 m,.int .u32 W] w λe w'=>e=.returned (.tuple #[])/\Fr w' B h n (sto f a W m)/\Below B w w'/\w'.heap.size=w.heap.size:=by
 go_enter func112,ntmps112
 go_wp2
 go_loopw [6,8] (λi k wr=>∃j:Nat,j<=m/\k=.int .u32 j/\Fr wr B h n (sto f a W j)/\Below B w wr/\wr.heap.size=w.heap.size) (λ_ k _=>m-(intOf k).toNat)
 case atStart=>exact⟨0,by omega,rfl,H.congr λi _=>by unfold sto;rw[if_neg (by omega)],Ab _ _,rfl⟩
 case round=>
  obtain⟨j,hj,rfl,hF,hB,hS⟩:=hrel
  by_cases hlt:j<m
  ·have c0:=hF.cell (a+j) (by omega)
   have z0:=hF.free (a+j) (by omega)
   rcases(by omega:j=0\/j=1\/j=2\/j=3)with rfl|rfl|rfl|rfl
   ·rw[Nat.add_zero]at c0 z0
    go_wp2
    refine⟨⟨1,by omega,rfl,hF.step (j:=0) (by omega) _ (by rw[show p256 0=1 from rfl,ZR]),hB.setCell hF.base _,by simpa using hS⟩,by simp[intOf];omega⟩
   ·go_wp2
    refine⟨⟨2,by omega,rfl,hF.step (j:=1) (by omega) _ rfl,hB.setCell hF.base _,by simpa using hS⟩,by simp[intOf];omega⟩
   ·go_wp2
    refine⟨⟨3,by omega,rfl,hF.step (j:=2) (by omega) _ rfl,hB.setCell hF.base _,by simpa using hS⟩,by simp[intOf];omega⟩
   ·go_wp2
    refine⟨⟨4,by omega,rfl,hF.step (j:=3) (by omega) _ (by rw[show p256 3=16777216 from rfl];omega),hB.setCell hF.base _,by simpa using hS⟩,by simp[intOf];omega⟩
  ·obtain rfl:j=m:=by omega
   go_wp2
   go_end0
   exact⟨rfl,hF,hB,hS⟩
theorem zhU(g o n c:Nat)(op:Int)(a m:Nat)(W:Int)(f:Nat->Int)(hM:stn op=(m:Int))(hn:n<=140737488355328)(a1:a<=4294967295)(h0:0<m)(h1:a%m=0)(h2:a+m<=n)(hnc:n<=c)(W0:0<=W)(W1:W<=4294967295)(w:World)
  (hc:Lies w g o n f):
  Calls prog 78 #[.slice (some ⟨g,o,none⟩) n c,.int .i64 op,.int .u32 a,.int .u32 W] w λe w'=>(∃h cap,e=.returned (.tuple #[.slice (some ⟨h,0,none⟩) n cap,.bool true])/\n<=cap/\Fr w' w.heap.size h n (sto f a W m))/\Below w.heap.size w w':=by
 have hm':=vk op
 have hm:m=1\/m=2\/m=4:=by omega
 have C1:=λw=>zaz (some ⟨g,o,none⟩) n c op a hn (by omega) (by omega) (by rw[hM];exact⟨by omega,by omega,by omega⟩) w
 rw[hM]at C1 hm'
 have C3:=λw hc=>vq g o n c f (by omega) hn w hc
 clear hm'
 go_enter func78,ntmps78
 go_wp2_with fail
 refine(C1 _).mono ?_
 rintro e w' ⟨rfl,rfl⟩
 go_wp2_with fail
 refine(C3 _ hc).mono ?_
 rintro e w1 ⟨⟨h,cap,rfl,hcap,hmax,hF⟩,hB⟩
 clear C1 C3
 go_wp2_with fail
 refine(zdF h a n (cap-a) m w'.heap.size W f hm (by omega) hn W0 W1 w1 hF).mono ?_
 rintro e w2 ⟨rfl,hF2,hB2,hS2⟩
 go_wp2_with fail
 go_ret2
 exact⟨⟨h,cap,rfl,hcap,hF2⟩,hB.trans hB2⟩
theorem zox(pc v:Int){rd:Nat}(h:rd=0):onC pc rd v=⟨pc,(pc+4)%4294967296,0,0,0,0,0,0,0,false,0⟩:=by subst h;rfl
theorem zml(pc v:Int){rd:Nat}(h:¬rd=0):onC pc rd v=⟨pc,(pc+4)%4294967296,0,0,rd,v,0,0,0,false,0⟩:=by unfold onC;rw[if_neg h]
end Go.Proofs.YtpiohehijkpghacGreatDoor
