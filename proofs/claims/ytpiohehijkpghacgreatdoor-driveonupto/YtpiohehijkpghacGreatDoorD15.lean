/- What the program guesses. -/
import Derived.Test.YtpiohehijkpghacGreatDoorD14
open Array renaming getElem?_eq_some_iff->Af,getElem?_toList->Ag,getElem?_setIfInBounds->Aq,getElem?_eq_getElem->WW
open Go renaming cell_of_row->Ao,wpList_load_mid->Ap,frozen_of_row->AB,wpList_store_row->AF,wpList_load_row->AI
open Go.Addr renaming add_lit->AL
open Go.Builtin renaming append_->AJ
open Go.RowKit.Below renaming refl->Ae
open Go.Value renaming ownBlock->AK
open Go.World renaming block_lt_of_cell?->Av,setRow_alloc_new->Ax,ownsRow_nil->AD
open Int renaming eq_ofNat_of_zero_le->Aw
open List renaming length_take->Ab,getElem?_take_of_lt->WZ,length_append->Ad,getElem?_drop->Ah,getElem?_append_left->Ai,getElem?_eq_none->Aj,getElem?_append_right->Ak,getElem?_eq_getElem->Am,append_assoc->An,getElem?_eq_some_iff->WX,mem_append->Ay,mem_of_getElem?->Az,mem_of_mem_drop->AA,take_add_one->AC,ext_getElem?->AE,length_cons->AG,length_drop->AH
open Nat renaming le_refl->Aa,mul_le_mul_right->WY,lt_of_lt_of_le->Ar,add_mul->Au
set_option maxHeartbeats 1000000
set_option maxRecDepth 20000
set_option linter.unusedSimpArgs false
set_option linter.unusedVariables false
open Go.Proofs.Tryz
namespace Go.Proofs.YtpiohehijkpghacGreatDoor.Co
open Go.RowKit
open Hy
open Wi Od Re.Hy
open Gu.Hy (Tb tcs)
theorem hid{p:Prop}(h:p):Hid p:=h
theorem zha{N:Nat}{w:World}{b:Nat}{s:Cr}{L:Sls}(S:St N w b s L)(hn:s.coms.length<=4000)(h0:0<=s.cyc)(h1:s.cyc<=6000):Calls prog 51 #[.pointer (some ⟨b,0,none⟩)] w fun e w'=>e=.returned (.int .i64 (left s))/\Below w.heap.size w w':=by
 obtain⟨p,c,e⟩:=S.its.ic.slice
 have k3:w.cell? ⟨b,3,none⟩=some (.slice p s.coms.length c):=(zd S.row (by omega)).trans (congrArg some e)
 have k40:w.cell? ⟨b,40,none⟩=some (.int .i64 s.cyc):=(zd S.row (by omega)).trans rfl
 have hl:left s=2000-s.coms.length-(6000-s.cyc)/30:=rfl
 rw[hl]
 generalize s.coms.length=n at*
 generalize s.cyc=y at*
 clear S hl e
 go_enter func51,ntmps51
 go_wp2
 go_region
 go_wp2
 go_ret
 exact⟨rfl,(Ae _ _).drew⟩
theorem qt:(prog.info? 132).map (·.size)=some 28:=by kernel_rfl
def zlC(g b:Nat)(p:Dg->Bool)(w:World):Prop:=∀(W:World) (o:Dg),Below w.heap.size w W->Calls prog g #[dgv o,.pointer (some ⟨b,0,none⟩)] W fun e w'=>e=.returned (.bool (p o))/\Below W.heap.size W w'
theorem zfk(B:Nat)(q:Int)(w:World)(hc:w.cell? ⟨B,0,none⟩=some (.int .i64 q)):zlC 84 B (fun o=>decide (o.seq=q)) w:=fun W o hW=>by
 have hB:B<w.heap.size:=Av _ _ hc
 have hc':W.cell? ⟨B,0,none⟩=some (.int .i64 q):=(hW.cell (p:=⟨B,0,none⟩) hB).trans hc
 have hB':B<W.heap.size:=Ar hB hW.size
 obtain⟨D,hD⟩:∃D,D=(dgl o).toArray:=⟨_,rfl⟩
 have d0:D[0]?=some (.int .i64 o.seq):=by rw[hD];rfl
 show Calls _ _ #[.agg (dgl o).toArray,_] _ _
 rw[<-hD]
 simp only[]
 generalize o.seq=x at*
 clear hc hW hD hB
 by_cases e:x=q
 ·subst e
  go_enter func84,ntmps84
  go_wp2
  go_ret
  exact⟨by simp,(Ae _ _).alloc (Aa _) _⟩
 ·have e':(x==q)=false:=beq_eq_false_iff_ne.2 e
  go_enter func84,ntmps84
  go_wp2
  go_ret
  exact⟨by simp[e],(Ae _ _).alloc (Aa _) _⟩
theorem zjn:∀args w,(callFunc 84 args).run prog w=.ok (.enter 84 args) w:=enters_of func84 (by kernel_rfl) rfl
structure FirstD(p:Dg->Bool)(l:List Dg)(m:Nat):Prop where
 le:m<=l.length
 no:∀j q,j<m->l[j]?=some q->p q=false
 yes:∀q,l[m]?=some q->p q=true
theorem zbc{w:World}{bb o k:Nat}{l:List Dg}{q:Dg}(hc:∀j u,(flat dgl l)[j]?=some u->w.cell? ⟨bb,o+j,none⟩=some u)(hq:l[k]?=some q):w.rangeAt bb (o+k*28) (dgl q):=fun j v hv=>by
 rw[Nat.add_assoc]
 exact hc _ _ (qF zF hq hv)
theorem jB(g b:Nat)(p:Dg->Bool)(eg:∀args w,(callFunc g args).run prog w=.ok (.enter g args) w)(a:Option Addr)(n c:Nat)(hn:n<=140737488355328)(l:List Dg)(m:Nat)(hm:Hid (FirstD p l m))(r:Int)(hr:Hid (r=if m<n then(m:Int)else-1))(w:World)(hL:Hid (LC w a n c 28 (flat dgl l)))(hA:Hid (zlC g b p w)):
  Calls prog 83 #[.slice a n c,.func (.func g) #[] #[.pointer (some ⟨b,0,none⟩)]] w fun e w'=>e=.returned (.int .i64 r)/\Below w.heap.size w w':=by
 have hlen:Hid (l.length=n):=by have:=hL.out.len;rw[ks zF]at this;show _=_;omega
 have hmn:m<=n:=by have:=hm.out.le;have:=hlen.out;omega
 go_enter func83,ntmps83
 go_wp2_with fail
 go_loopw [8] (fun i wr=>∃k:Nat,k<=m/\i=.int .i64 k/\Hid (Below w.heap.size w wr))
  (fun i _=>n-(intOf i).toNat)
 case atStart=>exact⟨0,by omega,rfl,Ae _ _⟩
 case round=>
  obtain⟨k,hk,rfl,HB⟩:=hrel
  by_cases hlt:k<n
  ·obtain⟨q,hq⟩:∃q,l[k]?=some q:=⟨_,Am (by rw[hlen.out];exact hlt)⟩
   obtain⟨bb,o,rfl,hb,hc⟩:=hL.out.sure (by omega)
   have HR:Hid (wr.rangeAt bb (o+k*28) (dgl q)):=fun j v hv=>(HB.out.cell (p:=⟨bb,o+k*28+j,none⟩) hb).trans (zbc hc hq j v hv)
   have hcall:=hA.out wr q HB.out
   by_cases hkm:k=m
   ·subst hkm
    have hp:p q=true:=hm.out.yes _ hq
    rw[hp]at hcall
    have hrk:r=k:=by rw[hr.out,if_pos hlt]
    subst hrk
    clear hc hq hp
    go_wp2_with(refine Ap rfl 132 _ rfl bb (o+k*28) rfl (dgl q) _ HR.out underlying132 rfl qt ?_)
    refine hcall.mono ?_
    rintro e w' ⟨rfl,hb'⟩
    have HB':Hid (Below w.heap.size w w'):=HB.out.trans (hb'.mono HB.out.size)
    clear hcall hb' HR
    go_wp2_with fail
    go_ret
    exact⟨rfl,HB'.out⟩
   ·have hp:p q=false:=hm.out.no k _ (by omega) hq
    rw[hp]at hcall
    clear hc hq hp
    go_wp2_with(refine Ap rfl 132 _ rfl bb (o+k*28) rfl (dgl q) _ HR.out underlying132 rfl qt ?_)
    refine hcall.mono ?_
    rintro e w' ⟨rfl,hb'⟩
    have HB':Hid (Below w.heap.size w w'):=HB.out.trans (hb'.mono HB.out.size)
    clear hcall hb' HR
    go_wp2_with fail
    exact⟨⟨k+1,by omega,by go_num,HB'⟩,by simp[intOf];omega⟩
  ·have:k=n:=by omega
   subst this
   have hrk:r=-1:=by rw[hr.out,if_neg (by omega)]
   subst hrk
   go_wp2_with fail
   go_ret
   exact⟨rfl,HB.out⟩
theorem qO{N:Nat}{w:World}{b:Nat}{s:Cr}{L:Sls}(S:St N w b s L)(q:Int)(m:Nat)(hm:FirstD (fun o=>decide (o.seq=q)) s.under m)(hn:s.under.length<=100000):
  Calls prog 58 #[.pointer (some ⟨b,0,none⟩),.int .i64 q] w fun e w'=>e=.returned (.int .i64 (if m<s.under.length then(m:Int)else-1))/\Below w.heap.size w w':=by
 have hmf:∀(fn:Fn) (first cap:Array Value) (w:World),(Instr.makeFunc fn first cap).run prog w=.ok (.func fn first cap) w:=fun _ _ _ _=>rfl
 obtain⟨p,c,e⟩:=S.its.iu.slice
 have k334:w.cell? ⟨b,334,none⟩=some (.slice p s.under.length c):=(zd S.row (by omega)).trans (congrArg some e)
 have hb:b<w.heap.size:=(Af.1 S.row).1
 have hU:=S.its.iu
 rw[e]at hU
 have HL:Hid (LC w p s.under.length c 28 (flat dgl s.under)):=hU.lc
 have HM:Hid (FirstD (fun o=>decide (o.seq=q)) s.under m):=hm
 generalize hu:s.under=l at*
 obtain⟨r,hr⟩:∃r:Int,r=if m<l.length then(m:Int)else-1:=⟨_,rfl⟩
 rw[<-hr]
 have HR:Hid (r=if m<l.length then(m:Int)else-1):=hr
 clear S hU e hm hr
 go_enter func58,ntmps58
 go_wp2_with fail
 refine(jB 84 w.heap.size (fun o=>decide (o.seq=q)) zjn p l.length c (by omega) l m HM r HR _ (hid (HL.out.below (Aa _) ((Ae _ _).alloc (Aa _) _))) (hid (zfk w.heap.size q _ (by simp)))).mono ?_
 rintro e w' ⟨rfl,hk⟩
 go_wp2_with fail
 go_ret
 exact⟨rfl,((Ae _ _).alloc (Aa _) _).trans (hk.mono (by simp))⟩
def sel(p:Dg->Bool)(l:List Dg)(k:Nat):List Int:=((l.take k).filter p).map (·.seq)
theorem zkm(p:Dg->Bool)(l:List Dg)(k:Nat):(sel p l k).length<=k:=by
 unfold sel
 rw[List.length_map]
 exact Nat.le_trans (List.length_filter_le _ _) (by rw[Ab];omega)
theorem zhb{p:Dg->Bool}{l:List Dg}{k:Nat}{q:Dg}(h:l[k]?=some q)(hp:p q=true):sel p l (k+1)=sel p l k++[q.seq]:=by
 unfold sel
 rw[AC,h]
 simp[hp]
theorem zkn{p:Dg->Bool}{l:List Dg}{k:Nat}{q:Dg}(h:l[k]?=some q)(hp:p q=false):sel p l (k+1)=sel p l k:=by
 unfold sel
 rw[AC,h]
 simp[hp]
theorem zhc(p:Dg->Bool)(l:List Dg){k:Nat}(h:l.length<=k):sel p l k=(l.filter p).map (·.seq):=by
 unfold sel
 rw[List.take_of_length_le h]
theorem zko:(prog.info? 3).map (fun i=>(i.zero,i.size,i.bytes))=some (some (.int .i64 0),1,8):=by kernel_rfl
theorem zK(o:Dg):(prog.info? 132).map (·.size)=some (dgl o).toArray.size:=by rw[qt];rfl
theorem qY(o:Dg):(dgl o).toArray.all (·.oneCell')=true:=all_oneCell_toArray (za9 o)
theorem znI(g:Nat)(p:Dg->Bool)(eg:∀args w,(callFunc g args).run prog w=.ok (.enter g args) w){N:Nat}{w:World}{b:Nat}{s:Cr}{L:Sls}(S:St N w b s L)(hn:s.under.length<=100000)
  (hA:Hid (∀(W:World) (o:Dg),Below w.heap.size w W->o∈s.under->Calls prog g #[dgv o] W fun e w'=>e=.returned (.bool (p o))/\Below W.heap.size W w')):
  Calls prog 56 #[.pointer (some ⟨b,0,none⟩),.func (.func g) #[] #[]] w fun e w'=>(∃v,e=.returned v/\w'.ownsRow w.heap.size 3 1 v ((s.under.filter p).map (·.seq)).length (ics ((s.under.filter p).map (·.seq))))/\Below w.heap.size w w':=by
 obtain⟨i3,hi3,hz0,hz1,hz2⟩:=info_parts zko
 obtain⟨a,c,e⟩:=S.its.iu.slice
 have k334:w.cell? ⟨b,334,none⟩=some (.slice a s.under.length c):=(zd S.row (by omega)).trans (congrArg some e)
 have hU:=S.its.iu
 rw[e]at hU
 have HL:Hid (LC w a s.under.length c 28 (flat dgl s.under)):=hU.lc
 generalize hu:s.under=l at*
 clear S hU e hu
 go_enter func56,ntmps56
 go_wp2_with fail
 go_loopw [5,13] (fun v i wr=>∃k:Nat,k<=l.length/\i=.int .i64 k/\Hid (wr.ownsRow w.heap.size 3 1 v (sel p l k).length (ics (sel p l k)))/\Hid (Below w.heap.size w wr))
  (fun _ i _=>l.length-(intOf i).toNat)
 case atStart=>exact⟨0,by omega,rfl,AD _ _ _ _,Ae _ _⟩
 case round=>
  obtain⟨k,hk,rfl,HV,HB⟩:=hrel
  have hsl:=zkm p l k
  by_cases hlt:k<l.length
  ·obtain⟨q,hq⟩:∃q,l[k]?=some q:=⟨_,Am hlt⟩
   obtain⟨bb,o,rfl,hb,hc⟩:=HL.out.sure (by omega)
   have HR:Hid (wr.rangeAt bb (o+k*28) (dgl q)):=fun j v hv=>(HB.out.cell (p:=⟨bb,o+k*28+j,none⟩) hb).trans (zbc hc hq j v hv)
   have HA:Hid (∀W,Below w.heap.size w W->Calls prog g #[dgv q] W fun e w'=>e=.returned (.bool (p q))/\Below W.heap.size W w'):=fun W hW=>hA.out W q hW (Az hq)
   clear hc
   obtain⟨D,hD⟩:∃D,D=(dgl q).toArray:=⟨_,rfl⟩
   have HD:Hid (D=(dgl q).toArray):=hD
   have d0:D[0]?=some (.int .i64 q.seq):=by rw[hD];rfl
   have HI:Hid ((prog.info? 132).map (·.size)=some D.size/\28=D.size/\D.all (·.oneCell')=true):=by rw[hD];exact⟨zK q,rfl,qY q⟩
   have HA2:Hid (∀W,Below w.heap.size w W->Calls prog g #[.agg D] W fun e w'=>e=.returned (.bool (p q))/\Below W.heap.size W w'):=by rw[hD];exact HA
   clear hD HA
   go_upto_region 5 with(first|(refine Ap rfl 132 _ rfl bb (o+k*28) rfl (dgl q) _ HR.out underlying132 rfl qt ?_;rw[<-HD.out])|(refine AF rfl 132 _ _ rfl _ _ rfl rfl 132 _ (heap_alloc_new _ _) HI.out.1 HI.out.2.1 HI.out.2.2 ?_;rw[Ax]))
   refine Wi.zj (Φ:=fun W=>Code.wp _ _ _ _ W) ?_
   intro U hUr hUb
   have HBU:Hid (Below w.heap.size w U):=HB.out.trans (hUb.mono HB.out.size)
   have HVU:Hid (U.ownsRow w.heap.size 3 1 u5 (sel p l k).length (ics (sel p l k))):=zr HV.out (Aa _) hUb
   have HUr:Hid (U.heap[wr.heap.size]?=some (.cells D 132 (0,0))):=hUr
   have hqU:wr.heap.size<U.heap.size:=(Af.1 hUr).1
   clear hUr hUb HB HV HR HD
   generalize wr.heap.size=z at*
   go_wp2_with(refine AI rfl 132 _ rfl _ rfl 132 _ (0,0) _ HUr.out underlying132 rfl HI.out.1 ?_)
   cases ha:p q with
   |true=>
    have hcall:=HA2.out U HBU.out
    rw[ha]at hcall
    have HN:Hid (sel p l (k+1)=sel p l k++[q.seq]):=zhb hq ha
    clear ha hq HA2
    refine hcall.mono ?_
    rintro e U2 ⟨rfl,hb2⟩
    have e0:U2.cell? ⟨z,0,none⟩=some (.int .i64 q.seq):=(Ao _ _ _ _ _ _ ((hb2.block z hqU).trans HUr.out)).trans d0
    have HB2:Hid (Below w.heap.size w U2):=HBU.out.trans (hb2.mono HBU.out.size)
    have HV2:Hid (U2.ownsRow w.heap.size 3 1 u5 (sel p l k).length (ics (sel p l k))):=zr HVU.out (Aa _) hb2
    clear hb2 hcall HBU HVU HUr hqU d0 HI
    generalize q.seq=x at*
    go_wp2_with(at_builtin;refine zv _ rfl _ _ 29 rfl w.heap.size 3 i3 _ 1 8 underlying29 hi3 hz0 hz1 hz2 rfl (by decide) _ (sel p l k).length _ rfl (zr HV2.out (Aa _) ((Ae _ _).alloc (Aa _) _)) _ 1 1 (ics [x]) rfl (zao (heap_alloc_new _ _) (jA [x]) rfl) (by unfold maxLen;omega) (by omega) (by have:=HB2.out.size;simp;omega) ?_;intro v1 w1 hown1 hgrow1)
    have HO1:Hid (w1.ownsRow w.heap.size 3 1 v1 (sel p l (k+1)).length (ics (sel p l (k+1)))):=by rw[HN.out,zaO,Ad];exact hown1
    have HB3:Hid (Below w.heap.size w w1):=(HB2.out.alloc HB2.out.size _).grown hgrow1 (by have:=HB2.out.size;simp;omega) (fun j hj=>(HV2.out.lt j hj).1)
    clear hown1 hgrow1 HB2 HV2 e0
    go_wp2_with fail
    exact⟨⟨k+1,by omega,by go_num,HO1,HB3⟩,by simp[intOf];omega⟩
   |false=>
    have hcall:=HA2.out U HBU.out
    rw[ha]at hcall
    have HN:Hid (sel p l (k+1)=sel p l k):=zkn hq ha
    clear ha hq HA2
    refine hcall.mono ?_
    rintro e U2 ⟨rfl,hb2⟩
    have HB2:Hid (Below w.heap.size w U2):=HBU.out.trans (hb2.mono HBU.out.size)
    have HV2:Hid (U2.ownsRow w.heap.size 3 1 u5 (sel p l (k+1)).length (ics (sel p l (k+1)))):=by rw[HN.out];exact zr HVU.out (Aa _) hb2
    clear hb2 hcall HBU HVU HUr hqU d0 HI
    go_wp2_with fail
    exact⟨⟨k+1,by omega,by go_num,HV2,HB2⟩,by simp[intOf];omega⟩
  ·have:k=l.length:=by omega
   subst this
   have he:=zhc p l (Aa _)
   go_wp2_with fail
   go_ret
   exact⟨⟨_,rfl,by rw[<-he];exact HV.out⟩,HB.out⟩
theorem znJ(g:Nat)(Q:Nat)(p:Dg->Bool)(eg:∀args w,(callFunc g args).run prog w=.ok (.enter g args) w){N:Nat}{w:World}{b:Nat}{s:Cr}{L:Sls}(S:St N w b s L)(hn:s.under.length<=100000)
  (hA:Hid (∀(W:World) (o:Dg),Below w.heap.size w W->o∈s.under->Calls prog g #[dgv o,.pointer (some ⟨Q,0,none⟩)] W fun e w'=>e=.returned (.bool (p o))/\Below W.heap.size W w')):
  Calls prog 56 #[.pointer (some ⟨b,0,none⟩),.func (.func g) #[] #[.pointer (some ⟨Q,0,none⟩)]] w fun e w'=>(∃v,e=.returned v/\w'.ownsRow w.heap.size 3 1 v ((s.under.filter p).map (·.seq)).length (ics ((s.under.filter p).map (·.seq))))/\Below w.heap.size w w':=by
 obtain⟨i3,hi3,hz0,hz1,hz2⟩:=info_parts zko
 obtain⟨a,c,e⟩:=S.its.iu.slice
 have k334:w.cell? ⟨b,334,none⟩=some (.slice a s.under.length c):=(zd S.row (by omega)).trans (congrArg some e)
 have hU:=S.its.iu
 rw[e]at hU
 have HL:Hid (LC w a s.under.length c 28 (flat dgl s.under)):=hU.lc
 generalize hu:s.under=l at*
 clear S hU e hu
 go_enter func56,ntmps56
 go_wp2_with fail
 go_loopw [5,13] (fun v i wr=>∃k:Nat,k<=l.length/\i=.int .i64 k/\Hid (wr.ownsRow w.heap.size 3 1 v (sel p l k).length (ics (sel p l k)))/\Hid (Below w.heap.size w wr))
  (fun _ i _=>l.length-(intOf i).toNat)
 case atStart=>exact⟨0,by omega,rfl,AD _ _ _ _,Ae _ _⟩
 case round=>
  obtain⟨k,hk,rfl,HV,HB⟩:=hrel
  have hsl:=zkm p l k
  by_cases hlt:k<l.length
  ·obtain⟨q,hq⟩:∃q,l[k]?=some q:=⟨_,Am hlt⟩
   obtain⟨bb,o,rfl,hb,hc⟩:=HL.out.sure (by omega)
   have HR:Hid (wr.rangeAt bb (o+k*28) (dgl q)):=fun j v hv=>(HB.out.cell (p:=⟨bb,o+k*28+j,none⟩) hb).trans (zbc hc hq j v hv)
   have HA:Hid (∀W,Below w.heap.size w W->Calls prog g #[dgv q,.pointer (some ⟨Q,0,none⟩)] W fun e w'=>e=.returned (.bool (p q))/\Below W.heap.size W w'):=fun W hW=>hA.out W q hW (Az hq)
   clear hc
   obtain⟨D,hD⟩:∃D,D=(dgl q).toArray:=⟨_,rfl⟩
   have HD:Hid (D=(dgl q).toArray):=hD
   have d0:D[0]?=some (.int .i64 q.seq):=by rw[hD];rfl
   have HI:Hid ((prog.info? 132).map (·.size)=some D.size/\28=D.size/\D.all (·.oneCell')=true):=by rw[hD];exact⟨zK q,rfl,qY q⟩
   have HA2:Hid (∀W,Below w.heap.size w W->Calls prog g #[.agg D,.pointer (some ⟨Q,0,none⟩)] W fun e w'=>e=.returned (.bool (p q))/\Below W.heap.size W w'):=by rw[hD];exact HA
   clear hD HA
   go_upto_region 5 with(first|(refine Ap rfl 132 _ rfl bb (o+k*28) rfl (dgl q) _ HR.out underlying132 rfl qt ?_;rw[<-HD.out])|(refine AF rfl 132 _ _ rfl _ _ rfl rfl 132 _ (heap_alloc_new _ _) HI.out.1 HI.out.2.1 HI.out.2.2 ?_;rw[Ax]))
   refine Wi.zj (Φ:=fun W=>Code.wp _ _ _ _ W) ?_
   intro U hUr hUb
   have HBU:Hid (Below w.heap.size w U):=HB.out.trans (hUb.mono HB.out.size)
   have HVU:Hid (U.ownsRow w.heap.size 3 1 u5 (sel p l k).length (ics (sel p l k))):=zr HV.out (Aa _) hUb
   have HUr:Hid (U.heap[wr.heap.size]?=some (.cells D 132 (0,0))):=hUr
   have hqU:wr.heap.size<U.heap.size:=(Af.1 hUr).1
   clear hUr hUb HB HV HR HD
   generalize wr.heap.size=z at*
   go_wp2_with(refine AI rfl 132 _ rfl _ rfl 132 _ (0,0) _ HUr.out underlying132 rfl HI.out.1 ?_)
   cases ha:p q with
   |true=>
    have hcall:=HA2.out U HBU.out
    rw[ha]at hcall
    have HN:Hid (sel p l (k+1)=sel p l k++[q.seq]):=zhb hq ha
    clear ha hq HA2
    refine hcall.mono ?_
    rintro e U2 ⟨rfl,hb2⟩
    have e0:U2.cell? ⟨z,0,none⟩=some (.int .i64 q.seq):=(Ao _ _ _ _ _ _ ((hb2.block z hqU).trans HUr.out)).trans d0
    have HB2:Hid (Below w.heap.size w U2):=HBU.out.trans (hb2.mono HBU.out.size)
    have HV2:Hid (U2.ownsRow w.heap.size 3 1 u5 (sel p l k).length (ics (sel p l k))):=zr HVU.out (Aa _) hb2
    clear hb2 hcall HBU HVU HUr hqU d0 HI
    generalize q.seq=x at*
    go_wp2_with(at_builtin;refine zv _ rfl _ _ 29 rfl w.heap.size 3 i3 _ 1 8 underlying29 hi3 hz0 hz1 hz2 rfl (by decide) _ (sel p l k).length _ rfl (zr HV2.out (Aa _) ((Ae _ _).alloc (Aa _) _)) _ 1 1 (ics [x]) rfl (zao (heap_alloc_new _ _) (jA [x]) rfl) (by unfold maxLen;omega) (by omega) (by have:=HB2.out.size;simp;omega) ?_;intro v1 w1 hown1 hgrow1)
    have HO1:Hid (w1.ownsRow w.heap.size 3 1 v1 (sel p l (k+1)).length (ics (sel p l (k+1)))):=by rw[HN.out,zaO,Ad];exact hown1
    have HB3:Hid (Below w.heap.size w w1):=(HB2.out.alloc HB2.out.size _).grown hgrow1 (by have:=HB2.out.size;simp;omega) (fun j hj=>(HV2.out.lt j hj).1)
    clear hown1 hgrow1 HB2 HV2 e0
    go_wp2_with fail
    exact⟨⟨k+1,by omega,by go_num,HO1,HB3⟩,by simp[intOf];omega⟩
   |false=>
    have hcall:=HA2.out U HBU.out
    rw[ha]at hcall
    have HN:Hid (sel p l (k+1)=sel p l k):=zkn hq ha
    clear ha hq HA2
    refine hcall.mono ?_
    rintro e U2 ⟨rfl,hb2⟩
    have HB2:Hid (Below w.heap.size w U2):=HBU.out.trans (hb2.mono HBU.out.size)
    have HV2:Hid (U2.ownsRow w.heap.size 3 1 u5 (sel p l (k+1)).length (ics (sel p l (k+1)))):=by rw[HN.out];exact zr HVU.out (Aa _) hb2
    clear hb2 hcall HBU HVU HUr hqU d0 HI
    go_wp2_with fail
    exact⟨⟨k+1,by omega,by go_num,HV2,HB2⟩,by simp[intOf];omega⟩
  ·have:k=l.length:=by omega
   subst this
   have he:=zhc p l (Aa _)
   go_wp2_with fail
   go_ret
   exact⟨⟨_,rfl,by rw[<-he];exact HV.out⟩,HB.out⟩
theorem zjo:∀args w,(callFunc 57 args).run prog w=.ok (.enter 57 args) w:=enters_of func57 (by kernel_rfl) rfl
theorem zhd:∀args w,(callFunc 60 args).run prog w=.ok (.enter 60 args) w:=enters_of func60 (by kernel_rfl) rfl
theorem zfl(o:Dg)(W:World):Calls prog 57 #[dgv o] W fun e w'=>e=.returned (.bool (decide (o.st=1)))/\Below W.heap.size W w':=by
 obtain⟨D,hD⟩:∃D,D=(dgl o).toArray:=⟨_,rfl⟩
 have d7:D[7]?=some (.int .i64 o.st):=by rw[hD];rfl
 show Calls _ _ #[.agg (dgl o).toArray] _ _
 rw[<-hD]
 generalize o.st=x at*
 clear hD
 by_cases e:x=1
 ·subst e
  go_enter func57,ntmps57
  go_wp2
  go_ret
  exact⟨by simp,(Ae _ _).alloc (Aa _) _⟩
 ·have e':(x==1)=false:=beq_eq_false_iff_ne.2 e
  go_enter func57,ntmps57
  go_wp2
  go_ret
  exact⟨by simp[e],(Ae _ _).alloc (Aa _) _⟩
theorem zdc{N:Nat}{w:World}{b:Nat}{s:Cr}{L:Sls}(S:St N w b s L)(Q:Nat)(hQ:w.cell? ⟨Q,0,none⟩=some (.pointer (some ⟨b,0,none⟩)))(o:Dg)(a0:0<=o.a)(a1:o.a<96)(b0:0<=o.b)(b1:o.b<96)(W:World)(hW:Below w.heap.size w W):
  Calls prog 60 #[dgv o,.pointer (some ⟨Q,0,none⟩)] W fun e w'=>e=.returned (.bool (decide (o.st=0)&&s.th o.a&&s.th o.b))/\Below W.heap.size W w':=by
 have hb:b<w.heap.size:=(Af.1 S.row).1
 have hq:Q<w.heap.size:=Av _ _ hQ
 have kQ:W.cell? ⟨Q,0,none⟩=some (.pointer (some ⟨b,0,none⟩)):=(hW.cell (p:=⟨Q,0,none⟩) hq).trans hQ
 obtain⟨x,hx⟩:=Aw a0
 obtain⟨y,hy⟩:=Aw b0
 have kA:W.cell? ⟨b,237+x,none⟩=some (.bool (s.th o.a)):=(hW.cell (p:=⟨b,237+x,none⟩) hb).trans ((zd S.row (by omega)).trans (congrArg some (by have:=znH s L o.a a0 a1;rw[show o.a.toNat=x by omega]at this;exact this)))
 have kB:W.cell? ⟨b,237+y,none⟩=some (.bool (s.th o.b)):=(hW.cell (p:=⟨b,237+y,none⟩) hb).trans ((zd S.row (by omega)).trans (congrArg some (by have:=znH s L o.b b0 b1;rw[show o.b.toNat=y by omega]at this;exact this)))
 have hb':b<W.heap.size:=Ar hb hW.size
 have hq':Q<W.heap.size:=Ar hq hW.size
 obtain⟨D,hD⟩:∃D,D=(dgl o).toArray:=⟨_,rfl⟩
 have d7:D[7]?=some (.int .i64 o.st):=by rw[hD];rfl
 have d8:D[8]?=some (.int .i64 x):=by rw[hD,<-hx];rfl
 have d9:D[9]?=some (.int .i64 y):=by rw[hD,<-hy];rfl
 have x1:(x:Int)<96:=by omega
 have y1:(y:Int)<96:=by omega
 have x0:(0:Int)<=(x:Int):=by omega
 have y0:(0:Int)<=(y:Int):=by omega
 show Calls _ _ #[.agg (dgl o).toArray,_] _ _
 rw[<-hD]
 generalize s.th o.a=ta at*
 generalize s.th o.b=tb at*
 generalize o.st=z at*
 clear hD hQ hW S hx hy a0 a1 b0 b1
 by_cases e:z=0
 ·subst e
  cases ta with
  |false=>
   go_enter func60,ntmps60
   go_wp2
   go_quiet(fail)
   go_wp2
   go_ret
   exact⟨by simp,below_drewN ((Ae _ _).alloc (Aa _) _) _⟩
  |true=>
   go_enter func60,ntmps60
   go_wp2
   go_quiet(fail)
   go_wp2
   go_ret
   exact⟨by simp,below_drewN ((Ae _ _).alloc (Aa _) _) _⟩
 ·have e':(z==0)=false:=beq_eq_false_iff_ne.2 e
  go_enter func60,ntmps60
  go_wp2
  go_quiet(fail)
  go_wp2
  go_ret
  exact⟨by simp[e],below_drewN ((Ae _ _).alloc (Aa _) _) _⟩
end Go.Proofs.YtpiohehijkpghacGreatDoor.Co
namespace Go.Proofs.YtpiohehijkpghacGreatDoor.Co
open Go.RowKit
open Hy
open Wi Od Re.Hy
open Gu.Hy (Tb tcs)
theorem yG{g:Nat}{e:TypeId}{fr:Nat×Nat}:∀(news:List Value) {w:World} {off:Nat} {cur:Array Value},w.heap[g]?=some (.cells cur e fr)->off+news.length<=cur.size->
  ∃cur':Array Value,(w.setCells g off news).heap[g]?=some (.cells cur' e fr)/\cur'.size=cur.size/\∀j:Nat,cur'[j]?=if off<=j/\j<off+news.length then news[j-off]? else cur[j]?
 |[],w,off,cur,h,hf=>⟨cur,h,rfl,fun j=>by rw[if_neg (by simp only[List.length_nil];omega)]⟩
 |u::news,w,off,cur,h,hf=>by
  simp only[AG]at hf
  obtain⟨cur',h1,h2,h3⟩:=yG news (w:=w.setCell ⟨g,off,none⟩ u) (off:=off+1) (heap_put h) (by rw[Array.size_setIfInBounds];omega)
  refine⟨cur',h1,by rw[h2,Array.size_setIfInBounds],fun j=>?_⟩
  rw[h3]
  simp only[AG]
  by_cases e0:j=off
  ·subst e0
   rw[if_neg (by omega),if_pos (by omega),Nat.sub_self,Aq,if_pos rfl,if_pos (by omega)]
   rfl
  ·by_cases e1:off+1<=j/\j<off+1+news.length
   ·rw[if_pos e1,if_pos (by omega),show j-off=(j-(off+1))+1 by omega]
    rfl
   ·rw[if_neg e1,if_neg (by omega),Aq,if_neg (fun h=>e0 h.symm)]
def ov(xs:List Value)(off:Nat)(news:List Value):List Value:=xs.take off++news++xs.drop (off+news.length)
theorem znK{xs news:List Value}{off:Nat}(h:off+news.length<=xs.length):(ov xs off news).length=xs.length:=by
 unfold ov
 simp only[Ad,Ab,AH]
 omega
theorem znL{xs news:List Value}{off:Nat}(h:off+news.length<=xs.length)(j:Nat):(ov xs off news)[j]?=if off<=j/\j<off+news.length then news[j-off]? else xs[j]?:=by
 unfold ov
 by_cases h1:j<off
 ·rw[if_neg (by omega),Ai (by simp only[Ad,Ab];omega),Ai (by simp only[Ab];omega),WZ h1]
 ·by_cases h2:j<off+news.length
  ·rw[if_pos (by omega),Ai (by simp only[Ad,Ab];omega),Ak (by simp only[Ab];omega),Ab,Nat.min_eq_left (by omega)]
  ·rw[if_neg (by omega),Ak (by simp only[Ad,Ab];omega),Ah]
   congr 1
   simp only[Ad,Ab]
   omega
theorem znM{xs news:List Value}{off:Nat}(h:∀u∈xs,u.oneCell'=true)(h':∀u∈news,u.oneCell'=true):∀u∈ov xs off news,u.oneCell'=true:=by
 intro u hu
 unfold ov at hu
 rcases Ay.1 hu with hu|hu
 ·rcases Ay.1 hu with hu|hu
  ·exact h u (List.mem_of_mem_take hu)
  ·exact h' u hu
 ·exact h u (AA hu)
theorem vB{α:Type}{g:α->List Value}{size:Nat}(hg:∀x,(g x).length=size):∀{l:List α} {k j:Nat} {x y:α} {news:List Value},l[k]?=some x->j+news.length<=size->g y=ov (g x) j news->ov (flat g l) (k*size+j) news=flat g (l.set k y)
 |[],k,j,x,y,news,h,_,_=>by simp at h
 |z::l,0,j,x,y,news,h,hj,e=>by
  simp at h
  subst h
  rw[Nat.zero_mul,Nat.zero_add]
  show ov (g z++flat g l) j news=g y++flat g l
  rw[e]
  unfold ov
  have hz:=hg z
  rw[List.take_append_of_le_length (by omega),List.drop_append_of_le_length (by omega)]
  simp only[An]
 |z::l,k+1,j,x,y,news,h,hj,e=>by
  have ih:=vB hg (l:=l) (k:=k) (by simpa using h) hj e
  show ov (g z++flat g l) ((k+1)*size+j) news=g z++flat g (l.set k y)
  have e1:(k+1)*size+j=(g z).length+(k*size+j):=by rw[hg,Au];omega
  rw[e1,<-ih]
  unfold ov
  rw[List.take_length_add_append,An,An,show(g z).length+(k*size+j)+news.length=(g z).length+(k*size+j+news.length) by omega,List.drop_append]
  simp only[An]
  rw[List.drop_eq_nil_of_le (by omega),List.nil_append,Nat.add_sub_cancel_left]
theorem Us.at{w:World}{e size:Nat}{v:Value}{n:Nat}{xs:List Value}(h:Us w e size v n xs)(h0:0<n):∃g o cap,v=.slice (some ⟨g,o,none⟩) n cap/\n<=cap/\cap<=maxLen/\g<w.heap.size/\(∀j u,xs[j]?=some u->w.cell? ⟨g,o+j,none⟩=some u)/\∀j,j<n*size->w.frozen? ⟨g,o+j,none⟩=false:=by
 rcases h.is with⟨_,rfl⟩|⟨g,o,cap,cur,h1,h2,h3,h4,h5,h6⟩
 ·omega
 ·refine⟨g,o,cap,h1,h3,h4,(Af.1 h2).1,fun j u hj=>?_,fun j _=>AB _ _ _ _ _ h2⟩
  rw[Ao _ _ _ _ _ _ h2,<-Ag]
  rw[<-h6]at hj
  have hlt:j<n*size:=by have:=(WX.1 hj).1;rw[Ab]at this;omega
  rw[WZ hlt,Ah]at hj
  exact hj
theorem Us.puts{w:World}{e size:Nat}{n cap g o:Nat}{xs:List Value}(h:Us w e size (.slice (some ⟨g,o,none⟩) n cap) n xs)(off:Nat)(news:List Value)(hf:off+news.length<=n*size)(h1:∀u∈news,u.oneCell'=true):Us (w.setCells g (o+off) news) e size (.slice (some ⟨g,o,none⟩) n cap) n (ov xs off news):=by
 have hxl:=h.len
 rcases h.is with⟨e0,_⟩|⟨g',o',cap',cur,e1,h2,h3,h4,h5,h6⟩
 ·cases e0
 ·cases e1
  have hns:n*size<=cap*size:=WY _ h3
  obtain⟨cur',c1,c2,c3⟩:=yG news (off:=o+off) h2 (by omega)
  refine⟨by rw[znK (by omega)];exact hxl,znM h.one h1,.inr ⟨g,o,cap,cur',rfl,c1,h3,h4,by omega,?_⟩⟩
  apply AE
  intro j
  rw[znL (by omega)]
  by_cases hj:j<n*size
  ·rw[WZ hj,Ah,Ag,c3]
   by_cases hin:off<=j/\j<off+news.length
   ·rw[if_pos (by omega),if_pos hin]
    congr 1
    omega
   ·rw[if_neg (by omega),if_neg hin,<-h6,WZ hj,Ah,Ag]
  ·rw[Aj (by rw[Ab];omega),if_neg (by omega),Aj (by omega)]
theorem Us.there{w:World}{e size:Nat}{n cap g o:Nat}{xs:List Value}(h:Us w e size (.slice (some ⟨g,o,none⟩) n cap) n xs)(off m:Nat)(hf:off+m<=n*size):w.there g (o+off) m:=by
 rcases h.is with⟨e0,_⟩|⟨g',o',cap',cur,e1,h2,h3,h4,h5,h6⟩
 ·cases e0
 ·cases e1
  have hns:n*size<=cap*size:=WY _ h3
  intro j hj
  refine⟨?_,AB _ _ _ _ _ h2⟩
  rw[Ao _ _ _ _ _ _ h2]
  rw[WW (by omega)]
  rfl
theorem Us.drop{w:World}{e size:Nat}{n cap g o:Nat}{xs:List Value}(h:Us w e size (.slice (some ⟨g,o,none⟩) n cap) n xs)(m:Nat)(hm:m<=n)(hlt:m<cap):Us w e size (.slice (some ⟨g,o+m*size,none⟩) (n-m) (cap-m)) (n-m) (xs.drop (m*size)):=by
 have hxl:=h.len
 rcases h.is with⟨e0,_⟩|⟨g',o',cap',cur,e1,h2,h3,h4,h5,h6⟩
 ·cases e0
 ·cases e1
  have e3:(n-m)*size=n*size-m*size:=Nat.sub_mul ..
  have e4:(cap-m)*size=cap*size-m*size:=Nat.sub_mul ..
  have hms:m*size<=cap*size:=WY _ (Nat.le_of_lt hlt)
  refine⟨by rw[AH];omega,fun u hu=>h.one u (AA hu),.inr ⟨g,o+m*size,cap-m,cur,rfl,h2,by omega,by omega,by omega,?_⟩⟩
  rw[<-h6,List.drop_take,List.drop_drop,e3]
theorem Us.empty{w:World}{e size:Nat}{n cap g o:Nat}{xs:List Value}(h:Us w e size (.slice (some ⟨g,o,none⟩) n cap) n xs):Us w e size (.slice (some ⟨g,o,none⟩) 0 0) 0 []:=by
 rcases h.is with⟨e0,_⟩|⟨g',o',cap',cur,e1,h2,h3,h4,h5,h6⟩
 ·cases e0
 ·cases e1
  exact⟨by simp,fun u hu=>(by cases hu),.inr ⟨g,o,0,cur,rfl,h2,by omega,by omega,by omega,by simp⟩⟩
theorem zD(w:World)(b o:Nat)(vs:List Value):w.grownBy (w.setCells b o vs) (some b):=
 ⟨(ya w b o vs).1,(ya w b o vs).2.1,(ya w b o vs).2.2,by rw[vz];exact Aa _,fun k _ hk=>zY w b o vs (fun e=>hk (by rw[e]))⟩
theorem zhe{P:Program}(w:World)(t ty e:TypeId)(i:TypeInfo)(z:Value)(size bytes:Nat)(ht:P.underlying t=some (.slice e))(hi:P.info? e=some i)(hz:i.zero=some z)
  (hsize:i.size=size) (hby:i.bytes=bytes) (hzs:z.cells.size=size) (hsz:0<size)
  (v:Value) (n:Nat) (xs:List Value) (hU:Us w e size v n xs) (bx:Nat) (news:List Value) (hl:news.length=size) (hnews:∀j u,news[j]?=some u->w.cell? ⟨bx,j,none⟩=some u) (h1:∀u∈news,u.oneCell'=true)
  (h63:n+1<=1000000000000) (hbytes:(n+1)*bytes<=140737488355328):
  ∃v' w',(AJ #[t,t] ty #[v,.slice (some ⟨bx,0,none⟩) 1 1]).run P w=.ok v' w'/\Us w' e size v' (n+1) (xs++news)/\w.grownBy w' v.ownBlock/\(∀g,v'.ownBlock=some g->v.ownBlock=some g\/w.heap.size<=g):=by
 subst hsize
 subst hby
 have hml:n+1<=maxLen:=by simp only[maxLen];omega
 have hlen:(xs++news).length=(n+1)*i.size:=by rw[Ad,hU.len,hl,Au];omega
 have hone:∀u∈xs++news,u.oneCell'=true:=fun u hu=>by
  rcases Ay.1 hu with h|h
  ·exact hU.one u h
  ·exact h1 u h
 have hsrc:Src P i.size t (.slice (some ⟨bx,0,none⟩) 1 1) 1 news w:=Src.ofSlice w ht ⟨bx,0,none⟩ 1 1 news (by omega) (fun j u hj=>by rw[AL];simpa using hnews j u hj) h1
 have grown:∀(base:Option Addr) (old:Nat),old<n+1->(Builtin.firstCells i.size n (.slice base n old)).run P w.drew=.ok xs.toArray w.drew->Us w e i.size (.slice base n old) n xs->
   ∃v' w',(AJ #[t,t] ty #[.slice base n old,.slice (some ⟨bx,0,none⟩) 1 1]).run P w=.ok v' w'/\Us w' e i.size v' (n+1) (xs++news)/\w.grownBy w' (AK (.slice base n old))/\(∀g,v'.ownBlock=some g->AK (.slice base n old)=some g\/w.heap.size<=g):=by
  intro base old ho hf _
  have hr:=run_append_grow_src w t t ty e i z ht hi hz base n old xs hf (.slice (some ⟨bx,0,none⟩) 1 1) 1 news hsrc (by omega) (by omega) (growslice_fits (by omega) hbytes)
  have hge:=grownCap_ge w (n+1) old e
  have hcm:grownCap w (n+1) old e<=maxLen:=grownCap_le_maxLen w (n+1) old e hml
  refine⟨_,_,hr,⟨hlen,hone,.inr ⟨w.heap.size,0,_,_,rfl,heap_alloc_new w.drew _,hge,hcm,?_,?_⟩⟩,⟨rfl,rfl,rfl,by simp,fun k hk _=>heap_alloc_old w.drew _ hk⟩,fun g hg=>.inr (Nat.le_of_eq (Option.some.inj hg))⟩
  ·have hx:=hU.len
   simp only[Array.size_append,List.size_toArray,Ad,size_zeroCells,hzs,hx,hl]
   have:grownCap w (n+1) old e*i.size=(n+1)*i.size+(grownCap w (n+1) old e-(n+1))*i.size:=by rw[<-Au];congr 1;omega
   rw[this,Au]
   omega
  ·simp only[Array.toList_append,List.drop_zero]
   rw[<-hlen]
   exact List.take_left
 rcases hU.is with⟨rfl,rfl⟩|⟨g,o,cap,cur,rfl,h2,h3,h4,h5,h6⟩
 ·obtain rfl:xs=[]:=List.eq_nil_of_length_eq_zero (by rw[hU.len,Nat.zero_mul])
  exact grown none 0 (by omega) (run_firstCells_none w.drew i.size 0 0 0) hU
 ·by_cases hroom:n+1<=cap
  ·have e5:(n+1)*i.size<=cap*i.size:=WY _ hroom
   have e6:(n+1)*i.size=n*i.size+i.size:=by rw[Au,Nat.one_mul]
   have hin:∀j,j<news.length->o+n*i.size+j<cur.size:=fun j hj=>by omega
   have hr:=run_append_room_src w t t ty e i ht hi g o n cap (.slice (some ⟨bx,0,none⟩) 1 1) 1 news hsrc hroom (fun j hj=>by rw[Ao _ _ _ _ _ _ h2,WW (hin j hj)];rfl) (fun j _=>AB _ _ _ _ _ h2)
   obtain⟨cur',c1,c2,c3⟩:=yG news (off:=o+n*i.size) h2 (by omega)
   refine⟨_,_,hr,⟨hlen,hone,.inr ⟨g,o,cap,cur',rfl,c1,hroom,h4,by omega,?_⟩⟩,zD w g _ news,fun g' hg'=>.inl hg'⟩
   have hxl:=hU.len
   apply AE
   intro j
   by_cases hj:j<(n+1)*i.size
   ·rw[WZ hj,Ah,Ag,c3]
    by_cases hin:j<n*i.size
    ·rw[if_neg (by omega),Ai (by omega),<-h6,WZ hin,Ah,Ag]
    ·rw[if_pos (by omega),Ak (by omega)]
     congr 1
     omega
   ·rw[Aj (by rw[Ab];omega),Aj (by omega)]
  ·refine grown (some ⟨g,o,none⟩) cap (by omega) ?_ hU
   refine run_firstCells_some w.drew i.size n ⟨g,o,none⟩ n cap xs hU.len (fun j u hj=>?_)
   rw[AL]
   show w.drew.cell? ⟨g,o+j,none⟩=_
   have:w.drew.cell? ⟨g,o+j,none⟩=w.cell? ⟨g,o+j,none⟩:=rfl
   rw[this,Ao _ _ _ _ _ _ h2,<-Ag]
   rw[<-h6]at hj
   have hlt:j<n*i.size:=by have:=(WX.1 hj).1;rw[Ab]at this;omega
   rw[WZ hlt,Ah]at hj
   exact hj
theorem qP{P:Program}{w:World}{o:Oper}{a:Act}{K:Act->World->Prop}{Q:Exit->Act->World->Prop}(s x:Operand)(t:TypeId)
  (ho:o.op=.call {callee:=.builtin .append,args:=#[s,x],argTypes:=#[t,t]})
  (e:TypeId) (i:TypeInfo) (z:Value) (size bytes:Nat) (ht:P.underlying t=some (.slice e)) (hi:P.info? e=some i) (hz:i.zero=some z)
  (hsize:i.size=size) (hby:i.bytes=bytes) (hzs:z.cells.size=size) (hsz:0<size)
  (v:Value) (n:Nat) (xs:List Value) (hs:a.eval s=v) (hU:Us w e size v n xs) (bx:Nat) (news:List Value) (hx:a.eval x=.slice (some ⟨bx,0,none⟩) 1 1) (hl:news.length=size) (hnews:∀j u,news[j]?=some u->w.cell? ⟨bx,j,none⟩=some u) (h1:∀u∈news,u.oneCell'=true)
  (h63:n+1<=1000000000000) (hbytes:(n+1)*bytes<=140737488355328)
  (h:∀v' w',Us w' e size v' (n+1) (xs++news)->w.grownBy w' v.ownBlock->(∀g,v'.ownBlock=some g->v.ownBlock=some g\/w.heap.size<=g)->K (a.put o.dst v') w'):o.wp P a w K Q:=by
 obtain⟨v',w',hr,h2,h3,h4⟩:=zhe (P:=P) w t o.type e i z size bytes ht hi hz hsize hby hzs hsz v n xs hU bx news hl hnews h1 h63 hbytes
 unfold Oper.wp execOp
 simp only[ho,resolve,invoke,builtin,Sem.run_bind,Sem.run_pure,Result.andThen_ok,List.map_toArray,List.map_cons,List.map_nil,hs,hx,hr]
 exact h v' w' h2 h3 h4
end Go.Proofs.YtpiohehijkpghacGreatDoor.Co
namespace Go.Proofs.YtpiohehijkpghacGreatDoor.Hy
open Go.RowKit
theorem yb(x:Int)(x0:0<=x)(x1:x<4294967296):pc x 0 0 0=0:=by
 have e:pc x 0 0 0=bits .and .u32 (x/1) 0*1%4294967296:=rfl
 rw[e,Int.ediv_one,xn x x0 x1];rfl
theorem zdd(x:Int)(x0:0<=x)(x1:x<4294967296):pc x 12 20 12=x/4096%1048576*4096:=by
 have e:pc x 12 20 12=bits .and .u32 (x/4096) 1048575*4096%4294967296:=rfl
 rw[e,zmY (x/4096) (by omega) (by omega)];omega
theorem zfm(x:Int)(x0:0<=x)(x1:x<4294967296):pc x 31 1 20=x/2147483648%2*1048576:=by
 have e:pc x 31 1 20=bits .and .u32 (x/2147483648) 1*1048576%4294967296:=rfl
 rw[e,and1 (x/2147483648) (by omega) (by omega)];omega
theorem zmM(x:Int)(x0:0<=x)(x1:x<4294967296):pc x 20 1 31=x/1048576%2*2147483648:=by
 have e:pc x 20 1 31=bits .and .u32 (x/1048576) 1*2147483648%4294967296:=rfl
 rw[e,and1 (x/1048576) (by omega) (by omega)];omega
theorem zfn(x:Int)(x0:0<=x)(x1:x<4294967296):pc x 12 8 12=x/4096%256*4096:=by
 have e:pc x 12 8 12=bits .and .u32 (x/4096) 255*4096%4294967296:=rfl
 rw[e,zmX (x/4096) (by omega) (by omega)];omega
theorem zfo(x:Int)(x0:0<=x)(x1:x<4294967296):pc x 20 1 11=x/1048576%2*2048:=by
 have e:pc x 20 1 11=bits .and .u32 (x/1048576) 1*2048%4294967296:=rfl
 rw[e,and1 (x/1048576) (by omega) (by omega)];omega
theorem zfp(x:Int)(x0:0<=x)(x1:x<4294967296):pc x 21 10 1=x/2097152%1024*2:=by
 have e:pc x 21 10 1=bits .and .u32 (x/2097152) 1023*2%4294967296:=rfl
 rw[e,zkX (x/2097152) (by omega) (by omega)];omega
theorem zfq(x:Int)(x0:0<=x)(x1:x<4294967296):pc x 20 12 0=x/1048576%4096*1:=by
 have e:pc x 20 12 0=bits .and .u32 (x/1048576) 4095*1%4294967296:=rfl
 rw[e,zkY (x/1048576) (by omega) (by omega)];omega
theorem zhf(x:Int)(x0:0<=x)(x1:x<4294967296):pc x 20 5 0=x/1048576%32*1:=by
 have e:pc x 20 5 0=bits .and .u32 (x/1048576) 31*1%4294967296:=rfl
 rw[e,zgf (x/1048576) (by omega) (by omega)];omega
theorem zfr(x:Int)(x0:0<=x)(x1:x<4294967296):pc x 31 1 12=x/2147483648%2*4096:=by
 have e:pc x 31 1 12=bits .and .u32 (x/2147483648) 1*4096%4294967296:=rfl
 rw[e,and1 (x/2147483648) (by omega) (by omega)];omega
theorem zhg(x:Int)(x0:0<=x)(x1:x<4294967296):pc x 7 1 11=x/128%2*2048:=by
 have e:pc x 7 1 11=bits .and .u32 (x/128) 1*2048%4294967296:=rfl
 rw[e,and1 (x/128) (by omega) (by omega)];omega
theorem zhh(x:Int)(x0:0<=x)(x1:x<4294967296):pc x 25 6 5=x/33554432%64*32:=by
 have e:pc x 25 6 5=bits .and .u32 (x/33554432) 63*32%4294967296:=rfl
 rw[e,zoJ (x/33554432) (by omega) (by omega)];omega
theorem zjp(x:Int)(x0:0<=x)(x1:x<4294967296):pc x 8 4 1=x/256%16*2:=by
 have e:pc x 8 4 1=bits .and .u32 (x/256) 15*2%4294967296:=rfl
 rw[e,zoI (x/256) (by omega) (by omega)];omega
theorem zhi(x:Int)(x0:0<=x)(x1:x<4294967296):pc x 25 7 5=x/33554432%128*32:=by
 have e:pc x 25 7 5=bits .and .u32 (x/33554432) 127*32%4294967296:=rfl
 rw[e,zmW (x/33554432) (by omega) (by omega)];omega
theorem zjq(x:Int)(x0:0<=x)(x1:x<4294967296):pc x 7 5 0=x/128%32*1:=by
 have e:pc x 7 5 0=bits .and .u32 (x/128) 31*1%4294967296:=rfl
 rw[e,zgf (x/128) (by omega) (by omega)];omega
theorem ib_U(x:Int)(x0:0<=x)(x1:x<4294967296):ib (fm 1) x 4=x/4096%1048576*4096:=by
 have e:ib (fm 1) x 4=bits .or .u32 (bits .or .u32 (bits .or .u32 (bits .or .u32 0 (pc x 12 20 12)) (pc x 0 0 0)) (pc x 0 0 0)) (pc x 0 0 0):=rfl
 rw[e,zdd x x0 x1,yb x x0 x1]
 simp only[qz]
 rw[qe 12 32 (by omega) 4096 4294967296 _ (x/4096%1048576*4096) rfl rfl (by omega) (by omega) (jG (0) (0) (by omega) (by omega) (by omega) (by omega)) (by omega) (by omega) (by omega) (by omega)]
 omega
theorem ib_J(x:Int)(x0:0<=x)(x1:x<4294967296):ib (fm 2) x 4=x/2147483648%2*1048576+x/4096%256*4096+x/1048576%2*2048+x/2097152%1024*2:=by
 have e:ib (fm 2) x 4=bits .or .u32 (bits .or .u32 (bits .or .u32 (bits .or .u32 0 (pc x 31 1 20)) (pc x 12 8 12)) (pc x 20 1 11)) (pc x 21 10 1):=rfl
 rw[e,zfm x x0 x1,zfn x x0 x1,zfo x x0 x1,zfp x x0 x1]
 rw[qe 20 21 (by omega) 1048576 2097152 _ (x/2147483648%2*1048576) rfl rfl (by omega) (by omega) (jG (0) (0) (by omega) (by omega) (by omega) (by omega)) (by omega) (by omega) (by omega) (by omega)]
 rw[qe 12 20 (by omega) 4096 1048576 _ (x/4096%256*4096) rfl rfl (by omega) (by omega) (jG ((x/2147483648%2)*1) (0) (by omega) (by omega) (by omega) (by omega)) (by omega) (by omega) (by omega) (by omega)]
 rw[qe 11 12 (by omega) 2048 4096 _ (x/1048576%2*2048) rfl rfl (by omega) (by omega) (jG ((x/2147483648%2)*256+(x/4096%256)*1) (0) (by omega) (by omega) (by omega) (by omega)) (by omega) (by omega) (by omega) (by omega)]
 rw[qe 1 11 (by omega) 2 2048 _ (x/2097152%1024*2) rfl rfl (by omega) (by omega) (jG ((x/2147483648%2)*512+(x/4096%256)*2+(x/1048576%2)*1) (0) (by omega) (by omega) (by omega) (by omega)) (by omega) (by omega) (by omega) (by omega)]
 omega
theorem ib_I(x:Int)(x0:0<=x)(x1:x<4294967296):ib (fm 3) x 4=x/1048576%4096*1:=by
 have e:ib (fm 3) x 4=bits .or .u32 (bits .or .u32 (bits .or .u32 (bits .or .u32 0 (pc x 20 12 0)) (pc x 0 0 0)) (pc x 0 0 0)) (pc x 0 0 0):=rfl
 rw[e,zfq x x0 x1,yb x x0 x1]
 simp only[qz]
 rw[qe 0 12 (by omega) 1 4096 _ (x/1048576%4096*1) rfl rfl (by omega) (by omega) (jG (0) (0) (by omega) (by omega) (by omega) (by omega)) (by omega) (by omega) (by omega) (by omega)]
 omega
theorem ib_H(x:Int)(x0:0<=x)(x1:x<4294967296):ib (fm 4) x 4=x/1048576%32*1:=by
 have e:ib (fm 4) x 4=bits .or .u32 (bits .or .u32 (bits .or .u32 (bits .or .u32 0 (pc x 20 5 0)) (pc x 0 0 0)) (pc x 0 0 0)) (pc x 0 0 0):=rfl
 rw[e,zhf x x0 x1,yb x x0 x1]
 simp only[qz]
 rw[qe 0 5 (by omega) 1 32 _ (x/1048576%32*1) rfl rfl (by omega) (by omega) (jG (0) (0) (by omega) (by omega) (by omega) (by omega)) (by omega) (by omega) (by omega) (by omega)]
 omega
theorem ib_B(x:Int)(x0:0<=x)(x1:x<4294967296):ib (fm 5) x 4=x/2147483648%2*4096+x/128%2*2048+x/33554432%64*32+x/256%16*2:=by
 have e:ib (fm 5) x 4=bits .or .u32 (bits .or .u32 (bits .or .u32 (bits .or .u32 0 (pc x 31 1 12)) (pc x 7 1 11)) (pc x 25 6 5)) (pc x 8 4 1):=rfl
 rw[e,zfr x x0 x1,zhg x x0 x1,zhh x x0 x1,zjp x x0 x1]
 rw[qe 12 13 (by omega) 4096 8192 _ (x/2147483648%2*4096) rfl rfl (by omega) (by omega) (jG (0) (0) (by omega) (by omega) (by omega) (by omega)) (by omega) (by omega) (by omega) (by omega)]
 rw[qe 11 12 (by omega) 2048 4096 _ (x/128%2*2048) rfl rfl (by omega) (by omega) (jG ((x/2147483648%2)*1) (0) (by omega) (by omega) (by omega) (by omega)) (by omega) (by omega) (by omega) (by omega)]
 rw[qe 5 11 (by omega) 32 2048 _ (x/33554432%64*32) rfl rfl (by omega) (by omega) (jG ((x/2147483648%2)*2+(x/128%2)*1) (0) (by omega) (by omega) (by omega) (by omega)) (by omega) (by omega) (by omega) (by omega)]
 rw[qe 1 5 (by omega) 2 32 _ (x/256%16*2) rfl rfl (by omega) (by omega) (jG ((x/2147483648%2)*128+(x/128%2)*64+(x/33554432%64)*1) (0) (by omega) (by omega) (by omega) (by omega)) (by omega) (by omega) (by omega) (by omega)]
 omega
theorem ib_S(x:Int)(x0:0<=x)(x1:x<4294967296):ib (fm 6) x 4=x/33554432%128*32+x/128%32*1:=by
 have e:ib (fm 6) x 4=bits .or .u32 (bits .or .u32 (bits .or .u32 (bits .or .u32 0 (pc x 25 7 5)) (pc x 7 5 0)) (pc x 0 0 0)) (pc x 0 0 0):=rfl
 rw[e,zhi x x0 x1,zjq x x0 x1,yb x x0 x1]
 simp only[qz]
 rw[qe 5 12 (by omega) 32 4096 _ (x/33554432%128*32) rfl rfl (by omega) (by omega) (jG (0) (0) (by omega) (by omega) (by omega) (by omega)) (by omega) (by omega) (by omega) (by omega)]
 rw[qe 0 5 (by omega) 1 32 _ (x/128%32*1) rfl rfl (by omega) (by omega) (jG ((x/33554432%128)*1) (0) (by omega) (by omega) (by omega) (by omega)) (by omega) (by omega) (by omega) (by omega)]
 omega
theorem ib_R(x:Int)(x0:0<=x)(x1:x<4294967296):ib (fm 7) x 4=0:=by
 have e:ib (fm 7) x 4=bits .or .u32 (bits .or .u32 (bits .or .u32 (bits .or .u32 0 (pc x 0 0 0)) (pc x 0 0 0)) (pc x 0 0 0)) (pc x 0 0 0):=rfl
 rw[e,yb x x0 x1]
 simp only[qz]
 exact yW 0 (by omega) (by omega)
theorem ib_E(x:Int)(x0:0<=x)(x1:x<4294967296):ib (fm 8) x 4=0:=by
 have e:ib (fm 8) x 4=bits .or .u32 (bits .or .u32 (bits .or .u32 (bits .or .u32 0 (pc x 0 0 0)) (pc x 0 0 0)) (pc x 0 0 0)) (pc x 0 0 0):=rfl
 rw[e,yb x x0 x1]
 simp only[qz]
 exact yW 0 (by omega) (by omega)
end Go.Proofs.YtpiohehijkpghacGreatDoor.Hy
namespace Go.Proofs.YtpiohehijkpghacGreatDoor.Hy
open Go.RowKit
def sx(v half full:Int):Int:=if v<half then v else v-full
theorem zpc(x:Int)(x0:0<=x)(x1:x<4294967296):rim (fm 1) x=sx (x/4096*4096) 2147483648 4294967296:=by
 have e:rim (fm 1) x=wrap32 (ib (fm 1) x 4*1%4294967296)/1:=rfl
 rw[e,ib_U x x0 x1];unfold sx wrap32;split<;>omega
theorem zpd(x:Int)(x0:0<=x)(x1:x<4294967296):rim (fm 2) x=sx (x/2147483648%2*1048576+x/4096%256*4096+x/1048576%2*2048+x/2097152%1024*2) 1048576 2097152:=by
 have e:rim (fm 2) x=wrap32 (ib (fm 2) x 4*2048%4294967296)/2048:=rfl
 rw[e,ib_J x x0 x1]
 have h:0<=x/2147483648%2*1048576+x/4096%256*4096+x/1048576%2*2048+x/2097152%1024*2/\x/2147483648%2*1048576+x/4096%256*4096+x/1048576%2*2048+x/2097152%1024*2<2097152:=by omega
 revert h
 generalize x/2147483648%2*1048576+x/4096%256*4096+x/1048576%2*2048+x/2097152%1024*2=v
 intro h
 unfold sx wrap32;split<;>omega
theorem zpe(x:Int)(x0:0<=x)(x1:x<4294967296):rim (fm 3) x=sx (x/1048576) 2048 4096:=by
 have e:rim (fm 3) x=wrap32 (ib (fm 3) x 4*1048576%4294967296)/1048576:=rfl
 rw[e,ib_I x x0 x1];unfold sx wrap32;split<;>omega
theorem zpf(x:Int)(x0:0<=x)(x1:x<4294967296):rim (fm 4) x=x/1048576%32:=by
 have e:rim (fm 4) x=wrap32 (ib (fm 4) x 4*1%4294967296)/1:=rfl
 rw[e,ib_H x x0 x1];unfold wrap32;omega
theorem zpg(x:Int)(x0:0<=x)(x1:x<4294967296):rim (fm 5) x=sx (x/2147483648%2*4096+x/128%2*2048+x/33554432%64*32+x/256%16*2) 4096 8192:=by
 have e:rim (fm 5) x=wrap32 (ib (fm 5) x 4*524288%4294967296)/524288:=rfl
 rw[e,ib_B x x0 x1]
 have h:0<=x/2147483648%2*4096+x/128%2*2048+x/33554432%64*32+x/256%16*2/\x/2147483648%2*4096+x/128%2*2048+x/33554432%64*32+x/256%16*2<8192:=by omega
 revert h
 generalize x/2147483648%2*4096+x/128%2*2048+x/33554432%64*32+x/256%16*2=v
 intro h
 unfold sx wrap32;split<;>omega
theorem zph(x:Int)(x0:0<=x)(x1:x<4294967296):rim (fm 6) x=sx (x/33554432*32+x/128%32) 2048 4096:=by
 have e:rim (fm 6) x=wrap32 (ib (fm 6) x 4*1048576%4294967296)/1048576:=rfl
 rw[e,ib_S x x0 x1]
 have h:0<=x/33554432*32+x/128%32/\x/33554432*32+x/128%32<4096:=by omega
 have e2:x/33554432%128*32+x/128%32*1=x/33554432*32+x/128%32:=by omega
 rw[e2]
 revert h
 generalize x/33554432*32+x/128%32=v
 intro h
 unfold sx wrap32;split<;>omega
theorem zpi(x:Int)(x0:0<=x)(x1:x<4294967296):rim (fm 7) x=0:=by
 have e:rim (fm 7) x=wrap32 (ib (fm 7) x 4*1%4294967296)/1:=rfl
 rw[e,ib_R x x0 x1];unfold wrap32;omega
theorem zpj(x:Int)(x0:0<=x)(x1:x<4294967296):rim (fm 8) x=0:=by
 have e:rim (fm 8) x=wrap32 (ib (fm 8) x 4*1%4294967296)/1:=rfl
 rw[e,ib_E x x0 x1];unfold wrap32;omega
theorem zpk(x:Int)(x0:0<=x)(x1:x<4294967296):rrg x 128 31=x/128%32:=by
 unfold rrg;rw[zgf _ (by omega) (by omega)];unfold wrap64;omega
theorem znN(x:Int)(x0:0<=x)(x1:x<4294967296):rrg x 32768 31=x/32768%32:=by
 unfold rrg;rw[zgf _ (by omega) (by omega)];unfold wrap64;omega
theorem znO(x:Int)(x0:0<=x)(x1:x<4294967296):rrg x 1048576 31=x/1048576%32:=by
 unfold rrg;rw[zgf _ (by omega) (by omega)];unfold wrap64;omega
theorem zeo(x:Int)(x0:0<=x)(x1:x<4294967296):rrg x 128 0=0:=by
 unfold rrg;rw[xn _ (by omega) (by omega)];unfold wrap64;omega
theorem zlD(x:Int)(x0:0<=x)(x1:x<4294967296):rrg x 32768 0=0:=by
 unfold rrg;rw[xn _ (by omega) (by omega)];unfold wrap64;omega
theorem zlE(x:Int)(x0:0<=x)(x1:x<4294967296):rrg x 1048576 0=0:=by
 unfold rrg;rw[xn _ (by omega) (by omega)];unfold wrap64;omega
end Go.Proofs.YtpiohehijkpghacGreatDoor.Hy
namespace Go.Proofs.YtpiohehijkpghacGreatDoor
open Go.RowKit
open Hy
theorem fm1:∀m,m<49->(fm (kn m) 1=31\/fm (kn m) 1=0):=by decide
theorem fm2:∀m,m<49->(fm (kn m) 2=31\/fm (kn m) 2=0):=by decide
theorem fm3:∀m,m<49->(fm (kn m) 3=31\/fm (kn m) 3=0):=by decide
theorem fm1b:∀m,m<11->5<=m->fm (kn m) 1=0:=by decide
theorem zkp(m:Nat)(hm:m<49)(x:Int)(x0:0<=x)(x1:x<=4294967295):0<=rrg x 128 (fm (kn m) 1)/\rrg x 128 (fm (kn m) 1)<32:=by
 rcases fm1 m hm with h|h
 ·rw[h,zpk x x0 (by omega)];omega
 ·rw[h,zeo x x0 (by omega)];omega
theorem zhj(m:Nat)(hm:m<49)(x:Int)(x0:0<=x)(x1:x<=4294967295):0<=rrg x 32768 (fm (kn m) 2)/\rrg x 32768 (fm (kn m) 2)<32:=by
 rcases fm2 m hm with h|h
 ·rw[h,znN x x0 (by omega)];omega
 ·rw[h,zlD x x0 (by omega)];omega
theorem zhk(m:Nat)(hm:m<49)(x:Int)(x0:0<=x)(x1:x<=4294967295):0<=rrg x 1048576 (fm (kn m) 3)/\rrg x 1048576 (fm (kn m) 3)<32:=by
 rcases fm3 m hm with h|h
 ·rw[h,znO x x0 (by omega)];omega
 ·rw[h,zlE x x0 (by omega)];omega
theorem zhl(m:Nat)(h0:5<=m)(h1:m<=10)(x:Int)(x0:0<=x)(x1:x<=4294967295):rrg x 128 (fm (kn m) 1)=0:=by
 rw[fm1b m (by omega) h0,zeo x x0 (by omega)]
theorem zlF(m:Nat)(hm0:1<=m)(hm:m<=48)(x:Int)(x0:0<=x)(x1:x<=4294967295):-2147483648<=rim (fm (kn m)) x/\rim (fm (kn m)) x<=2147483647:=by
 obtain⟨h9,_,h1⟩:=zmV m (by omega)
 have h1':1<=kn m:=by first|exact h1 hm0|exact h1
 generalize kn m=F at h9 h1'
 have x2:x<4294967296:=by omega
 rcases(by omega:F=1\/F=2\/F=3\/F=4\/F=5\/F=6\/F=7\/F=8)with rfl|rfl|rfl|rfl|rfl|rfl|rfl|rfl
 ·rw[zpc x x0 x2];unfold sx;split<;>omega
 ·rw[zpd x x0 x2];unfold sx;split<;>omega
 ·rw[zpe x x0 x2];unfold sx;split<;>omega
 ·rw[zpf x x0 x2];omega
 ·rw[zpg x x0 x2];unfold sx;split<;>omega
 ·rw[zph x x0 x2];unfold sx;split<;>omega
 ·rw[zpi x x0 x2];omega
 ·rw[zpj x x0 x2];omega
def dcdN(X:Int):Nat->Option Nat
 |0=>none
 |k+1=>match dcdN X k with
  |some m=>some m
  |none=>if hit (k+1) X=true then some (k+1)else none
theorem vC(X:Int):∀k,(∀m,1<=m->m<=k->hit m X=false)->dcdN X k=none
 |0,_=>rfl
 |k+1,h=>by
  unfold dcdN
  rw[vC X k (fun m h1 h2=>h m h1 (by omega))]
  simp only[]
  rw[h (k+1) (by omega) (Aa _)]
  rfl
theorem zb7(X:Int)(n:Nat)(h1:1<=n)(hn:hit n X=true)(hf:∀m,1<=m->m<n->hit m X=false):∀k,n<=k->dcdN X k=some n
 |0,h=>absurd h (by omega)
 |k+1,h=>by
  unfold dcdN
  by_cases e:n=k+1
  ·subst e
   rw[vC X k (fun m a b=>hf m a (by omega))]
   simp only[hn,if_true]
  ·rw[zb7 X n h1 hn hf k (by omega)]
def dcdW(X:Int):Option In:=match dcdN X 48 with
 |some m=>some ⟨m,(rrg X 128 (fm (kn m) 1)).toNat,(rrg X 32768 (fm (kn m) 2)).toNat,(rrg X 1048576 (fm (kn m) 3)).toNat,rim (fm (kn m)) X⟩
 |none=>none
end Go.Proofs.YtpiohehijkpghacGreatDoor
namespace Go.Proofs.YtpiohehijkpghacGreatDoor.Gu
open Go.RowKit
open Gu.Hy
theorem jC(pc:Int)(p0:0<=pc)(p1:pc<=4294967295)(w:World):
  Calls prog 150 #[.int .u32 pc] w fun e w'=>e=.returned (.int .u32 (pc/4%16))/\w'=w:=by
 go_enter func150,ntmps150
 go_wp2
 go_ret
 exact⟨by go_num,rfl⟩
theorem yl(pc:Int)(p0:0<=pc)(p1:pc<=4294967295)(w:World):
  Calls prog 153 #[.int .u32 pc] w fun e w'=>e=.returned (.int .u32 (pc/4%8))/\w'=w:=by
 go_enter func153,ntmps153
 go_wp2
 go_ret
 exact⟨by go_num,rfl⟩
theorem vD(n:Int)(w:World):
  Calls prog 184 #[.int .i64 n] w fun e w'=>e=.returned (.int .i64 (bnd n))/\w'=w:=by
 go_enter func184,ntmps184
 go_wp2
 all_goals(go_ret;refine⟨?_,rfl⟩;simp_all[bnd])
 all_goals omega
theorem zb8(n:Int):0<=bnd n/\bnd n<=3:=by
 unfold bnd
 split
 ·omega
 ·split<;>omega
theorem zb9(n:Int)(w:World):
  Calls prog 151 #[.int .i64 n] w fun e w'=>e=.returned (.int .i64 (bnd (bnd n+1)))/\w'=w:=by
 obtain⟨b0,b1⟩:=zb8 n
 obtain⟨b,hb⟩:∃b,b=bnd n:=⟨_,rfl⟩
 have H:=vD n
 rw[<-hb]at b0 b1 H⊢
 clear hb
 go_enter func151,ntmps151
 go_wp2_with(go_at_call 184;refine(H _).mono ?_;rintro e w' ⟨rfl,rfl⟩)
 all_goals(go_ret;refine⟨?_,rfl⟩;unfold bnd;try simp)
 all_goals(repeat' split)<;>first|omega|rfl|skip
theorem zhm(n:Int)(w:World):
  Calls prog 152 #[.int .i64 n] w fun e w'=>e=.returned (.int .i64 (bnd (bnd n-1)))/\w'=w:=by
 obtain⟨b0,b1⟩:=zb8 n
 obtain⟨b,hb⟩:∃b,b=bnd n:=⟨_,rfl⟩
 have H:=vD n
 rw[<-hb]at b0 b1 H⊢
 clear hb
 go_enter func152,ntmps152
 go_wp2_with(go_at_call 184;refine(H _).mono ?_;rintro e w' ⟨rfl,rfl⟩)
 all_goals(go_ret;refine⟨?_,rfl⟩;unfold bnd;try simp)
 all_goals(repeat' split)<;>first|omega|rfl|skip
theorem below_drewN{B:Nat}{a w:World}(h:Below B a w)(n:Nat):Below B a (w.drewN n):=⟨h.os,h.tape,h.output,h.size,h.block⟩
theorem zde(T:Array Value)(pc:Int)(p0:0<=pc)(p1:pc<=4294967295)(L G:Int)(B:Bool)(k:Nat)(hk:k<16)(he:Hid ((k:Int)=pc/4%16))(hB:Hid (B=decide (2<=L)))
  (hL:T[k*2]?=some (.int .i64 L)) (hG:T[k*2+1]?=some (.int .u32 G)) (w:World):
  Calls prog 172 #[.agg T,.int .u32 pc] w fun e w'=>e=.returned (.tuple #[.bool B,.int .u32 G])/\Below w.heap.size w w':=by
 have C:=jC pc p0 p1
 rw[<-he.out]at C
 have k0:(0:Int)<=(k:Int):=by omega
 have k1:(k:Int)<16:=by omega
 go_enter func172,ntmps172
 go_wp2_with fail
 refine(C _).mono ?_
 rintro e w' ⟨rfl,rfl⟩
 go_wp2_with fail
 go_region
 go_wp2_with fail
 go_ret2
 exact⟨by rw[hB.out];rfl,(((Ae _ _).alloc (Aa _) _).alloc (by simp) _).drew⟩
theorem zfs(T:Array Value)(pc:Int)(p0:0<=pc)(p1:pc<=4294967295)(P A S U V:Int)(B:Bool)(a0:0<=A)(a1:A<=4294967295)(s0:0<=S)(s1:S<=4294967295)(k:Nat)(hk:k<8)(he:Hid ((k:Int)=pc/4%8))
  (hB:Hid (B=decide (P=pc/\2<=U))) (hV:Hid (V=if B then(A+S)%4294967296 else 0))
  (hP:T[32+k*4]?=some (.int .u32 P)) (hA:T[32+k*4+1]?=some (.int .u32 A)) (hS:T[32+k*4+2]?=some (.int .u32 S)) (hU:T[32+k*4+3]?=some (.int .i64 U)) (w:World):
  Calls prog 173 #[.agg T,.int .u32 pc] w fun e w'=>e=.returned (.tuple #[.int .u32 V,.bool B])/\Below w.heap.size w w':=by
 have C:=yl pc p0 p1
 rw[<-he.out]at C
 have k0:(0:Int)<=(k:Int):=by omega
 have k1:(k:Int)<8:=by omega
 go_enter func173,ntmps173
 go_wp2_with fail
 refine(C _).mono ?_
 rintro e w' ⟨rfl,rfl⟩
 go_wp2_with fail
 all_goals go_ret2
 all_goals(refine⟨?_,((Ae _ _).alloc (Aa _) _).alloc (by simp) _⟩;rw[hV.out,hB.out];simp_all)
 all_goals(intro h;omega)
end Go.Proofs.YtpiohehijkpghacGreatDoor.Gu
