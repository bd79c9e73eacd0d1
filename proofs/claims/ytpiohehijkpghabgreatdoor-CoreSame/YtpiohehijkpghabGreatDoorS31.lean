/- A core's own slices: what is appended, what is put in place, what is cut off ahead. -/
import Derived.Deep.RegionHeld
import Derived.Laws.AppendOwn
import Derived.Test.YtpiohehijkpghabGreatDoorS30
set_option maxRecDepth 20000
set_option maxHeartbeats 1000000
set_option linter.unusedSimpArgs false
set_option linter.unusedVariables false
open Go.Proofs.Tryz
namespace Go.Proofs.YtpiohehijkpghabGreatDoor.Co
open Go.RowKit
open Hy
open Wi Od Re.Hy
open Gu.Hy (Tb tcs)
theorem hid{p:Prop}(h:p):Hid p:=h
theorem zhQ{N:Nat}{w:World}{b:Nat}{s:Cr}{L:Sls}(S:St N w b s L)(hn:s.coms.length<=4000)(h0:0<=s.cyc)(h1:s.cyc<=6000):Calls prog 38 #[.pointer (some ⟨b,0,none⟩)] w fun e w'=>e=.returned (.int .i64 (left s))/\Below w.heap.size w w':=by
 obtain⟨p,c,e⟩:=S.its.ic.slice
 have k3:w.cell? ⟨b,3,none⟩=some (.slice p s.coms.length c):=(zb S.row (by omega)).trans (congrArg some e)
 have k40:w.cell? ⟨b,40,none⟩=some (.int .i64 s.cyc):=(zb S.row (by omega)).trans rfl
 have hl:left s=2000-s.coms.length-(6000-s.cyc)/30:=rfl
 rw[hl]
 generalize s.coms.length=n at*
 generalize s.cyc=y at*
 clear S hl e
 go_enter func38,ntmps38
 go_wp2
 go_region
 go_wp2
 go_ret
 exact⟨rfl,(Below.refl _ _).drew⟩
theorem qv:(prog.info? 97).map (·.size)=some 28:=by kernel_rfl
def zl8(g b:Nat)(p:Dg->Bool)(w:World):Prop:=∀(W:World) (o:Dg),Below w.heap.size w W->Calls prog g #[dgv o,.pointer (some ⟨b,0,none⟩)] W fun e w'=>e=.returned (.bool (p o))/\Below W.heap.size W w'
theorem zfM(B:Nat)(q:Int)(w:World)(hc:w.cell? ⟨B,0,none⟩=some (.int .i64 q)):zl8 69 B (fun o=>decide (o.seq=q)) w:=fun W o hW=>by
 have hB:B<w.heap.size:=World.block_lt_of_cell? _ _ hc
 have hc':W.cell? ⟨B,0,none⟩=some (.int .i64 q):=(hW.cell (p:=⟨B,0,none⟩) hB).trans hc
 have hB':B<W.heap.size:=Nat.lt_of_lt_of_le hB hW.size
 obtain⟨D,hD⟩:∃D,D=(dgl o).toArray:=⟨_,rfl⟩
 have d0:D[0]?=some (.int .i64 o.seq):=by rw[hD];rfl
 show Calls _ _ #[.agg (dgl o).toArray,_] _ _
 rw[<-hD]
 simp only[]
 generalize o.seq=x at*
 clear hc hW hD hB
 by_cases e:x=q
 ·subst e
  go_enter func69,ntmps69
  go_wp2
  go_ret
  exact⟨by simp,(Below.refl _ _).alloc (Nat.le_refl _) _⟩
 ·have e':(x==q)=false:=beq_eq_false_iff_ne.2 e
  go_enter func69,ntmps69
  go_wp2
  go_ret
  exact⟨by simp[e],(Below.refl _ _).alloc (Nat.le_refl _) _⟩
theorem zjV:∀args w,(callFunc 69 args).run prog w=.ok (.enter 69 args) w:=enters_of func69 (by kernel_rfl) rfl
structure FirstD(p:Dg->Bool)(l:List Dg)(m:Nat):Prop where
 le:m<=l.length
 no:∀j q,j<m->l[j]?=some q->p q=false
 yes:∀q,l[m]?=some q->p q=true
theorem zbt{w:World}{bb o k:Nat}{l:List Dg}{q:Dg}(hc:∀j u,(flat dgl l)[j]?=some u->w.cell? ⟨bb,o+j,none⟩=some u)(hq:l[k]?=some q):w.rangeAt bb (o+k*28) (dgl q):=fun j v hv=>by
 rw[Nat.add_assoc]
 exact hc _ _ (qJ zP hq hv)
theorem jI(g b:Nat)(p:Dg->Bool)(eg:∀args w,(callFunc g args).run prog w=.ok (.enter g args) w)(a:Option Addr)(n c:Nat)(hn:n<=140737488355328)(l:List Dg)(m:Nat)(hm:Hid (FirstD p l m))(r:Int)(hr:Hid (r=if m<n then(m:Int)else-1))(w:World)(hL:Hid (LC w a n c 28 (flat dgl l)))(hA:Hid (zl8 g b p w)):
  Calls prog 68 #[.slice a n c,.func (.func g) #[] #[.pointer (some ⟨b,0,none⟩)]] w fun e w'=>e=.returned (.int .i64 r)/\Below w.heap.size w w':=by
 have hlen:Hid (l.length=n):=by have:=hL.out.len;rw[kE zP]at this;show _=_;omega
 have hmn:m<=n:=by have:=hm.out.le;have:=hlen.out;omega
 go_enter func68,ntmps68
 go_wp2_with fail
 go_loopw [8] (fun i wr=>∃k:Nat,k<=m/\i=.int .i64 k/\Hid (Below w.heap.size w wr))
  (fun i _=>n-(intOf i).toNat)
 case atStart=>exact⟨0,by omega,rfl,Below.refl _ _⟩
 case round=>
  obtain⟨k,hk,rfl,HB⟩:=hrel
  by_cases hlt:k<n
  ·obtain⟨q,hq⟩:∃q,l[k]?=some q:=⟨_,List.getElem?_eq_getElem (by rw[hlen.out];exact hlt)⟩
   obtain⟨bb,o,rfl,hb,hc⟩:=hL.out.sure (by omega)
   have HR:Hid (wr.rangeAt bb (o+k*28) (dgl q)):=fun j v hv=>(HB.out.cell (p:=⟨bb,o+k*28+j,none⟩) hb).trans (zbt hc hq j v hv)
   have hcall:=hA.out wr q HB.out
   by_cases hkm:k=m
   ·subst hkm
    have hp:p q=true:=hm.out.yes _ hq
    rw[hp]at hcall
    have hrk:r=k:=by rw[hr.out,if_pos hlt]
    subst hrk
    clear hc hq hp
    go_wp2_with(refine wpList_load_mid rfl 97 _ rfl bb (o+k*28) rfl (dgl q) _ HR.out underlying97 rfl qv ?_)
    refine hcall.mono ?_
    rintro e w' ⟨rfl,hb'⟩
    have HB':Hid (Below w.heap.size w w'):=HB.out.trans (hb'.mono HB.out.size)
    clear hcall hb' HR
    go_wp2_with fail
    go_ret
    exact⟨rfl,HB'.out⟩
   ·have hp:p q=false:=hm.out.no k _ (by omega) hq
    rw[hp]at hcall
    clear hc hq hp
    go_wp2_with(refine wpList_load_mid rfl 97 _ rfl bb (o+k*28) rfl (dgl q) _ HR.out underlying97 rfl qv ?_)
    refine hcall.mono ?_
    rintro e w' ⟨rfl,hb'⟩
    have HB':Hid (Below w.heap.size w w'):=HB.out.trans (hb'.mono HB.out.size)
    clear hcall hb' HR
    go_wp2_with fail
    exact⟨⟨k+1,by omega,by go_num,HB'⟩,by simp[intOf];omega⟩
  ·have:k=n:=by omega
   subst this
   have hrk:r=-1:=by rw[hr.out,if_neg (by omega)]
   subst hrk
   go_wp2_with fail
   go_ret
   exact⟨rfl,HB.out⟩
theorem qx{N:Nat}{w:World}{b:Nat}{s:Cr}{L:Sls}(S:St N w b s L)(q:Int)(m:Nat)(hm:FirstD (fun o=>decide (o.seq=q)) s.under m)(hn:s.under.length<=100000):
  Calls prog 45 #[.pointer (some ⟨b,0,none⟩),.int .i64 q] w fun e w'=>e=.returned (.int .i64 (if m<s.under.length then(m:Int)else-1))/\Below w.heap.size w w':=by
 have hmf:∀(fn:Fn) (first cap:Array Value) (w:World),(Instr.makeFunc fn first cap).run prog w=.ok (.func fn first cap) w:=fun _ _ _ _=>rfl
 obtain⟨p,c,e⟩:=S.its.iu.slice
 have k334:w.cell? ⟨b,334,none⟩=some (.slice p s.under.length c):=(zb S.row (by omega)).trans (congrArg some e)
 have hb:b<w.heap.size:=(Array.getElem?_eq_some_iff.1 S.row).1
 have hU:=S.its.iu
 rw[e]at hU
 have HL:Hid (LC w p s.under.length c 28 (flat dgl s.under)):=hU.lc
 have HM:Hid (FirstD (fun o=>decide (o.seq=q)) s.under m):=hm
 generalize hu:s.under=l at*
 obtain⟨r,hr⟩:∃r:Int,r=if m<l.length then(m:Int)else-1:=⟨_,rfl⟩
 rw[<-hr]
 have HR:Hid (r=if m<l.length then(m:Int)else-1):=hr
 clear S hU e hm hr
 go_enter func45,ntmps45
 go_wp2_with fail
 refine(jI 69 w.heap.size (fun o=>decide (o.seq=q)) zjV p l.length c (by omega) l m HM r HR _ (hid (HL.out.below (Nat.le_refl _) ((Below.refl _ _).alloc (Nat.le_refl _) _))) (hid (zfM w.heap.size q _ (by simp)))).mono ?_
 rintro e w' ⟨rfl,hk⟩
 go_wp2_with fail
 go_ret
 exact⟨rfl,((Below.refl _ _).alloc (Nat.le_refl _) _).trans (hk.mono (by simp))⟩
def sel(p:Dg->Bool)(l:List Dg)(k:Nat):List Int:=((l.take k).filter p).map (·.seq)
theorem zkM(p:Dg->Bool)(l:List Dg)(k:Nat):(sel p l k).length<=k:=by
 unfold sel
 rw[List.length_map]
 exact Nat.le_trans (List.length_filter_le _ _) (by rw[List.length_take];omega)
theorem zhR{p:Dg->Bool}{l:List Dg}{k:Nat}{q:Dg}(h:l[k]?=some q)(hp:p q=true):sel p l (k+1)=sel p l k++[q.seq]:=by
 unfold sel
 rw[List.take_add_one,h]
 simp[hp]
theorem zkN{p:Dg->Bool}{l:List Dg}{k:Nat}{q:Dg}(h:l[k]?=some q)(hp:p q=false):sel p l (k+1)=sel p l k:=by
 unfold sel
 rw[List.take_add_one,h]
 simp[hp]
theorem zhS(p:Dg->Bool)(l:List Dg){k:Nat}(h:l.length<=k):sel p l k=(l.filter p).map (·.seq):=by
 unfold sel
 rw[List.take_of_length_le h]
theorem zkO:(prog.info? 3).map (fun i=>(i.zero,i.size,i.bytes))=some (some (.int .i64 0),1,8):=by kernel_rfl
theorem zN(o:Dg):(prog.info? 97).map (·.size)=some (dgl o).toArray.size:=by rw[qv];rfl
theorem jd(o:Dg):(dgl o).toArray.all (·.oneCell')=true:=all_oneCell_toArray (xR o)
theorem zoJ(g:Nat)(p:Dg->Bool)(eg:∀args w,(callFunc g args).run prog w=.ok (.enter g args) w){N:Nat}{w:World}{b:Nat}{s:Cr}{L:Sls}(S:St N w b s L)(hn:s.under.length<=100000)
  (hA:Hid (∀(W:World) (o:Dg),Below w.heap.size w W->o∈s.under->Calls prog g #[dgv o] W fun e w'=>e=.returned (.bool (p o))/\Below W.heap.size W w')):
  Calls prog 43 #[.pointer (some ⟨b,0,none⟩),.func (.func g) #[] #[]] w fun e w'=>(∃v,e=.returned v/\w'.ownsRow w.heap.size 3 1 v ((s.under.filter p).map (·.seq)).length (ics ((s.under.filter p).map (·.seq))))/\Below w.heap.size w w':=by
 obtain⟨i3,hi3,hz0,hz1,hz2⟩:=info_parts zkO
 obtain⟨a,c,e⟩:=S.its.iu.slice
 have k334:w.cell? ⟨b,334,none⟩=some (.slice a s.under.length c):=(zb S.row (by omega)).trans (congrArg some e)
 have hU:=S.its.iu
 rw[e]at hU
 have HL:Hid (LC w a s.under.length c 28 (flat dgl s.under)):=hU.lc
 generalize hu:s.under=l at*
 clear S hU e hu
 go_enter func43,ntmps43
 go_wp2_with fail
 go_loopw [5,13] (fun v i wr=>∃k:Nat,k<=l.length/\i=.int .i64 k/\Hid (wr.ownsRow w.heap.size 3 1 v (sel p l k).length (ics (sel p l k)))/\Hid (Below w.heap.size w wr))
  (fun _ i _=>l.length-(intOf i).toNat)
 case atStart=>exact⟨0,by omega,rfl,World.ownsRow_nil _ _ _ _,Below.refl _ _⟩
 case round=>
  obtain⟨k,hk,rfl,HV,HB⟩:=hrel
  have hsl:=zkM p l k
  by_cases hlt:k<l.length
  ·obtain⟨q,hq⟩:∃q,l[k]?=some q:=⟨_,List.getElem?_eq_getElem hlt⟩
   obtain⟨bb,o,rfl,hb,hc⟩:=HL.out.sure (by omega)
   have HR:Hid (wr.rangeAt bb (o+k*28) (dgl q)):=fun j v hv=>(HB.out.cell (p:=⟨bb,o+k*28+j,none⟩) hb).trans (zbt hc hq j v hv)
   have HA:Hid (∀W,Below w.heap.size w W->Calls prog g #[dgv q] W fun e w'=>e=.returned (.bool (p q))/\Below W.heap.size W w'):=fun W hW=>hA.out W q hW (List.mem_of_getElem? hq)
   clear hc
   obtain⟨D,hD⟩:∃D,D=(dgl q).toArray:=⟨_,rfl⟩
   have HD:Hid (D=(dgl q).toArray):=hD
   have d0:D[0]?=some (.int .i64 q.seq):=by rw[hD];rfl
   have HI:Hid ((prog.info? 97).map (·.size)=some D.size/\28=D.size/\D.all (·.oneCell')=true):=by rw[hD];exact⟨zN q,rfl,jd q⟩
   have HA2:Hid (∀W,Below w.heap.size w W->Calls prog g #[.agg D] W fun e w'=>e=.returned (.bool (p q))/\Below W.heap.size W w'):=by rw[hD];exact HA
   clear hD HA
   go_upto_region 5 with(first|(refine wpList_load_mid rfl 97 _ rfl bb (o+k*28) rfl (dgl q) _ HR.out underlying97 rfl qv ?_;rw[<-HD.out])|(refine wpList_store_row rfl 97 _ _ rfl _ _ rfl rfl 97 _ (heap_alloc_new _ _) HI.out.1 HI.out.2.1 HI.out.2.2 ?_;rw[World.setRow_alloc_new]))
   refine Wi.zA (Φ:=fun W=>Code.wp _ _ _ _ W) ?_
   intro U hUr hUb
   have HBU:Hid (Below w.heap.size w U):=HB.out.trans (hUb.mono HB.out.size)
   have HVU:Hid (U.ownsRow w.heap.size 3 1 u5 (sel p l k).length (ics (sel p l k))):=zy HV.out (Nat.le_refl _) hUb
   have HUr:Hid (U.heap[wr.heap.size]?=some (.cells D 97 (0,0))):=hUr
   have hqU:wr.heap.size<U.heap.size:=(Array.getElem?_eq_some_iff.1 hUr).1
   clear hUr hUb HB HV HR HD
   generalize wr.heap.size=z at*
   go_wp2_with(refine wpList_load_row rfl 97 _ rfl _ rfl 97 _ (0,0) _ HUr.out underlying97 rfl HI.out.1 ?_)
   cases ha:p q with
   |true=>
    have hcall:=HA2.out U HBU.out
    rw[ha]at hcall
    have HN:Hid (sel p l (k+1)=sel p l k++[q.seq]):=zhR hq ha
    clear ha hq HA2
    refine hcall.mono ?_
    rintro e U2 ⟨rfl,hb2⟩
    have e0:U2.cell? ⟨z,0,none⟩=some (.int .i64 q.seq):=(cell_of_row _ _ _ _ _ _ ((hb2.block z hqU).trans HUr.out)).trans d0
    have HB2:Hid (Below w.heap.size w U2):=HBU.out.trans (hb2.mono HBU.out.size)
    have HV2:Hid (U2.ownsRow w.heap.size 3 1 u5 (sel p l k).length (ics (sel p l k))):=zy HVU.out (Nat.le_refl _) hb2
    clear hb2 hcall HBU HVU HUr hqU d0 HI
    generalize q.seq=x at*
    go_wp2_with(at_builtin;refine zD _ rfl _ _ 29 rfl w.heap.size 3 i3 _ 1 8 underlying29 hi3 hz0 hz1 hz2 rfl (by decide) _ (sel p l k).length _ rfl (zy HV2.out (Nat.le_refl _) ((Below.refl _ _).alloc (Nat.le_refl _) _)) _ 1 1 (ics [x]) rfl (zar (heap_alloc_new _ _) (jF [x]) rfl) (by unfold maxLen;omega) (by omega) (by have:=HB2.out.size;simp;omega) ?_;intro v1 w1 hown1 hgrow1)
    have HO1:Hid (w1.ownsRow w.heap.size 3 1 v1 (sel p l (k+1)).length (ics (sel p l (k+1)))):=by rw[HN.out,za5,List.length_append];exact hown1
    have HB3:Hid (Below w.heap.size w w1):=(HB2.out.alloc HB2.out.size _).grown hgrow1 (by have:=HB2.out.size;simp;omega) (fun j hj=>(HV2.out.lt j hj).1)
    clear hown1 hgrow1 HB2 HV2 e0
    go_wp2_with fail
    exact⟨⟨k+1,by omega,by go_num,HO1,HB3⟩,by simp[intOf];omega⟩
   |false=>
    have hcall:=HA2.out U HBU.out
    rw[ha]at hcall
    have HN:Hid (sel p l (k+1)=sel p l k):=zkN hq ha
    clear ha hq HA2
    refine hcall.mono ?_
    rintro e U2 ⟨rfl,hb2⟩
    have HB2:Hid (Below w.heap.size w U2):=HBU.out.trans (hb2.mono HBU.out.size)
    have HV2:Hid (U2.ownsRow w.heap.size 3 1 u5 (sel p l (k+1)).length (ics (sel p l (k+1)))):=by rw[HN.out];exact zy HVU.out (Nat.le_refl _) hb2
    clear hb2 hcall HBU HVU HUr hqU d0 HI
    go_wp2_with fail
    exact⟨⟨k+1,by omega,by go_num,HV2,HB2⟩,by simp[intOf];omega⟩
  ·have:k=l.length:=by omega
   subst this
   have he:=zhS p l (Nat.le_refl _)
   go_wp2_with fail
   go_ret
   exact⟨⟨_,rfl,by rw[<-he];exact HV.out⟩,HB.out⟩
theorem zoK(g:Nat)(Q:Nat)(p:Dg->Bool)(eg:∀args w,(callFunc g args).run prog w=.ok (.enter g args) w){N:Nat}{w:World}{b:Nat}{s:Cr}{L:Sls}(S:St N w b s L)(hn:s.under.length<=100000)
  (hA:Hid (∀(W:World) (o:Dg),Below w.heap.size w W->o∈s.under->Calls prog g #[dgv o,.pointer (some ⟨Q,0,none⟩)] W fun e w'=>e=.returned (.bool (p o))/\Below W.heap.size W w')):
  Calls prog 43 #[.pointer (some ⟨b,0,none⟩),.func (.func g) #[] #[.pointer (some ⟨Q,0,none⟩)]] w fun e w'=>(∃v,e=.returned v/\w'.ownsRow w.heap.size 3 1 v ((s.under.filter p).map (·.seq)).length (ics ((s.under.filter p).map (·.seq))))/\Below w.heap.size w w':=by
 obtain⟨i3,hi3,hz0,hz1,hz2⟩:=info_parts zkO
 obtain⟨a,c,e⟩:=S.its.iu.slice
 have k334:w.cell? ⟨b,334,none⟩=some (.slice a s.under.length c):=(zb S.row (by omega)).trans (congrArg some e)
 have hU:=S.its.iu
 rw[e]at hU
 have HL:Hid (LC w a s.under.length c 28 (flat dgl s.under)):=hU.lc
 generalize hu:s.under=l at*
 clear S hU e hu
 go_enter func43,ntmps43
 go_wp2_with fail
 go_loopw [5,13] (fun v i wr=>∃k:Nat,k<=l.length/\i=.int .i64 k/\Hid (wr.ownsRow w.heap.size 3 1 v (sel p l k).length (ics (sel p l k)))/\Hid (Below w.heap.size w wr))
  (fun _ i _=>l.length-(intOf i).toNat)
 case atStart=>exact⟨0,by omega,rfl,World.ownsRow_nil _ _ _ _,Below.refl _ _⟩
 case round=>
  obtain⟨k,hk,rfl,HV,HB⟩:=hrel
  have hsl:=zkM p l k
  by_cases hlt:k<l.length
  ·obtain⟨q,hq⟩:∃q,l[k]?=some q:=⟨_,List.getElem?_eq_getElem hlt⟩
   obtain⟨bb,o,rfl,hb,hc⟩:=HL.out.sure (by omega)
   have HR:Hid (wr.rangeAt bb (o+k*28) (dgl q)):=fun j v hv=>(HB.out.cell (p:=⟨bb,o+k*28+j,none⟩) hb).trans (zbt hc hq j v hv)
   have HA:Hid (∀W,Below w.heap.size w W->Calls prog g #[dgv q,.pointer (some ⟨Q,0,none⟩)] W fun e w'=>e=.returned (.bool (p q))/\Below W.heap.size W w'):=fun W hW=>hA.out W q hW (List.mem_of_getElem? hq)
   clear hc
   obtain⟨D,hD⟩:∃D,D=(dgl q).toArray:=⟨_,rfl⟩
   have HD:Hid (D=(dgl q).toArray):=hD
   have d0:D[0]?=some (.int .i64 q.seq):=by rw[hD];rfl
   have HI:Hid ((prog.info? 97).map (·.size)=some D.size/\28=D.size/\D.all (·.oneCell')=true):=by rw[hD];exact⟨zN q,rfl,jd q⟩
   have HA2:Hid (∀W,Below w.heap.size w W->Calls prog g #[.agg D,.pointer (some ⟨Q,0,none⟩)] W fun e w'=>e=.returned (.bool (p q))/\Below W.heap.size W w'):=by rw[hD];exact HA
   clear hD HA
   go_upto_region 5 with(first|(refine wpList_load_mid rfl 97 _ rfl bb (o+k*28) rfl (dgl q) _ HR.out underlying97 rfl qv ?_;rw[<-HD.out])|(refine wpList_store_row rfl 97 _ _ rfl _ _ rfl rfl 97 _ (heap_alloc_new _ _) HI.out.1 HI.out.2.1 HI.out.2.2 ?_;rw[World.setRow_alloc_new]))
   refine Wi.zA (Φ:=fun W=>Code.wp _ _ _ _ W) ?_
   intro U hUr hUb
   have HBU:Hid (Below w.heap.size w U):=HB.out.trans (hUb.mono HB.out.size)
   have HVU:Hid (U.ownsRow w.heap.size 3 1 u5 (sel p l k).length (ics (sel p l k))):=zy HV.out (Nat.le_refl _) hUb
   have HUr:Hid (U.heap[wr.heap.size]?=some (.cells D 97 (0,0))):=hUr
   have hqU:wr.heap.size<U.heap.size:=(Array.getElem?_eq_some_iff.1 hUr).1
   clear hUr hUb HB HV HR HD
   generalize wr.heap.size=z at*
   go_wp2_with(refine wpList_load_row rfl 97 _ rfl _ rfl 97 _ (0,0) _ HUr.out underlying97 rfl HI.out.1 ?_)
   cases ha:p q with
   |true=>
    have hcall:=HA2.out U HBU.out
    rw[ha]at hcall
    have HN:Hid (sel p l (k+1)=sel p l k++[q.seq]):=zhR hq ha
    clear ha hq HA2
    refine hcall.mono ?_
    rintro e U2 ⟨rfl,hb2⟩
    have e0:U2.cell? ⟨z,0,none⟩=some (.int .i64 q.seq):=(cell_of_row _ _ _ _ _ _ ((hb2.block z hqU).trans HUr.out)).trans d0
    have HB2:Hid (Below w.heap.size w U2):=HBU.out.trans (hb2.mono HBU.out.size)
    have HV2:Hid (U2.ownsRow w.heap.size 3 1 u5 (sel p l k).length (ics (sel p l k))):=zy HVU.out (Nat.le_refl _) hb2
    clear hb2 hcall HBU HVU HUr hqU d0 HI
    generalize q.seq=x at*
    go_wp2_with(at_builtin;refine zD _ rfl _ _ 29 rfl w.heap.size 3 i3 _ 1 8 underlying29 hi3 hz0 hz1 hz2 rfl (by decide) _ (sel p l k).length _ rfl (zy HV2.out (Nat.le_refl _) ((Below.refl _ _).alloc (Nat.le_refl _) _)) _ 1 1 (ics [x]) rfl (zar (heap_alloc_new _ _) (jF [x]) rfl) (by unfold maxLen;omega) (by omega) (by have:=HB2.out.size;simp;omega) ?_;intro v1 w1 hown1 hgrow1)
    have HO1:Hid (w1.ownsRow w.heap.size 3 1 v1 (sel p l (k+1)).length (ics (sel p l (k+1)))):=by rw[HN.out,za5,List.length_append];exact hown1
    have HB3:Hid (Below w.heap.size w w1):=(HB2.out.alloc HB2.out.size _).grown hgrow1 (by have:=HB2.out.size;simp;omega) (fun j hj=>(HV2.out.lt j hj).1)
    clear hown1 hgrow1 HB2 HV2 e0
    go_wp2_with fail
    exact⟨⟨k+1,by omega,by go_num,HO1,HB3⟩,by simp[intOf];omega⟩
   |false=>
    have hcall:=HA2.out U HBU.out
    rw[ha]at hcall
    have HN:Hid (sel p l (k+1)=sel p l k):=zkN hq ha
    clear ha hq HA2
    refine hcall.mono ?_
    rintro e U2 ⟨rfl,hb2⟩
    have HB2:Hid (Below w.heap.size w U2):=HBU.out.trans (hb2.mono HBU.out.size)
    have HV2:Hid (U2.ownsRow w.heap.size 3 1 u5 (sel p l (k+1)).length (ics (sel p l (k+1)))):=by rw[HN.out];exact zy HVU.out (Nat.le_refl _) hb2
    clear hb2 hcall HBU HVU HUr hqU d0 HI
    go_wp2_with fail
    exact⟨⟨k+1,by omega,by go_num,HV2,HB2⟩,by simp[intOf];omega⟩
  ·have:k=l.length:=by omega
   subst this
   have he:=zhS p l (Nat.le_refl _)
   go_wp2_with fail
   go_ret
   exact⟨⟨_,rfl,by rw[<-he];exact HV.out⟩,HB.out⟩
theorem zjW:∀args w,(callFunc 44 args).run prog w=.ok (.enter 44 args) w:=enters_of func44 (by kernel_rfl) rfl
theorem zhT:∀args w,(callFunc 47 args).run prog w=.ok (.enter 47 args) w:=enters_of func47 (by kernel_rfl) rfl
theorem zfN(o:Dg)(W:World):Calls prog 44 #[dgv o] W fun e w'=>e=.returned (.bool (decide (o.st=1)))/\Below W.heap.size W w':=by
 obtain⟨D,hD⟩:∃D,D=(dgl o).toArray:=⟨_,rfl⟩
 have d7:D[7]?=some (.int .i64 o.st):=by rw[hD];rfl
 show Calls _ _ #[.agg (dgl o).toArray] _ _
 rw[<-hD]
 generalize o.st=x at*
 clear hD
 by_cases e:x=1
 ·subst e
  go_enter func44,ntmps44
  go_wp2
  go_ret
  exact⟨by simp,(Below.refl _ _).alloc (Nat.le_refl _) _⟩
 ·have e':(x==1)=false:=beq_eq_false_iff_ne.2 e
  go_enter func44,ntmps44
  go_wp2
  go_ret
  exact⟨by simp[e],(Below.refl _ _).alloc (Nat.le_refl _) _⟩
theorem zdC{N:Nat}{w:World}{b:Nat}{s:Cr}{L:Sls}(S:St N w b s L)(Q:Nat)(hQ:w.cell? ⟨Q,0,none⟩=some (.pointer (some ⟨b,0,none⟩)))(o:Dg)(a0:0<=o.a)(a1:o.a<96)(b0:0<=o.b)(b1:o.b<96)(W:World)(hW:Below w.heap.size w W):
  Calls prog 47 #[dgv o,.pointer (some ⟨Q,0,none⟩)] W fun e w'=>e=.returned (.bool (decide (o.st=0)&&s.th o.a&&s.th o.b))/\Below W.heap.size W w':=by
 have hb:b<w.heap.size:=(Array.getElem?_eq_some_iff.1 S.row).1
 have hq:Q<w.heap.size:=World.block_lt_of_cell? _ _ hQ
 have kQ:W.cell? ⟨Q,0,none⟩=some (.pointer (some ⟨b,0,none⟩)):=(hW.cell (p:=⟨Q,0,none⟩) hq).trans hQ
 obtain⟨x,hx⟩:=Int.eq_ofNat_of_zero_le a0
 obtain⟨y,hy⟩:=Int.eq_ofNat_of_zero_le b0
 have kA:W.cell? ⟨b,237+x,none⟩=some (.bool (s.th o.a)):=(hW.cell (p:=⟨b,237+x,none⟩) hb).trans ((zb S.row (by omega)).trans (congrArg some (by have:=zoI s L o.a a0 a1;rw[show o.a.toNat=x by omega]at this;exact this)))
 have kB:W.cell? ⟨b,237+y,none⟩=some (.bool (s.th o.b)):=(hW.cell (p:=⟨b,237+y,none⟩) hb).trans ((zb S.row (by omega)).trans (congrArg some (by have:=zoI s L o.b b0 b1;rw[show o.b.toNat=y by omega]at this;exact this)))
 have hb':b<W.heap.size:=Nat.lt_of_lt_of_le hb hW.size
 have hq':Q<W.heap.size:=Nat.lt_of_lt_of_le hq hW.size
 obtain⟨D,hD⟩:∃D,D=(dgl o).toArray:=⟨_,rfl⟩
 have d7:D[7]?=some (.int .i64 o.st):=by rw[hD];rfl
 have d8:D[8]?=some (.int .i64 x):=by rw[hD,<-hx];rfl
 have d9:D[9]?=some (.int .i64 y):=by rw[hD,<-hy];rfl
 have x1:(x:Int)<96:=by omega
 have y1:(y:Int)<96:=by omega
 have x0:(0:Int)<=(x:Int):=by omega
 have y0:(0:Int)<=(y:Int):=by omega
 show Calls _ _ #[.agg (dgl o).toArray,_] _ _
 rw[<-hD]
 generalize s.th o.a=ta at*
 generalize s.th o.b=tb at*
 generalize o.st=z at*
 clear hD hQ hW S hx hy a0 a1 b0 b1
 by_cases e:z=0
 ·subst e
  cases ta with
  |false=>
   go_enter func47,ntmps47
   go_wp2
   go_quiet(fail)
   go_wp2
   go_ret
   exact⟨by simp,below_drewN ((Below.refl _ _).alloc (Nat.le_refl _) _) _⟩
  |true=>
   go_enter func47,ntmps47
   go_wp2
   go_quiet(fail)
   go_wp2
   go_ret
   exact⟨by simp,below_drewN ((Below.refl _ _).alloc (Nat.le_refl _) _) _⟩
 ·have e':(z==0)=false:=beq_eq_false_iff_ne.2 e
  go_enter func47,ntmps47
  go_wp2
  go_quiet(fail)
  go_wp2
  go_ret
  exact⟨by simp[e],below_drewN ((Below.refl _ _).alloc (Nat.le_refl _) _) _⟩
theorem yJ{g:Nat}{e:TypeId}{fr:Nat×Nat}:∀(news:List Value) {w:World} {off:Nat} {cur:Array Value},w.heap[g]?=some (.cells cur e fr)->off+news.length<=cur.size->
  ∃cur':Array Value,(w.setCells g off news).heap[g]?=some (.cells cur' e fr)/\cur'.size=cur.size/\∀j:Nat,cur'[j]?=if off<=j/\j<off+news.length then news[j-off]? else cur[j]?
 |[],w,off,cur,h,hf=>⟨cur,h,rfl,fun j=>by rw[if_neg (by simp only[List.length_nil];omega)]⟩
 |u::news,w,off,cur,h,hf=>by
  simp only[List.length_cons]at hf
  obtain⟨cur',h1,h2,h3⟩:=yJ news (w:=w.setCell ⟨g,off,none⟩ u) (off:=off+1) (heap_put h) (by rw[Array.size_setIfInBounds];omega)
  refine⟨cur',h1,by rw[h2,Array.size_setIfInBounds],fun j=>?_⟩
  rw[h3]
  simp only[List.length_cons]
  by_cases e0:j=off
  ·subst e0
   rw[if_neg (by omega),if_pos (by omega),Nat.sub_self,Array.getElem?_setIfInBounds,if_pos rfl,if_pos (by omega)]
   rfl
  ·by_cases e1:off+1<=j/\j<off+1+news.length
   ·rw[if_pos e1,if_pos (by omega),show j-off=(j-(off+1))+1 by omega]
    rfl
   ·rw[if_neg e1,if_neg (by omega),Array.getElem?_setIfInBounds,if_neg (fun h=>e0 h.symm)]
def ov(xs:List Value)(off:Nat)(news:List Value):List Value:=xs.take off++news++xs.drop (off+news.length)
theorem zoL{xs news:List Value}{off:Nat}(h:off+news.length<=xs.length):(ov xs off news).length=xs.length:=by
 unfold ov
 simp only[List.length_append,List.length_take,List.length_drop]
 omega
theorem zoM{xs news:List Value}{off:Nat}(h:off+news.length<=xs.length)(j:Nat):(ov xs off news)[j]?=if off<=j/\j<off+news.length then news[j-off]? else xs[j]?:=by
 unfold ov
 by_cases h1:j<off
 ·rw[if_neg (by omega),List.getElem?_append_left (by simp only[List.length_append,List.length_take];omega),List.getElem?_append_left (by simp only[List.length_take];omega),List.getElem?_take_of_lt h1]
 ·by_cases h2:j<off+news.length
  ·rw[if_pos (by omega),List.getElem?_append_left (by simp only[List.length_append,List.length_take];omega),List.getElem?_append_right (by simp only[List.length_take];omega),List.length_take,Nat.min_eq_left (by omega)]
  ·rw[if_neg (by omega),List.getElem?_append_right (by simp only[List.length_append,List.length_take];omega),List.getElem?_drop]
   congr 1
   simp only[List.length_append,List.length_take]
   omega
theorem zoN{xs news:List Value}{off:Nat}(h:∀u∈xs,u.oneCell'=true)(h':∀u∈news,u.oneCell'=true):∀u∈ov xs off news,u.oneCell'=true:=by
 intro u hu
 unfold ov at hu
 rcases List.mem_append.1 hu with hu|hu
 ·rcases List.mem_append.1 hu with hu|hu
  ·exact h u (List.mem_of_mem_take hu)
  ·exact h' u hu
 ·exact h u (List.mem_of_mem_drop hu)
theorem vu{α:Type}{g:α->List Value}{size:Nat}(hg:∀x,(g x).length=size):∀{l:List α} {k j:Nat} {x y:α} {news:List Value},l[k]?=some x->j+news.length<=size->g y=ov (g x) j news->ov (flat g l) (k*size+j) news=flat g (l.set k y)
 |[],k,j,x,y,news,h,_,_=>by simp at h
 |z::l,0,j,x,y,news,h,hj,e=>by
  simp at h
  subst h
  rw[Nat.zero_mul,Nat.zero_add]
  show ov (g z++flat g l) j news=g y++flat g l
  rw[e]
  unfold ov
  have hz:=hg z
  rw[List.take_append_of_le_length (by omega),List.drop_append_of_le_length (by omega)]
  simp only[List.append_assoc]
 |z::l,k+1,j,x,y,news,h,hj,e=>by
  have ih:=vu hg (l:=l) (k:=k) (by simpa using h) hj e
  show ov (g z++flat g l) ((k+1)*size+j) news=g z++flat g (l.set k y)
  have e1:(k+1)*size+j=(g z).length+(k*size+j):=by rw[hg,Nat.add_mul];omega
  rw[e1,<-ih]
  unfold ov
  rw[List.take_length_add_append,List.append_assoc,List.append_assoc,show(g z).length+(k*size+j)+news.length=(g z).length+(k*size+j+news.length) by omega,List.drop_append]
  simp only[List.append_assoc]
  rw[List.drop_eq_nil_of_le (by omega),List.nil_append,Nat.add_sub_cancel_left]
theorem Us.at{w:World}{e size:Nat}{v:Value}{n:Nat}{xs:List Value}(h:Us w e size v n xs)(h0:0<n):∃g o cap,v=.slice (some ⟨g,o,none⟩) n cap/\n<=cap/\cap<=maxLen/\g<w.heap.size/\(∀j u,xs[j]?=some u->w.cell? ⟨g,o+j,none⟩=some u)/\∀j,j<n*size->w.frozen? ⟨g,o+j,none⟩=false:=by
 rcases h.is with⟨_,rfl⟩|⟨g,o,cap,cur,h1,h2,h3,h4,h5,h6⟩
 ·omega
 ·refine⟨g,o,cap,h1,h3,h4,(Array.getElem?_eq_some_iff.1 h2).1,fun j u hj=>?_,fun j _=>frozen_of_row _ _ _ _ _ h2⟩
  rw[cell_of_row _ _ _ _ _ _ h2,<-Array.getElem?_toList]
  rw[<-h6]at hj
  have hlt:j<n*size:=by have:=(List.getElem?_eq_some_iff.1 hj).1;rw[List.length_take]at this;omega
  rw[List.getElem?_take_of_lt hlt,List.getElem?_drop]at hj
  exact hj
theorem Us.puts{w:World}{e size:Nat}{n cap g o:Nat}{xs:List Value}(h:Us w e size (.slice (some ⟨g,o,none⟩) n cap) n xs)(off:Nat)(news:List Value)(hf:off+news.length<=n*size)(h1:∀u∈news,u.oneCell'=true):Us (w.setCells g (o+off) news) e size (.slice (some ⟨g,o,none⟩) n cap) n (ov xs off news):=by
 have hxl:=h.len
 rcases h.is with⟨e0,_⟩|⟨g',o',cap',cur,e1,h2,h3,h4,h5,h6⟩
 ·cases e0
 ·cases e1
  have hns:n*size<=cap*size:=Nat.mul_le_mul_right _ h3
  obtain⟨cur',c1,c2,c3⟩:=yJ news (off:=o+off) h2 (by omega)
  refine⟨by rw[zoL (by omega)];exact hxl,zoN h.one h1,.inr ⟨g,o,cap,cur',rfl,c1,h3,h4,by omega,?_⟩⟩
  apply List.ext_getElem?
  intro j
  rw[zoM (by omega)]
  by_cases hj:j<n*size
  ·rw[List.getElem?_take_of_lt hj,List.getElem?_drop,Array.getElem?_toList,c3]
   by_cases hin:off<=j/\j<off+news.length
   ·rw[if_pos (by omega),if_pos hin]
    congr 1
    omega
   ·rw[if_neg (by omega),if_neg hin,<-h6,List.getElem?_take_of_lt hj,List.getElem?_drop,Array.getElem?_toList]
  ·rw[List.getElem?_eq_none (by rw[List.length_take];omega),if_neg (by omega),List.getElem?_eq_none (by omega)]
theorem Us.there{w:World}{e size:Nat}{n cap g o:Nat}{xs:List Value}(h:Us w e size (.slice (some ⟨g,o,none⟩) n cap) n xs)(off m:Nat)(hf:off+m<=n*size):w.there g (o+off) m:=by
 rcases h.is with⟨e0,_⟩|⟨g',o',cap',cur,e1,h2,h3,h4,h5,h6⟩
 ·cases e0
 ·cases e1
  have hns:n*size<=cap*size:=Nat.mul_le_mul_right _ h3
  intro j hj
  refine⟨?_,frozen_of_row _ _ _ _ _ h2⟩
  rw[cell_of_row _ _ _ _ _ _ h2]
  rw[Array.getElem?_eq_getElem (by omega)]
  rfl
theorem Us.drop{w:World}{e size:Nat}{n cap g o:Nat}{xs:List Value}(h:Us w e size (.slice (some ⟨g,o,none⟩) n cap) n xs)(m:Nat)(hm:m<=n)(hlt:m<cap):Us w e size (.slice (some ⟨g,o+m*size,none⟩) (n-m) (cap-m)) (n-m) (xs.drop (m*size)):=by
 have hxl:=h.len
 rcases h.is with⟨e0,_⟩|⟨g',o',cap',cur,e1,h2,h3,h4,h5,h6⟩
 ·cases e0
 ·cases e1
  have e3:(n-m)*size=n*size-m*size:=Nat.sub_mul ..
  have e4:(cap-m)*size=cap*size-m*size:=Nat.sub_mul ..
  have hms:m*size<=cap*size:=Nat.mul_le_mul_right _ (Nat.le_of_lt hlt)
  refine⟨by rw[List.length_drop];omega,fun u hu=>h.one u (List.mem_of_mem_drop hu),.inr ⟨g,o+m*size,cap-m,cur,rfl,h2,by omega,by omega,by omega,?_⟩⟩
  rw[<-h6,List.drop_take,List.drop_drop,e3]
theorem Us.empty{w:World}{e size:Nat}{n cap g o:Nat}{xs:List Value}(h:Us w e size (.slice (some ⟨g,o,none⟩) n cap) n xs):Us w e size (.slice (some ⟨g,o,none⟩) 0 0) 0 []:=by
 rcases h.is with⟨e0,_⟩|⟨g',o',cap',cur,e1,h2,h3,h4,h5,h6⟩
 ·cases e0
 ·cases e1
  exact⟨by simp,fun u hu=>(by cases hu),.inr ⟨g,o,0,cur,rfl,h2,by omega,by omega,by omega,by simp⟩⟩
theorem zO(w:World)(b o:Nat)(vs:List Value):w.grownBy (w.setCells b o vs) (some b):=
 ⟨(ym w b o vs).1,(ym w b o vs).2.1,(ym w b o vs).2.2,by rw[vr];exact Nat.le_refl _,fun k _ hk=>qc w b o vs (fun e=>hk (by rw[e]))⟩
theorem zhU{P:Program}(w:World)(t ty e:TypeId)(i:TypeInfo)(z:Value)(size bytes:Nat)(ht:P.underlying t=some (.slice e))(hi:P.info? e=some i)(hz:i.zero=some z)
  (hsize:i.size=size) (hby:i.bytes=bytes) (hzs:z.cells.size=size) (hsz:0<size)
  (v:Value) (n:Nat) (xs:List Value) (hU:Us w e size v n xs) (bx:Nat) (news:List Value) (hl:news.length=size) (hnews:∀j u,news[j]?=some u->w.cell? ⟨bx,j,none⟩=some u) (h1:∀u∈news,u.oneCell'=true)
  (h63:n+1<=1000000000000) (hbytes:(n+1)*bytes<=140737488355328):
  ∃v' w',(Builtin.append_ #[t,t] ty #[v,.slice (some ⟨bx,0,none⟩) 1 1]).run P w=.ok v' w'/\Us w' e size v' (n+1) (xs++news)/\w.grownBy w' v.ownBlock/\(∀g,v'.ownBlock=some g->v.ownBlock=some g\/w.heap.size<=g):=by
 subst hsize
 subst hby
 have hml:n+1<=maxLen:=by simp only[maxLen];omega
 have hlen:(xs++news).length=(n+1)*i.size:=by rw[List.length_append,hU.len,hl,Nat.add_mul];omega
 have hone:∀u∈xs++news,u.oneCell'=true:=fun u hu=>by
  rcases List.mem_append.1 hu with h|h
  ·exact hU.one u h
  ·exact h1 u h
 have hsrc:Src P i.size t (.slice (some ⟨bx,0,none⟩) 1 1) 1 news w:=Src.ofSlice w ht ⟨bx,0,none⟩ 1 1 news (by omega) (fun j u hj=>by rw[Addr.add_lit];simpa using hnews j u hj) h1
 have grown:∀(base:Option Addr) (old:Nat),old<n+1->(Builtin.firstCells i.size n (.slice base n old)).run P w.drew=.ok xs.toArray w.drew->Us w e i.size (.slice base n old) n xs->
   ∃v' w',(Builtin.append_ #[t,t] ty #[.slice base n old,.slice (some ⟨bx,0,none⟩) 1 1]).run P w=.ok v' w'/\Us w' e i.size v' (n+1) (xs++news)/\w.grownBy w' (Value.ownBlock (.slice base n old))/\(∀g,v'.ownBlock=some g->Value.ownBlock (.slice base n old)=some g\/w.heap.size<=g):=by
  intro base old ho hf _
  have hr:=run_append_grow_src w t t ty e i z ht hi hz base n old xs hf (.slice (some ⟨bx,0,none⟩) 1 1) 1 news hsrc (by omega) (by omega) (growslice_fits (by omega) hbytes)
  have hge:=grownCap_ge w (n+1) old e
  have hcm:grownCap w (n+1) old e<=maxLen:=grownCap_le_maxLen w (n+1) old e hml
  refine⟨_,_,hr,⟨hlen,hone,.inr ⟨w.heap.size,0,_,_,rfl,heap_alloc_new w.drew _,hge,hcm,?_,?_⟩⟩,⟨rfl,rfl,rfl,by simp,fun k hk _=>heap_alloc_old w.drew _ hk⟩,fun g hg=>.inr (Nat.le_of_eq (Option.some.inj hg))⟩
  ·have hx:=hU.len
   simp only[Array.size_append,List.size_toArray,List.length_append,size_zeroCells,hzs,hx,hl]
   have:grownCap w (n+1) old e*i.size=(n+1)*i.size+(grownCap w (n+1) old e-(n+1))*i.size:=by rw[<-Nat.add_mul];congr 1;omega
   rw[this,Nat.add_mul]
   omega
  ·simp only[Array.toList_append,List.drop_zero]
   rw[<-hlen]
   exact List.take_left
 rcases hU.is with⟨rfl,rfl⟩|⟨g,o,cap,cur,rfl,h2,h3,h4,h5,h6⟩
 ·obtain rfl:xs=[]:=List.eq_nil_of_length_eq_zero (by rw[hU.len,Nat.zero_mul])
  exact grown none 0 (by omega) (run_firstCells_none w.drew i.size 0 0 0) hU
 ·by_cases hroom:n+1<=cap
  ·have e5:(n+1)*i.size<=cap*i.size:=Nat.mul_le_mul_right _ hroom
   have e6:(n+1)*i.size=n*i.size+i.size:=by rw[Nat.add_mul,Nat.one_mul]
   have hin:∀j,j<news.length->o+n*i.size+j<cur.size:=fun j hj=>by omega
   have hr:=run_append_room_src w t t ty e i ht hi g o n cap (.slice (some ⟨bx,0,none⟩) 1 1) 1 news hsrc hroom (fun j hj=>by rw[cell_of_row _ _ _ _ _ _ h2,Array.getElem?_eq_getElem (hin j hj)];rfl) (fun j _=>frozen_of_row _ _ _ _ _ h2)
   obtain⟨cur',c1,c2,c3⟩:=yJ news (off:=o+n*i.size) h2 (by omega)
   refine⟨_,_,hr,⟨hlen,hone,.inr ⟨g,o,cap,cur',rfl,c1,hroom,h4,by omega,?_⟩⟩,zO w g _ news,fun g' hg'=>.inl hg'⟩
   have hxl:=hU.len
   apply List.ext_getElem?
   intro j
   by_cases hj:j<(n+1)*i.size
   ·rw[List.getElem?_take_of_lt hj,List.getElem?_drop,Array.getElem?_toList,c3]
    by_cases hin:j<n*i.size
    ·rw[if_neg (by omega),List.getElem?_append_left (by omega),<-h6,List.getElem?_take_of_lt hin,List.getElem?_drop,Array.getElem?_toList]
    ·rw[if_pos (by omega),List.getElem?_append_right (by omega)]
     congr 1
     omega
   ·rw[List.getElem?_eq_none (by rw[List.length_take];omega),List.getElem?_eq_none (by omega)]
  ·refine grown (some ⟨g,o,none⟩) cap (by omega) ?_ hU
   refine run_firstCells_some w.drew i.size n ⟨g,o,none⟩ n cap xs hU.len (fun j u hj=>?_)
   rw[Addr.add_lit]
   show w.drew.cell? ⟨g,o+j,none⟩=_
   have:w.drew.cell? ⟨g,o+j,none⟩=w.cell? ⟨g,o+j,none⟩:=rfl
   rw[this,cell_of_row _ _ _ _ _ _ h2,<-Array.getElem?_toList]
   rw[<-h6]at hj
   have hlt:j<n*i.size:=by have:=(List.getElem?_eq_some_iff.1 hj).1;rw[List.length_take]at this;omega
   rw[List.getElem?_take_of_lt hlt,List.getElem?_drop]at hj
   exact hj
theorem zW{P:Program}{w:World}{o:Oper}{a:Act}{K:Act->World->Prop}{Q:Exit->Act->World->Prop}(s x:Operand)(t:TypeId)
  (ho:o.op=.call {callee:=.builtin .append,args:=#[s,x],argTypes:=#[t,t]})
  (e:TypeId) (i:TypeInfo) (z:Value) (size bytes:Nat) (ht:P.underlying t=some (.slice e)) (hi:P.info? e=some i) (hz:i.zero=some z)
  (hsize:i.size=size) (hby:i.bytes=bytes) (hzs:z.cells.size=size) (hsz:0<size)
  (v:Value) (n:Nat) (xs:List Value) (hs:a.eval s=v) (hU:Us w e size v n xs) (bx:Nat) (news:List Value) (hx:a.eval x=.slice (some ⟨bx,0,none⟩) 1 1) (hl:news.length=size) (hnews:∀j u,news[j]?=some u->w.cell? ⟨bx,j,none⟩=some u) (h1:∀u∈news,u.oneCell'=true)
  (h63:n+1<=1000000000000) (hbytes:(n+1)*bytes<=140737488355328)
  (h:∀v' w',Us w' e size v' (n+1) (xs++news)->w.grownBy w' v.ownBlock->(∀g,v'.ownBlock=some g->v.ownBlock=some g\/w.heap.size<=g)->K (a.put o.dst v') w'):o.wp P a w K Q:=by
 obtain⟨v',w',hr,h2,h3,h4⟩:=zhU (P:=P) w t o.type e i z size bytes ht hi hz hsize hby hzs hsz v n xs hU bx news hl hnews h1 h63 hbytes
 unfold Oper.wp execOp
 simp only[ho,resolve,invoke,builtin,Sem.run_bind,Sem.run_pure,Result.andThen_ok,List.map_toArray,List.map_cons,List.map_nil,hs,hx,hr]
 exact h v' w' h2 h3 h4
end Go.Proofs.YtpiohehijkpghabGreatDoor.Co
