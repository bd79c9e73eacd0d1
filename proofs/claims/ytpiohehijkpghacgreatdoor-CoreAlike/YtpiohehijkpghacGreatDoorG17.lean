/- What asks of those under way in a core's load and start. -/
import Derived.Deep.RegionHeld
import Derived.Test.YtpiohehijkpghacGreatDoorG16
set_option maxRecDepth 20000
set_option maxHeartbeats 1000000
namespace Go.Proofs.YtpiohehijkpghacGreatDoor.Co
open Go.RowKit
open Hy
open Wi Od Re.Hy
open Gu.Hy (Tb tcs)
set_option linter.unusedVariables false
set_option linter.unusedSimpArgs false
theorem hid {p:Prop} (h:p):Hid p:=h
theorem cleft_any {N:Nat} {w:World} {b:Nat} {s:Cr} {L:Sls} (S:St N w b s L) (hn:s.coms.length≤4000) (h0:0≤s.cyc) (h1:s.cyc≤6000):Calls Tryz.prog 51 #[.pointer (some ⟨b,0,none⟩)] w fun e w'=>e=.returned (.int .i64 (left s))∧Below w.heap.size w w':=by
 obtain⟨p,c,e⟩:=S.its.ic.slice
 have k3:w.cell? ⟨b,3,none⟩=some (.slice p s.coms.length c):=(cell_at S.row (by omega)).trans (congrArg some e)
 have k40:w.cell? ⟨b,40,none⟩=some (.int .i64 s.cyc):=(cell_at S.row (by omega)).trans rfl
 have hl:left s=2000-s.coms.length-(6000-s.cyc)/30:=rfl
 rw[hl]
 generalize s.coms.length=n at*
 generalize s.cyc=y at*
 clear S hl e
 go_enter Tryz.func51,Tryz.ntmps51
 go_wp2
 go_region
 go_wp2
 go_ret
 exact⟨rfl,(Below.refl _ _).drew⟩
theorem size_doing:(Tryz.prog.info? 132).map (·.size)=some 28:=by kernel_rfl
def AsksD (g b:Nat) (p:Dg→Bool) (w:World):Prop:=∀(W:World) (o:Dg),Below w.heap.size w W→Calls Tryz.prog g #[dgv o,.pointer (some ⟨b,0,none⟩)] W fun e w'=>e=.returned (.bool (p o))∧Below W.heap.size W w'
theorem cfindq_any (B:Nat) (q:Int) (w:World) (hc:w.cell? ⟨B,0,none⟩=some (.int .i64 q)):AsksD 84 B (fun o=>decide (o.seq=q)) w:=fun W o hW=>by
 have hB:B<w.heap.size:=World.block_lt_of_cell? _ _ hc
 have hc':W.cell? ⟨B,0,none⟩=some (.int .i64 q):=(hW.cell (p:=⟨B,0,none⟩) hB).trans hc
 have hB':B<W.heap.size:=Nat.lt_of_lt_of_le hB hW.size
 obtain⟨D,hD⟩:∃D,D=(dgl o).toArray:=⟨_,rfl⟩
 have d0:D[0]?=some (.int .i64 o.seq):=by rw[hD];rfl
 show Calls _ _ #[.agg (dgl o).toArray,_] _ _
 rw[←hD]
 simp only[]
 generalize o.seq=x at*
 clear hc hW hD hB
 by_cases e:x=q
 ·subst e
  go_enter Tryz.func84,Tryz.ntmps84
  go_wp2
  go_ret
  exact⟨by simp,(Below.refl _ _).alloc (Nat.le_refl _) _⟩
 ·have e':(x==q)=false:=beq_eq_false_iff_ne.2 e
  go_enter Tryz.func84,Tryz.ntmps84
  go_wp2
  go_ret
  exact⟨by simp[e],(Below.refl _ _).alloc (Nat.le_refl _) _⟩
theorem eg_findq:∀args w,(callFunc 84 args).run Tryz.prog w=.ok (.enter 84 args) w:=enters_of Tryz.func84 (by kernel_rfl) rfl
structure FirstD (p:Dg→Bool) (l:List Dg) (m:Nat):Prop where
 le:m≤l.length
 no:∀j q,j<m→l[j]?=some q→p q=false
 yes:∀q,l[m]?=some q→p q=true
theorem dg_range {w:World} {bb o k:Nat} {l:List Dg} {q:Dg} (hc:∀j u,(flat dgl l)[j]?=some u→w.cell? ⟨bb,o+j,none⟩=some u) (hq:l[k]?=some q):w.rangeAt bb (o+k*28) (dgl q):=fun j v hv=>by
 rw[Nat.add_assoc]
 exact hc _ _ (flat_at dgl_len hq hv)
theorem dIndexFunc_any (g b:Nat) (p:Dg→Bool) (eg:∀args w,(callFunc g args).run Tryz.prog w=.ok (.enter g args) w) (a:Option Addr) (n c:Nat) (hn:n≤140737488355328) (l:List Dg) (m:Nat) (hm:Hid (FirstD p l m)) (r:Int) (hr:Hid (r=if m<n then(m:Int)else-1)) (w:World) (hL:Hid (LC w a n c 28 (flat dgl l))) (hA:Hid (AsksD g b p w)):
  Calls Tryz.prog 83 #[.slice a n c,.func (.func g) #[] #[.pointer (some ⟨b,0,none⟩)]] w fun e w'=>e=.returned (.int .i64 r)∧Below w.heap.size w w':=by
 have hlen:Hid (l.length=n):=by have:=hL.out.len;rw[flat_len dgl_len]at this;show _=_;omega
 have hmn:m≤n:=by have:=hm.out.le;have:=hlen.out;omega
 go_enter Tryz.func83,Tryz.ntmps83
 go_wp2_with fail
 go_loopw [8] (fun i wr=>∃k:Nat,k≤m∧i=.int .i64 k∧Hid (Below w.heap.size w wr))
  (fun i _=>n-(intOf i).toNat)
 case atStart=>exact⟨0,by omega,rfl,Below.refl _ _⟩
 case round=>
  obtain⟨k,hk,rfl,HB⟩:=hrel
  by_cases hlt:k<n
  ·obtain⟨q,hq⟩:∃q,l[k]?=some q:=⟨_,List.getElem?_eq_getElem (by rw[hlen.out];exact hlt)⟩
   obtain⟨bb,o,rfl,hb,hc⟩:=hL.out.sure (by omega)
   have HR:Hid (wr.rangeAt bb (o+k*28) (dgl q)):=fun j v hv=>(HB.out.cell (p:=⟨bb,o+k*28+j,none⟩) hb).trans (dg_range hc hq j v hv)
   have hcall:=hA.out wr q HB.out
   by_cases hkm:k=m
   ·subst hkm
    have hp:p q=true:=hm.out.yes _ hq
    rw[hp]at hcall
    have hrk:r=k:=by rw[hr.out,if_pos hlt]
    subst hrk
    clear hc hq hp
    go_wp2_with(refine wpList_load_mid rfl 132 _ rfl bb (o+k*28) rfl (dgl q) _ HR.out Tryz.underlying132 rfl size_doing ?_)
    refine hcall.mono ?_
    rintro e w' ⟨rfl,hb'⟩
    have HB':Hid (Below w.heap.size w w'):=HB.out.trans (hb'.mono HB.out.size)
    clear hcall hb' HR
    go_wp2_with fail
    go_ret
    exact⟨rfl,HB'.out⟩
   ·have hp:p q=false:=hm.out.no k _ (by omega) hq
    rw[hp]at hcall
    clear hc hq hp
    go_wp2_with(refine wpList_load_mid rfl 132 _ rfl bb (o+k*28) rfl (dgl q) _ HR.out Tryz.underlying132 rfl size_doing ?_)
    refine hcall.mono ?_
    rintro e w' ⟨rfl,hb'⟩
    have HB':Hid (Below w.heap.size w w'):=HB.out.trans (hb'.mono HB.out.size)
    clear hcall hb' HR
    go_wp2_with fail
    exact⟨⟨k+1,by omega,by go_num,HB'⟩,by simp[intOf];omega⟩
  ·have:k=n:=by omega
   subst this
   have hrk:r=-1:=by rw[hr.out,if_neg (by omega)]
   subst hrk
   go_wp2_with fail
   go_ret
   exact⟨rfl,HB.out⟩
theorem cfind_any {N:Nat} {w:World} {b:Nat} {s:Cr} {L:Sls} (S:St N w b s L) (q:Int) (m:Nat) (hm:FirstD (fun o=>decide (o.seq=q)) s.under m) (hn:s.under.length≤100000):
  Calls Tryz.prog 58 #[.pointer (some ⟨b,0,none⟩),.int .i64 q] w fun e w'=>e=.returned (.int .i64 (if m<s.under.length then(m:Int)else-1))∧Below w.heap.size w w':=by
 have hmf:∀(fn:Fn) (first cap:Array Value) (w:World),(Instr.makeFunc fn first cap).run Tryz.prog w=.ok (.func fn first cap) w:=fun _ _ _ _=>rfl
 obtain⟨p,c,e⟩:=S.its.iu.slice
 have k334:w.cell? ⟨b,334,none⟩=some (.slice p s.under.length c):=(cell_at S.row (by omega)).trans (congrArg some e)
 have hb:b<w.heap.size:=(Array.getElem?_eq_some_iff.1 S.row).1
 have hU:=S.its.iu
 rw[e]at hU
 have HL:Hid (LC w p s.under.length c 28 (flat dgl s.under)):=hU.lc
 have HM:Hid (FirstD (fun o=>decide (o.seq=q)) s.under m):=hm
 generalize hu:s.under=l at*
 obtain⟨r,hr⟩:∃r:Int,r=if m<l.length then(m:Int)else-1:=⟨_,rfl⟩
 rw[←hr]
 have HR:Hid (r=if m<l.length then(m:Int)else-1):=hr
 clear S hU e hm hr
 go_enter Tryz.func58,Tryz.ntmps58
 go_wp2_with fail
 refine(dIndexFunc_any 84 w.heap.size (fun o=>decide (o.seq=q)) eg_findq p l.length c (by omega) l m HM r HR _ (hid (HL.out.below (Nat.le_refl _) ((Below.refl _ _).alloc (Nat.le_refl _) _))) (hid (cfindq_any w.heap.size q _ (by simp)))).mono ?_
 rintro e w' ⟨rfl,hk⟩
 go_wp2_with fail
 go_ret
 exact⟨rfl,((Below.refl _ _).alloc (Nat.le_refl _) _).trans (hk.mono (by simp))⟩
def sel (p:Dg→Bool) (l:List Dg) (k:Nat):List Int:=((l.take k).filter p).map (·.seq)
theorem sel_le (p:Dg→Bool) (l:List Dg) (k:Nat):(sel p l k).length≤k:=by
 unfold sel
 rw[List.length_map]
 exact Nat.le_trans (List.length_filter_le _ _) (by rw[List.length_take];omega)
theorem sel_yes {p:Dg→Bool} {l:List Dg} {k:Nat} {q:Dg} (h:l[k]?=some q) (hp:p q=true):sel p l (k+1)=sel p l k++[q.seq]:=by
 unfold sel
 rw[List.take_add_one,h]
 simp[hp]
theorem sel_no {p:Dg→Bool} {l:List Dg} {k:Nat} {q:Dg} (h:l[k]?=some q) (hp:p q=false):sel p l (k+1)=sel p l k:=by
 unfold sel
 rw[List.take_add_one,h]
 simp[hp]
theorem sel_all (p:Dg→Bool) (l:List Dg) {k:Nat} (h:l.length≤k):sel p l k=(l.filter p).map (·.seq):=by
 unfold sel
 rw[List.take_of_length_le h]
theorem info3c:(Tryz.prog.info? 3).map (fun i=>(i.zero,i.size,i.bytes))=some (some (.int .i64 0),1,8):=by kernel_rfl
theorem dgl_info (o:Dg):(Tryz.prog.info? 132).map (·.size)=some (dgl o).toArray.size:=by rw[size_doing];rfl
theorem dgl_ones (o:Dg):(dgl o).toArray.all (·.oneCell')=true:=all_oneCell_toArray (dgl_one o)
theorem call_0 (g:Nat) (p:Dg→Bool) (eg:∀args w,(callFunc g args).run Tryz.prog w=.ok (.enter g args) w) {N:Nat} {w:World} {b:Nat} {s:Cr} {L:Sls} (S:St N w b s L) (hn:s.under.length≤100000)
  (hA:Hid (∀(W:World) (o:Dg),Below w.heap.size w W→o∈s.under→Calls Tryz.prog g #[dgv o] W fun e w'=>e=.returned (.bool (p o))∧Below W.heap.size W w')):
  Calls Tryz.prog 56 #[.pointer (some ⟨b,0,none⟩),.func (.func g) #[] #[]] w fun e w'=>(∃v,e=.returned v∧w'.ownsRow w.heap.size 3 1 v ((s.under.filter p).map (·.seq)).length (ics ((s.under.filter p).map (·.seq))))∧Below w.heap.size w w':=by
 obtain⟨i3,hi3,hz0,hz1,hz2⟩:=info_parts info3c
 obtain⟨a,c,e⟩:=S.its.iu.slice
 have k334:w.cell? ⟨b,334,none⟩=some (.slice a s.under.length c):=(cell_at S.row (by omega)).trans (congrArg some e)
 have hU:=S.its.iu
 rw[e]at hU
 have HL:Hid (LC w a s.under.length c 28 (flat dgl s.under)):=hU.lc
 generalize hu:s.under=l at*
 clear S hU e hu
 go_enter Tryz.func56,Tryz.ntmps56
 go_wp2_with fail
 go_loopw [5,13] (fun v i wr=>∃k:Nat,k≤l.length∧i=.int .i64 k∧Hid (wr.ownsRow w.heap.size 3 1 v (sel p l k).length (ics (sel p l k)))∧Hid (Below w.heap.size w wr))
  (fun _ i _=>l.length-(intOf i).toNat)
 case atStart=>exact⟨0,by omega,rfl,World.ownsRow_nil _ _ _ _,Below.refl _ _⟩
 case round=>
  obtain⟨k,hk,rfl,HV,HB⟩:=hrel
  have hsl:=sel_le p l k
  by_cases hlt:k<l.length
  ·obtain⟨q,hq⟩:∃q,l[k]?=some q:=⟨_,List.getElem?_eq_getElem hlt⟩
   obtain⟨bb,o,rfl,hb,hc⟩:=HL.out.sure (by omega)
   have HR:Hid (wr.rangeAt bb (o+k*28) (dgl q)):=fun j v hv=>(HB.out.cell (p:=⟨bb,o+k*28+j,none⟩) hb).trans (dg_range hc hq j v hv)
   have HA:Hid (∀W,Below w.heap.size w W→Calls Tryz.prog g #[dgv q] W fun e w'=>e=.returned (.bool (p q))∧Below W.heap.size W w'):=fun W hW=>hA.out W q hW (List.mem_of_getElem? hq)
   clear hc
   obtain⟨D,hD⟩:∃D,D=(dgl q).toArray:=⟨_,rfl⟩
   have HD:Hid (D=(dgl q).toArray):=hD
   have d0:D[0]?=some (.int .i64 q.seq):=by rw[hD];rfl
   have HI:Hid ((Tryz.prog.info? 132).map (·.size)=some D.size∧28=D.size∧D.all (·.oneCell')=true):=by rw[hD];exact⟨dgl_info q,rfl,dgl_ones q⟩
   have HA2:Hid (∀W,Below w.heap.size w W→Calls Tryz.prog g #[.agg D] W fun e w'=>e=.returned (.bool (p q))∧Below W.heap.size W w'):=by rw[hD];exact HA
   clear hD HA
   go_upto_region 5 with(first|(refine wpList_load_mid rfl 132 _ rfl bb (o+k*28) rfl (dgl q) _ HR.out Tryz.underlying132 rfl size_doing ?_;rw[←HD.out])|(refine wpList_store_row rfl 132 _ _ rfl _ _ rfl rfl 132 _ (heap_alloc_new _ _) HI.out.1 HI.out.2.1 HI.out.2.2 ?_;rw[World.setRow_alloc_new]))
   refine Wi.one_box (Φ:=fun W=>Code.wp _ _ _ _ W) ?_
   intro U hUr hUb
   have HBU:Hid (Below w.heap.size w U):=HB.out.trans (hUb.mono HB.out.size)
   have HVU:Hid (U.ownsRow w.heap.size 3 1 u5 (sel p l k).length (ics (sel p l k))):=own_below HV.out (Nat.le_refl _) hUb
   have HUr:Hid (U.heap[wr.heap.size]?=some (.cells D 132 (0,0))):=hUr
   have hqU:wr.heap.size<U.heap.size:=(Array.getElem?_eq_some_iff.1 hUr).1
   clear hUr hUb HB HV HR HD
   generalize wr.heap.size=z at*
   go_wp2_with(refine wpList_load_row rfl 132 _ rfl _ rfl 132 _ (0,0) _ HUr.out Tryz.underlying132 rfl HI.out.1 ?_)
   cases ha:p q with
   |true=>
    have hcall:=HA2.out U HBU.out
    rw[ha]at hcall
    have HN:Hid (sel p l (k+1)=sel p l k++[q.seq]):=sel_yes hq ha
    clear ha hq HA2
    refine hcall.mono ?_
    rintro e U2 ⟨rfl,hb2⟩
    have e0:U2.cell? ⟨z,0,none⟩=some (.int .i64 q.seq):=(cell_of_row _ _ _ _ _ _ ((hb2.block z hqU).trans HUr.out)).trans d0
    have HB2:Hid (Below w.heap.size w U2):=HBU.out.trans (hb2.mono HBU.out.size)
    have HV2:Hid (U2.ownsRow w.heap.size 3 1 u5 (sel p l k).length (ics (sel p l k))):=own_below HVU.out (Nat.le_refl _) hb2
    clear hb2 hcall HBU HVU HUr hqU d0 HI
    generalize q.seq=x at*
    go_wp2_with(at_builtin;refine wpList_append_lc _ rfl _ _ 29 rfl w.heap.size 3 i3 _ 1 8 Tryz.underlying29 hi3 hz0 hz1 hz2 rfl (by decide) _ (sel p l k).length _ rfl (own_below HV2.out (Nat.le_refl _) ((Below.refl _ _).alloc (Nat.le_refl _) _)) _ 1 1 (ics [x]) rfl (lc_box (heap_alloc_new _ _) (ics_one [x]) rfl) (by unfold maxLen;omega) (by omega) (by have:=HB2.out.size;simp;omega) ?_;intro v1 w1 hown1 hgrow1)
    have HO1:Hid (w1.ownsRow w.heap.size 3 1 v1 (sel p l (k+1)).length (ics (sel p l (k+1)))):=by rw[HN.out,ics_app,List.length_append];exact hown1
    have HB3:Hid (Below w.heap.size w w1):=(HB2.out.alloc HB2.out.size _).grown hgrow1 (by have:=HB2.out.size;simp;omega) (fun j hj=>(HV2.out.lt j hj).1)
    clear hown1 hgrow1 HB2 HV2 e0
    go_wp2_with fail
    exact⟨⟨k+1,by omega,by go_num,HO1,HB3⟩,by simp[intOf];omega⟩
   |false=>
    have hcall:=HA2.out U HBU.out
    rw[ha]at hcall
    have HN:Hid (sel p l (k+1)=sel p l k):=sel_no hq ha
    clear ha hq HA2
    refine hcall.mono ?_
    rintro e U2 ⟨rfl,hb2⟩
    have HB2:Hid (Below w.heap.size w U2):=HBU.out.trans (hb2.mono HBU.out.size)
    have HV2:Hid (U2.ownsRow w.heap.size 3 1 u5 (sel p l (k+1)).length (ics (sel p l (k+1)))):=by rw[HN.out];exact own_below HVU.out (Nat.le_refl _) hb2
    clear hb2 hcall HBU HVU HUr hqU d0 HI
    go_wp2_with fail
    exact⟨⟨k+1,by omega,by go_num,HV2,HB2⟩,by simp[intOf];omega⟩
  ·have:k=l.length:=by omega
   subst this
   have he:=sel_all p l (Nat.le_refl _)
   go_wp2_with fail
   go_ret
   exact⟨⟨_,rfl,by rw[←he];exact HV.out⟩,HB.out⟩
theorem call_1 (g:Nat) (Q:Nat) (p:Dg→Bool) (eg:∀args w,(callFunc g args).run Tryz.prog w=.ok (.enter g args) w) {N:Nat} {w:World} {b:Nat} {s:Cr} {L:Sls} (S:St N w b s L) (hn:s.under.length≤100000)
  (hA:Hid (∀(W:World) (o:Dg),Below w.heap.size w W→o∈s.under→Calls Tryz.prog g #[dgv o,.pointer (some ⟨Q,0,none⟩)] W fun e w'=>e=.returned (.bool (p o))∧Below W.heap.size W w')):
  Calls Tryz.prog 56 #[.pointer (some ⟨b,0,none⟩),.func (.func g) #[] #[.pointer (some ⟨Q,0,none⟩)]] w fun e w'=>(∃v,e=.returned v∧w'.ownsRow w.heap.size 3 1 v ((s.under.filter p).map (·.seq)).length (ics ((s.under.filter p).map (·.seq))))∧Below w.heap.size w w':=by
 obtain⟨i3,hi3,hz0,hz1,hz2⟩:=info_parts info3c
 obtain⟨a,c,e⟩:=S.its.iu.slice
 have k334:w.cell? ⟨b,334,none⟩=some (.slice a s.under.length c):=(cell_at S.row (by omega)).trans (congrArg some e)
 have hU:=S.its.iu
 rw[e]at hU
 have HL:Hid (LC w a s.under.length c 28 (flat dgl s.under)):=hU.lc
 generalize hu:s.under=l at*
 clear S hU e hu
 go_enter Tryz.func56,Tryz.ntmps56
 go_wp2_with fail
 go_loopw [5,13] (fun v i wr=>∃k:Nat,k≤l.length∧i=.int .i64 k∧Hid (wr.ownsRow w.heap.size 3 1 v (sel p l k).length (ics (sel p l k)))∧Hid (Below w.heap.size w wr))
  (fun _ i _=>l.length-(intOf i).toNat)
 case atStart=>exact⟨0,by omega,rfl,World.ownsRow_nil _ _ _ _,Below.refl _ _⟩
 case round=>
  obtain⟨k,hk,rfl,HV,HB⟩:=hrel
  have hsl:=sel_le p l k
  by_cases hlt:k<l.length
  ·obtain⟨q,hq⟩:∃q,l[k]?=some q:=⟨_,List.getElem?_eq_getElem hlt⟩
   obtain⟨bb,o,rfl,hb,hc⟩:=HL.out.sure (by omega)
   have HR:Hid (wr.rangeAt bb (o+k*28) (dgl q)):=fun j v hv=>(HB.out.cell (p:=⟨bb,o+k*28+j,none⟩) hb).trans (dg_range hc hq j v hv)
   have HA:Hid (∀W,Below w.heap.size w W→Calls Tryz.prog g #[dgv q,.pointer (some ⟨Q,0,none⟩)] W fun e w'=>e=.returned (.bool (p q))∧Below W.heap.size W w'):=fun W hW=>hA.out W q hW (List.mem_of_getElem? hq)
   clear hc
   obtain⟨D,hD⟩:∃D,D=(dgl q).toArray:=⟨_,rfl⟩
   have HD:Hid (D=(dgl q).toArray):=hD
   have d0:D[0]?=some (.int .i64 q.seq):=by rw[hD];rfl
   have HI:Hid ((Tryz.prog.info? 132).map (·.size)=some D.size∧28=D.size∧D.all (·.oneCell')=true):=by rw[hD];exact⟨dgl_info q,rfl,dgl_ones q⟩
   have HA2:Hid (∀W,Below w.heap.size w W→Calls Tryz.prog g #[.agg D,.pointer (some ⟨Q,0,none⟩)] W fun e w'=>e=.returned (.bool (p q))∧Below W.heap.size W w'):=by rw[hD];exact HA
   clear hD HA
   go_upto_region 5 with(first|(refine wpList_load_mid rfl 132 _ rfl bb (o+k*28) rfl (dgl q) _ HR.out Tryz.underlying132 rfl size_doing ?_;rw[←HD.out])|(refine wpList_store_row rfl 132 _ _ rfl _ _ rfl rfl 132 _ (heap_alloc_new _ _) HI.out.1 HI.out.2.1 HI.out.2.2 ?_;rw[World.setRow_alloc_new]))
   refine Wi.one_box (Φ:=fun W=>Code.wp _ _ _ _ W) ?_
   intro U hUr hUb
   have HBU:Hid (Below w.heap.size w U):=HB.out.trans (hUb.mono HB.out.size)
   have HVU:Hid (U.ownsRow w.heap.size 3 1 u5 (sel p l k).length (ics (sel p l k))):=own_below HV.out (Nat.le_refl _) hUb
   have HUr:Hid (U.heap[wr.heap.size]?=some (.cells D 132 (0,0))):=hUr
   have hqU:wr.heap.size<U.heap.size:=(Array.getElem?_eq_some_iff.1 hUr).1
   clear hUr hUb HB HV HR HD
   generalize wr.heap.size=z at*
   go_wp2_with(refine wpList_load_row rfl 132 _ rfl _ rfl 132 _ (0,0) _ HUr.out Tryz.underlying132 rfl HI.out.1 ?_)
   cases ha:p q with
   |true=>
    have hcall:=HA2.out U HBU.out
    rw[ha]at hcall
    have HN:Hid (sel p l (k+1)=sel p l k++[q.seq]):=sel_yes hq ha
    clear ha hq HA2
    refine hcall.mono ?_
    rintro e U2 ⟨rfl,hb2⟩
    have e0:U2.cell? ⟨z,0,none⟩=some (.int .i64 q.seq):=(cell_of_row _ _ _ _ _ _ ((hb2.block z hqU).trans HUr.out)).trans d0
    have HB2:Hid (Below w.heap.size w U2):=HBU.out.trans (hb2.mono HBU.out.size)
    have HV2:Hid (U2.ownsRow w.heap.size 3 1 u5 (sel p l k).length (ics (sel p l k))):=own_below HVU.out (Nat.le_refl _) hb2
    clear hb2 hcall HBU HVU HUr hqU d0 HI
    generalize q.seq=x at*
    go_wp2_with(at_builtin;refine wpList_append_lc _ rfl _ _ 29 rfl w.heap.size 3 i3 _ 1 8 Tryz.underlying29 hi3 hz0 hz1 hz2 rfl (by decide) _ (sel p l k).length _ rfl (own_below HV2.out (Nat.le_refl _) ((Below.refl _ _).alloc (Nat.le_refl _) _)) _ 1 1 (ics [x]) rfl (lc_box (heap_alloc_new _ _) (ics_one [x]) rfl) (by unfold maxLen;omega) (by omega) (by have:=HB2.out.size;simp;omega) ?_;intro v1 w1 hown1 hgrow1)
    have HO1:Hid (w1.ownsRow w.heap.size 3 1 v1 (sel p l (k+1)).length (ics (sel p l (k+1)))):=by rw[HN.out,ics_app,List.length_append];exact hown1
    have HB3:Hid (Below w.heap.size w w1):=(HB2.out.alloc HB2.out.size _).grown hgrow1 (by have:=HB2.out.size;simp;omega) (fun j hj=>(HV2.out.lt j hj).1)
    clear hown1 hgrow1 HB2 HV2 e0
    go_wp2_with fail
    exact⟨⟨k+1,by omega,by go_num,HO1,HB3⟩,by simp[intOf];omega⟩
   |false=>
    have hcall:=HA2.out U HBU.out
    rw[ha]at hcall
    have HN:Hid (sel p l (k+1)=sel p l k):=sel_no hq ha
    clear ha hq HA2
    refine hcall.mono ?_
    rintro e U2 ⟨rfl,hb2⟩
    have HB2:Hid (Below w.heap.size w U2):=HBU.out.trans (hb2.mono HBU.out.size)
    have HV2:Hid (U2.ownsRow w.heap.size 3 1 u5 (sel p l (k+1)).length (ics (sel p l (k+1)))):=by rw[HN.out];exact own_below HVU.out (Nat.le_refl _) hb2
    clear hb2 hcall HBU HVU HUr hqU d0 HI
    go_wp2_with fail
    exact⟨⟨k+1,by omega,by go_num,HV2,HB2⟩,by simp[intOf];omega⟩
  ·have:k=l.length:=by omega
   subst this
   have he:=sel_all p l (Nat.le_refl _)
   go_wp2_with fail
   go_ret
   exact⟨⟨_,rfl,by rw[←he];exact HV.out⟩,HB.out⟩
theorem eg_loadq:∀args w,(callFunc 57 args).run Tryz.prog w=.ok (.enter 57 args) w:=enters_of Tryz.func57 (by kernel_rfl) rfl
theorem eg_startq:∀args w,(callFunc 60 args).run Tryz.prog w=.ok (.enter 60 args) w:=enters_of Tryz.func60 (by kernel_rfl) rfl
theorem cloadq_any (o:Dg) (W:World):Calls Tryz.prog 57 #[dgv o] W fun e w'=>e=.returned (.bool (decide (o.st=1)))∧Below W.heap.size W w':=by
 obtain⟨D,hD⟩:∃D,D=(dgl o).toArray:=⟨_,rfl⟩
 have d7:D[7]?=some (.int .i64 o.st):=by rw[hD];rfl
 show Calls _ _ #[.agg (dgl o).toArray] _ _
 rw[←hD]
 generalize o.st=x at*
 clear hD
 by_cases e:x=1
 ·subst e
  go_enter Tryz.func57,Tryz.ntmps57
  go_wp2
  go_ret
  exact⟨by simp,(Below.refl _ _).alloc (Nat.le_refl _) _⟩
 ·have e':(x==1)=false:=beq_eq_false_iff_ne.2 e
  go_enter Tryz.func57,Tryz.ntmps57
  go_wp2
  go_ret
  exact⟨by simp[e],(Below.refl _ _).alloc (Nat.le_refl _) _⟩
theorem cstartq_any {N:Nat} {w:World} {b:Nat} {s:Cr} {L:Sls} (S:St N w b s L) (Q:Nat) (hQ:w.cell? ⟨Q,0,none⟩=some (.pointer (some ⟨b,0,none⟩))) (o:Dg) (a0:0≤o.a) (a1:o.a<96) (b0:0≤o.b) (b1:o.b<96) (W:World) (hW:Below w.heap.size w W):
  Calls Tryz.prog 60 #[dgv o,.pointer (some ⟨Q,0,none⟩)] W fun e w'=>e=.returned (.bool (decide (o.st=0)&&s.th o.a&&s.th o.b))∧Below W.heap.size W w':=by
 have hb:b<w.heap.size:=(Array.getElem?_eq_some_iff.1 S.row).1
 have hq:Q<w.heap.size:=World.block_lt_of_cell? _ _ hQ
 have kQ:W.cell? ⟨Q,0,none⟩=some (.pointer (some ⟨b,0,none⟩)):=(hW.cell (p:=⟨Q,0,none⟩) hq).trans hQ
 obtain⟨x,hx⟩:=Int.eq_ofNat_of_zero_le a0
 obtain⟨y,hy⟩:=Int.eq_ofNat_of_zero_le b0
 have kA:W.cell? ⟨b,237+x,none⟩=some (.bool (s.th o.a)):=(hW.cell (p:=⟨b,237+x,none⟩) hb).trans ((cell_at S.row (by omega)).trans (congrArg some (by have:=at_th s L o.a a0 a1;rw[show o.a.toNat=x by omega]at this;exact this)))
 have kB:W.cell? ⟨b,237+y,none⟩=some (.bool (s.th o.b)):=(hW.cell (p:=⟨b,237+y,none⟩) hb).trans ((cell_at S.row (by omega)).trans (congrArg some (by have:=at_th s L o.b b0 b1;rw[show o.b.toNat=y by omega]at this;exact this)))
 have hb':b<W.heap.size:=Nat.lt_of_lt_of_le hb hW.size
 have hq':Q<W.heap.size:=Nat.lt_of_lt_of_le hq hW.size
 obtain⟨D,hD⟩:∃D,D=(dgl o).toArray:=⟨_,rfl⟩
 have d7:D[7]?=some (.int .i64 o.st):=by rw[hD];rfl
 have d8:D[8]?=some (.int .i64 x):=by rw[hD,←hx];rfl
 have d9:D[9]?=some (.int .i64 y):=by rw[hD,←hy];rfl
 have x1:(x:Int)<96:=by omega
 have y1:(y:Int)<96:=by omega
 have x0:(0:Int)≤(x:Int):=by omega
 have y0:(0:Int)≤(y:Int):=by omega
 show Calls _ _ #[.agg (dgl o).toArray,_] _ _
 rw[←hD]
 generalize s.th o.a=ta at*
 generalize s.th o.b=tb at*
 generalize o.st=z at*
 clear hD hQ hW S hx hy a0 a1 b0 b1
 by_cases e:z=0
 ·subst e
  cases ta with
  |false=>
   go_enter Tryz.func60,Tryz.ntmps60
   go_wp2
   go_quiet(fail)
   go_wp2
   go_ret
   exact⟨by simp,below_drewN ((Below.refl _ _).alloc (Nat.le_refl _) _) _⟩
  |true=>
   go_enter Tryz.func60,Tryz.ntmps60
   go_wp2
   go_quiet(fail)
   go_wp2
   go_ret
   exact⟨by simp,below_drewN ((Below.refl _ _).alloc (Nat.le_refl _) _) _⟩
 ·have e':(z==0)=false:=beq_eq_false_iff_ne.2 e
  go_enter Tryz.func60,Tryz.ntmps60
  go_wp2
  go_quiet(fail)
  go_wp2
  go_ret
  exact⟨by simp[e],below_drewN ((Below.refl _ _).alloc (Nat.le_refl _) _) _⟩
end Go.Proofs.YtpiohehijkpghacGreatDoor.Co
