/- Slices of a core of its own set anew; what takes back asks. -/
import Derived.Test.YtpiohehijkpghacGreatDoorD22
open Array renaming length_toList->Af,getElem?_eq_some_iff->WY
open Go renaming wpList_load_row->Ap,wpList_store_row->AA,wpList_load_mid->AC
open Go.Builtin renaming zeroCells->Ad
open Go.RowKit.Below renaming refl->Aw
open Go.World renaming block_lt_of_cell?->Aj,setRow_alloc_new->Av
open List renaming getElem?_eq_getElem->Aa,getElem?_eq_some_iff->Ab,take_add_one->Ae,filter_append->Ag,length_take->Ai,getElem?_of_mem->Ak,filter_eq_self->WZ,take_of_length_le->Am,drop_drop->Ar,getElem?_take_of_lt->WX,mem_append_left->Ax,getElem?_drop->Ay,getElem?_set->Az,length_set->AB,length_map->AD
open Nat renaming le_refl->Ah,mul_le_mul_right->An,add_mul->Ao,add_zero->Aq,add_comm->Au,add_assoc->AE
set_option maxHeartbeats 4000000
set_option maxRecDepth 20000
set_option linter.unusedSimpArgs false
set_option linter.unusedVariables false
open Go.Proofs.Tryz
namespace Go.Proofs.YtpiohehijkpghacGreatDoor.Co
open Go.RowKit
open Hy
open Wi Od Re.Hy
open Gu.Hy (Tb tcs)
theorem zhU{P:Program}(w:World)(t e ty:TypeId)(i:TypeInfo)(z:Value)(ht:P.underlying t=some (.slice e))(hi:P.info? e=some i)(hz:i.zero=some z)(h1:∀u∈(Ad z.cells 1).toList,True)(g off n c:Nat)(hn:0<n)
  (hone:∀u∈(Ad z.cells n).toList,u.oneCell'=true) (hth:w.there g off (n*z.cells.size)):
  (Builtin.clear_ #[t] ty #[.slice (some ⟨g,off,none⟩) n c]).run P w=.ok (.tuple #[]) (w.setCells g off (Ad z.cells n).toList):=by
 have hlen:(Ad z.cells n).toList.length=n*z.cells.size:=by simp[Ad]
 have hst:=run_storeCells_cells (P:=P) g off (Ad z.cells n).toList 0 w (fun j hj=>by simpa using(hth j (by rw[hlen]at hj;exact hj)).1) (fun j hj=>by simpa using(hth j (by rw[hlen]at hj;exact hj)).2) hone
 have hv:(zeroValue e).run P w=.ok z w:=by simp[zeroValue,typeInfo,hi,hz]
 simp only[Aq]at hst
 obtain⟨m,rfl⟩:∃m,n=m+1:=⟨n-1,by omega⟩
 simp[Builtin.clear_,run_underlying ht,hv,hst]
theorem zeB{z:Value}{n:Nat}(h0:0<z.cells.size)(h:∀u∈z.cells.toList,u.oneCell'=true):∀u∈(Ad z.cells n).toList,u.oneCell'=true:=by
 intro u hu
 simp only[Ad,Array.toList_map,List.mem_map]at hu
 obtain⟨j,_,rfl⟩:=hu
 have hj:j%z.cells.size<z.cells.size:=Nat.mod_lt _ h0
 rw[getElem!_pos z.cells (j%z.cells.size) hj]
 exact h _ (by simp)
theorem clears{P:Program}(w:World)(t e:TypeId)(i:TypeInfo)(z:Value)(size:Nat)(ht:P.underlying t=some (.slice e))(hi:P.info? e=some i)(hz:i.zero=some z)(hzs:z.cells.size=size)(hsz:0<size)(h1:∀u∈z.cells.toList,u.oneCell'=true)
  (g off n c:Nat) (hn:0<n) (hth:w.there g off (n*size)):
  ∃zs:List Value,zs.length=n*size/\(∀u∈zs,u.oneCell'=true)/\∀ty,(Builtin.clear_ #[t] ty #[.slice (some ⟨g,off,none⟩) n c]).run P w=.ok (.tuple #[]) (w.setCells g off zs):=
 ⟨_,by simp[Ad,hzs],zeB (by omega) h1,fun ty=>zhU (P:=P) w t e ty i z ht hi hz (fun _ _=>trivial) g off n c hn (zeB (by omega) h1) (by rw[hzs];exact hth)⟩
theorem qI{w w1 w2:World}{row:Option Nat}(h:w.grownBy w1 row)(k:Below w1.heap.size w1 w2):w.grownBy w2 row:=
 ⟨k.os.trans h.os,k.tape.trans h.tape,k.output.trans h.output,Nat.le_trans h.size k.size,fun g hg hn=>(k.block g (Nat.lt_of_lt_of_le hg h.size)).trans (h.block g hg hn)⟩
theorem Us.take{w:World}{e size:Nat}{n cap g o:Nat}{xs:List Value}(h:Us w e size (.slice (some ⟨g,o,none⟩) n cap) n xs)(m:Nat)(hm:m<=n):Us w e size (.slice (some ⟨g,o,none⟩) m cap) m (xs.take (m*size)):=by
 have hl:=h.len
 have hms:m*size<=n*size:=An _ hm
 refine⟨by rw[Ai];omega,fun u hu=>h.one u (List.mem_of_mem_take hu),.inr ?_⟩
 rcases h.is with⟨h1,_⟩|⟨g',o',cap',cur,h1,h2,h3,h4,h5,h6⟩
 ·cases h1
 ·obtain⟨rfl,rfl,rfl⟩:g=g'/\o=o'/\cap=cap':=by injection h1 with a b c;injection a with a;injection a with a1 a2;exact⟨a1,a2,c⟩
  refine⟨g,o,cap,cur,rfl,h2,by omega,h4,h5,?_⟩
  rw[<-h6,List.take_take,Nat.min_eq_left hms]
theorem vP{α:Type}{g:α->List Value}{size:Nat}(hg:∀x,(g x).length=size):∀(l:List α) (m:Nat),m<=l.length->flat g (l.take m)=(flat g l).take (m*size)
 |l,0,_=>by simp[flat]
 |[],m+1,h=>by simp at h
 |x::l,m+1,h=>by
  have:=vP hg l m (by simpa using h)
  rw[List.take_succ_cons]
  show g x++flat g (l.take m)=(g x++flat g l).take ((m+1)*size)
  rw[this,List.take_append,Am (l:=g x) (by rw[hg,Ao];omega),hg,show(m+1)*size-size=m*size by rw[Ao];omega]
theorem zhV{xs news:List Value}{off:Nat}(h:off<=xs.length):(ov xs off news).take off=xs.take off:=by
 unfold ov
 rw[List.append_assoc,List.take_append_of_le_length (by rw[Ai];omega),List.take_take,Nat.min_self]
theorem zck(p:Dg->Bool):∀l,∃m,FirstD p l m
 |[]=>⟨0,Ah _,fun j q h=>absurd h (by omega),fun q h=>by simp at h⟩
 |q::l=>by
  cases hq:p q with
  |true=>exact⟨0,Nat.zero_le _,fun j q h=>absurd h (by omega),fun r h=>by simp at h;subst h;exact hq⟩
  |false=>
   obtain⟨m,h⟩:=zck p l
   refine⟨m+1,by have:=h.le;simp;omega,fun j r hj hr=>?_,fun r hr=>h.yes r (by simpa using hr)⟩
   cases j with
   |zero=>simp at hr;subst hr;exact hq
   |succ j=>exact h.no j r (by omega) (by simpa using hr)
theorem vQ(q:Ac):(cel q).length=7:=rfl
theorem vR:(prog.info? 135).map (·.size)=some 7:=by kernel_rfl
structure KptD(p:Dg->Bool)(l c:List Dg)(i j:Nat):Prop where
 len:c.length=l.length
 kept:c.take i=(l.take j).filter (fun o=>!p o)
 rest:c.drop j=l.drop j
 le:i<j
 hj:j<=l.length
theorem KptD.start{p:Dg->Bool}{l:List Dg}{m:Nat}(h:FirstD p l m)(hm:m<l.length):KptD p l l m (m+1):=by
 refine⟨rfl,?_,rfl,by omega,by omega⟩
 have hp:p l[m]=true:=h.yes _ (Aa hm)
 rw[Ae,Aa hm,Ag]
 have h1:(l.take m).filter (fun o=>!p o)=l.take m:=WZ.2 fun o ho=>by
  obtain⟨j,hj⟩:=Ak ho
  have hjm:j<m:=by have:=(Ab.1 hj).1;rw[Ai]at this;omega
  rw[WX hjm]at hj
  rw[h.no j o hjm hj]
  rfl
 rw[h1]
 simp[hp]
theorem KptD.at{p:Dg->Bool}{l c:List Dg}{i j:Nat}(h:KptD p l c i j){x:Dg}(hx:l[j]?=some x):c[j]?=some x:=by
 have:=congrArg (fun k:List Dg=>k[0]?) h.rest
 simp only[Ay,Aq]at this
 rw[this,hx]
theorem KptD.skip{p:Dg->Bool}{l c:List Dg}{i j:Nat}(h:KptD p l c i j){x:Dg}(hx:l[j]?=some x)(hp:p x=true):KptD p l c i (j+1):=by
 have hj:=(Ab.1 hx).1
 refine⟨h.len,?_,?_,by have:=h.le;omega,by omega⟩
 ·rw[Ae,hx,Ag,h.kept]
  simp[hp]
 ·have:=congrArg (fun k:List Dg=>k.drop 1) h.rest
  simpa[Ar,Au]using this
theorem KptD.keep{p:Dg->Bool}{l c:List Dg}{i j:Nat}(h:KptD p l c i j){x:Dg}(hx:l[j]?=some x)(hp:p x=false):KptD p l (c.set i x) (i+1) (j+1):=by
 have hj:=(Ab.1 hx).1
 have hl:=h.len
 have hi:=h.le
 refine⟨by rw[AB];exact hl,?_,?_,by omega,by omega⟩
 ·have e1:l.take (j+1)=l.take j++[x]:=by rw[Ae,hx];rfl
  have e2:(c.set i x).take (i+1)=c.take i++[x]:=by rw[Ae,Az,if_pos rfl,if_pos (by omega),List.take_set_of_le (Ah _)];rfl
  rw[e1,e2,Ag,h.kept]
  simp[hp]
 ·have:=congrArg (fun k:List Dg=>k.drop 1) h.rest
  rw[List.drop_set_of_lt (by omega)]
  simpa[Ar,Au]using this
theorem KptD.done{p:Dg->Bool}{l c:List Dg}{i:Nat}(h:KptD p l c i l.length):c.take i=l.filter (fun o=>!p o)/\i=(l.filter (fun o=>!p o)).length:=by
 have h1:=h.kept
 rw[Am (Ah _)]at h1
 refine⟨h1,?_⟩
 rw[<-h1,Ai]
 have:=h.le
 have:=h.len
 omega
theorem zdq(g bq:Nat)(p:Dg->Bool)(eg:∀args w,(callFunc g args).run prog w=.ok (.enter g args) w)(Kp:World->Prop){w:World}{v:Value}{l:List Dg}(hU:Us w 132 28 v l.length (flat dgl l))(hn:l.length<=100000000)
  (hKB:Hid (∀W W',Kp W->W.heap.size<=W'.heap.size->(∀h,h<W.heap.size->v.ownBlock≠some h->W'.heap[h]?=W.heap[h]?)->Kp W'))
  (hA:Hid (∀W o,Kp W->Calls prog g #[dgv o,.pointer (some ⟨bq,0,none⟩)] W fun e w'=>e=.returned (.bool (p o))/\Below W.heap.size W w')) (hK:Hid (Kp w)):
  Calls prog 163 #[v,.func (.func g) #[] #[.pointer (some ⟨bq,0,none⟩)]] w fun e w'=>∃v',e=.returned v'/\Us w' 132 28 v' (l.filter (fun o=>!p o)).length (flat dgl (l.filter (fun o=>!p o)))/\w.grownBy w' v.ownBlock/\v'.ownBlock=v.ownBlock:=by
 obtain⟨iX,hi,hz0,hz1,hz2⟩:=info_parts zn5
 obtain⟨m,hm⟩:=zck p l
 obtain⟨a,c,ea⟩:=hU.slice
 have hLC:LC w a l.length c 28 (flat dgl l):=by rw[ea]at hU;exact hU.lc
 have hAs:zlC g bq p w:=fun W o hW=>hA.out W o (hKB.out w W hK.out hW.size (fun h hh _=>hW.block h hh))
 by_cases hlt:m<l.length
 ·have CI:Hid (Calls prog 83 #[.slice a l.length c,.func (.func g) #[] #[.pointer (some ⟨bq,0,none⟩)]] w fun e w'=>e=.returned (.int .i64 (m:Int))/\Below w.heap.size w w'):=jB g bq p eg a l.length c (by omega) l m hm (m:Int) (by show _=_;rw[if_pos hlt]) w hLC hAs
  have hK0:Hid (KptD p l l m (m+1)):=KptD.start hm hlt
  obtain⟨gb,o,cap,ev,hcap,hcm,hgb,hcs,hfr⟩:=hU.at (by omega)
  obtain⟨rfl,rfl⟩:a=some ⟨gb,o,none⟩/\c=cap:=by rw[ev]at ea;injection ea with h1 h2 h3;exact⟨h1.symm,h3.symm⟩
  subst ev
  have HU:Hid (Us w 132 28 (.slice (some ⟨gb,o,none⟩) l.length c) l.length (flat dgl l)):=hU
  obtain⟨n,hnl⟩:∃n,n=l.length:=⟨_,rfl⟩
  have HN:Hid (n=l.length):=hnl
  rw[<-hnl]at CI HU hn hlt hcap⊢
  clear hU hLC hAs hm hcs hfr ea hnl
  go_enter func163,ntmps163
  go_wp2_with fail
  refine CI.out.mono ?_
  rintro e V1 ⟨rfl,hk1⟩
  have HU1:Hid (Us V1 132 28 (.slice (some ⟨gb,o,none⟩) n c) n (flat dgl l)):=HU.out.below hk1
  have HG1:Hid (w.grownBy V1 (some gb)):=⟨hk1.os,hk1.tape,hk1.output,hk1.size,fun h hh _=>hk1.block h hh⟩
  have HK1:Hid (Kp V1):=hKB.out w V1 hK.out hk1.size (fun h hh _=>hk1.block h hh)
  clear hk1 CI HU hK
  have hm0:((m:Int)==-1)=false:=by simp
  go_wp2_with fail
  go_loopw [5,6] (fun u5 u6 wr=>∃i j:Nat,∃cc:List Dg,u5=.int .i64 (i:Int)/\u6=.int .i64 (j:Int)/\j<=n/\i<j/\Hid (KptD p l cc i j)/\Hid (Us wr 132 28 (.slice (some ⟨gb,o,none⟩) n c) n (flat dgl cc))/\Hid (w.grownBy wr (some gb))/\Hid (Kp wr))
   (fun _ u6 _=>n-(intOf u6).toNat)
  case atStart=>exact⟨m,m+1,l,rfl,by go_num,by omega,by omega,hK0,HU1,HG1,HK1⟩
  case round=>
   obtain⟨i,j,cc,rfl,rfl,hjn,hij,HKp,HU2,HG2,HK2⟩:=hrel
   clear HU1 HG1 HK1 hK0 hm0
   by_cases hjl:j<n
   ·obtain⟨x,hx⟩:∃x,l[j]?=some x:=⟨_,Aa (by rw[<-HN.out];exact hjl)⟩
    have hx2:=HKp.out.at hx
    have HR:Hid (wr.rangeAt gb (o+j*28) (dgl x)):=by
     obtain⟨gb',o',cap',ev,_,_,_,hcs,_⟩:=HU2.out.at (by omega)
     obtain⟨rfl,rfl⟩:gb=gb'/\o=o':=by injection ev with h1 _ _;injection h1 with h1;injection h1 with h1 h2;exact⟨h1,h2⟩
     intro k u hu
     rw[AE]
     exact hcs _ _ (qF zF hx2 hu)
    obtain⟨D,hD⟩:∃D,D=(dgl x).toArray:=⟨_,rfl⟩
    have HD:Hid (D=(dgl x).toArray):=hD
    have HI:Hid ((prog.info? 132).map (·.size)=some D.size/\28=D.size/\D.all (·.oneCell')=true):=by rw[hD];exact⟨zK x,rfl,qY x⟩
    have HA2:Hid (∀W,Kp W->Calls prog g #[.agg D,.pointer (some ⟨bq,0,none⟩)] W fun e w'=>e=.returned (.bool (p x))/\Below W.heap.size W w'):=by rw[hD];exact fun W hW=>hA.out W x hW
    have hcell:i<c:=by omega
    clear hD
    go_upto_region 8 with(first|(refine AC rfl 132 _ rfl gb (o+j*28) rfl (dgl x) _ HR.out underlying132 rfl qt ?_;rw[<-HD.out])|(refine AA rfl 132 _ _ rfl _ _ rfl rfl 132 _ (heap_alloc_new _ _) HI.out.1 HI.out.2.1 HI.out.2.2 ?_;rw[Av]))
    refine Wi.zj (Φ:=fun W=>Code.wp _ _ _ _ W) ?_
    intro U hUr hUb
    have HUr:Hid (U.heap[wr.heap.size]?=some (.cells D 132 (0,0))):=hUr
    have hqU:wr.heap.size<U.heap.size:=(WY.1 hUr).1
    have HU3:Hid (Us U 132 28 (.slice (some ⟨gb,o,none⟩) n c) n (flat dgl cc)):=HU2.out.below hUb
    have HG3:Hid (w.grownBy U (some gb)):=qI HG2.out hUb
    have HK3:Hid (Kp U):=hKB.out wr U HK2.out hUb.size (fun h hh _=>hUb.block h hh)
    clear hUr hUb HR HU2 HG2 HK2
    generalize wr.heap.size=z at*
    go_wp2_with(refine Ap rfl 132 _ rfl _ rfl 132 _ (0,0) _ HUr.out underlying132 rfl HI.out.1 ?_)
    have hcall:=HA2.out U HK3.out
    cases hp:p x with
    |true=>
     rw[hp]at hcall
     have HKn:Hid (KptD p l cc i (j+1)):=HKp.out.skip hx hp
     clear hp hx hx2 HA2 HKp
     refine hcall.mono ?_
     rintro e U2 ⟨rfl,hb2⟩
     have HU4:Hid (Us U2 132 28 (.slice (some ⟨gb,o,none⟩) n c) n (flat dgl cc)):=HU3.out.below hb2
     have HG4:Hid (w.grownBy U2 (some gb)):=qI HG3.out hb2
     have HK4:Hid (Kp U2):=hKB.out U U2 HK3.out hb2.size (fun h hh _=>hb2.block h hh)
     clear hcall hb2 HU3 HG3 HK3 HUr HI hqU
     go_wp2_with fail
     exact⟨⟨i,j+1,cc,rfl,by go_num,by omega,by omega,HKn,HU4,HG4,HK4⟩,by simp[intOf];omega⟩
    |false=>
     rw[hp]at hcall
     have HKn:Hid (KptD p l (cc.set i x) (i+1) (j+1)):=HKp.out.keep hx hp
     have hcl:i<cc.length:=by have:=HKp.out.len;have:=HN.out;omega
     clear hp hx hx2 HA2
     refine hcall.mono ?_
     rintro e U2 ⟨rfl,hb2⟩
     have HU4:Hid (Us U2 132 28 (.slice (some ⟨gb,o,none⟩) n c) n (flat dgl cc)):=HU3.out.below hb2
     have HG4:Hid (w.grownBy U2 (some gb)):=qI HG3.out hb2
     have HK4:Hid (Kp U2):=hKB.out U U2 HK3.out hb2.size (fun h hh _=>hb2.block h hh)
     have HUr2:Hid (U2.heap[z]?=some (.cells D 132 (0,0))):=(hb2.block z hqU).trans HUr.out
     clear hcall hb2 HU3 HG3 HK3 HUr hqU
     have hoff:i*28+D.toList.length<=n*28:=by
      have e1:D.toList.length=28:=by rw[Af];exact HI.out.2.1.symm
      rw[e1]
      have:=An 28 (show i+1<=n by omega)
      rw[Ao]at this
      omega
     have HTH:Hid (U2.there gb (o+i*28) D.size):=HU4.out.there (i*28) D.size (by rw[<-Af];exact hoff)
     have HU5:Hid (Us (U2.setCells gb (o+i*28) D.toList) 132 28 (.slice (some ⟨gb,o,none⟩) n c) n (flat dgl (cc.set i x))):=by
      have h:=HU4.out.puts (i*28) D.toList hoff (fun u hu=>by rw[HD.out]at hu;exact za9 x u (by simpa using hu))
      have e:=vB zF (l:=cc) (k:=i) (j:=0) (x:=cc[i]) (y:=x) (news:=D.toList) (Aa hcl) (by rw[Af,<-HI.out.2.1];omega) (by rw[HD.out];unfold ov;simp[zF])
      rw[Aq]at e
      rw[e]at h
      exact h
     have HG5:Hid (w.grownBy (U2.setCells gb (o+i*28) D.toList) (some gb)):=zB HG4.out (zD _ _ _ _)
     have HK5:Hid (Kp (U2.setCells gb (o+i*28) D.toList)):=hKB.out U2 _ HK4.out (zD _ _ _ _).size (fun h hh hne=>(zD U2 gb (o+i*28) D.toList).block h hh (fun e=>hne e.symm))
     clear HU4 HG4 HK4 hoff
     go_upto_region 10 with(first|(refine Ap rfl 132 _ rfl _ rfl 132 _ (0,0) _ HUr2.out underlying132 rfl HI.out.1 ?_)|(refine wpList_store_mid rfl 132 _ _ rfl gb (o+i*28) D rfl rfl HTH.out HI.out.1 HI.out.2.2 ?_))
     clear HTH HUr2 HI HD
     generalize U2.setCells gb (o+i*28) D.toList=U3 at*
     go_wp2_with fail
     exact⟨⟨i+1,j+1,cc.set i x,by go_num,by go_num,by omega,by omega,HKn,HU5,HG5,HK5⟩,by simp[intOf];omega⟩
   ·have hjn':j=l.length:=by have:=HN.out;omega
    have hd:=HKp.out
    rw[hjn']at hd
    obtain⟨d1,d2⟩:=hd.done
    have HE:Hid (cc.take i=l.filter (fun o=>!p o)/\i=(l.filter (fun o=>!p o)).length):=⟨d1,d2⟩
    have HCL:Hid (cc.length=n):=HKp.out.len.trans HN.out.symm
    clear d1 d2 hd hjn' HKp
    have hin:i<n:=by omega
    have hic:i<c:=by omega
    have hmul:i*28+(n-i)*28=n*28:=by rw[<-Ao,show i+(n-i)=n by omega]
    have HTH:Hid (wr.there gb (o+i*28) ((n-i)*28)):=HU2.out.there (i*28) ((n-i)*28) (by omega)
    have HFIN:Hid (∀zs:List Value,zs.length=(n-i)*28->(∀u∈zs,u.oneCell'=true)->Us (wr.setCells gb (o+i*28) zs) 132 28 (.slice (some ⟨gb,o,none⟩) i c) i (flat dgl (l.filter (fun o=>!p o)))/\w.grownBy (wr.setCells gb (o+i*28) zs) (some gb)):=fun zs hz1 hz2=>by
     have h:=(HU2.out.puts (i*28) zs (by omega) hz2).take i (by omega)
     have hfl:(flat dgl cc).length=n*28:=by rw[ks zF,HCL.out]
     rw[zhV (by rw[hfl];omega),<-vP zF cc i (by rw[HCL.out];omega),HE.out.1]at h
     exact⟨h,zB HG2.out (zD _ _ _ _)⟩
    clear hmul
    obtain⟨zs,hzs1,hzs2,hcl⟩:=clears wr 63 132 iX _ 28 underlying63 hi hz0 rfl (by decide) (za9 _) gb (o+i*28) (n-i) (c-i) (by omega) HTH.out
    have HZ1:Hid (zs.length=(n-i)*28/\∀u∈zs,u.oneCell'=true):=⟨hzs1,hzs2⟩
    clear hzs1 hzs2 HTH
    go_wp2
    all_goals go_ret
    all_goals exact⟨_,rfl,by rw[<-HE.out.2];exact(HFIN.out _ HZ1.out.1 HZ1.out.2).1,(HFIN.out _ HZ1.out.1 HZ1.out.2).2,rfl⟩
 ·have hml:m=l.length:=by have:=hm.le;omega
  have CI:Hid (Calls prog 83 #[.slice a l.length c,.func (.func g) #[] #[.pointer (some ⟨bq,0,none⟩)]] w fun e w'=>e=.returned (.int .i64 (-1))/\Below w.heap.size w w'):=jB g bq p eg a l.length c (by omega) l m hm (-1) (by show _=_;rw[if_neg hlt]) w hLC hAs
  have hall:l.filter (fun o=>!p o)=l:=WZ.2 fun o ho=>by
   obtain⟨j,hj⟩:=Ak ho
   rw[hm.no j o (by have:=(Ab.1 hj).1;omega) hj]
   rfl
  have HU:Hid (Us w 132 28 v l.length (flat dgl l)):=hU
  have HF:Hid (l.filter (fun o=>!p o)=l):=hall
  have HV:Hid (v=.slice a l.length c):=ea
  rw[ea]
  clear hU hLC hAs hm hall hml hlt ea
  go_enter func163,ntmps163
  go_wp2_with fail
  refine CI.out.mono ?_
  rintro e V1 ⟨rfl,hk1⟩
  have HB:Hid (Below w.heap.size w V1):=hk1
  clear hk1
  go_wp2_with fail
  go_ret
  refine⟨_,rfl,?_,⟨HB.out.os,HB.out.tape,HB.out.output,HB.out.size,fun h hh _=>HB.out.block h hh⟩,rfl⟩
  have h:=HU.out.below HB.out
  rw[HV.out]at h
  rw[HF.out]
  exact h
structure KptA(p:Ac->Bool)(l c:List Ac)(i j:Nat):Prop where
 len:c.length=l.length
 kept:c.take i=(l.take j).filter (fun o=>!p o)
 rest:c.drop j=l.drop j
 le:i<j
 hj:j<=l.length
theorem KptA.start{p:Ac->Bool}{l:List Ac}{m:Nat}(h:FirstA p l m)(hm:m<l.length):KptA p l l m (m+1):=by
 refine⟨rfl,?_,rfl,by omega,by omega⟩
 have hp:p l[m]=true:=h.yes _ (Aa hm)
 rw[Ae,Aa hm,Ag]
 have h1:(l.take m).filter (fun o=>!p o)=l.take m:=WZ.2 fun o ho=>by
  obtain⟨j,hj⟩:=Ak ho
  have hjm:j<m:=by have:=(Ab.1 hj).1;rw[Ai]at this;omega
  rw[WX hjm]at hj
  rw[h.no j o hjm hj]
  rfl
 rw[h1]
 simp[hp]
theorem KptA.at{p:Ac->Bool}{l c:List Ac}{i j:Nat}(h:KptA p l c i j){x:Ac}(hx:l[j]?=some x):c[j]?=some x:=by
 have:=congrArg (fun k:List Ac=>k[0]?) h.rest
 simp only[Ay,Aq]at this
 rw[this,hx]
theorem KptA.skip{p:Ac->Bool}{l c:List Ac}{i j:Nat}(h:KptA p l c i j){x:Ac}(hx:l[j]?=some x)(hp:p x=true):KptA p l c i (j+1):=by
 have hj:=(Ab.1 hx).1
 refine⟨h.len,?_,?_,by have:=h.le;omega,by omega⟩
 ·rw[Ae,hx,Ag,h.kept]
  simp[hp]
 ·have:=congrArg (fun k:List Ac=>k.drop 1) h.rest
  simpa[Ar,Au]using this
theorem KptA.keep{p:Ac->Bool}{l c:List Ac}{i j:Nat}(h:KptA p l c i j){x:Ac}(hx:l[j]?=some x)(hp:p x=false):KptA p l (c.set i x) (i+1) (j+1):=by
 have hj:=(Ab.1 hx).1
 have hl:=h.len
 have hi:=h.le
 refine⟨by rw[AB];exact hl,?_,?_,by omega,by omega⟩
 ·have e1:l.take (j+1)=l.take j++[x]:=by rw[Ae,hx];rfl
  have e2:(c.set i x).take (i+1)=c.take i++[x]:=by rw[Ae,Az,if_pos rfl,if_pos (by omega),List.take_set_of_le (Ah _)];rfl
  rw[e1,e2,Ag,h.kept]
  simp[hp]
 ·have:=congrArg (fun k:List Ac=>k.drop 1) h.rest
  rw[List.drop_set_of_lt (by omega)]
  simpa[Ar,Au]using this
theorem KptA.done{p:Ac->Bool}{l c:List Ac}{i:Nat}(h:KptA p l c i l.length):c.take i=l.filter (fun o=>!p o)/\i=(l.filter (fun o=>!p o)).length:=by
 have h1:=h.kept
 rw[Am (Ah _)]at h1
 refine⟨h1,?_⟩
 rw[<-h1,Ai]
 have:=h.le
 have:=h.len
 omega
theorem zeC(q:Ac):(prog.info? 135).map (·.size)=some (cel q).toArray.size:=by rw[vR];rfl
theorem zeD(q:Ac):(cel q).toArray.all (·.oneCell')=true:=all_oneCell_toArray (xa q)
theorem xR(g bq:Nat)(p:Ac->Bool)(eg:∀args w,(callFunc g args).run prog w=.ok (.enter g args) w)(Kp:World->Prop){w:World}{v:Value}{l:List Ac}(hU:Us w 135 7 v l.length (flat cel l))(hn:l.length<=100000000)
  (hKB:Hid (∀W W',Kp W->W.heap.size<=W'.heap.size->(∀h,h<W.heap.size->v.ownBlock≠some h->W'.heap[h]?=W.heap[h]?)->Kp W'))
  (hA:Hid (∀W o,Kp W->Calls prog g #[acv o,.pointer (some ⟨bq,0,none⟩)] W fun e w'=>e=.returned (.bool (p o))/\Below W.heap.size W w')) (hK:Hid (Kp w)):
  Calls prog 53 #[v,.func (.func g) #[] #[.pointer (some ⟨bq,0,none⟩)]] w fun e w'=>∃v',e=.returned v'/\Us w' 135 7 v' (l.filter (fun o=>!p o)).length (flat cel (l.filter (fun o=>!p o)))/\w.grownBy w' v.ownBlock/\v'.ownBlock=v.ownBlock:=by
 obtain⟨iX,hi,hz0,hz1,hz2⟩:=info_parts zlQ
 obtain⟨m,hm⟩:=kg p l
 obtain⟨a,c,ea⟩:=hU.slice
 have hLC:LC w a l.length c 7 (flat cel l):=by rw[ea]at hU;exact hU.lc
 have hAs:Od.Asks g bq p w:=fun W o hW=>hA.out W o (hKB.out w W hK.out hW.size (fun h hh _=>hW.block h hh))
 by_cases hlt:m<l.length
 ·have CI:Hid (Calls prog 81 #[.slice a l.length c,.func (.func g) #[] #[.pointer (some ⟨bq,0,none⟩)]] w fun e w'=>e=.returned (.int .i64 (m:Int))/\Below w.heap.size w w'):=qd g bq p eg a l.length c (by omega) l m hm (m:Int) (by show _=_;rw[if_pos hlt]) w (by rw[xy];exact hLC) hAs
  have hK0:Hid (KptA p l l m (m+1)):=KptA.start hm hlt
  obtain⟨gb,o,cap,ev,hcap,hcm,hgb,hcs,hfr⟩:=hU.at (by omega)
  obtain⟨rfl,rfl⟩:a=some ⟨gb,o,none⟩/\c=cap:=by rw[ev]at ea;injection ea with h1 h2 h3;exact⟨h1.symm,h3.symm⟩
  subst ev
  have HU:Hid (Us w 135 7 (.slice (some ⟨gb,o,none⟩) l.length c) l.length (flat cel l)):=hU
  obtain⟨n,hnl⟩:∃n,n=l.length:=⟨_,rfl⟩
  have HN:Hid (n=l.length):=hnl
  rw[<-hnl]at CI HU hn hlt hcap⊢
  clear hU hLC hAs hm hcs hfr ea hnl
  go_enter func53,ntmps53
  go_wp2_with fail
  refine CI.out.mono ?_
  rintro e V1 ⟨rfl,hk1⟩
  have HU1:Hid (Us V1 135 7 (.slice (some ⟨gb,o,none⟩) n c) n (flat cel l)):=HU.out.below hk1
  have HG1:Hid (w.grownBy V1 (some gb)):=⟨hk1.os,hk1.tape,hk1.output,hk1.size,fun h hh _=>hk1.block h hh⟩
  have HK1:Hid (Kp V1):=hKB.out w V1 hK.out hk1.size (fun h hh _=>hk1.block h hh)
  clear hk1 CI HU hK
  have hm0:((m:Int)==-1)=false:=by simp
  go_wp2_with fail
  go_loopw [5,6] (fun u5 u6 wr=>∃i j:Nat,∃cc:List Ac,u5=.int .i64 (i:Int)/\u6=.int .i64 (j:Int)/\j<=n/\i<j/\Hid (KptA p l cc i j)/\Hid (Us wr 135 7 (.slice (some ⟨gb,o,none⟩) n c) n (flat cel cc))/\Hid (w.grownBy wr (some gb))/\Hid (Kp wr))
   (fun _ u6 _=>n-(intOf u6).toNat)
  case atStart=>exact⟨m,m+1,l,rfl,by go_num,by omega,by omega,hK0,HU1,HG1,HK1⟩
  case round=>
   obtain⟨i,j,cc,rfl,rfl,hjn,hij,HKp,HU2,HG2,HK2⟩:=hrel
   clear HU1 HG1 HK1 hK0 hm0
   by_cases hjl:j<n
   ·obtain⟨x,hx⟩:∃x,l[j]?=some x:=⟨_,Aa (by rw[<-HN.out];exact hjl)⟩
    have hx2:=HKp.out.at hx
    have HR:Hid (wr.rangeAt gb (o+j*7) (cel x)):=by
     obtain⟨gb',o',cap',ev,_,_,_,hcs,_⟩:=HU2.out.at (by omega)
     obtain⟨rfl,rfl⟩:gb=gb'/\o=o':=by injection ev with h1 _ _;injection h1 with h1;injection h1 with h1 h2;exact⟨h1,h2⟩
     intro k u hu
     rw[AE]
     exact hcs _ _ (qF vQ hx2 hu)
    obtain⟨D,hD⟩:∃D,D=(cel x).toArray:=⟨_,rfl⟩
    have HD:Hid (D=(cel x).toArray):=hD
    have HI:Hid ((prog.info? 135).map (·.size)=some D.size/\7=D.size/\D.all (·.oneCell')=true):=by rw[hD];exact⟨zeC x,rfl,zeD x⟩
    have HA2:Hid (∀W,Kp W->Calls prog g #[.agg D,.pointer (some ⟨bq,0,none⟩)] W fun e w'=>e=.returned (.bool (p x))/\Below W.heap.size W w'):=by rw[hD];exact fun W hW=>hA.out W x hW
    have hcell:i<c:=by omega
    clear hD
    go_upto_region 8 with(first|(refine AC rfl 135 _ rfl gb (o+j*7) rfl (cel x) _ HR.out underlying135 rfl vR ?_;rw[<-HD.out])|(refine AA rfl 135 _ _ rfl _ _ rfl rfl 135 _ (heap_alloc_new _ _) HI.out.1 HI.out.2.1 HI.out.2.2 ?_;rw[Av]))
    refine Wi.zj (Φ:=fun W=>Code.wp _ _ _ _ W) ?_
    intro U hUr hUb
    have HUr:Hid (U.heap[wr.heap.size]?=some (.cells D 135 (0,0))):=hUr
    have hqU:wr.heap.size<U.heap.size:=(WY.1 hUr).1
    have HU3:Hid (Us U 135 7 (.slice (some ⟨gb,o,none⟩) n c) n (flat cel cc)):=HU2.out.below hUb
    have HG3:Hid (w.grownBy U (some gb)):=qI HG2.out hUb
    have HK3:Hid (Kp U):=hKB.out wr U HK2.out hUb.size (fun h hh _=>hUb.block h hh)
    clear hUr hUb HR HU2 HG2 HK2
    generalize wr.heap.size=z at*
    go_wp2_with(refine Ap rfl 135 _ rfl _ rfl 135 _ (0,0) _ HUr.out underlying135 rfl HI.out.1 ?_)
    have hcall:=HA2.out U HK3.out
    cases hp:p x with
    |true=>
     rw[hp]at hcall
     have HKn:Hid (KptA p l cc i (j+1)):=HKp.out.skip hx hp
     clear hp hx hx2 HA2 HKp
     refine hcall.mono ?_
     rintro e U2 ⟨rfl,hb2⟩
     have HU4:Hid (Us U2 135 7 (.slice (some ⟨gb,o,none⟩) n c) n (flat cel cc)):=HU3.out.below hb2
     have HG4:Hid (w.grownBy U2 (some gb)):=qI HG3.out hb2
     have HK4:Hid (Kp U2):=hKB.out U U2 HK3.out hb2.size (fun h hh _=>hb2.block h hh)
     clear hcall hb2 HU3 HG3 HK3 HUr HI hqU
     go_wp2_with fail
     exact⟨⟨i,j+1,cc,rfl,by go_num,by omega,by omega,HKn,HU4,HG4,HK4⟩,by simp[intOf];omega⟩
    |false=>
     rw[hp]at hcall
     have HKn:Hid (KptA p l (cc.set i x) (i+1) (j+1)):=HKp.out.keep hx hp
     have hcl:i<cc.length:=by have:=HKp.out.len;have:=HN.out;omega
     clear hp hx hx2 HA2
     refine hcall.mono ?_
     rintro e U2 ⟨rfl,hb2⟩
     have HU4:Hid (Us U2 135 7 (.slice (some ⟨gb,o,none⟩) n c) n (flat cel cc)):=HU3.out.below hb2
     have HG4:Hid (w.grownBy U2 (some gb)):=qI HG3.out hb2
     have HK4:Hid (Kp U2):=hKB.out U U2 HK3.out hb2.size (fun h hh _=>hb2.block h hh)
     have HUr2:Hid (U2.heap[z]?=some (.cells D 135 (0,0))):=(hb2.block z hqU).trans HUr.out
     clear hcall hb2 HU3 HG3 HK3 HUr hqU
     have hoff:i*7+D.toList.length<=n*7:=by
      have e1:D.toList.length=7:=by rw[Af];exact HI.out.2.1.symm
      rw[e1]
      have:=An 7 (show i+1<=n by omega)
      rw[Ao]at this
      omega
     have HTH:Hid (U2.there gb (o+i*7) D.size):=HU4.out.there (i*7) D.size (by rw[<-Af];exact hoff)
     have HU5:Hid (Us (U2.setCells gb (o+i*7) D.toList) 135 7 (.slice (some ⟨gb,o,none⟩) n c) n (flat cel (cc.set i x))):=by
      have h:=HU4.out.puts (i*7) D.toList hoff (fun u hu=>by rw[HD.out]at hu;exact xa x u (by simpa using hu))
      have e:=vB vQ (l:=cc) (k:=i) (j:=0) (x:=cc[i]) (y:=x) (news:=D.toList) (Aa hcl) (by rw[Af,<-HI.out.2.1];omega) (by rw[HD.out];unfold ov;simp[vQ])
      rw[Aq]at e
      rw[e]at h
      exact h
     have HG5:Hid (w.grownBy (U2.setCells gb (o+i*7) D.toList) (some gb)):=zB HG4.out (zD _ _ _ _)
     have HK5:Hid (Kp (U2.setCells gb (o+i*7) D.toList)):=hKB.out U2 _ HK4.out (zD _ _ _ _).size (fun h hh hne=>(zD U2 gb (o+i*7) D.toList).block h hh (fun e=>hne e.symm))
     clear HU4 HG4 HK4 hoff
     go_upto_region 10 with(first|(refine Ap rfl 135 _ rfl _ rfl 135 _ (0,0) _ HUr2.out underlying135 rfl HI.out.1 ?_)|(refine wpList_store_mid rfl 135 _ _ rfl gb (o+i*7) D rfl rfl HTH.out HI.out.1 HI.out.2.2 ?_))
     clear HTH HUr2 HI HD
     generalize U2.setCells gb (o+i*7) D.toList=U3 at*
     go_wp2_with fail
     exact⟨⟨i+1,j+1,cc.set i x,by go_num,by go_num,by omega,by omega,HKn,HU5,HG5,HK5⟩,by simp[intOf];omega⟩
   ·have hjn':j=l.length:=by have:=HN.out;omega
    have hd:=HKp.out
    rw[hjn']at hd
    obtain⟨d1,d2⟩:=hd.done
    have HE:Hid (cc.take i=l.filter (fun o=>!p o)/\i=(l.filter (fun o=>!p o)).length):=⟨d1,d2⟩
    have HCL:Hid (cc.length=n):=HKp.out.len.trans HN.out.symm
    clear d1 d2 hd hjn' HKp
    have hin:i<n:=by omega
    have hic:i<c:=by omega
    have hmul:i*7+(n-i)*7=n*7:=by rw[<-Ao,show i+(n-i)=n by omega]
    have HTH:Hid (wr.there gb (o+i*7) ((n-i)*7)):=HU2.out.there (i*7) ((n-i)*7) (by omega)
    have HFIN:Hid (∀zs:List Value,zs.length=(n-i)*7->(∀u∈zs,u.oneCell'=true)->Us (wr.setCells gb (o+i*7) zs) 135 7 (.slice (some ⟨gb,o,none⟩) i c) i (flat cel (l.filter (fun o=>!p o)))/\w.grownBy (wr.setCells gb (o+i*7) zs) (some gb)):=fun zs hz1 hz2=>by
     have h:=(HU2.out.puts (i*7) zs (by omega) hz2).take i (by omega)
     have hfl:(flat cel cc).length=n*7:=by rw[ks vQ,HCL.out]
     rw[zhV (by rw[hfl];omega),<-vP vQ cc i (by rw[HCL.out];omega),HE.out.1]at h
     exact⟨h,zB HG2.out (zD _ _ _ _)⟩
    clear hmul
    obtain⟨zs,hzs1,hzs2,hcl⟩:=clears wr 64 135 iX _ 7 underlying64 hi hz0 rfl (by decide) (xa _) gb (o+i*7) (n-i) (c-i) (by omega) HTH.out
    have HZ1:Hid (zs.length=(n-i)*7/\∀u∈zs,u.oneCell'=true):=⟨hzs1,hzs2⟩
    clear hzs1 hzs2 HTH
    go_wp2
    all_goals go_ret
    all_goals exact⟨_,rfl,by rw[<-HE.out.2];exact(HFIN.out _ HZ1.out.1 HZ1.out.2).1,(HFIN.out _ HZ1.out.1 HZ1.out.2).2,rfl⟩
 ·have hml:m=l.length:=by have:=hm.le;omega
  have CI:Hid (Calls prog 81 #[.slice a l.length c,.func (.func g) #[] #[.pointer (some ⟨bq,0,none⟩)]] w fun e w'=>e=.returned (.int .i64 (-1))/\Below w.heap.size w w'):=qd g bq p eg a l.length c (by omega) l m hm (-1) (by show _=_;rw[if_neg hlt]) w (by rw[xy];exact hLC) hAs
  have hall:l.filter (fun o=>!p o)=l:=WZ.2 fun o ho=>by
   obtain⟨j,hj⟩:=Ak ho
   rw[hm.no j o (by have:=(Ab.1 hj).1;omega) hj]
   rfl
  have HU:Hid (Us w 135 7 v l.length (flat cel l)):=hU
  have HF:Hid (l.filter (fun o=>!p o)=l):=hall
  have HV:Hid (v=.slice a l.length c):=ea
  rw[ea]
  clear hU hLC hAs hm hall hml hlt ea
  go_enter func53,ntmps53
  go_wp2_with fail
  refine CI.out.mono ?_
  rintro e V1 ⟨rfl,hk1⟩
  have HB:Hid (Below w.heap.size w V1):=hk1
  clear hk1
  go_wp2_with fail
  go_ret
  refine⟨_,rfl,?_,⟨HB.out.os,HB.out.tape,HB.out.output,HB.out.size,fun h hh _=>HB.out.block h hh⟩,rfl⟩
  have h:=HU.out.below HB.out
  rw[HV.out]at h
  rw[HF.out]
  exact h
theorem St.newU{N:Nat}{w:World}{b:Nat}{s:Cr}{L:Sls}(S:St N w b s L){w1:World}{v1:Value}(l:List Dg)(hU:Us w1 132 28 v1 l.length (flat dgl l))(hG:w.grownBy w1 L.u.ownBlock)(hF:∀g,v1.ownBlock=some g->L.u.ownBlock=some g\/w.heap.size<=g):
  St N (w1.setCell ⟨b,334,none⟩ v1) b {s with under:=l} {L with u:=v1}/\To b w L (w1.setCell ⟨b,334,none⟩ v1) {L with u:=v1}:=by
 obtain⟨dc,du,da⟩:=S.apart
 have hf:∀g,own b {L with u:=v1} g->own b L g\/w.heap.size<=g:=fun g hg=>by
  rcases hg with h|h|h|h
  ·exact .inl (.inl h)
  ·exact .inl (.inr (.inl h))
  ·exact(hF g h).imp (fun h=>.inr (.inr (.inl h))) id
  ·exact .inl (.inr (.inr (.inr h)))
 have T1:To b w L w1 {L with u:=v1}:=jX hG (fun g hg=>.inr (.inr (.inl hg))) hf
 have row:w1.heap[b]?=some (.cells (rowOf (kat s L) 339) 66 (0,0)):=(hG.block b S.lt (fun h=>(du b h.symm).2.2 rfl)).trans S.row
 have hc1:∀g,L.c.ownBlock=some g->w1.heap[g]?=w.heap[g]?:=fun g hg=>hG.block g (S.its.lt (.inl hg)) (fun h=>(dc g hg).1 h.symm)
 have ha1:∀g,L.a.ownBlock=some g->w1.heap[g]?=w.heap[g]?:=fun g hg=>hG.block g (S.its.lt (.inr (.inr hg))) (fun h=>(da g hg).2.1 h.symm)
 have I1:Its N w1 b {s with coms:=s.coms,under:=l,asked:=s.asked} {L with u:=v1}:=S.its.own T1 rfl rfl rfl rfl (S.its.ic.move hc1) hU (S.its.ia.move ha1)
 exact⟨St.cell row I1 334 v1 (fun j hj=>znB _ L v1 j hj),T1.put 334 v1⟩
theorem St.newA{N:Nat}{w:World}{b:Nat}{s:Cr}{L:Sls}(S:St N w b s L){w1:World}{v1:Value}(l:List Ac)(hU:Us w1 135 7 v1 l.length (flat cel l))(hG:w.grownBy w1 L.a.ownBlock)(hF:∀g,v1.ownBlock=some g->L.a.ownBlock=some g\/w.heap.size<=g):
  St N (w1.setCell ⟨b,335,none⟩ v1) b {s with asked:=l} {L with a:=v1}/\To b w L (w1.setCell ⟨b,335,none⟩ v1) {L with a:=v1}:=by
 obtain⟨dc,du,da⟩:=S.apart
 have hf:∀g,own b {L with a:=v1} g->own b L g\/w.heap.size<=g:=fun g hg=>by
  rcases hg with h|h|h|h
  ·exact .inl (.inl h)
  ·exact .inl (.inr (.inl h))
  ·exact .inl (.inr (.inr (.inl h)))
  ·exact(hF g h).imp (fun h=>.inr (.inr (.inr h))) id
 have T1:To b w L w1 {L with a:=v1}:=jX hG (fun g hg=>.inr (.inr (.inr hg))) hf
 have row:w1.heap[b]?=some (.cells (rowOf (kat s L) 339) 66 (0,0)):=(hG.block b S.lt (fun h=>(da b h.symm).2.2 rfl)).trans S.row
 have hc1:∀g,L.c.ownBlock=some g->w1.heap[g]?=w.heap[g]?:=fun g hg=>hG.block g (S.its.lt (.inl hg)) (fun h=>(dc g hg).2.1 h.symm)
 have hu1:∀g,L.u.ownBlock=some g->w1.heap[g]?=w.heap[g]?:=fun g hg=>hG.block g (S.its.lt (.inr (.inl hg))) (fun h=>(du g hg).2.1 h.symm)
 have I1:Its N w1 b {s with coms:=s.coms,under:=s.under,asked:=l} {L with a:=v1}:=S.its.own T1 rfl rfl rfl rfl (S.its.ic.move hc1) (S.its.iu.move hu1) hU
 exact⟨St.cell row I1 335 v1 (fun j hj=>znC _ L v1 j hj),T1.put 335 v1⟩
theorem zdr{b:Nat}{w w':World}{L L':Sls}{a:Option Addr}{n c size:Nat}{cs:List Value}(h:LC w a n c size cs)(T:To b w L w' L')(h0:0<n)(ho:∀x,a=some x->¬own b L x.block):∀x,a=some x->¬own b L' x.block:=fun x hx=>by
 obtain⟨g,o,e,hlt,_⟩:=h.ad x hx h0
 subst e
 exact qm T.fresh (ho _ hx) hlt
theorem jt{b:Nat}{w w':World}{L L':Sls}{z:Nat}{v:Value}(h:w.cell? ⟨z,0,none⟩=some v)(T:To b w L w' L')(hz:¬own b L z):w'.cell? ⟨z,0,none⟩=some v:=
 (World.cell?_of_block (w:=w) (a:=⟨z,0,none⟩) (T.block z (Aj _ _ h) hz)).trans h
theorem zjK:∀args w,(callFunc 164 args).run prog w=.ok (.enter 164 args) w:=enters_of func164 (by kernel_rfl) rfl
theorem zjL:∀args w,(callFunc 165 args).run prog w=.ok (.enter 165 args) w:=enters_of func165 (by kernel_rfl) rfl
theorem zfA:∀args w,(callFunc 159 args).run prog w=.ok (.enter 159 args) w:=enters_of func159 (by kernel_rfl) rfl
theorem zfB(B:Nat)(q:Int)(W:World)(o:Dg)(hc':W.cell? ⟨B,0,none⟩=some (.int .i64 q)):Calls prog 164 #[dgv o,.pointer (some ⟨B,0,none⟩)] W fun e w'=>e=.returned (.bool (decide (q<=o.seq)))/\Below W.heap.size W w':=by
 have hB':B<W.heap.size:=Aj _ _ hc'
 obtain⟨D,hD⟩:∃D,D=(dgl o).toArray:=⟨_,rfl⟩
 have d0:D[0]?=some (.int .i64 o.seq):=by rw[hD];rfl
 show Calls _ _ #[.agg (dgl o).toArray,_] _ _
 rw[<-hD]
 generalize o.seq=x at*
 clear hD
 go_enter func164,ntmps164
 go_wp2
 go_ret
 exact⟨rfl,(Aw _ _).alloc (Ah _) _⟩
theorem zfC(B:Nat)(q:Int)(W:World)(o:Ac)(hc':W.cell? ⟨B,0,none⟩=some (.int .i64 q)):Calls prog 165 #[acv o,.pointer (some ⟨B,0,none⟩)] W fun e w'=>e=.returned (.bool (decide (q<=o.seq)))/\Below W.heap.size W w':=by
 have hB':B<W.heap.size:=Aj _ _ hc'
 go_enter func165,ntmps165
 go_wp2
 go_ret
 exact⟨rfl,(Aw _ _).alloc (Ah _) _⟩
theorem zcl(B:Nat)(q:Int)(W:World)(o:Ac)(hc':W.cell? ⟨B,0,none⟩=some (.int .i64 q)):Calls prog 159 #[acv o,.pointer (some ⟨B,0,none⟩)] W fun e w'=>e=.returned (.bool (o.st&&decide (o.seq=q)))/\Below W.heap.size W w':=by
 have hB':B<W.heap.size:=Aj _ _ hc'
 obtain⟨x,st,kn,pl,many,data,done⟩:=o
 cases st with
 |false=>
  go_enter func159,ntmps159
  go_wp2
  go_ret
  exact⟨rfl,(Aw _ _).alloc (Ah _) _⟩
 |true=>
  by_cases e:x=q
  ·subst e
   go_enter func159,ntmps159
   go_wp2
   go_ret
   exact⟨by simp,(Aw _ _).alloc (Ah _) _⟩
  ·have e':(x==q)=false:=beq_eq_false_iff_ne.2 e
   go_enter func159,ntmps159
   go_wp2
   go_ret
   exact⟨by simp[e],(Aw _ _).alloc (Ah _) _⟩
structure BackOk(s:Cr)(m:Nat->Int):Prop where
 bk:Bk s m
 dis:Dis s.phys m (tos s.under++s.free)
 rd:∀o∈s.under,o.rd<32
 low:33<=s.phys
 high:s.phys<=96
 lenU:s.under.length<=1000
 lenA:s.asked.length<=10000000
 bck0:0<=s.bck
 bck1:s.bck<=10000000
def unS(s:Cr)(m:Nat->Int)(l t:List Dg):Cr:={s with regs:=mE m l,free:=tos t++s.free}
theorem zhW{s:Cr}{m:Nat->Int}(h:BackOk s m):unS s m s.under []=s:=by
 unfold unS
 rw[h.bk.reg]
 rfl
theorem zmj{s:Cr}{m:Nat->Int}(h:BackOk s m){l t:List Dg}(hu:s.under=l++t):Nms (unS s m l t):=
 ⟨h.low,h.high,Dis.mE (l1:=l) (l2:=t) (fr:=s.free) (m:=m) (by rw[<-hu];exact h.dis) (fun q hq=>h.rd q (by rw[hu];exact Ax _ hq))⟩
theorem zjM{s:Cr}{m:Nat->Int}(h:BackOk s m){l t:List Dg}{o:Dg}(hu:s.under=l++o::t):
  (o.rd=0->unS s m l (o::t)=unS s m (l++[o]) t)/\(o.rd≠0->o.rd<32/\0<=o.old/\o.old<s.phys/\o.old∉(unS s m (l++[o]) t).free/\(∀r,r<32->(unS s m (l++[o]) t).regs r≠o.old)/\unS s m l (o::t)={unS s m (l++[o]) t with regs:=up (unS s m (l++[o]) t).regs o.rd o.old,free:=(unS s m (l++[o]) t).regs o.rd::(unS s m (l++[o]) t).free}):=by
 have hrd:=h.rd o (by rw[hu];simp)
 have hd:=Dis.mE (l1:=l) (l2:=o::t) (fr:=s.free) (m:=m) (by rw[<-hu];exact h.dis) (fun q hq=>h.rd q (by rw[hu];exact Ax _ hq))
 have ho2:Olds (mE m l) (o::t):=(xq.1 (hu▸h.bk.olds)).2
 have ho:o.rd≠0->o.old=mE m l o.rd:=ho2.1
 have e:mE m (l++[o])=nm (mE m l) o:=by rw[ko];rfl
 refine⟨fun h0=>?_,fun h0=>?_⟩
 ·unfold unS
  rw[e,zQ,if_pos h0]
  unfold nm
  rw[if_pos h0]
 ·obtain⟨u1,u2,u3,u4,u5,u6,u7⟩:=zjB hd hrd h0 (ho h0)
  refine⟨hrd,u2,u3,u4,?_,?_⟩
  ·unfold unS
   simp only[e]
   exact u5
  ·unfold unS
   simp only[e]
   rw[u6,u7,zQ,if_neg h0]
   rfl
theorem zmk{s:Cr}{m:Nat->Int}(h:BackOk s m){l1 l2:List Dg}(hu:s.under=l1++l2){q:Int}(h1:∀o∈l1,o.seq<q)(h2:∀o∈l2,q<=o.seq):cutS s.slots q=(l2.map (·.seq)).reverse/\vd s.slots q=l1.map slot:=by
 have f1:=xc (p:=fun o=>decide (q<=o.seq)) (l1:=l1) (l2:=l2) (fun o ho=>by have:=h1 o ho;simp;omega) (fun o ho=>by have:=h2 o ho;simp;omega)
 rw[h.bk.slo,hu]
 unfold cutS vd
 rw[List.filter_map,List.filter_map]
 refine⟨?_,congrArg _ f1.2⟩
 have:(l1++l2).filter ((fun q':Sl=>decide (q<=q'.1))∘slot)=l2:=f1.1
 rw[this,List.map_map]
 rfl
theorem rev_at{l2:List Dg}{k:Nat}(hk:k<l2.length):∃la o t,l2=la++o::t/\t.length=k/\(l2.map (·.seq)).reverse[k]?=some o.seq:=by
 refine⟨l2.take (l2.length-1-k),l2[l2.length-1-k],l2.drop (l2.length-1-k+1),?_,?_,?_⟩
 ·rw[<-List.drop_eq_getElem_cons (by omega),List.take_append_drop]
 ·rw[List.length_drop];omega
 ·rw[List.getElem?_reverse (by rw[AD];exact hk),AD,List.getElem?_map,Aa (by omega)]
  rfl
theorem zml{s:Cr}{m:Nat->Int}(h:BackOk s m){l1 l2:List Dg}(hu:s.under=l1++l2){q:Int}(pc:Int)(h1:∀o∈l1,o.seq<q)(h2:∀o∈l2,q<=o.seq):
  back s q pc={unS s m l1 l2 with slots:=l1.map slot,under:=s.under.filter (fun o=>!decide (q<=o.seq)),asked:=s.asked.filter (fun a=>!decide (q<=a.seq)),bck:=if l2=[]then s.bck else s.bck+1,fro:=pc,opn:=true}:=by
 rw[zaY h.bk hu q pc h1 h2]
 have f1:=xc (p:=fun o=>decide (q<=o.seq)) (l1:=l1) (l2:=l2) (fun o ho=>by have:=h1 o ho;simp;omega) (fun o ho=>by have:=h2 o ho;simp;omega)
 rw[hu,f1.2]
 rfl
end Go.Proofs.YtpiohehijkpghacGreatDoor.Co
