/- A core's arguments of a law. -/
import Derived.OpenShut
import Derived.SizedLaws
import Derived.ChangeSlices
import Derived.Test.YtpiohehijkpghacGreatDoorG43
import Derived.Test.YtpiohehijkpghacGreatDoorG09
set_option maxRecDepth 100000
namespace Go.Proofs.YtpiohehijkpghacGreatDoor
open Go.ChangeShapes Go.WideShapes Go.ChangeAt Go.RowKit
open Hy
set_option linter.unusedVariables false
theorem hcs_sizeT (R:Nat→Int) (pc st ca:Int):(hcs R pc st ca).size=35:=rfl
theorem hcs_regT (R:Nat→Int) (pc st ca:Int) (j:Nat) (hj:j<32):(hcs R pc st ca)[j]?=some (.int .u32 (R j)):=
 match j,hj with
 |0,_=>rfl
 |1,_=>rfl
 |2,_=>rfl
 |3,_=>rfl
 |4,_=>rfl
 |5,_=>rfl
 |6,_=>rfl
 |7,_=>rfl
 |8,_=>rfl
 |9,_=>rfl
 |10,_=>rfl
 |11,_=>rfl
 |12,_=>rfl
 |13,_=>rfl
 |14,_=>rfl
 |15,_=>rfl
 |16,_=>rfl
 |17,_=>rfl
 |18,_=>rfl
 |19,_=>rfl
 |20,_=>rfl
 |21,_=>rfl
 |22,_=>rfl
 |23,_=>rfl
 |24,_=>rfl
 |25,_=>rfl
 |26,_=>rfl
 |27,_=>rfl
 |28,_=>rfl
 |29,_=>rfl
 |30,_=>rfl
 |31,_=>rfl
 |n+32,h=>absurd h (by omega)
section
variable {H:Type} {enc:TypeId×Value→H} {w:World} {base:Nat} {sp:Nat→Bool} {held:Bool} {fuel:Nat} {cs:List Value} {d:DataW H} {p:List MemPlace}
theorem hint_at {t:TypeId} {k:IntKind} {o:Nat} (ht:Tryz.prog.underlying t=some (.int k)) (h:DataW.trod enc Tryz.prog w base sp held fuel t ((cs.drop o).take 1)=some (d,p)):∃z,cs[o]?=some (.int k z)∧(Lit.int k z).wf=true:=by
 obtain⟨z,hc,hx,hw⟩:=DataW.trod_int ht h
 have:=congrArg (·[0]?) hc
 refine⟨z,?_,hw⟩
 simpa[List.getElem?_take,List.getElem?_drop]using this
theorem hstr_at {t:TypeId} {fs:Array Field} (ht:Tryz.prog.underlying t=some (.struct fs)) (h:DataW.trod enc Tryz.prog w base sp held fuel t cs=some (d,p)) (i:Nat) (f:Field) (hi:fs[i]?=some f):
  ∃m d' q,DataW.trod enc Tryz.prog w base sp held m f.type ((cs.drop f.offset).take (Tryz.prog.cellsOf f.type))=some (d',q):=by
 obtain⟨xs,m,_,hx,_,hn,hall⟩:=DataW.trod_struct ht h
 have hlt:i<fs.size:=(Array.getElem?_eq_some_iff.1 hi).1
 obtain⟨x,hxx⟩:∃x,xs[i]?=some x:=⟨xs[i]'(by rw[hn];simpa using hlt),List.getElem?_eq_getElem _⟩
 exact⟨m,x.1,x.2,hall i f hi|>.trans (by rw[hxx])⟩
theorem harr_at {t e:TypeId} {n:Nat} (ht:Tryz.prog.underlying t=some (.array n e)) (h:DataW.trod enc Tryz.prog w base sp held fuel t cs=some (d,p)) (i:Nat) (hi:i<n):
  ∃m d' q,DataW.trod enc Tryz.prog w base sp held m e ((cs.drop (i*Tryz.prog.cellsOf e)).take (Tryz.prog.cellsOf e))=some (d',q):=by
 obtain⟨xs,m,_,hx,_,hn,hall⟩:=DataW.trod_array ht h
 obtain⟨x,hxx⟩:∃x,xs[i]?=some x:=⟨xs[i]'(by omega),List.getElem?_eq_getElem _⟩
 exact⟨m,x.1,x.2,hall i hi|>.trans (by rw[hxx])⟩
theorem k22:Tryz.prog.cellsOf 24=1:=by kernel_rfl
theorem k3:Tryz.prog.cellsOf 3=1:=by kernel_rfl
theorem k32:Tryz.prog.cellsOf 25=32:=by kernel_rfl
theorem hart_cells {v:Array Value} (hsz:v.size=35) (h:DataW.trod enc Tryz.prog w base sp held fuel 27 v.toList=some (d,p)):
  ∃(R:Nat→Int) (pc st ca:Int),v=hcs R pc st ca∧(∀i,i<32→0≤R i∧R i≤4294967295)∧0≤pc∧pc≤4294967295:=by
 obtain⟨m0,d0,q0,e0⟩:=hstr_at Tryz.underlying27 h 0 _ rfl
 obtain⟨m1,d1,q1,e1⟩:=hstr_at Tryz.underlying27 h 1 _ rfl
 obtain⟨m2,d2,q2,e2⟩:=hstr_at Tryz.underlying27 h 2 _ rfl
 obtain⟨m3,d3,q3,e3⟩:=hstr_at Tryz.underlying27 h 3 _ rfl
 have e0':DataW.trod enc Tryz.prog w base sp held m0 25 ((v.toList.drop 0).take 32)=some (d0,q0):=by rw[←k32];exact e0
 have e1':DataW.trod enc Tryz.prog w base sp held m1 24 ((v.toList.drop 32).take 1)=some (d1,q1):=by rw[←k22];exact e1
 have e2':DataW.trod enc Tryz.prog w base sp held m2 3 ((v.toList.drop 33).take 1)=some (d2,q2):=by rw[←k3];exact e2
 have e3':DataW.trod enc Tryz.prog w base sp held m3 3 ((v.toList.drop 34).take 1)=some (d3,q3):=by rw[←k3];exact e3
 obtain⟨pc,c1,w1⟩:=hint_at Tryz.underlying24 e1'
 obtain⟨st,c2,_⟩:=hint_at Tryz.underlying3 e2'
 obtain⟨ca,c3,_⟩:=hint_at Tryz.underlying3 e3'
 have hr:∀i,i<32→∃z,v[i]?=some (.int .u32 z)∧(Lit.int .u32 z).wf=true:=fun i hi=>by
  obtain⟨m,d',q,e⟩:=harr_at Tryz.underlying25 e0' i hi
  rw[k22,Nat.mul_one]at e
  obtain⟨z,hz,hw⟩:=hint_at Tryz.underlying24 e
  refine⟨z,?_,hw⟩
  rw[←hz]
  simp[hi]
 have key:∀i,∃z,i<32→v[i]?=some (.int .u32 z)∧(Lit.int .u32 z).wf=true:=fun i=>by
  by_cases hi:i<32
  ·obtain⟨z,hz⟩:=hr i hi
   exact⟨z,fun _=>hz⟩
  ·exact⟨0,fun h=>absurd h hi⟩
 obtain⟨R,hR⟩:∃R:Nat→Int,∀i,i<32→v[i]?=some (.int .u32 (R i))∧(Lit.int .u32 (R i)).wf=true:=⟨fun i=>(key i).choose,fun i=>(key i).choose_spec⟩
 refine⟨R,pc,st,ca,?_,fun i hi=>bounds_u32 (hR i hi).2,(bounds_u32 w1).1,(bounds_u32 w1).2⟩
 apply Array.ext_getElem?
 intro i
 by_cases hi:i<32
 ·rw[(hR i hi).1,hcs_regT R pc st ca i hi]
 ·by_cases h2:i<35
  ·rcases(by omega:i=32∨i=33∨i=34)with rfl|rfl|rfl
   ·have:v[32]?=some (.int .u32 pc):=by simpa using c1
    rw[this];rfl
   ·have:v[33]?=some (.int .i64 st):=by simpa using c2
    rw[this];rfl
   ·have:v[34]?=some (.int .i64 ca):=by simpa using c3
    rw[this];rfl
  ·rw[Array.getElem?_eq_none (by omega),Array.getElem?_eq_none (by rw[hcs_sizeT];omega)]
end
abbrev imm0:DataW Unit:=Rows.laid_humpyard_hart_immediate
theorem gImmG:Tryz.prog.globalNamed "humpyard/hart.immediate" =some 2:=by kernel_rfl
theorem gImmT:(Tryz.prog.globals[2]?).map (·.type)=some 246:=by kernel_rfl
theorem imm_val:∀i,i<49→dInt (dAt imm0 i)=itab.getD i 0:=by decide
theorem tabs_of_laid {W:World} (h:laidMet Tryz.prog [("humpyard/decode.forms",forms0),("humpyard/hart.immediate",imm0)] W):Tab W∧Tab2 W:=by
 obtain⟨ps,⟨g,t,cs,fuel,p,q,hg,ht,hvar,hd,hrest,hps⟩,hnd,hcell⟩:=h
 constructor
 ·refine tab_of_laid ⟨MemPlace.row ⟨g,0,none⟩ cs.size++p++[],⟨g,t,cs,fuel,p,[],hg,ht,hvar,hd,rfl,rfl⟩,?_,fun b off hb=>hcell b off ?_⟩
  ·rw[hps]at hnd
   rw[List.append_nil]
   exact(List.nodup_append.1 hnd).1
  ·rw[hps]
   rw[List.append_nil]at hb
   exact List.mem_append_left _ hb
 ·obtain⟨g2,t2,cs2,fuel2,p2,q2,hg2,ht2,hvar2,hd2,_,_⟩:=hrest
  obtain rfl:=Option.some.inj (gImmG.symm.trans hg2)
  obtain rfl:=Option.some.inj (gImmT.symm.trans ht2)
  intro i hi
  rw[World.var?_cell gImmG hvar2 i]
  obtain⟨m,q,h1⟩:=arr_at Tryz.underlying246 hd2 i hi
  rw[k3,Nat.mul_one]at h1
  obtain⟨z,hc,hx,_⟩:=DataW.trod_int Tryz.underlying3 h1
  have hz:dInt (dAt imm0 i)=z:=by
   have:=congrArg Prod.fst hx
   simp only at this
   rw[this];rfl
  have:=congrArg (·[0]?) hc
  rw[←imm_val i hi,hz]
  simpa[List.getElem?_take,List.getElem?_drop]using this
end Go.Proofs.YtpiohehijkpghacGreatDoor
namespace Go.Proofs.YtpiohehijkpghacGreatDoor.Co
open Go.ChangeShapes Go.WideShapes Go.ChangeAt Go.RowKit
open Hy
open Wi Od Re.Hy
open Gu.Hy (Tb tcs)
set_option linter.unusedVariables false
section
variable {H:Type} {enc:TypeId×Value→H} {w:World} {base:Nat} {sp:Nat→Bool} {held:Bool} {fuel:Nat} {d:DataW H} {p:List MemPlace}
theorem plain_addr {w:World} {a:Addr} {v:Value} (h:w.cell? a=some v):a.spot=none:=by
 unfold World.cell? at h
 split at h<;>simp_all
theorem kk3:Tryz.prog.cellsOf 3=1:=by kernel_rfl
theorem config_cells {v:Array Value} (hsz:v.size=3) (h:DataW.trod enc Tryz.prog w base sp held fuel 23 v.toList=some (d,p)):∃a b c:Int,v=#[.int .i64 a,.int .i64 b,.int .i64 c]:=by
 obtain⟨m0,d0,q0,e0⟩:=hstr_at Tryz.underlying23 h 0 _ rfl
 obtain⟨m1,d1,q1,e1⟩:=hstr_at Tryz.underlying23 h 1 _ rfl
 obtain⟨m2,d2,q2,e2⟩:=hstr_at Tryz.underlying23 h 2 _ rfl
 have e0':DataW.trod enc Tryz.prog w base sp held m0 3 ((v.toList.drop 0).take 1)=some (d0,q0):=by rw[←kk3];exact e0
 have e1':DataW.trod enc Tryz.prog w base sp held m1 3 ((v.toList.drop 1).take 1)=some (d1,q1):=by rw[←kk3];exact e1
 have e2':DataW.trod enc Tryz.prog w base sp held m2 3 ((v.toList.drop 2).take 1)=some (d2,q2):=by rw[←kk3];exact e2
 obtain⟨a,c0,_⟩:=hint_at Tryz.underlying3 e0'
 obtain⟨b,c1,_⟩:=hint_at Tryz.underlying3 e1'
 obtain⟨c,c2,_⟩:=hint_at Tryz.underlying3 e2'
 refine⟨a,b,c,Array.ext_getElem? fun i=>?_⟩
 by_cases hi:i<3
 ·rcases(by omega:i=0∨i=1∨i=2)with rfl|rfl|rfl
  ·have:v[0]?=some (.int .i64 a):=by simpa using c0
   rw[this];rfl
  ·have:v[1]?=some (.int .i64 b):=by simpa using c1
   rw[this];rfl
  ·have:v[2]?=some (.int .i64 c):=by simpa using c2
   rw[this];rfl
 ·rw[Array.getElem?_eq_none (by omega),Array.getElem?_eq_none (by simp;omega)]
theorem bytes_lc {a:Option Addr} {n c:Nat} (h:DataW.trod enc Tryz.prog w base sp true fuel 28 [.slice a n c]=some (d,p)):
  (n=0∨∃xs ys,d=.slice xs ys∧n≤xs.length)∧∃f:Nat→Int,LC w a n c 1 (bcs f n)∧(∀i,i<n→0≤f i∧f i≤255):=by
 rcases open_ints Tryz.underlying28 Tryz.underlying5 (by kernel_rfl) h with⟨hcs,_⟩|⟨x,l,k,zs,hcs,_,hl,hm,hz,hd,hcell,hwz⟩
 ·simp at hcs
  obtain⟨rfl,rfl,rfl⟩:=hcs
  exact⟨.inl rfl,fun _=>0,lc_none _ _,fun i hi=>absurd hi (by omega)⟩
 ·simp at hcs
  obtain⟨rfl,rfl,rfl⟩:=hcs
  have hzl:n≤zs.length:=by rw[hz];split<;>omega
  refine⟨.inr ⟨_,_,congrArg Prod.fst hd,by simp[lits];omega⟩,fun i=>zs.getD i 0,⟨by simp[bcs],hl,hm,fun h=>(nomatch h),fun u hu=>?_,fun y hy h0=>?_⟩,fun i hi=>?_⟩
  ·simp[bcs]at hu
   obtain⟨i,_,rfl⟩:=hu
   rfl
  ·obtain rfl:=Option.some.inj hy
   have hsp:=plain_addr (hcell 0 (by omega))
   obtain⟨b,o,s⟩:=x
   cases s with
   |some q=>simp[Addr.add]at hsp
   |none=>
    refine⟨b,o,rfl,World.block_lt_of_cell? _ _ (show w.cell? ⟨b,o+0,none⟩=some _ by have:=hcell 0 (by omega);rwa [Addr.add_lit]at this),fun j u hj=>?_⟩
    have hjn:j<n:=by have:=(List.getElem?_eq_some_iff.1 hj).1;simpa[bcs]using this
    rw[bcs_get hjn]at hj
    have:=hcell j (by omega)
    rw[Addr.add_lit]at this
    rw[this,←hj]
  ·have hw:(Lit.int .u8 (zs.getD i 0)).wf=true:=by
    rw[List.getD_eq_getElem?_getD,List.getElem?_eq_getElem (by omega)]
    exact hwz _ (List.getElem_mem _)
   have e1:IntKind.u8.min=0:=rfl
   have e2:IntKind.u8.max=255:=rfl
   simp only[Lit.wf,Bool.and_eq_true,decide_eq_true_eq]at hw
   show 0≤zs.getD i 0∧zs.getD i 0≤255
   omega
theorem ints_lc {a:Option Addr} {n c:Nat} (h:DataW.trod enc Tryz.prog w base sp true fuel 29 [.slice a n c]=some (d,p)):
  (n=0∨∃xs ys,d=.slice xs ys∧n≤xs.length)∧∃l:List Int,l.length=n∧LC w a n c 1 (ics l):=by
 rcases open_ints Tryz.underlying29 Tryz.underlying3 (by kernel_rfl) h with⟨hcs,_⟩|⟨x,l,k,zs,hcs,_,hl,hm,hz,hd,hcell,hwz⟩
 ·simp at hcs
  obtain⟨rfl,rfl,rfl⟩:=hcs
  exact⟨.inl rfl,[],rfl,lc_none _ _⟩
 ·simp at hcs
  obtain⟨rfl,rfl,rfl⟩:=hcs
  have hzl:n≤zs.length:=by rw[hz];split<;>omega
  have hlen:(zs.take n).length=n:=by simp;omega
  refine⟨.inr ⟨_,_,congrArg Prod.fst hd,by simp[lits];omega⟩,zs.take n,hlen,⟨by rw[ics_len,hlen],hl,hm,fun h=>(nomatch h),fun u hu=>?_,fun y hy h0=>?_⟩⟩
  ·simp only[ics,List.mem_map]at hu
   obtain⟨i,_,rfl⟩:=hu
   rfl
  ·obtain rfl:=Option.some.inj hy
   have hsp:=plain_addr (hcell 0 (by omega))
   obtain⟨b,o,s⟩:=x
   cases s with
   |some q=>simp[Addr.add]at hsp
   |none=>
    refine⟨b,o,rfl,World.block_lt_of_cell? _ _ (show w.cell? ⟨b,o+0,none⟩=some _ by have:=hcell 0 (by omega);rwa [Addr.add_lit]at this),fun j u hj=>?_⟩
    have hjn:j<n:=by have:=(List.getElem?_eq_some_iff.1 hj).1;rw[ics_len,hlen]at this;omega
    have:=hcell j (by omega)
    rw[Addr.add_lit]at this
    rw[this,←hj]
    simp[ics,hjn,List.getD,List.getElem?_eq_getElem (show j<zs.length by omega)]
end
end Go.Proofs.YtpiohehijkpghacGreatDoor.Co
