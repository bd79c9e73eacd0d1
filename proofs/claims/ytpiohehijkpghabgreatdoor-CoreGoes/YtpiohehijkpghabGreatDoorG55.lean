/- A core's arguments of a law. -/
import Derived.SizedLaws
import Derived.ChangeSlices
import Derived.Test.YtpiohehijkpghabGreatDoorG54
set_option maxRecDepth 100000
namespace Go.Proofs.YtpiohehijkpghabGreatDoor.Co
open Go.ChangeShapes Go.WideShapes Go.ChangeAt Go.RowKit
open Hy
open Wi Od Re.Hy
open Gu.Hy (Tb tcs)
set_option linter.unusedVariables false
section
variable {H:Type} {enc:TypeId×Value→H} {w:World} {base:Nat} {sp:Nat→Bool} {held:Bool} {fuel:Nat} {d:DataW H} {p:List MemPlace}
theorem plain_addr {w:World} {a:Addr} {v:Value} (h:w.cell? a=some v):a.spot=none:=by
 unfold World.cell? at h
 split at h<;>simp_all
theorem kk3:Tryz.prog.cellsOf 3=1:=by kernel_rfl
theorem config_cells {v:Array Value} (hsz:v.size=3) (h:DataW.trod enc Tryz.prog w base sp held fuel 23 v.toList=some (d,p)):∃a b c:Int,v=#[.int .i64 a,.int .i64 b,.int .i64 c]:=by
 obtain⟨m0,d0,q0,e0⟩:=hstr_at Tryz.underlying23 h 0 _ rfl
 obtain⟨m1,d1,q1,e1⟩:=hstr_at Tryz.underlying23 h 1 _ rfl
 obtain⟨m2,d2,q2,e2⟩:=hstr_at Tryz.underlying23 h 2 _ rfl
 have e0':DataW.trod enc Tryz.prog w base sp held m0 3 ((v.toList.drop 0).take 1)=some (d0,q0):=by rw[←kk3];exact e0
 have e1':DataW.trod enc Tryz.prog w base sp held m1 3 ((v.toList.drop 1).take 1)=some (d1,q1):=by rw[←kk3];exact e1
 have e2':DataW.trod enc Tryz.prog w base sp held m2 3 ((v.toList.drop 2).take 1)=some (d2,q2):=by rw[←kk3];exact e2
 obtain⟨a,c0,_⟩:=hint_at Tryz.underlying3 e0'
 obtain⟨b,c1,_⟩:=hint_at Tryz.underlying3 e1'
 obtain⟨c,c2,_⟩:=hint_at Tryz.underlying3 e2'
 refine⟨a,b,c,Array.ext_getElem? fun i=>?_⟩
 by_cases hi:i<3
 ·rcases(by omega:i=0∨i=1∨i=2)with rfl|rfl|rfl
  ·have:v[0]?=some (.int .i64 a):=by simpa using c0
   rw[this];rfl
  ·have:v[1]?=some (.int .i64 b):=by simpa using c1
   rw[this];rfl
  ·have:v[2]?=some (.int .i64 c):=by simpa using c2
   rw[this];rfl
 ·rw[Array.getElem?_eq_none (by omega),Array.getElem?_eq_none (by simp;omega)]
theorem bytes_lc {a:Option Addr} {n c:Nat} (h:DataW.trod enc Tryz.prog w base sp true fuel 28 [.slice a n c]=some (d,p)):
  (n=0∨∃xs ys,d=.slice xs ys∧n≤xs.length)∧∃f:Nat→Int,LC w a n c 1 (bcs f n)∧(∀i,i<n→0≤f i∧f i≤255):=by
 rcases open_ints Tryz.underlying28 Tryz.underlying5 (by kernel_rfl) h with⟨hcs,_⟩|⟨x,l,k,zs,hcs,_,hl,hm,hz,hd,hcell,hwz⟩
 ·simp at hcs
  obtain⟨rfl,rfl,rfl⟩:=hcs
  exact⟨.inl rfl,fun _=>0,lc_none _ _,fun i hi=>absurd hi (by omega)⟩
 ·simp at hcs
  obtain⟨rfl,rfl,rfl⟩:=hcs
  have hzl:n≤zs.length:=by rw[hz];split<;>omega
  refine⟨.inr ⟨_,_,congrArg Prod.fst hd,by simp[lits];omega⟩,fun i=>zs.getD i 0,⟨by simp[bcs],hl,hm,fun h=>(nomatch h),fun u hu=>?_,fun y hy h0=>?_⟩,fun i hi=>?_⟩
  ·simp[bcs]at hu
   obtain⟨i,_,rfl⟩:=hu
   rfl
  ·obtain rfl:=Option.some.inj hy
   have hsp:=plain_addr (hcell 0 (by omega))
   obtain⟨b,o,s⟩:=x
   cases s with
   |some q=>simp[Addr.add]at hsp
   |none=>
    refine⟨b,o,rfl,World.block_lt_of_cell? _ _ (show w.cell? ⟨b,o+0,none⟩=some _ by have:=hcell 0 (by omega);rwa [Addr.add_lit]at this),fun j u hj=>?_⟩
    have hjn:j<n:=by have:=(List.getElem?_eq_some_iff.1 hj).1;simpa[bcs]using this
    rw[bcs_get hjn]at hj
    have:=hcell j (by omega)
    rw[Addr.add_lit]at this
    rw[this,←hj]
  ·have hw:(Lit.int .u8 (zs.getD i 0)).wf=true:=by
    rw[List.getD_eq_getElem?_getD,List.getElem?_eq_getElem (by omega)]
    exact hwz _ (List.getElem_mem _)
   have e1:IntKind.u8.min=0:=rfl
   have e2:IntKind.u8.max=255:=rfl
   simp only[Lit.wf,Bool.and_eq_true,decide_eq_true_eq]at hw
   show 0≤zs.getD i 0∧zs.getD i 0≤255
   omega
theorem ints_lc {a:Option Addr} {n c:Nat} (h:DataW.trod enc Tryz.prog w base sp true fuel 29 [.slice a n c]=some (d,p)):
  (n=0∨∃xs ys,d=.slice xs ys∧n≤xs.length)∧∃l:List Int,l.length=n∧LC w a n c 1 (ics l):=by
 rcases open_ints Tryz.underlying29 Tryz.underlying3 (by kernel_rfl) h with⟨hcs,_⟩|⟨x,l,k,zs,hcs,_,hl,hm,hz,hd,hcell,hwz⟩
 ·simp at hcs
  obtain⟨rfl,rfl,rfl⟩:=hcs
  exact⟨.inl rfl,[],rfl,lc_none _ _⟩
 ·simp at hcs
  obtain⟨rfl,rfl,rfl⟩:=hcs
  have hzl:n≤zs.length:=by rw[hz];split<;>omega
  have hlen:(zs.take n).length=n:=by simp;omega
  refine⟨.inr ⟨_,_,congrArg Prod.fst hd,by simp[lits];omega⟩,zs.take n,hlen,⟨by rw[ics_len,hlen],hl,hm,fun h=>(nomatch h),fun u hu=>?_,fun y hy h0=>?_⟩⟩
  ·simp only[ics,List.mem_map]at hu
   obtain⟨i,_,rfl⟩:=hu
   rfl
  ·obtain rfl:=Option.some.inj hy
   have hsp:=plain_addr (hcell 0 (by omega))
   obtain⟨b,o,s⟩:=x
   cases s with
   |some q=>simp[Addr.add]at hsp
   |none=>
    refine⟨b,o,rfl,World.block_lt_of_cell? _ _ (show w.cell? ⟨b,o+0,none⟩=some _ by have:=hcell 0 (by omega);rwa [Addr.add_lit]at this),fun j u hj=>?_⟩
    have hjn:j<n:=by have:=(List.getElem?_eq_some_iff.1 hj).1;rw[ics_len,hlen]at this;omega
    have:=hcell j (by omega)
    rw[Addr.add_lit]at this
    rw[this,←hj]
    simp[ics,hjn,List.getD,List.getElem?_eq_getElem (show j<zs.length by omega)]
end
theorem coreGoes_all (win phys wide:Int) (R:Nat→Int) (pc st ca:Int) (mp:Option Addr) (n mc:Nat) (sp:Option Addr) (sn sc:Nat) (cyc:Int) (w:World) (tb:Tab w) (tb2:Tab2 w) (hR:∀i,i<32→U32 (R i)) (hpc:U32 pc) (f:Nat→Int) (hM:LC w mp n mc 1 (bcs f n)) (hf:∀i,i<n→0≤f i∧f i≤255) (scr:List Int) (hscr:scr.length=sn) (hS:LC w sp sn sc 1 (ics scr)) (hn:n≤140737488355328) (hsn:sn≤140737488355328):
  Calls Tryz.prog 4 #[.agg #[.int .i64 win,.int .i64 phys,.int .i64 wide],hv R pc st ca,.slice mp n mc,.slice sp sn sc,.int .i64 cyc] w fun e w'=>e=.returned (.bool true)∧Below w.heap.size w w':=by
 show Calls Tryz.prog 4 #[.agg #[.int .i64 win,.int .i64 phys,.int .i64 wide],.agg (hcs R pc st ca),.slice mp n mc,.slice sp sn sc,.int .i64 cyc] w _
 have CM:=fun W=>hMay_any (hcs R pc st ca) (R 0) st ca rfl rfl rfl W
 have CQ:=fun W=>qMayH_any (hcs R pc st ca) (R 0) st ca rfl rfl rfl W
 obtain⟨hm,hhm⟩:∃b,b=(R 0==0&&(((st==0||st==1)&&ca==0)||(st==2&&decide (1≤ca)&&decide (ca≤6)))):=⟨_,rfl⟩
 rw[←hhm]at CM CQ
 clear hhm
 have HH:Hid ((Tryz.prog.info? 27).map (·.size)=some (hcs R pc st ca).size):=size_hart
 by_cases hw:wrongN (mayC win phys wide) hm n sn cyc=0
 ·have hC:=hw
  unfold wrongN at hC
  have hw1:mayC win phys wide=true:=by
   cases hx:mayC win phys wide with
   |true=>rfl
   |false=>rw[if_pos (.inl hx)]at hC;omega
  have hcy:0≤cyc∧cyc≤6000:=Classical.byContradiction fun h=>by
   split at hC
   ·omega
   ·split at hC
    ·omega
    ·first|omega|(rw[if_pos h]at hC;omega)
  have hmy:(1≤win∧win≤32)∧(33≤phys∧phys≤96)∧(1≤wide∧wide≤4):=by
   have:=hw1
   unfold mayC at this
   simp at this
   omega
  obtain⟨g0,g1,g2,_,g4,g5⟩:=goes_facts win phys wide n R pc st ca f scr cyc hcy.1 hcy.2 hmy.1.1 hmy.2.1.1 hmy.2.1.2 hmy.2.2.1
  refine coreGoes_yes win phys wide (hcs R pc st ca) hm HH CM mp n mc sp sn sc cyc hn hsn w CQ (runN mach cyc.toNat (begin win phys wide n R pc st ca f scr)) hw (fun W hW=>?_) hmy.2.2 g0 g1 hcy.2 g2 g4 g5
  refine(cRun_ok win phys wide (hcs R pc st ca) hm HH CM mp n mc sp sn sc cyc hn hsn W R pc st ca (hcs_row R pc st ca) hw (tb.below hW tb.size) (tb2.below hW tb2.size) hR hpc f (hM.below (Nat.le_refl _) hW) hf scr hscr (hS.below (Nat.le_refl _) hW)).mono ?_
  rintro e w' ⟨⟨L,rfl,hU,hMm,hG⟩,hB⟩
  obtain⟨p,c,hLc⟩:=hU.slice
  refine⟨⟨_,p,c,rfl,rowOf_size _ _,?_,?_,?_,?_⟩,hB⟩
  ·refine row_ones _ _ fun i hi=>?_
   show(kat _ L (3+i)).oneCell'=true
   by_cases h0:i=0
   ·subst h0
    exact us_one hU
   ·by_cases h1:i<36
    ·rw[show 3+i=4+(i-1) by omega,at_hart _ L (i-1) (by omega)]
     exact hat_one _ _ _ _ _
    ·rcases(by omega:i=36∨i=37∨i=38∨i=39)with rfl|rfl|rfl|rfl
     ·obtain⟨p',c',e,_⟩:=hMm
      show L.m.oneCell'=true
      rw[e];rfl
     ·rfl
     ·rfl
     ·rfl
  ·rw[rowOf_get _ (by omega)]
   show some L.c=_
   rw[hLc]
  ·rw[rowOf_get _ (by omega)];rfl
  ·rw[rowOf_get _ (by omega)];rfl
 ·exact coreGoes_no win phys wide (hcs R pc st ca) hm HH CM mp n mc sp sn sc cyc hn hsn w CQ hw
end Go.Proofs.YtpiohehijkpghabGreatDoor.Co
