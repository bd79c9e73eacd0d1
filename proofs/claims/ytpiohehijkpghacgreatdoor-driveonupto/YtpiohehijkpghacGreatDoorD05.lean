/- What gathering bytes comes to: the number that they are, the lowest one first. -/
import Derived.Deep.RegionHeld
import Derived.OpenShut
import Derived.Test.YtpiohehijkpghacGreatDoorRows
import Derived.WalkSpells
import Derived.WalkLawsBesides
open Array renaming setIfInBounds_comm->Ae,getElem?_eq_none->Ah
open Go.Ending renaming returned->Ak
open Go.IntKind renaming signed->Al,wrap->Ao,bits->Ap
open Go.Oper renaming wp->An
open Go.Region renaming ready->Aa,noSelect->Ab,free->Ac,binds->Ad,wanted->Ag
open Go.Value renaming int->Aq
open Int renaming eq_ofNat_of_zero_le->Af,toNat_natCast->Aj
open List renaming mem_cons->Am
open Nat renaming pow_le_pow_right->Ai
set_option maxHeartbeats 1000000
set_option linter.unusedSimpArgs false
set_option linter.unusedVariables false
open Go.Proofs.Tryz
namespace Go.Proofs.YtpiohehijkpghacGreatDoor.Co
open Go
section
variable {P:Program} {ops:Array Oper} {Q:Exit->Act->World->Prop} {md:Region.Mode} {S:World->Prop} {T:List Nat}
def qu(T:List Nat)(listed:Array Bool):Bool:=T.all fun j=>!listed.getD j true
def zaM(md:Region.Mode)(ops:Array Oper)(T:List Nat)(i:Nat):Bool:=T.all fun j=>match ops[j]? with
 |some oj=>oj.after.any fun e=>Ad md e&&e.on==i
 |none=>false
def zJ(P:Program)(md:Region.Mode)(ops:Array Oper)(Q:Exit->Act->World->Prop)(S:World->Prop)(T:List Nat):Nat->Array Bool->Act->World->Prop
 |0,listed,a,w=>Aa md ops listed=[]/\Q .normal a w
 |fuel+1,listed,a,w=>(Aa md ops listed=[]->Q .normal a w)/\
  ∀i∈Aa md ops listed,wpOp P ops Q i (fun a' w'=>(qu T (listed.setIfInBounds i true)=true->S w')/\zJ P md ops Q S T fuel (listed.setIfInBounds i true) a' w') a w
theorem zai:∀(fuel:Nat) (listed:Array Bool) (a:Act) (w:World),zJ P md ops Q S T fuel listed a w->wpAny P md ops Q fuel listed a w
 |0,_,_,_,h=>h
 |fuel+1,_,_,_,h=>⟨h.1,fun i hi=>wpOp_mono (fun a' w' h'=>zai fuel _ a' w' h'.2) (h.2 i hi)⟩
theorem zaj{listed:Array Bool}:qu T listed=true↔∀j∈T,listed.getD j true=false:=by
 unfold qu
 rw[List.all_eq_true]
 simp
theorem xm{listed:Array Bool}{i:Nat}(hi:i∉T)(h:qu T listed=true):qu T (listed.setIfInBounds i true)=true:=by
 rw[zaj]at*
 intro j hj
 have e:i≠j:=fun e=>hi (e▸hj)
 rw[getD_set_ne true e]
 exact h j hj
theorem zak{listed:Array Bool}{i:Nat}(h:qu T (listed.setIfInBounds i true)=true):qu T listed=true:=by
 rw[zaj]at*
 intro j hj
 have:=h j hj
 by_cases e:i=j
 ·subst e
  rcases Nat.lt_or_ge i listed.size with h'|h'
  ·simp[h']at this
  ·simp[Ah h']at this
 ·rw[getD_set_ne true e]at this
  exact this
theorem zka{i j:Nat}{listed:Array Bool}{oj:Oper}(hr:i∈Aa md ops listed)(hall:∀e∈oj.after,Ad md e=true->listed.getD e.on false=true):∀e∈oj.after,Ad md e=true->e.on≠i:=fun e he hb heq=>by
 have h1:=hall e he hb
 have h0:=(mem_ready.1 hr).1
 rw[heq]at h1
 rcases Nat.lt_or_ge i listed.size with h'|h'
 ·simp[h']at h0 h1;rw[h0]at h1;cases h1
 ·simp[Ah h']at h1
theorem zcH{i:Nat}{oi:Oper}{v:Value}(hi:ops[i]?=some oi)(hsel:∀(j:Nat) (o:Oper) cs b,ops[j]?=some o->o.op≠.select cs b)
  (hQ:∀c a w,Q (.panic c) (a.put oi.dst v) w->Q (.panic c) a w) (hiT:i∉T) (hwait:∀j∈T,∃oj,ops[j]?=some oj/\∃e∈oj.after,Ad md e=true/\e.on=i):
  ∀(fuel:Nat) (listed:Array Bool) (a:Act) (w:World),
   (∀j oj,ops[j]?=some oj->j≠i->listed.getD j true=false->(∀e∈oj.after,Ad md e=true->e.on≠i)->oi.apart ops oj=true)->
   i∈Aa md ops listed->YieldsIf P ops S oi v a->S w->qu T listed=true->
   zJ P md ops Q S T fuel (listed.setIfInBounds i true) (a.put oi.dst v) w->zJ P md ops Q S T (fuel+1) listed a w:=by
 intro fuel
 induction fuel with
 |zero=>
  intro listed a w _ hr hy hS hN H
  refine⟨fun h=>(by rw[h]at hr;cases hr),fun j hj=>?_⟩
  by_cases hji:j=i
  ·subst hji
   exact hy.wpOp hi hS ⟨fun _=>hS,H⟩
  ·have:=ready_mono hj hji
   rw[H.1]at this
   cases this
 |succ fuel ih=>
  intro listed a w hfree hr hy hS hN H
  refine⟨fun h=>(by rw[h]at hr;cases hr),fun j hj=>?_⟩
  by_cases hji:j=i
  ·subst hji
   exact hy.wpOp hi hS ⟨fun _=>hS,H⟩
  ·have h1:=H.2 j (ready_mono hj hji)
   obtain⟨hjun,oj,hoj,hall⟩:=mem_ready.1 hj
   have hnot:=zka (j:=j) hr hall
   have hjT:j∉T:=fun hjT=>by
    obtain⟨oj',ho',e,he,hb,heq⟩:=hwait j hjT
    rw[hoj]at ho'
    cases ho'
    exact hnot e he hb heq
   have h2:=wpOp_putIf hoj (hfree j oj hoj hji hjun hnot) (fun cs b=>hsel i oi cs b hi) (fun cs b=>hsel j oj cs b hoj) hQ hy h1
   have hfree':∀k ok,ops[k]?=some ok->k≠i->(listed.setIfInBounds j true).getD k true=false->
     (∀e∈ok.after,Ad md e=true->e.on≠i)->oi.apart ops ok=true:=fun k ok hk hki hun hno=>by
    refine hfree k ok hk hki ?_ hno
    by_cases hjk:j=k
    ·subst hjk;exact hjun
    ·rw[getD_set_ne true hjk]at hun;exact hun
   have hNj:qu T (listed.setIfInBounds j true)=true:=xm hjT hN
   have hNi:qu T ((listed.setIfInBounds i true).setIfInBounds j true)=true:=xm hjT (xm hiT hN)
   refine wpOp_mono (fun a' w' h3=>⟨fun _=>h3.2.1 hNi,ih (listed.setIfInBounds j true) a' w' hfree' (ready_mono hr (Ne.symm hji)) h3.1 (h3.2.1 hNi) hNj ?_⟩) h2
   rw[Ae _ _ hji]
   exact h3.2.2
theorem zcI{i:Nat}{oi:Oper}{v:Value}(hi:ops[i]?=some oi)(hsel:∀(j:Nat) (o:Oper) cs b,ops[j]?=some o->o.op≠.select cs b)
  (hQ:∀c a w,Q (.panic c) (a.put oi.dst v) w->Q (.panic c) a w) (hiT:i∉T):
  ∀(fuel:Nat) (listed:Array Bool) (a:Act) (w:World),
   (∀j oj,ops[j]?=some oj->j≠i->listed.getD j true=false->(∀e∈oj.after,Ad md e=true->e.on≠i)->oi.apart ops oj=true)->
   i∈Aa md ops listed->YieldsIf P ops (fun _=>True) oi v a->(qu T listed=true->S w)->
   zJ P md ops Q S T fuel (listed.setIfInBounds i true) (a.put oi.dst v) w->zJ P md ops Q S T (fuel+1) listed a w:=by
 intro fuel
 induction fuel with
 |zero=>
  intro listed a w _ hr hy hS H
  refine⟨fun h=>(by rw[h]at hr;cases hr),fun j hj=>?_⟩
  by_cases hji:j=i
  ·subst hji
   exact hy.wpOp hi trivial ⟨fun h=>hS (zak h),H⟩
  ·have:=ready_mono hj hji
   rw[H.1]at this
   cases this
 |succ fuel ih=>
  intro listed a w hfree hr hy hS H
  refine⟨fun h=>(by rw[h]at hr;cases hr),fun j hj=>?_⟩
  by_cases hji:j=i
  ·subst hji
   exact hy.wpOp hi trivial ⟨fun h=>hS (zak h),H⟩
  ·have h1:=H.2 j (ready_mono hj hji)
   obtain⟨hjun,oj,hoj,hall⟩:=mem_ready.1 hj
   have hnot:=zka (j:=j) hr hall
   have h2:=wpOp_putIf hoj (hfree j oj hoj hji hjun hnot) (fun cs b=>hsel i oi cs b hi) (fun cs b=>hsel j oj cs b hoj) hQ hy h1
   have hfree':∀k ok,ops[k]?=some ok->k≠i->(listed.setIfInBounds j true).getD k true=false->
     (∀e∈ok.after,Ad md e=true->e.on≠i)->oi.apart ops ok=true:=fun k ok hk hki hun hno=>by
    refine hfree k ok hk hki ?_ hno
    by_cases hjk:j=k
    ·subst hjk;exact hjun
    ·rw[getD_set_ne true hjk]at hun;exact hun
   have hc:∀w',(qu T ((listed.setIfInBounds i true).setIfInBounds j true)=true->S w')->qu T (listed.setIfInBounds j true)=true->S w':=fun w' h hn=>h (by
    rw[Ae _ _ (Ne.symm hji)]
    exact xm hiT hn)
   refine wpOp_mono (fun a' w' h3=>⟨hc w' h3.2.1,ih (listed.setIfInBounds j true) a' w' hfree' (ready_mono hr (Ne.symm hji)) h3.1 (hc w' h3.2.1) ?_⟩) h2
   rw[Ae _ _ hji]
   exact h3.2.2
theorem zkV{i:Nat}{oi:Oper}{v:Value}{fuel:Nat}{listed:Array Bool}{a:Act}{w:World}(hi:ops[i]?=some oi)
  (hs:Ab ops=true) (hf:Ac md ops listed i=true) (hr:(Aa md ops listed).contains i=true) (hT:(T.contains i||!zaM md ops T i||!qu T listed)=false)
  (hQ:∀c a w,Q (.panic c) (a.put oi.dst v) w->Q (.panic c) a w) (hy:YieldsIf P ops S oi v a) (hS:S w)
  (h:zJ P md ops Q S T fuel (listed.setIfInBounds i true) (a.put oi.dst v) w):zJ P md ops Q S T (fuel+1) listed a w:=by
 simp only[Bool.or_eq_false_iff,Bool.not_eq_false']at hT
 obtain⟨⟨h1,h2⟩,h3⟩:=hT
 refine zcH hi (Region.noSelect_spec hs) hQ (by simpa using h1) (fun j hj=>?_) fuel listed a w (Region.free_spec hi hf) (by simpa using hr) hy hS h3 h
 have:=(List.all_eq_true.1 h2) j hj
 cases e:ops[j]? with
 |none=>rw[e]at this;cases this
 |some oj=>
  rw[e]at this
  simp only[Array.any_eq_true,Bool.and_eq_true,beq_iff_eq]at this
  obtain⟨k,hk,hb,ho⟩:=this
  exact⟨oj,rfl,_,Array.getElem_mem hk,hb,ho⟩
theorem zkW{i:Nat}{oi:Oper}{v:Value}{fuel:Nat}{listed:Array Bool}{a:Act}{w:World}(hi:ops[i]?=some oi)
  (hs:Ab ops=true) (hf:Ac md ops listed i=true) (hr:(Aa md ops listed).contains i=true) (hT:T.contains i=false)
  (hQ:∀c a w,Q (.panic c) (a.put oi.dst v) w->Q (.panic c) a w) (hy:YieldsIf P ops (fun _=>True) oi v a) (hS:qu T listed=true->S w)
  (h:zJ P md ops Q S T fuel (listed.setIfInBounds i true) (a.put oi.dst v) w):zJ P md ops Q S T (fuel+1) listed a w:=
 zcI hi (Region.noSelect_spec hs) hQ (by simpa using hT) fuel listed a w (Region.free_spec hi hf) (by simpa using hr) hy hS h
def zi(P:Program)(md:Region.Mode)(ops:Array Oper)(Q:Exit->Act->World->Prop)(S:World->Prop)(T:List Nat)(fuel:Nat)(listed:Array Bool)(a:Act)(w:World)(rs:List Nat):Prop:=
 ∀i∈rs,wpOp P ops Q i (fun a' w'=>(qu T (listed.setIfInBounds i true)=true->S w')/\zJ P md ops Q S T fuel (listed.setIfInBounds i true) a' w') a w
theorem zi.nil{fuel:Nat}{listed:Array Bool}{a:Act}{w:World}:zi P md ops Q S T fuel listed a w []:=fun _ h=>by cases h
theorem zi.cons{fuel:Nat}{listed:Array Bool}{a:Act}{w:World}{i:Nat}{o:Oper}{rs:List Nat}(ho:ops[i]?=some o)
  (h:∀K':Act->World->Prop,Shut (∀a w,S w->(S w->zJ P md ops Q S T fuel (listed.setIfInBounds i true) a w)->K' a w)->if Ag o (yielded ops a.tmps)=true then An P o a w K' Q else K' (a.put o.dst undef) w)
  (hs:zi P md ops Q S T fuel listed a w rs):zi P md ops Q S T fuel listed a w (i::rs):=fun j hj=>by
 rcases Am.1 hj with rfl|hj
 ·exact wpOp_step ho (fun K' hK=>h K' (fun a w hS hW=>hK a w ⟨fun _=>hS,hW hS⟩))
 ·exact hs j hj
theorem zi.last{fuel:Nat}{listed:Array Bool}{a:Act}{w:World}{i:Nat}{o:Oper}{rs:List Nat}(ho:ops[i]?=some o)(hT:qu T (listed.setIfInBounds i true)=false)
  (h:∀K':Act->World->Prop,Shut (∀a w,zJ P md ops Q S T fuel (listed.setIfInBounds i true) a w->K' a w)->if Ag o (yielded ops a.tmps)=true then An P o a w K' Q else K' (a.put o.dst undef) w)
  (hs:zi P md ops Q S T fuel listed a w rs):zi P md ops Q S T fuel listed a w (i::rs):=fun j hj=>by
 rcases Am.1 hj with rfl|hj
 ·exact wpOp_step ho (fun K' hK=>h K' (fun a w hW=>hK a w ⟨fun hn=>(by rw[hT]at hn;cases hn),hW⟩))
 ·exact hs j hj
theorem zge{rs:List Nat}{fuel:Nat}{listed:Array Bool}{a:Act}{w:World}(hr:Aa md ops listed=rs)(hne:rs≠[])
  (h:zi P md ops Q S T fuel listed a w rs):zJ P md ops Q S T (fuel+1) listed a w:=⟨fun h0=>absurd (hr▸h0) hne,hr▸h⟩
theorem zE{listed:Array Bool}{a:Act}{w:World}(hr:Aa md ops listed=[])(h:Q .normal a w):∀fuel,zJ P md ops Q S T fuel listed a w
 |0=>⟨hr,h⟩
 |_+1=>⟨fun _=>h,by rw[hr];simp⟩
theorem zq{id:Nat}{a:Act}{w:World}(T:List Nat)(hm:P.follows .mixedOrders=true)(hS:S w.drew)
  (h:S w.drew->zJ P .any ops Q S T ops.size (Array.replicate ops.size false) a w.drew):(Code.region id ops true).wp P Q a w:=
 wp_region_any hm (zai _ _ _ _ (h hS))
end
end Go.Proofs.YtpiohehijkpghacGreatDoor.Co
namespace Go.Proofs.YtpiohehijkpghacGreatDoor.Co
open Go
section
variable {P:Program} {ops:Array Oper} {Q:Exit->Act->World->Prop} {md:Region.Mode} {S:World->Prop} {T:List Nat}
theorem tX(i:Nat)(v:Value){oi:Oper}{fuel:Nat}{listed:Array Bool}{a:Act}{w:World}(hi:ops[i]?=some oi)(hy:YieldsIf P ops (fun _=>True) oi v a)(hS:S w)(h:zJ P md ops Q S T fuel (listed.setIfInBounds i true) (a.put oi.dst v) w)
  (hs:Ab ops=true:=by kernel_rfl) (hf:Ac md ops listed i=true:=by kernel_rfl) (hr:(Aa md ops listed).contains i=true:=by kernel_rfl) (hT:T.contains i=false:=by kernel_rfl)
  (hQ:∀c a w,Q (.panic c) (a.put oi.dst v) w->Q (.panic c) a w:=by exact fun _ _ _ h=>h):zJ P md ops Q S T (fuel+1) listed a w:=zkW hi hs hf hr hT hQ hy (fun _=>hS) h
theorem tU(i:Nat)(v:Value){oi:Oper}{fuel:Nat}{listed:Array Bool}{a:Act}{w:World}(h:zJ P md ops Q S T fuel (listed.setIfInBounds i true) (a.put oi.dst v) w)
  (hi:ops[i]?=some oi:=by exact rfl) (hS:S w:=by exact hH) (hy:YieldsIf P ops (fun _=>True) oi v a:=by exact Or.inl ⟨by rfl,by intro wz hSw;clear hSw;go_simp⟩) (hs:Ab ops=true:=by kernel_rfl) (hf:Ac md ops listed i=true:=by kernel_rfl) (hr:(Aa md ops listed).contains i=true:=by kernel_rfl) (hT:T.contains i=false:=by kernel_rfl)
  (hQ:∀c a w,Q (.panic c) (a.put oi.dst v) w->Q (.panic c) a w:=by exact fun _ _ _ h=>h):zJ P md ops Q S T (fuel+1) listed a w:=zkW hi hs hf hr hT hQ hy (fun _=>hS) h
theorem tV(i:Nat)(v:Value){oi:Oper}{fuel:Nat}{listed:Array Bool}{a:Act}{w:World}(hi:ops[i]?=some oi)(hS:qu T listed=true->S w)(h:zJ P md ops Q S T fuel (listed.setIfInBounds i true) (a.put oi.dst v) w)
  (hy:YieldsIf P ops (fun _=>True) oi v a:=by exact Or.inl ⟨by rfl,by intro wz hSw;clear hSw;go_simp⟩) (hs:Ab ops=true:=by kernel_rfl) (hf:Ac md ops listed i=true:=by kernel_rfl) (hr:(Aa md ops listed).contains i=true:=by kernel_rfl) (hT:T.contains i=false:=by kernel_rfl)
  (hQ:∀c a w,Q (.panic c) (a.put oi.dst v) w->Q (.panic c) a w:=by exact fun _ _ _ h=>h):zJ P md ops Q S T (fuel+1) listed a w:=zkW hi hs hf hr hT hQ hy hS h
theorem tS(i:Nat)(v:Value){oi:Oper}{fuel:Nat}{listed:Array Bool}{a:Act}{w:World}(hi:ops[i]?=some oi)(hy:YieldsIf P ops S oi v a)(hS:S w)(h:zJ P md ops Q S T fuel (listed.setIfInBounds i true) (a.put oi.dst v) w)
  (hs:Ab ops=true:=by kernel_rfl) (hf:Ac md ops listed i=true:=by kernel_rfl) (hr:(Aa md ops listed).contains i=true:=by kernel_rfl) (hT:(T.contains i||!zaM md ops T i||!qu T listed)=false:=by kernel_rfl)
  (hQ:∀c a w,Q (.panic c) (a.put oi.dst v) w->Q (.panic c) a w:=by exact fun _ _ _ h=>h):zJ P md ops Q S T (fuel+1) listed a w:=zkV hi hs hf hr hT hQ hy hS h
theorem tH(i:Nat)(v:Value){oi:Oper}{fuel:Nat}{listed:Array Bool}{a:Act}{w:World}(hi:ops[i]?=some oi)(hy:YieldsIf P ops S oi v a)(hS:S w)(h:wpAnyH P md ops Q S fuel (listed.setIfInBounds i true) (a.put oi.dst v) w)
  (hs:Ab ops=true:=by kernel_rfl) (hf:Ac md ops listed i=true:=by kernel_rfl) (hr:(Aa md ops listed).contains i=true:=by kernel_rfl)
  (hQ:∀c a w,Q (.panic c) (a.put oi.dst v) w->Q (.panic c) a w:=by exact fun _ _ _ h=>h):wpAnyH P md ops Q S (fuel+1) listed a w:=wpAnyH_take hi hs hf hr hQ hy hS h
theorem tI(i:Nat)(v:Value){oi:Oper}{fuel:Nat}{listed:Array Bool}{a:Act}{w:World}(h:wpAnyH P md ops Q S fuel (listed.setIfInBounds i true) (a.put oi.dst v) w)
  (hi:ops[i]?=some oi:=by exact rfl) (hS:S w:=by exact hH) (hy:YieldsIf P ops S oi v a:=by exact Or.inl ⟨by rfl,by intro wz hSw;go_simp⟩) (hs:Ab ops=true:=by kernel_rfl) (hf:Ac md ops listed i=true:=by kernel_rfl) (hr:(Aa md ops listed).contains i=true:=by kernel_rfl)
  (hQ:∀c a w,Q (.panic c) (a.put oi.dst v) w->Q (.panic c) a w:=by exact fun _ _ _ h=>h):wpAnyH P md ops Q S (fuel+1) listed a w:=wpAnyH_take hi hs hf hr hQ hy hS h
theorem tN(i:Nat){oi:Oper}{fuel:Nat}{listed:Array Bool}{a:Act}{w:World}(h:wpAnyH P md ops Q S fuel (listed.setIfInBounds i true) (a.put oi.dst undef) w)
  (hi:ops[i]?=some oi:=by exact rfl) (hS:S w:=by exact hH) (hy:YieldsIf P ops S oi undef a:=by exact Or.inr ⟨by rfl,rfl⟩) (hs:Ab ops=true:=by kernel_rfl) (hf:Ac md ops listed i=true:=by kernel_rfl) (hr:(Aa md ops listed).contains i=true:=by kernel_rfl)
  (hQ:∀c a w,Q (.panic c) (a.put oi.dst undef) w->Q (.panic c) a w:=by exact fun _ _ _ h=>h):wpAnyH P md ops Q S (fuel+1) listed a w:=wpAnyH_take hi hs hf hr hQ hy hS h
theorem tA(i:Nat)(v:Value){oi:Oper}{fuel:Nat}{listed:Array Bool}{a:Act}{w:World}(h:zJ P md ops Q S T fuel (listed.setIfInBounds i true) (a.put oi.dst v) w)
  (hi:ops[i]?=some oi:=by exact rfl) (hS:S w:=by exact hH) (hy:YieldsIf P ops S oi v a:=by exact Or.inl ⟨by rfl,by intro wz hSw;have hc:=hSw.1;go_simp⟩) (hs:Ab ops=true:=by kernel_rfl) (hf:Ac md ops listed i=true:=by kernel_rfl) (hr:(Aa md ops listed).contains i=true:=by kernel_rfl) (hT:(T.contains i||!zaM md ops T i||!qu T listed)=false:=by kernel_rfl)
  (hQ:∀c a w,Q (.panic c) (a.put oi.dst v) w->Q (.panic c) a w:=by exact fun _ _ _ h=>h):zJ P md ops Q S T (fuel+1) listed a w:=zkV hi hs hf hr hT hQ hy hS h
theorem tB(i:Nat)(v:Value){oi:Oper}{fuel:Nat}{listed:Array Bool}{a:Act}{w:World}(h:zJ P md ops Q S T fuel (listed.setIfInBounds i true) (a.put oi.dst v) w)
  (hi:ops[i]?=some oi:=by exact rfl) (hS:S w:=by exact hH) (hy:YieldsIf P ops S oi v a:=by exact Or.inl ⟨by rfl,by intro wz hSw;have hc:=hSw.2;go_simp⟩) (hs:Ab ops=true:=by kernel_rfl) (hf:Ac md ops listed i=true:=by kernel_rfl) (hr:(Aa md ops listed).contains i=true:=by kernel_rfl) (hT:(T.contains i||!zaM md ops T i||!qu T listed)=false:=by kernel_rfl)
  (hQ:∀c a w,Q (.panic c) (a.put oi.dst v) w->Q (.panic c) a w:=by exact fun _ _ _ h=>h):zJ P md ops Q S T (fuel+1) listed a w:=zkV hi hs hf hr hT hQ hy hS h
theorem rZ(rs:List Nat){fuel:Nat}{listed:Array Bool}{a:Act}{w:World}(h:zi P md ops Q S T fuel listed a w rs)(hr:Aa md ops listed=rs:=by kernel_rfl)(hne:rs≠[]:=by simp):zJ P md ops Q S T (fuel+1) listed a w:=zge hr hne h
theorem zL(i:Nat){fuel:Nat}{listed:Array Bool}{a:Act}{w:World}{o:Oper}(ho:ops[i]?=some o)
  (h:∀K':Act->World->Prop,Shut (∀a w,zJ P md ops Q S T fuel (listed.setIfInBounds i true) a w->K' a w)->if Ag o (yielded ops a.tmps)=true then An P o a w K' Q else K' (a.put o.dst undef) w)
  (hr:Aa md ops listed=[i]:=by kernel_rfl) (hT:qu T (listed.setIfInBounds i true)=false:=by kernel_rfl):zJ P md ops Q S T (fuel+1) listed a w:=zge hr (by simp) (zi.last ho hT h zi.nil)
theorem zC(i:Nat){fuel:Nat}{listed:Array Bool}{a:Act}{w:World}{o:Oper}(ho:ops[i]?=some o)
  (h:∀K':Act->World->Prop,Shut (∀a w,S w->(S w->zJ P md ops Q S T fuel (listed.setIfInBounds i true) a w)->K' a w)->if Ag o (yielded ops a.tmps)=true then An P o a w K' Q else K' (a.put o.dst undef) w)
  (hr:Aa md ops listed=[i]:=by kernel_rfl):zJ P md ops Q S T (fuel+1) listed a w:=zge hr (by simp) (zi.cons ho h zi.nil)
end
end Go.Proofs.YtpiohehijkpghacGreatDoor.Co
namespace Go.Proofs.YtpiohehijkpghacGreatDoor.Hy
open Go.RowKit
def msk(n:Int):Int:=((2:Int)^n.toNat%4294967296-1)%4294967296
def beg(k:Nat):Int:=if k=0 then 1 else if k=1 then 4096 else 33554432
def tb(ps:Nat->Int):Nat->Int
 |0=>0
 |k+1=>bits .or .u32 (tb ps k) (ps k*beg k%4294967296)
def pc(x a m s:Int):Int:=bits .and .u32 (x/2^min a.toNat 32) (msk m)*2^min s.toNat 32%4294967296
def ib(c:Nat->Int)(x:Int):Nat->Int
 |0=>0
 |j+1=>bits .or .u32 (ib c x j) (pc x (c (5+3*j)) (c (6+3*j)) (c (7+3*j)))
def rim(c:Nat->Int)(x:Int):Int:=wrap32 (ib c x 4*2^(c 4).toNat%4294967296)/2^(c 4).toNat
def rrg(x d m:Int):Int:=wrap64 (bits .and .u32 (x/d) m)
def kfs:List Int:=[0,1,1,2,3,5,5,5,5,5,5,3,3,3,3,3,6,6,6,3,3,3,3,3,3,4,4,4,7,7,7,7,7,7,7,7,7,7,7,7,7,7,7,7,7,7,3,8,8]
def kbs:List Int:=[0,55,23,111,103,99,4195,16483,20579,24675,28771,3,4099,8195,16387,20483,35,4131,8227,19,8211,12307,16403,24595,28691,4115,20499,1073762323,51,1073741875,4147,8243,12339,16435,20531,1073762355,24627,28723,33554483,33558579,33562675,33566771,33570867,33574963,33579059,33583155,15,115,1048691]
def kf(n:Nat):Int:=kfs.getD n 0
def kb(n:Nat):Int:=kbs.getD n 0
def ftab:List Int:=[0,0,0,0,0,0,0,0,0,0,0,0,0,0,0,0,0,127,31,0,0,0,12,20,12,0,0,0,0,0,0,0,0,0,127,31,0,0,11,31,1,20,12,8,12,20,1,11,21,10,1,28799,31,31,0,20,20,12,0,0,0,0,0,0,0,0,0,0,4261441663,31,31,0,0,20,5,0,0,0,0,0,0,0,0,0,0,28799,0,31,31,19,31,1,12,7,1,11,25,6,5,8,4,1,28799,0,31,31,20,25,7,5,7,5,0,0,0,0,0,0,0,4261441663,31,31,31,0,0,0,0,0,0,0,0,0,0,0,0,0,4294967295,0,0,0,0,0,0,0,0,0,0,0,0,0,0,0,0]
def fm(f:Nat)(j:Nat):Int:=if j<17 then ftab.getD (f*17+j) 0 else 0
theorem ziA(f:Nat)(hf:f<9)(j:Nat)(hj:1<=j):0<=fm f j/\fm f j<=31:=by
 by_cases h:j<17
 ·have:∀f,f<9->∀j,j<17->1<=j->0<=fm f j/\fm f j<=31:=by decide
  exact this f hf j h hj
 ·simp[fm,h]
def kn(n:Nat):Nat:=(kf n).toNat
theorem zmV:∀n,n<49->kn n<9/\kf n=(kn n:Int)/\(1<=n->1<=kn n):=by decide
def hit(n:Nat)(x:Int):Bool:=bits .and .u32 x (fm (kn n) 0)==kb n
theorem zcJ(i j a b:Nat)(hij:i<=j)(ha:a%2^j<2^i)(hb:b<2^j)(hb0:b%2^i=0):a|||b=a+b:=by
 obtain⟨d,rfl⟩:∃d,j=i+d:=⟨j-i,by omega⟩
 have hp:0<2^i:=Nat.two_pow_pos i
 have hlo:a%2^(i+d)+2^(i+d)*(a/2^(i+d))=a:=Nat.mod_add_div _ _
 have e1:(2^(i+d)*(a/2^(i+d)))|||(a%2^(i+d))=2^(i+d)*(a/2^(i+d))+a%2^(i+d):=
  nat_join (i+d) _ _ (by simp) (Nat.mod_lt _ (Nat.two_pow_pos _))
 have e2:b|||(a%2^(i+d))=b+a%2^(i+d):=nat_join i _ _ hb0 ha
 have hlt:b+a%2^(i+d)<2^(i+d):=by
  have hb':b=2^i*(b/2^i):=by have:=Nat.mod_add_div b (2^i);omega
  have hq:b/2^i<2^d:=by
   rw[Nat.div_lt_iff_lt_mul hp,<-Nat.pow_add,Nat.add_comm];exact hb
  have:2^i*(b/2^i)+2^i<=2^i*2^d:=by
   rw[<-Nat.mul_succ];exact Nat.mul_le_mul_left _ hq
  rw[<-Nat.pow_add]at this
  omega
 have e3:(2^(i+d)*(a/2^(i+d)))|||(b+a%2^(i+d))=2^(i+d)*(a/2^(i+d))+(b+a%2^(i+d)):=
  nat_join (i+d) _ _ (by simp) hlt
 have e4:a|||b=(2^(i+d)*(a/2^(i+d))|||a%2^(i+d))|||b:=by rw[e1];congr 1;omega
 rw[e4,Nat.or_assoc,Nat.or_comm (a%_) b,e2,e3];omega
theorem qe(i j:Nat)(hij:i<=j)(P Q a b:Int)(hP:P=((2^i:Nat):Int))(hQ:Q=((2^j:Nat):Int))(a0:0<=a)(a1:a<4294967296)(ha:a%Q<P)(b0:0<=b)(b1:b<4294967296)(hb:b<Q)(hb0:b%P=0):
  bits .or .u32 a b=a+b:=by
 rw[u32_or a b a0 a1 b0 b1]
 obtain⟨n,rfl⟩:=Af a0
 obtain⟨m,rfl⟩:=Af b0
 subst hP hQ
 simp only[Aj]
 rw[zcJ i j n m hij (by exact_mod_cast ha) (by exact_mod_cast hb) (by exact_mod_cast hb0)]
 simp
theorem jG{a Q P:Int}(hi lo:Int)(h:a=hi*Q+lo)(l0:0<=lo)(l1:lo<P)(hPQ:P<=Q):a%Q<P:=by
 subst h
 rw[Int.add_comm,Int.add_mul_emod_self_right,Int.emod_eq_of_lt l0 (by omega)]
 exact l1
theorem yW(a:Int)(a0:0<=a)(a1:a<4294967296):bits .or .u32 a 0=a:=by
 rw[u32_or a 0 a0 a1 (by omega) (by omega)]
 simp;omega
theorem zdY(o:BinOp)(a b:Int):0<=bits o .u32 a b/\bits o .u32 a b<4294967296:=by
 have h:=bounds_u32 (wf_bits o .u32 a b)
 omega
theorem qz(o:BinOp)(a b:Int):bits .or .u32 (bits o .u32 a b) 0=bits o .u32 a b:=
 yW _ (zdY o a b).1 (zdY o a b).2
theorem jQ(k:Nat)(hk:k<=32)(m Q x:Int)(hm:m=((2^k-1:Nat):Int))(hQ:Q=((2^k:Nat):Int))(x0:0<=x)(x1:x<4294967296):bits .and .u32 x m=x%Q:=by
 subst hm hQ
 have hle:2^k<=2^32:=Ai (by omega) hk
 rw[u32_and x _ x0 x1 (by omega) (by omega)]
 obtain⟨n,rfl⟩:=Af x0
 simp only[Aj]
 rw[Nat.and_two_pow_sub_one_eq_mod]
 simp
theorem xn(x:Int)(x0:0<=x)(x1:x<4294967296):bits .and .u32 x 0=0:=by
 rw[u32_and x 0 x0 x1 (by omega) (by omega)];simp
theorem zgf(x:Int)(x0:0<=x)(x1:x<4294967296):bits .and .u32 x 31=x%32:=jQ 5 (by omega) _ _ x rfl rfl x0 x1
theorem and1(x:Int)(x0:0<=x)(x1:x<4294967296):bits .and .u32 x 1=x%2:=jQ 1 (by omega) _ _ x rfl rfl x0 x1
theorem zoI(x:Int)(x0:0<=x)(x1:x<4294967296):bits .and .u32 x 15=x%16:=jQ 4 (by omega) _ _ x rfl rfl x0 x1
theorem zoJ(x:Int)(x0:0<=x)(x1:x<4294967296):bits .and .u32 x 63=x%64:=jQ 6 (by omega) _ _ x rfl rfl x0 x1
theorem zmW(x:Int)(x0:0<=x)(x1:x<4294967296):bits .and .u32 x 127=x%128:=jQ 7 (by omega) _ _ x rfl rfl x0 x1
theorem zmX(x:Int)(x0:0<=x)(x1:x<4294967296):bits .and .u32 x 255=x%256:=jQ 8 (by omega) _ _ x rfl rfl x0 x1
theorem zkX(x:Int)(x0:0<=x)(x1:x<4294967296):bits .and .u32 x 1023=x%1024:=jQ 10 (by omega) _ _ x rfl rfl x0 x1
theorem zkY(x:Int)(x0:0<=x)(x1:x<4294967296):bits .and .u32 x 4095=x%4096:=jQ 12 (by omega) _ _ x rfl rfl x0 x1
theorem zmY(x:Int)(x0:0<=x)(x1:x<4294967296):bits .and .u32 x 1048575=x%1048576:=jQ 20 (by omega) _ _ x rfl rfl x0 x1
end Go.Proofs.YtpiohehijkpghacGreatDoor.Hy
namespace Go.Proofs.YtpiohehijkpghacGreatDoor
open Go.RowKit
open Hy
def ldn(op:Int):Int:=if op=11\/op=14 then 1 else if op=12\/op=15 then 2 else if op=13 then 4 else 0
def stn(op:Int):Int:=if op=16 then 1 else if op=17 then 2 else if op=18 then 4 else 0
theorem jZ(op:Int):ldn op=0\/ldn op=1\/ldn op=2\/ldn op=4:=by unfold ldn;split<;>(try split)<;>(try split)<;>omega
theorem yX(op:Int):stn op=0\/stn op=1\/stn op=2\/stn op=4:=by unfold stn;split<;>(try split)<;>(try split)<;>omega
theorem jd(op:Int)(w:World):
  Calls prog 85 #[.int .i64 op] w fun e w'=>e=.returned (.int .u32 (ldn op))/\w'=w:=by
 go_enter func85,ntmps85
 go_wp2
 all_goals(go_ret;refine⟨?_,rfl⟩;simp_all[ldn])
theorem zal(op:Int)(w:World):
  Calls prog 147 #[.int .i64 op] w fun e w'=>e=.returned (.int .u32 (stn op))/\w'=w:=by
 go_enter func147,ntmps147
 go_wp2
 all_goals(go_ret;refine⟨?_,rfl⟩;simp_all[stn])
theorem xo(p:Option Addr)(n c:Nat)(a m:Int)(hn:n<=140737488355328)(a0:0<=a)(a1:a<=4294967295)(hm:m=0\/m=1\/m=2\/m=4)(w:World):
  Calls prog 140 #[.slice p n c,.int .u32 a,.int .u32 m] w fun e w'=>e=.returned (.bool (decide (0<m/\a%m=0/\a+m<=n)))/\w'=w:=by
 rcases hm with rfl|rfl|rfl|rfl
 all_goals go_enter func140,ntmps140
 all_goals go_wp2
 all_goals(go_ret;refine⟨?_,rfl⟩;simp;try omega)
def le(f:Nat->Int):Nat->Int
 |0=>0
 |1=>f 0
 |2=>f 0+f 1*256
 |3=>f 0+f 1*256+f 2*65536
 |_=>f 0+f 1*256+f 2*65536+f 3*16777216
theorem zbA(i:Nat)(P a b:Int)(hP:P=((2^i:Nat):Int))(hi:i<=32)(a0:0<=a)(a1:a<P)(b0:0<=b)(b1:b<4294967296)(hb:b%P=0):bits .or .u32 a b=a+b:=by
 have hle:P<=4294967296:=by
  subst hP
  have:2^i<=2^32:=Ai (by omega) hi
  omega
 exact qe i 32 hi P 4294967296 a b hP rfl a0 (by omega) (by rw[Int.emod_eq_of_lt a0 (by omega)];exact a1) b0 b1 b1 hb
theorem ziB(f:Nat->Int)(b0:0<=f 0/\f 0<=255):bits .or .u32 (le f 0) (f 0)=le f 1:=by
 show bits .or .u32 0 (f 0)=f 0
 rw[zbA 0 1 0 (f 0) rfl (by omega) (by omega) (by omega) b0.1 (by omega) (by omega)]
 omega
theorem ziC(f:Nat->Int)(b0:0<=f 0/\f 0<=255)(b1:0<=f 1/\f 1<=255):bits .or .u32 (le f 1) (f 1*256)=le f 2:=
 zbA 8 256 (f 0) (f 1*256) rfl (by omega) b0.1 (by omega) (by omega) (by omega) (by omega)
theorem ziD(f:Nat->Int)(b0:0<=f 0/\f 0<=255)(b1:0<=f 1/\f 1<=255)(b2:0<=f 2/\f 2<=255):bits .or .u32 (le f 2) (f 2*65536)=le f 3:=
 zbA 16 65536 (f 0+f 1*256) (f 2*65536) rfl (by omega) (by omega) (by omega) (by omega) (by omega) (by omega)
theorem ziE(f:Nat->Int)(b0:0<=f 0/\f 0<=255)(b1:0<=f 1/\f 1<=255)(b2:0<=f 2/\f 2<=255)(b3:0<=f 3/\f 3<=255):bits .or .u32 (le f 3) (f 3*16777216)=le f 4:=
 zbA 24 16777216 (f 0+f 1*256+f 2*65536) (f 3*16777216) rfl (by omega) (by omega) (by omega) (by omega) (by omega) (by omega)
theorem zbB{a b:Int}(h:a=b)(c:Bool):Ak (.tuple #[.int .u32 a,.bool c])=.returned (.tuple #[.int .u32 b,.bool c]):=by rw[h]
theorem int_eq{k:IntKind}{a b:Int}(h:a=b):Aq k a=Aq k b:=by rw[h]
theorem zeV(g o n c:Nat)(m:Nat)(f:Nat->Int)(hm:m=1\/m=2\/m=4)(hmn:m<=n)(hn:n<=140737488355328)(hf:∀i,i<m->0<=f i/\f i<=255)(w:World)(hc:∀i,i<m->w.cell? ⟨g,o+i,none⟩=some (.int .u8 (f i))):
  Calls prog 141 #[.slice (some ⟨g,o,none⟩) n c,.int .u32 m] w fun e w'=>e=.returned (.int .u32 (le f m))/\w'=w:=by
 go_enter func141,ntmps141
 go_wp2
 go_loop [5,6,8] (fun t i k=>∃j:Nat,j<=m/\k=.int .u32 j/\t=.int .u32 (le f j)) (fun _ _ k=>m-(intOf k).toNat)
 case atStart=>exact⟨0,by omega,rfl,rfl⟩
 case round=>
  obtain⟨j,hj,rfl,rfl⟩:=hrel
  obtain⟨T,hT⟩:∃T,T=le f j:=⟨_,rfl⟩
  have HT:Hid (T=le f j):=hT
  rw[<-hT]
  clear hT
  by_cases hlt:j<m
  ·rcases(by omega:j=0\/j=1\/j=2\/j=3)with rfl|rfl|rfl|rfl
   ·obtain⟨z,hz⟩:∃z,z=f 0:=⟨_,rfl⟩
    have c0:w.cell? ⟨g,o,none⟩=some (.int .u8 (f 0)):=hc 0 (by omega)
    have b0:=hf 0 (by omega)
    rw[<-hz]at c0 b0
    have hA:Hid (z=f 0):=hz
    have HF:Hid (∀i,i<m->0<=f i/\f i<=255):=hf
    clear hc hf hz
    go_wp2
    go_round
    case rel=>exact⟨1,by omega,by go_num,int_eq (by rw[HT.out,hA.out];exact ziB f (HF.out 0 (by omega)))⟩
    case measure=>simp[intOf];omega
   ·obtain⟨z,hz⟩:∃z,z=f 1:=⟨_,rfl⟩
    have c0:w.cell? ⟨g,o+1,none⟩=some (.int .u8 (f 1)):=hc 1 (by omega)
    have b0:=hf 1 (by omega)
    rw[<-hz]at c0 b0
    have hA:Hid (z=f 1):=hz
    have HF:Hid (∀i,i<m->0<=f i/\f i<=255):=hf
    clear hc hf hz
    go_wp2
    go_round
    case rel=>exact⟨2,by omega,by go_num,int_eq (by rw[HT.out,hA.out];exact ziC f (HF.out 0 (by omega)) (HF.out 1 (by omega)))⟩
    case measure=>simp[intOf];omega
   ·obtain⟨z,hz⟩:∃z,z=f 2:=⟨_,rfl⟩
    have c0:w.cell? ⟨g,o+2,none⟩=some (.int .u8 (f 2)):=hc 2 (by omega)
    have b0:=hf 2 (by omega)
    rw[<-hz]at c0 b0
    have hA:Hid (z=f 2):=hz
    have HF:Hid (∀i,i<m->0<=f i/\f i<=255):=hf
    clear hc hf hz
    go_wp2
    go_round
    case rel=>exact⟨3,by omega,by go_num,int_eq (by rw[HT.out,hA.out];exact ziD f (HF.out 0 (by omega)) (HF.out 1 (by omega)) (HF.out 2 (by omega)))⟩
    case measure=>simp[intOf];omega
   ·obtain⟨z,hz⟩:∃z,z=f 3:=⟨_,rfl⟩
    have c0:w.cell? ⟨g,o+3,none⟩=some (.int .u8 (f 3)):=hc 3 (by omega)
    have b0:=hf 3 (by omega)
    rw[<-hz]at c0 b0
    have hA:Hid (z=f 3):=hz
    have HF:Hid (∀i,i<m->0<=f i/\f i<=255):=hf
    clear hc hf hz
    go_wp2
    go_round
    case rel=>exact⟨4,by omega,by go_num,int_eq (by rw[HT.out,hA.out];exact ziE f (HF.out 0 (by omega)) (HF.out 1 (by omega)) (HF.out 2 (by omega)) (HF.out 3 (by omega)))⟩
    case measure=>simp[intOf];omega
  ·obtain rfl:j=m:=by omega
   go_wp2
   go_ret
   exact⟨congrArg Ak (int_eq HT.out),rfl⟩
def Lies(w:World)(g o n:Nat)(f:Nat->Int):Prop:=∀i,i<n->w.cell? ⟨g,o+i,none⟩=some (.int .u8 (f i))
def ldv(op:Int)(f:Nat->Int):Int:=if op=11 then(if f 0<128 then f 0 else f 0+4294967040)else if op=12 then(if le f 2<32768 then le f 2 else le f 2+4294901760)else le f (ldn op).toNat
theorem zgg(p:Option Addr)(n c:Nat)(op a:Int)(hn:n<=140737488355328)(a0:0<=a)(a1:a<=4294967295)(h:¬(0<ldn op/\a%ldn op=0/\a+ldn op<=n))(w:World):
  Calls prog 98 #[.slice p n c,.int .i64 op,.int .u32 a] w fun e w'=>e=.returned (.tuple #[.int .u32 0,.bool false])/\w'=w:=by
 have hd:decide (0<ldn op/\a%ldn op=0/\a+ldn op<=n)=false:=decide_eq_false h
 have hm:=jZ op
 have H:Hid (ldn op=ldn op):=rfl
 obtain⟨m,hM⟩:∃m,m=ldn op:=⟨_,rfl⟩
 have C1:=jd op
 rw[<-hM]at hd hm C1
 have C2:=fun w=>xo p n c a m hn a0 a1 hm w
 rw[hd]at C2
 clear hM h hd hm
 go_enter func98,ntmps98
 go_wp2_with fail
 refine(C1 _).mono ?_
 rintro e w' ⟨rfl,rfl⟩
 go_wp2_with fail
 refine(C2 _).mono ?_
 rintro e w' ⟨rfl,rfl⟩
 go_wp2_with fail
 go_ret2
 exact⟨rfl,rfl⟩
theorem zkZ(f:Nat->Int)(hf:∀i,i<2->0<=f i/\f i<=255):0<=le f 2/\le f 2<=65535:=by
 have h0:=hf 0 (by omega)
 have h1:=hf 1 (by omega)
 show 0<=f 0+f 1*256/\f 0+f 1*256<=65535
 omega
theorem zk0(L:Int)(h0:128<=L)(h1:L<=255):IntKind.i8.wrap L=L-256:=by
 simp[Ao,Ap,Al];omega
theorem ziF(L:Int)(h0:32768<=L)(h1:L<=65535):IntKind.i16.wrap L=L-65536:=by
 simp[Ao,Ap,Al];omega
theorem zdZ(g o n c:Nat)(op:Int)(a m:Nat)(f:Nat->Int)(hM:ldn op=(m:Int))(hn:n<=140737488355328)(a1:a<=4294967295)(h0:0<m)(h1:a%m=0)(h2:a+m<=n)(hnc:n<=c)(w:World)
  (hf:∀i,i<m->0<=f i/\f i<=255) (hc:Lies w g (o+a) m f):
  Calls prog 98 #[.slice (some ⟨g,o,none⟩) n c,.int .i64 op,.int .u32 a] w fun e w'=>e=.returned (.tuple #[.int .u32 (ldv op f),.bool true])/\w'=w:=by
 have hm':=jZ op
 have hm:m=1\/m=2\/m=4:=by omega
 have C1:=jd op
 rw[hM]at C1 hm'
 have C2:=fun w=>xo (some ⟨g,o,none⟩) n c a m hn (by omega) (by omega) hm' w
 have hd:decide (0<(m:Int)/\(a:Int)%m=0/\(a:Int)+m<=n)=true:=decide_eq_true ⟨by omega,by omega,by omega⟩
 rw[hd]at C2
 have C3:=fun w hc=>zeV g (o+a) (n-a) (c-a) m f hm (by omega) (by omega) hf w hc
 clear hd hm'
 obtain⟨L,hL⟩:∃L,L=le f m:=⟨_,rfl⟩
 have HL:Hid (L=le f m):=hL
 rw[<-hL]at C3
 clear hL
 go_enter func98,ntmps98
 go_wp2_with fail
 refine(C1 _).mono ?_
 rintro e w' ⟨rfl,rfl⟩
 go_wp2_with fail
 refine(C2 _).mono ?_
 rintro e w' ⟨rfl,rfl⟩
 go_wp2_with fail
 refine(C3 _ hc).mono ?_
 rintro e w' ⟨rfl,rfl⟩
 clear C1 C2 C3 hc
 by_cases e1:op=11
 ·have hml:m=1:=by subst e1;simp[ldn]at hM;omega
  subst hml
  have hl:L=f 0:=HL.out
  have b0:=hf 0 (by omega)
  rw[<-hl]at b0
  have HV:Hid (ldv op f=if L<128 then L else L+4294967040):=by show ldv op f=_;rw[hl,ldv,if_pos e1]
  clear hl hf HL
  by_cases hs:L<128
  ·rw[if_pos hs]at HV
   go_wp2_with fail
   go_ret2
   exact⟨zbB HV.out.symm true,rfl⟩
  ·rw[if_neg hs]at HV
   have hw:IntKind.i8.wrap L%4294967296=L+4294967040:=by rw[zk0 L (by omega) (by omega)];omega
   go_wp2_with fail
   rw[hw]
   go_ret2
   exact⟨zbB HV.out.symm true,rfl⟩
 ·by_cases e2:op=12
  ·have hml:m=2:=by subst e2;simp[ldn]at hM;omega
   subst hml
   have hl:L=le f 2:=HL.out
   have b0:=zkZ f hf
   rw[<-hl]at b0
   have HV:Hid (ldv op f=if L<32768 then L else L+4294901760):=by show ldv op f=_;rw[hl,ldv,if_neg e1,if_pos e2]
   clear hl hf HL
   by_cases hs:L<32768
   ·rw[if_pos hs]at HV
    go_wp2_with fail
    go_ret2
    exact⟨zbB HV.out.symm true,rfl⟩
   ·rw[if_neg hs]at HV
    have hw:IntKind.i16.wrap L%4294967296=L+4294901760:=by rw[ziF L (by omega) (by omega)];omega
    go_wp2_with fail
    rw[hw]
    go_ret2
    exact⟨zbB HV.out.symm true,rfl⟩
  ·have HV:Hid (ldv op f=L):=by
    show ldv op f=L
    rw[HL.out,ldv,if_neg e1,if_neg e2,hM];rfl
   clear HL hf hM
   go_wp2_with fail
   go_ret2
   exact⟨zbB HV.out.symm true,rfl⟩
end Go.Proofs.YtpiohehijkpghacGreatDoor
