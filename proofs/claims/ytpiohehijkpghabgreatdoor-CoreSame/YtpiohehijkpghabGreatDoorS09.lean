/- One that comes up, said shortly. -/
import Derived.Deep.RegionHeld
import Derived.KernelRfl
set_option linter.unusedSimpArgs false
set_option linter.unusedVariables false
namespace Go.Proofs.YtpiohehijkpghabGreatDoor.Co
open Go
section
variable {P:Program} {ops:Array Oper} {Q:Exit->Act->World->Prop} {md:Region.Mode} {S:World->Prop} {T:List Nat}
def qD(T:List Nat)(listed:Array Bool):Bool:=T.all fun j=>!listed.getD j true
def zgM(md:Region.Mode)(ops:Array Oper)(T:List Nat)(i:Nat):Bool:=T.all fun j=>match ops[j]? with
 |some oj=>oj.after.any fun e=>Region.binds md e&&e.on==i
 |none=>false
def zU(P:Program)(md:Region.Mode)(ops:Array Oper)(Q:Exit->Act->World->Prop)(S:World->Prop)(T:List Nat):Nat->Array Bool->Act->World->Prop
 |0,listed,a,w=>Region.ready md ops listed=[]/\Q .normal a w
 |fuel+1,listed,a,w=>(Region.ready md ops listed=[]->Q .normal a w)/\
  ∀i∈Region.ready md ops listed,wpOp P ops Q i (fun a' w'=>(qD T (listed.setIfInBounds i true)=true->S w')/\zU P md ops Q S T fuel (listed.setIfInBounds i true) a' w') a w
theorem zao:∀(fuel:Nat) (listed:Array Bool) (a:Act) (w:World),zU P md ops Q S T fuel listed a w->wpAny P md ops Q fuel listed a w
 |0,_,_,_,h=>h
 |fuel+1,_,_,_,h=>⟨h.1,fun i hi=>wpOp_mono (fun a' w' h'=>zao fuel _ a' w' h'.2) (h.2 i hi)⟩
theorem zap{listed:Array Bool}:qD T listed=true↔∀j∈T,listed.getD j true=false:=by
 unfold qD
 rw[List.all_eq_true]
 simp
theorem xv{listed:Array Bool}{i:Nat}(hi:i∉T)(h:qD T listed=true):qD T (listed.setIfInBounds i true)=true:=by
 rw[zap]at*
 intro j hj
 have e:i≠j:=fun e=>hi (e▸hj)
 rw[getD_set_ne true e]
 exact h j hj
theorem zaq{listed:Array Bool}{i:Nat}(h:qD T (listed.setIfInBounds i true)=true):qD T listed=true:=by
 rw[zap]at*
 intro j hj
 have:=h j hj
 by_cases e:i=j
 ·subst e
  rcases Nat.lt_or_ge i listed.size with h'|h'
  ·simp[h']at this
  ·simp[Array.getElem?_eq_none h']at this
 ·rw[getD_set_ne true e]at this
  exact this
theorem zkA{i j:Nat}{listed:Array Bool}{oj:Oper}(hr:i∈Region.ready md ops listed)(hall:∀e∈oj.after,Region.binds md e=true->listed.getD e.on false=true):∀e∈oj.after,Region.binds md e=true->e.on≠i:=fun e he hb heq=>by
 have h1:=hall e he hb
 have h0:=(mem_ready.1 hr).1
 rw[heq]at h1
 rcases Nat.lt_or_ge i listed.size with h'|h'
 ·simp[h']at h0 h1;rw[h0]at h1;cases h1
 ·simp[Array.getElem?_eq_none h']at h1
theorem zc9{i:Nat}{oi:Oper}{v:Value}(hi:ops[i]?=some oi)(hsel:∀(j:Nat) (o:Oper) cs b,ops[j]?=some o->o.op≠.select cs b)
  (hQ:∀c a w,Q (.panic c) (a.put oi.dst v) w->Q (.panic c) a w) (hiT:i∉T) (hwait:∀j∈T,∃oj,ops[j]?=some oj/\∃e∈oj.after,Region.binds md e=true/\e.on=i):
  ∀(fuel:Nat) (listed:Array Bool) (a:Act) (w:World),
   (∀j oj,ops[j]?=some oj->j≠i->listed.getD j true=false->(∀e∈oj.after,Region.binds md e=true->e.on≠i)->oi.apart ops oj=true)->
   i∈Region.ready md ops listed->YieldsIf P ops S oi v a->S w->qD T listed=true->
   zU P md ops Q S T fuel (listed.setIfInBounds i true) (a.put oi.dst v) w->zU P md ops Q S T (fuel+1) listed a w:=by
 intro fuel
 induction fuel with
 |zero=>
  intro listed a w _ hr hy hS hN H
  refine⟨fun h=>(by rw[h]at hr;cases hr),fun j hj=>?_⟩
  by_cases hji:j=i
  ·subst hji
   exact hy.wpOp hi hS ⟨fun _=>hS,H⟩
  ·have:=ready_mono hj hji
   rw[H.1]at this
   cases this
 |succ fuel ih=>
  intro listed a w hfree hr hy hS hN H
  refine⟨fun h=>(by rw[h]at hr;cases hr),fun j hj=>?_⟩
  by_cases hji:j=i
  ·subst hji
   exact hy.wpOp hi hS ⟨fun _=>hS,H⟩
  ·have h1:=H.2 j (ready_mono hj hji)
   obtain⟨hjun,oj,hoj,hall⟩:=mem_ready.1 hj
   have hnot:=zkA (j:=j) hr hall
   have hjT:j∉T:=fun hjT=>by
    obtain⟨oj',ho',e,he,hb,heq⟩:=hwait j hjT
    rw[hoj]at ho'
    cases ho'
    exact hnot e he hb heq
   have h2:=wpOp_putIf hoj (hfree j oj hoj hji hjun hnot) (fun cs b=>hsel i oi cs b hi) (fun cs b=>hsel j oj cs b hoj) hQ hy h1
   have hfree':∀k ok,ops[k]?=some ok->k≠i->(listed.setIfInBounds j true).getD k true=false->
     (∀e∈ok.after,Region.binds md e=true->e.on≠i)->oi.apart ops ok=true:=fun k ok hk hki hun hno=>by
    refine hfree k ok hk hki ?_ hno
    by_cases hjk:j=k
    ·subst hjk;exact hjun
    ·rw[getD_set_ne true hjk]at hun;exact hun
   have hNj:qD T (listed.setIfInBounds j true)=true:=xv hjT hN
   have hNi:qD T ((listed.setIfInBounds i true).setIfInBounds j true)=true:=xv hjT (xv hiT hN)
   refine wpOp_mono (fun a' w' h3=>⟨fun _=>h3.2.1 hNi,ih (listed.setIfInBounds j true) a' w' hfree' (ready_mono hr (Ne.symm hji)) h3.1 (h3.2.1 hNi) hNj ?_⟩) h2
   rw[Array.setIfInBounds_comm _ _ hji]
   exact h3.2.2
theorem zda{i:Nat}{oi:Oper}{v:Value}(hi:ops[i]?=some oi)(hsel:∀(j:Nat) (o:Oper) cs b,ops[j]?=some o->o.op≠.select cs b)
  (hQ:∀c a w,Q (.panic c) (a.put oi.dst v) w->Q (.panic c) a w) (hiT:i∉T):
  ∀(fuel:Nat) (listed:Array Bool) (a:Act) (w:World),
   (∀j oj,ops[j]?=some oj->j≠i->listed.getD j true=false->(∀e∈oj.after,Region.binds md e=true->e.on≠i)->oi.apart ops oj=true)->
   i∈Region.ready md ops listed->YieldsIf P ops (fun _=>True) oi v a->(qD T listed=true->S w)->
   zU P md ops Q S T fuel (listed.setIfInBounds i true) (a.put oi.dst v) w->zU P md ops Q S T (fuel+1) listed a w:=by
 intro fuel
 induction fuel with
 |zero=>
  intro listed a w _ hr hy hS H
  refine⟨fun h=>(by rw[h]at hr;cases hr),fun j hj=>?_⟩
  by_cases hji:j=i
  ·subst hji
   exact hy.wpOp hi trivial ⟨fun h=>hS (zaq h),H⟩
  ·have:=ready_mono hj hji
   rw[H.1]at this
   cases this
 |succ fuel ih=>
  intro listed a w hfree hr hy hS H
  refine⟨fun h=>(by rw[h]at hr;cases hr),fun j hj=>?_⟩
  by_cases hji:j=i
  ·subst hji
   exact hy.wpOp hi trivial ⟨fun h=>hS (zaq h),H⟩
  ·have h1:=H.2 j (ready_mono hj hji)
   obtain⟨hjun,oj,hoj,hall⟩:=mem_ready.1 hj
   have hnot:=zkA (j:=j) hr hall
   have h2:=wpOp_putIf hoj (hfree j oj hoj hji hjun hnot) (fun cs b=>hsel i oi cs b hi) (fun cs b=>hsel j oj cs b hoj) hQ hy h1
   have hfree':∀k ok,ops[k]?=some ok->k≠i->(listed.setIfInBounds j true).getD k true=false->
     (∀e∈ok.after,Region.binds md e=true->e.on≠i)->oi.apart ops ok=true:=fun k ok hk hki hun hno=>by
    refine hfree k ok hk hki ?_ hno
    by_cases hjk:j=k
    ·subst hjk;exact hjun
    ·rw[getD_set_ne true hjk]at hun;exact hun
   have hc:∀w',(qD T ((listed.setIfInBounds i true).setIfInBounds j true)=true->S w')->qD T (listed.setIfInBounds j true)=true->S w':=fun w' h hn=>h (by
    rw[Array.setIfInBounds_comm _ _ (Ne.symm hji)]
    exact xv hiT hn)
   refine wpOp_mono (fun a' w' h3=>⟨hc w' h3.2.1,ih (listed.setIfInBounds j true) a' w' hfree' (ready_mono hr (Ne.symm hji)) h3.1 (hc w' h3.2.1) ?_⟩) h2
   rw[Array.setIfInBounds_comm _ _ hji]
   exact h3.2.2
theorem zpN{i:Nat}{oi:Oper}{v:Value}{fuel:Nat}{listed:Array Bool}{a:Act}{w:World}(hi:ops[i]?=some oi)
  (hs:Region.noSelect ops=true) (hf:Region.free md ops listed i=true) (hr:(Region.ready md ops listed).contains i=true) (hT:(T.contains i||!zgM md ops T i||!qD T listed)=false)
  (hQ:∀c a w,Q (.panic c) (a.put oi.dst v) w->Q (.panic c) a w) (hy:YieldsIf P ops S oi v a) (hS:S w)
  (h:zU P md ops Q S T fuel (listed.setIfInBounds i true) (a.put oi.dst v) w):zU P md ops Q S T (fuel+1) listed a w:=by
 simp only[Bool.or_eq_false_iff,Bool.not_eq_false']at hT
 obtain⟨⟨h1,h2⟩,h3⟩:=hT
 refine zc9 hi (Region.noSelect_spec hs) hQ (by simpa using h1) (fun j hj=>?_) fuel listed a w (Region.free_spec hi hf) (by simpa using hr) hy hS h3 h
 have:=(List.all_eq_true.1 h2) j hj
 cases e:ops[j]? with
 |none=>rw[e]at this;cases this
 |some oj=>
  rw[e]at this
  simp only[Array.any_eq_true,Bool.and_eq_true,beq_iff_eq]at this
  obtain⟨k,hk,hb,ho⟩:=this
  exact⟨oj,rfl,_,Array.getElem_mem hk,hb,ho⟩
theorem zls{i:Nat}{oi:Oper}{v:Value}{fuel:Nat}{listed:Array Bool}{a:Act}{w:World}(hi:ops[i]?=some oi)
  (hs:Region.noSelect ops=true) (hf:Region.free md ops listed i=true) (hr:(Region.ready md ops listed).contains i=true) (hT:T.contains i=false)
  (hQ:∀c a w,Q (.panic c) (a.put oi.dst v) w->Q (.panic c) a w) (hy:YieldsIf P ops (fun _=>True) oi v a) (hS:qD T listed=true->S w)
  (h:zU P md ops Q S T fuel (listed.setIfInBounds i true) (a.put oi.dst v) w):zU P md ops Q S T (fuel+1) listed a w:=
 zda hi (Region.noSelect_spec hs) hQ (by simpa using hT) fuel listed a w (Region.free_spec hi hf) (by simpa using hr) hy hS h
def zu(P:Program)(md:Region.Mode)(ops:Array Oper)(Q:Exit->Act->World->Prop)(S:World->Prop)(T:List Nat)(fuel:Nat)(listed:Array Bool)(a:Act)(w:World)(rs:List Nat):Prop:=
 ∀i∈rs,wpOp P ops Q i (fun a' w'=>(qD T (listed.setIfInBounds i true)=true->S w')/\zU P md ops Q S T fuel (listed.setIfInBounds i true) a' w') a w
theorem zu.nil{fuel:Nat}{listed:Array Bool}{a:Act}{w:World}:zu P md ops Q S T fuel listed a w []:=fun _ h=>by cases h
theorem zu.cons{fuel:Nat}{listed:Array Bool}{a:Act}{w:World}{i:Nat}{o:Oper}{rs:List Nat}(ho:ops[i]?=some o)
  (h:∀K':Act->World->Prop,Shut (∀a w,S w->(S w->zU P md ops Q S T fuel (listed.setIfInBounds i true) a w)->K' a w)->if Region.wanted o (yielded ops a.tmps)=true then Oper.wp P o a w K' Q else K' (a.put o.dst undef) w)
  (hs:zu P md ops Q S T fuel listed a w rs):zu P md ops Q S T fuel listed a w (i::rs):=fun j hj=>by
 rcases List.mem_cons.1 hj with rfl|hj
 ·exact wpOp_step ho (fun K' hK=>h K' (fun a w hS hW=>hK a w ⟨fun _=>hS,hW hS⟩))
 ·exact hs j hj
theorem zu.last{fuel:Nat}{listed:Array Bool}{a:Act}{w:World}{i:Nat}{o:Oper}{rs:List Nat}(ho:ops[i]?=some o)(hT:qD T (listed.setIfInBounds i true)=false)
  (h:∀K':Act->World->Prop,Shut (∀a w,zU P md ops Q S T fuel (listed.setIfInBounds i true) a w->K' a w)->if Region.wanted o (yielded ops a.tmps)=true then Oper.wp P o a w K' Q else K' (a.put o.dst undef) w)
  (hs:zu P md ops Q S T fuel listed a w rs):zu P md ops Q S T fuel listed a w (i::rs):=fun j hj=>by
 rcases List.mem_cons.1 hj with rfl|hj
 ·exact wpOp_step ho (fun K' hK=>h K' (fun a w hW=>hK a w ⟨fun hn=>(by rw[hT]at hn;cases hn),hW⟩))
 ·exact hs j hj
theorem zgN{rs:List Nat}{fuel:Nat}{listed:Array Bool}{a:Act}{w:World}(hr:Region.ready md ops listed=rs)(hne:rs≠[])
  (h:zu P md ops Q S T fuel listed a w rs):zU P md ops Q S T (fuel+1) listed a w:=⟨fun h0=>absurd (hr▸h0) hne,hr▸h⟩
theorem zJ{listed:Array Bool}{a:Act}{w:World}(hr:Region.ready md ops listed=[])(h:Q .normal a w):∀fuel,zU P md ops Q S T fuel listed a w
 |0=>⟨hr,h⟩
 |_+1=>⟨fun _=>h,by rw[hr];simp⟩
theorem zx{id:Nat}{a:Act}{w:World}(T:List Nat)(hm:P.follows .mixedOrders=true)(hS:S w.drew)
  (h:S w.drew->zU P .any ops Q S T ops.size (Array.replicate ops.size false) a w.drew):(Code.region id ops true).wp P Q a w:=
 wp_region_any hm (zao _ _ _ _ (h hS))
end
end Go.Proofs.YtpiohehijkpghabGreatDoor.Co
namespace Go.Proofs.YtpiohehijkpghabGreatDoor.Co
open Go
section
variable {P:Program} {ops:Array Oper} {Q:Exit->Act->World->Prop} {md:Region.Mode} {S:World->Prop} {T:List Nat}
theorem tX(i:Nat)(v:Value){oi:Oper}{fuel:Nat}{listed:Array Bool}{a:Act}{w:World}(hi:ops[i]?=some oi)(hy:YieldsIf P ops (fun _=>True) oi v a)(hS:S w)(h:zU P md ops Q S T fuel (listed.setIfInBounds i true) (a.put oi.dst v) w)
  (hs:Region.noSelect ops=true:=by kernel_rfl) (hf:Region.free md ops listed i=true:=by kernel_rfl) (hr:(Region.ready md ops listed).contains i=true:=by kernel_rfl) (hT:T.contains i=false:=by kernel_rfl)
  (hQ:∀c a w,Q (.panic c) (a.put oi.dst v) w->Q (.panic c) a w:=by exact fun _ _ _ h=>h):zU P md ops Q S T (fuel+1) listed a w:=zls hi hs hf hr hT hQ hy (fun _=>hS) h
theorem tU(i:Nat)(v:Value){oi:Oper}{fuel:Nat}{listed:Array Bool}{a:Act}{w:World}(hi:ops[i]?=some oi)(hS:S w)(h:zU P md ops Q S T fuel (listed.setIfInBounds i true) (a.put oi.dst v) w)
  (hy:YieldsIf P ops (fun _=>True) oi v a:=by exact Or.inl ⟨by rfl,by intro wz hSw;clear hSw;go_simp⟩) (hs:Region.noSelect ops=true:=by kernel_rfl) (hf:Region.free md ops listed i=true:=by kernel_rfl) (hr:(Region.ready md ops listed).contains i=true:=by kernel_rfl) (hT:T.contains i=false:=by kernel_rfl)
  (hQ:∀c a w,Q (.panic c) (a.put oi.dst v) w->Q (.panic c) a w:=by exact fun _ _ _ h=>h):zU P md ops Q S T (fuel+1) listed a w:=zls hi hs hf hr hT hQ hy (fun _=>hS) h
theorem tV(i:Nat)(v:Value){oi:Oper}{fuel:Nat}{listed:Array Bool}{a:Act}{w:World}(hi:ops[i]?=some oi)(hS:qD T listed=true->S w)(h:zU P md ops Q S T fuel (listed.setIfInBounds i true) (a.put oi.dst v) w)
  (hy:YieldsIf P ops (fun _=>True) oi v a:=by exact Or.inl ⟨by rfl,by intro wz hSw;clear hSw;go_simp⟩) (hs:Region.noSelect ops=true:=by kernel_rfl) (hf:Region.free md ops listed i=true:=by kernel_rfl) (hr:(Region.ready md ops listed).contains i=true:=by kernel_rfl) (hT:T.contains i=false:=by kernel_rfl)
  (hQ:∀c a w,Q (.panic c) (a.put oi.dst v) w->Q (.panic c) a w:=by exact fun _ _ _ h=>h):zU P md ops Q S T (fuel+1) listed a w:=zls hi hs hf hr hT hQ hy hS h
theorem tS(i:Nat)(v:Value){oi:Oper}{fuel:Nat}{listed:Array Bool}{a:Act}{w:World}(hi:ops[i]?=some oi)(hy:YieldsIf P ops S oi v a)(hS:S w)(h:zU P md ops Q S T fuel (listed.setIfInBounds i true) (a.put oi.dst v) w)
  (hs:Region.noSelect ops=true:=by kernel_rfl) (hf:Region.free md ops listed i=true:=by kernel_rfl) (hr:(Region.ready md ops listed).contains i=true:=by kernel_rfl) (hT:(T.contains i||!zgM md ops T i||!qD T listed)=false:=by kernel_rfl)
  (hQ:∀c a w,Q (.panic c) (a.put oi.dst v) w->Q (.panic c) a w:=by exact fun _ _ _ h=>h):zU P md ops Q S T (fuel+1) listed a w:=zpN hi hs hf hr hT hQ hy hS h
theorem tH(i:Nat)(v:Value){oi:Oper}{fuel:Nat}{listed:Array Bool}{a:Act}{w:World}(hi:ops[i]?=some oi)(hy:YieldsIf P ops S oi v a)(hS:S w)(h:wpAnyH P md ops Q S fuel (listed.setIfInBounds i true) (a.put oi.dst v) w)
  (hs:Region.noSelect ops=true:=by kernel_rfl) (hf:Region.free md ops listed i=true:=by kernel_rfl) (hr:(Region.ready md ops listed).contains i=true:=by kernel_rfl)
  (hQ:∀c a w,Q (.panic c) (a.put oi.dst v) w->Q (.panic c) a w:=by exact fun _ _ _ h=>h):wpAnyH P md ops Q S (fuel+1) listed a w:=wpAnyH_take hi hs hf hr hQ hy hS h
theorem tI(i:Nat)(v:Value){oi:Oper}{fuel:Nat}{listed:Array Bool}{a:Act}{w:World}(hi:ops[i]?=some oi)(hS:S w)(h:wpAnyH P md ops Q S fuel (listed.setIfInBounds i true) (a.put oi.dst v) w)
  (hy:YieldsIf P ops S oi v a:=by exact Or.inl ⟨by rfl,by intro wz hSw;go_simp⟩) (hs:Region.noSelect ops=true:=by kernel_rfl) (hf:Region.free md ops listed i=true:=by kernel_rfl) (hr:(Region.ready md ops listed).contains i=true:=by kernel_rfl)
  (hQ:∀c a w,Q (.panic c) (a.put oi.dst v) w->Q (.panic c) a w:=by exact fun _ _ _ h=>h):wpAnyH P md ops Q S (fuel+1) listed a w:=wpAnyH_take hi hs hf hr hQ hy hS h
theorem rZ(rs:List Nat){fuel:Nat}{listed:Array Bool}{a:Act}{w:World}(h:zu P md ops Q S T fuel listed a w rs)(hr:Region.ready md ops listed=rs:=by kernel_rfl)(hne:rs≠[]:=by simp):zU P md ops Q S T (fuel+1) listed a w:=zgN hr hne h
theorem zL(i:Nat){fuel:Nat}{listed:Array Bool}{a:Act}{w:World}{o:Oper}(ho:ops[i]?=some o)
  (h:∀K':Act->World->Prop,Shut (∀a w,zU P md ops Q S T fuel (listed.setIfInBounds i true) a w->K' a w)->if Region.wanted o (yielded ops a.tmps)=true then Oper.wp P o a w K' Q else K' (a.put o.dst undef) w)
  (hr:Region.ready md ops listed=[i]:=by kernel_rfl) (hT:qD T (listed.setIfInBounds i true)=false:=by kernel_rfl):zU P md ops Q S T (fuel+1) listed a w:=zgN hr (by simp) (zu.last ho hT h zu.nil)
theorem zC(i:Nat){fuel:Nat}{listed:Array Bool}{a:Act}{w:World}{o:Oper}(ho:ops[i]?=some o)
  (h:∀K':Act->World->Prop,Shut (∀a w,S w->(S w->zU P md ops Q S T fuel (listed.setIfInBounds i true) a w)->K' a w)->if Region.wanted o (yielded ops a.tmps)=true then Oper.wp P o a w K' Q else K' (a.put o.dst undef) w)
  (hr:Region.ready md ops listed=[i]:=by kernel_rfl):zU P md ops Q S T (fuel+1) listed a w:=zgN hr (by simp) (zu.cons ho h zu.nil)
end
end Go.Proofs.YtpiohehijkpghabGreatDoor.Co
