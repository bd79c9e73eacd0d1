/- What is seen of memory by one that is under way: what those ahead of it have stored. Plain mathematics. -/
import Derived.Deep.RegionHeld
import Derived.OpenShut
import Derived.Test.YtpiohehijkpghacGreatDoorRows
import Derived.WalkSpells
import Derived.WalkLawsBesides
import Derived.ProofKit
import Derived.Lib.OwnBridge
import Derived.Deep.WholeRow
import Derived.BigQuiet
import Derived.Deep.Cut
import Derived.Shelf.Abstract
open Array renaming getElem?_eq_some_iff->Af,getElem?_eq_none->Aw,setIfInBounds_comm->AE,getElem?_modify->AM,size_append->ZF
open Bool renaming and_eq_true->ZI,eq_iff_iff->ZP
open Go renaming cell_of_row->Ab,rounds_succ->Ai,bodyPost_ret->Ao,info_parts->Ax,wp_loop_rounds->AC,wpList_store_row->AD,frozen_of_row->AF,run_loadVar_row->AG,wpList_append_own->AH,setRow_other->AJ,wpList_lookup_own_int->AL,heap_alloc2_old->AQ,ready_mono->AS,u32_andNot_nat->AU,setRow_heap->AY,heap_alloc2_new->Zj,run_append_owned_none->Zl,getD_set_ne->Zn,wpList_mapUpdate_own->Zq,grownCap_le_maxLen->Zx,wpAnyH_take->ZM
open Go.Addr renaming add_lit->Zd
open Go.Builtin renaming nextslicecap->Zr
open Go.Code renaming wp->Qa
open Go.Ending renaming returned->Az
open Go.Instr renaming makeFunc->ZT
open Go.IntKind renaming wrap_u64->ZJ,signed->ZS,wrap->ZX,bits->ZY
open Go.Lib renaming run_eql_slice_nil->AK
open Go.Lit renaming int->Zg
open Go.Obj renaming cells->Zc
open Go.Oper renaming wp->Zt
open Go.Region renaming ready->Ae,noSelect->Aj,free->Ap,binds->Av,wanted->AA,Mode->AW,noSelect_spec->Zo,free_spec->ZH
open Go.Result renaming andThen_ok->AI
open Go.RowKit.Below renaming refl->Ad
open Go.Sem renaming run_bind->Ze,run_pure->ZC
open Go.Value renaming int->AR,ownBlock->Zp,bool->Qb
open Go.WalkArith renaming wf_i64->WY
open Go.World renaming block_lt_of_cell?->An,ownsRow_made->Ay,ownsRow_nil->AZ,setCell->Zv,ownsRow->ZV
open Go.World.grownBy renaming refl->Zw
open Int renaming eq_ofNat_of_zero_le->Ar,toNat_natCast->Zz,emod_eq_of_lt->ZA,le_refl->ZN,natCast_add->ZQ
open List renaming mem_cons_of_mem->Ag,mem_cons_self->Ah,mem_cons->Am,getElem?_eq_some_iff->Aq,eq_nil_of_length_eq_zero->Au,length_drop->AO,getElem?_append_right->AT,getElem?_append_left->AV,foldl_append->Za,getElem?_eq_getElem->Zb,range->Zf,drop_of_length_le->Zh,append_eq_nil_iff->Zi,mem_append->Zk,getElem?_eq_none->Zm,mem_of_getElem?->Zs,mem_map->ZB,all_eq_true->ZG,map_toArray->ZK,cons_append->ZL,map_append->ZR,map_cons->ZU,map_nil->ZZ
open Nat renaming le_refl->Aa,lt_of_lt_of_le->WZ,pow_le_pow_right->AB,and_two_pow_sub_one_eq_mod->AN,two_pow_pos->AP,zero_le->AX,add_assoc->Zu,zero_add->ZD,le_trans->ZE,mod_add_div->ZO,lt_or_ge->ZW
open Option renaming map->Zy
open Option.some renaming inj->Ak
set_option maxHeartbeats 1000000
set_option maxRecDepth 20000
set_option linter.unusedSimpArgs false
set_option linter.unusedVariables false
open Go.Proofs.Tryz
namespace Go.Proofs.YtpiohehijkpghacGreatDoor.Co
open Go
section
variable {P:Program} {ops:Array Oper} {Q:Exit->Act->World->Prop} {md:AW} {S:World->Prop} {T:List Nat}
def qx(T:List Nat)(listed:Array Bool):Bool:=T.all λj=>!listed.getD j true
def zaZ(md:AW)(ops:Array Oper)(T:List Nat)(i:Nat):Bool:=T.all λj=>match ops[j]? with
 |some oj=>oj.after.any λe=>Av md e&&e.on==i
 |none=>false
def zK(P:Program)(md:AW)(ops:Array Oper)(Q:Exit->Act->World->Prop)(S:World->Prop)(T:List Nat):Nat->Array Bool->Act->World->Prop
 |0,listed,a,w=>Ae md ops listed=[]/\Q .normal a w
 |fuel+1,listed,a,w=>(Ae md ops listed=[]->Q .normal a w)/\
  ∀i∈Ae md ops listed,wpOp P ops Q i (λa' w'=>(qx T (listed.setIfInBounds i true)=true->S w')/\zK P md ops Q S T fuel (listed.setIfInBounds i true) a' w') a w
theorem zav:∀(fuel:Nat) (listed:Array Bool) (a:Act) (w:World),zK P md ops Q S T fuel listed a w->wpAny P md ops Q fuel listed a w
 |0,_,_,_,h=>h
 |fuel+1,_,_,_,h=>⟨h.1,λi hi=>wpOp_mono (λa' w' h'=>zav fuel _ a' w' h'.2) (h.2 i hi)⟩
theorem zaw{listed:Array Bool}:qx T listed=true↔∀j∈T,listed.getD j true=false:=by
 unfold qx
 rw[ZG]
 simp
theorem xt{listed:Array Bool}{i:Nat}(hi:i∉T)(h:qx T listed=true):qx T (listed.setIfInBounds i true)=true:=by
 rw[zaw]at*
 intro j hj
 have e:i≠j:=λe=>hi (e▸hj)
 rw[Zn true e]
 exact h j hj
theorem zax{listed:Array Bool}{i:Nat}(h:qx T (listed.setIfInBounds i true)=true):qx T listed=true:=by
 rw[zaw]at*
 intro j hj
 have:=h j hj
 by_cases e:i=j
 ·subst e
  rcases ZW i listed.size with h'|h'
  ·simp[h']at this
  ·simp[Aw h']at this
 ·rw[Zn true e]at this
  exact this
theorem zkI{i j:Nat}{listed:Array Bool}{oj:Oper}(hr:i∈Ae md ops listed)(hall:∀e∈oj.after,Av md e=true->listed.getD e.on false=true):∀e∈oj.after,Av md e=true->e.on≠i:=λe he hb heq=>by
 have h1:=hall e he hb
 have h0:=(mem_ready.1 hr).1
 rw[heq]at h1
 rcases ZW i listed.size with h'|h'
 ·simp[h']at h0 h1;rw[h0]at h1;cases h1
 ·simp[Aw h']at h1
theorem zc0{i:Nat}{oi:Oper}{v:Value}(hi:ops[i]?=some oi)(hsel:∀(j:Nat) (o:Oper) cs b,ops[j]?=some o->o.op≠.select cs b)
  (hQ:∀c a w,Q (.panic c) (a.put oi.dst v) w->Q (.panic c) a w) (hiT:i∉T) (hwait:∀j∈T,∃oj,ops[j]?=some oj/\∃e∈oj.after,Av md e=true/\e.on=i):
  ∀(fuel:Nat) (listed:Array Bool) (a:Act) (w:World),
   (∀j oj,ops[j]?=some oj->j≠i->listed.getD j true=false->(∀e∈oj.after,Av md e=true->e.on≠i)->oi.apart ops oj=true)->
   i∈Ae md ops listed->YieldsIf P ops S oi v a->S w->qx T listed=true->
   zK P md ops Q S T fuel (listed.setIfInBounds i true) (a.put oi.dst v) w->zK P md ops Q S T (fuel+1) listed a w:=by
 intro fuel
 induction fuel with
 |zero=>
  intro listed a w _ hr hy hS hN H
  refine⟨λh=>(by rw[h]at hr;cases hr),λj hj=>?_⟩
  by_cases hji:j=i
  ·subst hji
   exact hy.wpOp hi hS ⟨λ_=>hS,H⟩
  ·have:=AS hj hji
   rw[H.1]at this
   cases this
 |succ fuel ih=>
  intro listed a w hfree hr hy hS hN H
  refine⟨λh=>(by rw[h]at hr;cases hr),λj hj=>?_⟩
  by_cases hji:j=i
  ·subst hji
   exact hy.wpOp hi hS ⟨λ_=>hS,H⟩
  ·have h1:=H.2 j (AS hj hji)
   obtain⟨hjun,oj,hoj,hall⟩:=mem_ready.1 hj
   have hnot:=zkI (j:=j) hr hall
   have hjT:j∉T:=λhjT=>by
    obtain⟨oj',ho',e,he,hb,heq⟩:=hwait j hjT
    rw[hoj]at ho'
    cases ho'
    exact hnot e he hb heq
   have h2:=wpOp_putIf hoj (hfree j oj hoj hji hjun hnot) (λcs b=>hsel i oi cs b hi) (λcs b=>hsel j oj cs b hoj) hQ hy h1
   have hfree':∀k ok,ops[k]?=some ok->k≠i->(listed.setIfInBounds j true).getD k true=false->
     (∀e∈ok.after,Av md e=true->e.on≠i)->oi.apart ops ok=true:=λk ok hk hki hun hno=>by
    refine hfree k ok hk hki ?_ hno
    by_cases hjk:j=k
    ·subst hjk;exact hjun
    ·rw[Zn true hjk]at hun;exact hun
   have hNj:qx T (listed.setIfInBounds j true)=true:=xt hjT hN
   have hNi:qx T ((listed.setIfInBounds i true).setIfInBounds j true)=true:=xt hjT (xt hiT hN)
   refine wpOp_mono (λa' w' h3=>⟨λ_=>h3.2.1 hNi,ih (listed.setIfInBounds j true) a' w' hfree' (AS hr (Ne.symm hji)) h3.1 (h3.2.1 hNi) hNj ?_⟩) h2
   rw[AE _ _ hji]
   exact h3.2.2
theorem zc1{i:Nat}{oi:Oper}{v:Value}(hi:ops[i]?=some oi)(hsel:∀(j:Nat) (o:Oper) cs b,ops[j]?=some o->o.op≠.select cs b)
  (hQ:∀c a w,Q (.panic c) (a.put oi.dst v) w->Q (.panic c) a w) (hiT:i∉T):
  ∀(fuel:Nat) (listed:Array Bool) (a:Act) (w:World),
   (∀j oj,ops[j]?=some oj->j≠i->listed.getD j true=false->(∀e∈oj.after,Av md e=true->e.on≠i)->oi.apart ops oj=true)->
   i∈Ae md ops listed->YieldsIf P ops (λ_=>True) oi v a->(qx T listed=true->S w)->
   zK P md ops Q S T fuel (listed.setIfInBounds i true) (a.put oi.dst v) w->zK P md ops Q S T (fuel+1) listed a w:=by
 intro fuel
 induction fuel with
 |zero=>
  intro listed a w _ hr hy hS H
  refine⟨λh=>(by rw[h]at hr;cases hr),λj hj=>?_⟩
  by_cases hji:j=i
  ·subst hji
   exact hy.wpOp hi trivial ⟨λh=>hS (zax h),H⟩
  ·have:=AS hj hji
   rw[H.1]at this
   cases this
 |succ fuel ih=>
  intro listed a w hfree hr hy hS H
  refine⟨λh=>(by rw[h]at hr;cases hr),λj hj=>?_⟩
  by_cases hji:j=i
  ·subst hji
   exact hy.wpOp hi trivial ⟨λh=>hS (zax h),H⟩
  ·have h1:=H.2 j (AS hj hji)
   obtain⟨hjun,oj,hoj,hall⟩:=mem_ready.1 hj
   have hnot:=zkI (j:=j) hr hall
   have h2:=wpOp_putIf hoj (hfree j oj hoj hji hjun hnot) (λcs b=>hsel i oi cs b hi) (λcs b=>hsel j oj cs b hoj) hQ hy h1
   have hfree':∀k ok,ops[k]?=some ok->k≠i->(listed.setIfInBounds j true).getD k true=false->
     (∀e∈ok.after,Av md e=true->e.on≠i)->oi.apart ops ok=true:=λk ok hk hki hun hno=>by
    refine hfree k ok hk hki ?_ hno
    by_cases hjk:j=k
    ·subst hjk;exact hjun
    ·rw[Zn true hjk]at hun;exact hun
   have hc:∀w',(qx T ((listed.setIfInBounds i true).setIfInBounds j true)=true->S w')->qx T (listed.setIfInBounds j true)=true->S w':=λw' h hn=>h (by
    rw[AE _ _ (Ne.symm hji)]
    exact xt hiT hn)
   refine wpOp_mono (λa' w' h3=>⟨hc w' h3.2.1,ih (listed.setIfInBounds j true) a' w' hfree' (AS hr (Ne.symm hji)) h3.1 (hc w' h3.2.1) ?_⟩) h2
   rw[AE _ _ hji]
   exact h3.2.2
theorem zlt{i:Nat}{oi:Oper}{v:Value}{fuel:Nat}{listed:Array Bool}{a:Act}{w:World}(hi:ops[i]?=some oi)
  (hs:Aj ops=true) (hf:Ap md ops listed i=true) (hr:(Ae md ops listed).contains i=true) (hT:(T.contains i||!zaZ md ops T i||!qx T listed)=false)
  (hQ:∀c a w,Q (.panic c) (a.put oi.dst v) w->Q (.panic c) a w) (hy:YieldsIf P ops S oi v a) (hS:S w)
  (h:zK P md ops Q S T fuel (listed.setIfInBounds i true) (a.put oi.dst v) w):zK P md ops Q S T (fuel+1) listed a w:=by
 simp only[Bool.or_eq_false_iff,Bool.not_eq_false']at hT
 obtain⟨⟨h1,h2⟩,h3⟩:=hT
 refine zc0 hi (Zo hs) hQ (by simpa using h1) (λj hj=>?_) fuel listed a w (ZH hi hf) (by simpa using hr) hy hS h3 h
 have:=(ZG.1 h2) j hj
 cases e:ops[j]? with
 |none=>rw[e]at this;cases this
 |some oj=>
  rw[e]at this
  simp only[Array.any_eq_true,ZI,beq_iff_eq]at this
  obtain⟨k,hk,hb,ho⟩:=this
  exact⟨oj,rfl,_,Array.getElem_mem hk,hb,ho⟩
theorem zlu{i:Nat}{oi:Oper}{v:Value}{fuel:Nat}{listed:Array Bool}{a:Act}{w:World}(hi:ops[i]?=some oi)
  (hs:Aj ops=true) (hf:Ap md ops listed i=true) (hr:(Ae md ops listed).contains i=true) (hT:T.contains i=false)
  (hQ:∀c a w,Q (.panic c) (a.put oi.dst v) w->Q (.panic c) a w) (hy:YieldsIf P ops (λ_=>True) oi v a) (hS:qx T listed=true->S w)
  (h:zK P md ops Q S T fuel (listed.setIfInBounds i true) (a.put oi.dst v) w):zK P md ops Q S T (fuel+1) listed a w:=
 zc1 hi (Zo hs) hQ (by simpa using hT) fuel listed a w (ZH hi hf) (by simpa using hr) hy hS h
def zj(P:Program)(md:AW)(ops:Array Oper)(Q:Exit->Act->World->Prop)(S:World->Prop)(T:List Nat)(fuel:Nat)(listed:Array Bool)(a:Act)(w:World)(rs:List Nat):Prop:=
 ∀i∈rs,wpOp P ops Q i (λa' w'=>(qx T (listed.setIfInBounds i true)=true->S w')/\zK P md ops Q S T fuel (listed.setIfInBounds i true) a' w') a w
theorem zj.nil{fuel:Nat}{listed:Array Bool}{a:Act}{w:World}:zj P md ops Q S T fuel listed a w []:=λ_ h=>by cases h
theorem zj.cons{fuel:Nat}{listed:Array Bool}{a:Act}{w:World}{i:Nat}{o:Oper}{rs:List Nat}(ho:ops[i]?=some o)
  (h:∀K':Act->World->Prop,Shut (∀a w,S w->(S w->zK P md ops Q S T fuel (listed.setIfInBounds i true) a w)->K' a w)->if AA o (yielded ops a.tmps)=true then Zt P o a w K' Q else K' (a.put o.dst undef) w)
  (hs:zj P md ops Q S T fuel listed a w rs):zj P md ops Q S T fuel listed a w (i::rs):=λj hj=>by
 rcases Am.1 hj with rfl|hj
 ·exact wpOp_step ho (λK' hK=>h K' (λa w hS hW=>hK a w ⟨λ_=>hS,hW hS⟩))
 ·exact hs j hj
theorem zj.last{fuel:Nat}{listed:Array Bool}{a:Act}{w:World}{i:Nat}{o:Oper}{rs:List Nat}(ho:ops[i]?=some o)(hT:qx T (listed.setIfInBounds i true)=false)
  (h:∀K':Act->World->Prop,Shut (∀a w,zK P md ops Q S T fuel (listed.setIfInBounds i true) a w->K' a w)->if AA o (yielded ops a.tmps)=true then Zt P o a w K' Q else K' (a.put o.dst undef) w)
  (hs:zj P md ops Q S T fuel listed a w rs):zj P md ops Q S T fuel listed a w (i::rs):=λj hj=>by
 rcases Am.1 hj with rfl|hj
 ·exact wpOp_step ho (λK' hK=>h K' (λa w hW=>hK a w ⟨λhn=>(by rw[hT]at hn;cases hn),hW⟩))
 ·exact hs j hj
theorem zgD{rs:List Nat}{fuel:Nat}{listed:Array Bool}{a:Act}{w:World}(hr:Ae md ops listed=rs)(hne:rs≠[])
  (h:zj P md ops Q S T fuel listed a w rs):zK P md ops Q S T (fuel+1) listed a w:=⟨λh0=>absurd (hr▸h0) hne,hr▸h⟩
theorem zG{listed:Array Bool}{a:Act}{w:World}(hr:Ae md ops listed=[])(h:Q .normal a w):∀fuel,zK P md ops Q S T fuel listed a w
 |0=>⟨hr,h⟩
 |_+1=>⟨λ_=>h,by rw[hr];simp⟩
theorem zu{id:Nat}{a:Act}{w:World}(T:List Nat)(hm:P.follows .mixedOrders=true)(hS:S w.drew)
  (h:S w.drew->zK P .any ops Q S T ops.size (Array.replicate ops.size false) a w.drew):(Code.region id ops true).wp P Q a w:=
 wp_region_any hm (zav _ _ _ _ (h hS))
end
end Go.Proofs.YtpiohehijkpghacGreatDoor.Co
namespace Go.Proofs.YtpiohehijkpghacGreatDoor.Co
open Go
section
variable {P:Program} {ops:Array Oper} {Q:Exit->Act->World->Prop} {md:AW} {S:World->Prop} {T:List Nat}
theorem tX(i:Nat)(v:Value){oi:Oper}{fuel:Nat}{listed:Array Bool}{a:Act}{w:World}(hi:ops[i]?=some oi)(hy:YieldsIf P ops (λ_=>True) oi v a)(hS:S w)(h:zK P md ops Q S T fuel (listed.setIfInBounds i true) (a.put oi.dst v) w)
  (hs:Aj ops=true:=by kernel_rfl) (hf:Ap md ops listed i=true:=by kernel_rfl) (hr:(Ae md ops listed).contains i=true:=by kernel_rfl) (hT:T.contains i=false:=by kernel_rfl)
  (hQ:∀c a w,Q (.panic c) (a.put oi.dst v) w->Q (.panic c) a w:=by exact λ_ _ _ h=>h):zK P md ops Q S T (fuel+1) listed a w:=zlu hi hs hf hr hT hQ hy (λ_=>hS) h
theorem tU(i:Nat)(v:Value){oi:Oper}{fuel:Nat}{listed:Array Bool}{a:Act}{w:World}(h:zK P md ops Q S T fuel (listed.setIfInBounds i true) (a.put oi.dst v) w)
  (hi:ops[i]?=some oi:=by exact rfl) (hS:S w:=by exact hH) (hy:YieldsIf P ops (λ_=>True) oi v a:=by exact Or.inl ⟨by rfl,by intro wz hSw;clear hSw;go_simp⟩) (hs:Aj ops=true:=by kernel_rfl) (hf:Ap md ops listed i=true:=by kernel_rfl) (hr:(Ae md ops listed).contains i=true:=by kernel_rfl) (hT:T.contains i=false:=by kernel_rfl)
  (hQ:∀c a w,Q (.panic c) (a.put oi.dst v) w->Q (.panic c) a w:=by exact λ_ _ _ h=>h):zK P md ops Q S T (fuel+1) listed a w:=zlu hi hs hf hr hT hQ hy (λ_=>hS) h
theorem tV(i:Nat)(v:Value){oi:Oper}{fuel:Nat}{listed:Array Bool}{a:Act}{w:World}(hi:ops[i]?=some oi)(hS:qx T listed=true->S w)(h:zK P md ops Q S T fuel (listed.setIfInBounds i true) (a.put oi.dst v) w)
  (hy:YieldsIf P ops (λ_=>True) oi v a:=by exact Or.inl ⟨by rfl,by intro wz hSw;clear hSw;go_simp⟩) (hs:Aj ops=true:=by kernel_rfl) (hf:Ap md ops listed i=true:=by kernel_rfl) (hr:(Ae md ops listed).contains i=true:=by kernel_rfl) (hT:T.contains i=false:=by kernel_rfl)
  (hQ:∀c a w,Q (.panic c) (a.put oi.dst v) w->Q (.panic c) a w:=by exact λ_ _ _ h=>h):zK P md ops Q S T (fuel+1) listed a w:=zlu hi hs hf hr hT hQ hy hS h
theorem tS(i:Nat)(v:Value){oi:Oper}{fuel:Nat}{listed:Array Bool}{a:Act}{w:World}(hi:ops[i]?=some oi)(hy:YieldsIf P ops S oi v a)(hS:S w)(h:zK P md ops Q S T fuel (listed.setIfInBounds i true) (a.put oi.dst v) w)
  (hs:Aj ops=true:=by kernel_rfl) (hf:Ap md ops listed i=true:=by kernel_rfl) (hr:(Ae md ops listed).contains i=true:=by kernel_rfl) (hT:(T.contains i||!zaZ md ops T i||!qx T listed)=false:=by kernel_rfl)
  (hQ:∀c a w,Q (.panic c) (a.put oi.dst v) w->Q (.panic c) a w:=by exact λ_ _ _ h=>h):zK P md ops Q S T (fuel+1) listed a w:=zlt hi hs hf hr hT hQ hy hS h
theorem tH(i:Nat)(v:Value){oi:Oper}{fuel:Nat}{listed:Array Bool}{a:Act}{w:World}(hi:ops[i]?=some oi)(hy:YieldsIf P ops S oi v a)(hS:S w)(h:wpAnyH P md ops Q S fuel (listed.setIfInBounds i true) (a.put oi.dst v) w)
  (hs:Aj ops=true:=by kernel_rfl) (hf:Ap md ops listed i=true:=by kernel_rfl) (hr:(Ae md ops listed).contains i=true:=by kernel_rfl)
  (hQ:∀c a w,Q (.panic c) (a.put oi.dst v) w->Q (.panic c) a w:=by exact λ_ _ _ h=>h):wpAnyH P md ops Q S (fuel+1) listed a w:=ZM hi hs hf hr hQ hy hS h
theorem tI(i:Nat)(v:Value){oi:Oper}{fuel:Nat}{listed:Array Bool}{a:Act}{w:World}(h:wpAnyH P md ops Q S fuel (listed.setIfInBounds i true) (a.put oi.dst v) w)
  (hi:ops[i]?=some oi:=by exact rfl) (hS:S w:=by exact hH) (hy:YieldsIf P ops S oi v a:=by exact Or.inl ⟨by rfl,by intro wz hSw;go_simp⟩) (hs:Aj ops=true:=by kernel_rfl) (hf:Ap md ops listed i=true:=by kernel_rfl) (hr:(Ae md ops listed).contains i=true:=by kernel_rfl)
  (hQ:∀c a w,Q (.panic c) (a.put oi.dst v) w->Q (.panic c) a w:=by exact λ_ _ _ h=>h):wpAnyH P md ops Q S (fuel+1) listed a w:=ZM hi hs hf hr hQ hy hS h
theorem tN(i:Nat){oi:Oper}{fuel:Nat}{listed:Array Bool}{a:Act}{w:World}(h:wpAnyH P md ops Q S fuel (listed.setIfInBounds i true) (a.put oi.dst undef) w)
  (hi:ops[i]?=some oi:=by exact rfl) (hS:S w:=by exact hH) (hy:YieldsIf P ops S oi undef a:=by exact Or.inr ⟨by rfl,rfl⟩) (hs:Aj ops=true:=by kernel_rfl) (hf:Ap md ops listed i=true:=by kernel_rfl) (hr:(Ae md ops listed).contains i=true:=by kernel_rfl)
  (hQ:∀c a w,Q (.panic c) (a.put oi.dst undef) w->Q (.panic c) a w:=by exact λ_ _ _ h=>h):wpAnyH P md ops Q S (fuel+1) listed a w:=ZM hi hs hf hr hQ hy hS h
theorem tA(i:Nat)(v:Value){oi:Oper}{fuel:Nat}{listed:Array Bool}{a:Act}{w:World}(h:zK P md ops Q S T fuel (listed.setIfInBounds i true) (a.put oi.dst v) w)
  (hi:ops[i]?=some oi:=by exact rfl) (hS:S w:=by exact hH) (hy:YieldsIf P ops S oi v a:=by exact Or.inl ⟨by rfl,by intro wz hSw;have hc:=hSw.1;go_simp⟩) (hs:Aj ops=true:=by kernel_rfl) (hf:Ap md ops listed i=true:=by kernel_rfl) (hr:(Ae md ops listed).contains i=true:=by kernel_rfl) (hT:(T.contains i||!zaZ md ops T i||!qx T listed)=false:=by kernel_rfl)
  (hQ:∀c a w,Q (.panic c) (a.put oi.dst v) w->Q (.panic c) a w:=by exact λ_ _ _ h=>h):zK P md ops Q S T (fuel+1) listed a w:=zlt hi hs hf hr hT hQ hy hS h
theorem tB(i:Nat)(v:Value){oi:Oper}{fuel:Nat}{listed:Array Bool}{a:Act}{w:World}(h:zK P md ops Q S T fuel (listed.setIfInBounds i true) (a.put oi.dst v) w)
  (hi:ops[i]?=some oi:=by exact rfl) (hS:S w:=by exact hH) (hy:YieldsIf P ops S oi v a:=by exact Or.inl ⟨by rfl,by intro wz hSw;have hc:=hSw.2;go_simp⟩) (hs:Aj ops=true:=by kernel_rfl) (hf:Ap md ops listed i=true:=by kernel_rfl) (hr:(Ae md ops listed).contains i=true:=by kernel_rfl) (hT:(T.contains i||!zaZ md ops T i||!qx T listed)=false:=by kernel_rfl)
  (hQ:∀c a w,Q (.panic c) (a.put oi.dst v) w->Q (.panic c) a w:=by exact λ_ _ _ h=>h):zK P md ops Q S T (fuel+1) listed a w:=zlt hi hs hf hr hT hQ hy hS h
theorem rZ(rs:List Nat){fuel:Nat}{listed:Array Bool}{a:Act}{w:World}(h:zj P md ops Q S T fuel listed a w rs)(hr:Ae md ops listed=rs:=by kernel_rfl)(hne:rs≠[]:=by simp):zK P md ops Q S T (fuel+1) listed a w:=zgD hr hne h
theorem zL(i:Nat){fuel:Nat}{listed:Array Bool}{a:Act}{w:World}{o:Oper}(ho:ops[i]?=some o)
  (h:∀K':Act->World->Prop,Shut (∀a w,zK P md ops Q S T fuel (listed.setIfInBounds i true) a w->K' a w)->if AA o (yielded ops a.tmps)=true then Zt P o a w K' Q else K' (a.put o.dst undef) w)
  (hr:Ae md ops listed=[i]:=by kernel_rfl) (hT:qx T (listed.setIfInBounds i true)=false:=by kernel_rfl):zK P md ops Q S T (fuel+1) listed a w:=zgD hr (by simp) (zj.last ho hT h zj.nil)
theorem zC(i:Nat){fuel:Nat}{listed:Array Bool}{a:Act}{w:World}{o:Oper}(ho:ops[i]?=some o)
  (h:∀K':Act->World->Prop,Shut (∀a w,S w->(S w->zK P md ops Q S T fuel (listed.setIfInBounds i true) a w)->K' a w)->if AA o (yielded ops a.tmps)=true then Zt P o a w K' Q else K' (a.put o.dst undef) w)
  (hr:Ae md ops listed=[i]:=by kernel_rfl):zK P md ops Q S T (fuel+1) listed a w:=zgD hr (by simp) (zj.cons ho h zj.nil)
end
end Go.Proofs.YtpiohehijkpghacGreatDoor.Co
namespace Go.Proofs.YtpiohehijkpghacGreatDoor.Hy
open Go.RowKit
def msk(n:Int):Int:=((2:Int)^n.toNat%4294967296-1)%4294967296
def beg(k:Nat):Int:=if k=0 then 1 else if k=1 then 4096 else 33554432
def tb(ps:Nat->Int):Nat->Int
 |0=>0
 |k+1=>bits .or .u32 (tb ps k) (ps k*beg k%4294967296)
def pc(x a m s:Int):Int:=bits .and .u32 (x/2^min a.toNat 32) (msk m)*2^min s.toNat 32%4294967296
def ib(c:Nat->Int)(x:Int):Nat->Int
 |0=>0
 |j+1=>bits .or .u32 (ib c x j) (pc x (c (5+3*j)) (c (6+3*j)) (c (7+3*j)))
def rim(c:Nat->Int)(x:Int):Int:=wrap32 (ib c x 4*2^(c 4).toNat%4294967296)/2^(c 4).toNat
def rrg(x d m:Int):Int:=wrap64 (bits .and .u32 (x/d) m)
def kfs:List Int:=[0,1,1,2,3,5,5,5,5,5,5,3,3,3,3,3,6,6,6,3,3,3,3,3,3,4,4,4,7,7,7,7,7,7,7,7,7,7,7,7,7,7,7,7,7,7,3,8,8]
def kbs:List Int:=[0,55,23,111,103,99,4195,16483,20579,24675,28771,3,4099,8195,16387,20483,35,4131,8227,19,8211,12307,16403,24595,28691,4115,20499,1073762323,51,1073741875,4147,8243,12339,16435,20531,1073762355,24627,28723,33554483,33558579,33562675,33566771,33570867,33574963,33579059,33583155,15,115,1048691]
def kf(n:Nat):Int:=kfs.getD n 0
def kb(n:Nat):Int:=kbs.getD n 0
def ftab:List Int:=[0,0,0,0,0,0,0,0,0,0,0,0,0,0,0,0,0,127,31,0,0,0,12,20,12,0,0,0,0,0,0,0,0,0,127,31,0,0,11,31,1,20,12,8,12,20,1,11,21,10,1,28799,31,31,0,20,20,12,0,0,0,0,0,0,0,0,0,0,4261441663,31,31,0,0,20,5,0,0,0,0,0,0,0,0,0,0,28799,0,31,31,19,31,1,12,7,1,11,25,6,5,8,4,1,28799,0,31,31,20,25,7,5,7,5,0,0,0,0,0,0,0,4261441663,31,31,31,0,0,0,0,0,0,0,0,0,0,0,0,0,4294967295,0,0,0,0,0,0,0,0,0,0,0,0,0,0,0,0]
def fm(f:Nat)(j:Nat):Int:=if j<17 then ftab.getD (f*17+j) 0 else 0
theorem zi4(f:Nat)(hf:f<9)(j:Nat)(hj:1<=j):0<=fm f j/\fm f j<=31:=by
 by_cases h:j<17
 ·have:∀f,f<9->∀j,j<17->1<=j->0<=fm f j/\fm f j<=31:=by decide
  exact this f hf j h hj
 ·simp[fm,h]
def kn(n:Nat):Nat:=(kf n).toNat
theorem zns:∀n,n<49->kn n<9/\kf n=(kn n:Int)/\(1<=n->1<=kn n):=by decide
def hit(n:Nat)(x:Int):Bool:=bits .and .u32 x (fm (kn n) 0)==kb n
theorem zc2(i j a b:Nat)(hij:i<=j)(ha:a%2^j<2^i)(hb:b<2^j)(hb0:b%2^i=0):a|||b=a+b:=by
 obtain⟨d,rfl⟩:∃d,j=i+d:=⟨j-i,by omega⟩
 have hp:0<2^i:=AP i
 have hlo:a%2^(i+d)+2^(i+d)*(a/2^(i+d))=a:=ZO _ _
 have e1:(2^(i+d)*(a/2^(i+d)))|||(a%2^(i+d))=2^(i+d)*(a/2^(i+d))+a%2^(i+d):=
  nat_join (i+d) _ _ (by simp) (Nat.mod_lt _ (AP _))
 have e2:b|||(a%2^(i+d))=b+a%2^(i+d):=nat_join i _ _ hb0 ha
 have hlt:b+a%2^(i+d)<2^(i+d):=by
  have hb':b=2^i*(b/2^i):=by have:=ZO b (2^i);omega
  have hq:b/2^i<2^d:=by
   rw[Nat.div_lt_iff_lt_mul hp,<-Nat.pow_add,Nat.add_comm];exact hb
  have:2^i*(b/2^i)+2^i<=2^i*2^d:=by
   rw[<-Nat.mul_succ];exact Nat.mul_le_mul_left _ hq
  rw[<-Nat.pow_add]at this
  omega
 have e3:(2^(i+d)*(a/2^(i+d)))|||(b+a%2^(i+d))=2^(i+d)*(a/2^(i+d))+(b+a%2^(i+d)):=
  nat_join (i+d) _ _ (by simp) hlt
 have e4:a|||b=(2^(i+d)*(a/2^(i+d))|||a%2^(i+d))|||b:=by rw[e1];congr 1;omega
 rw[e4,Nat.or_assoc,Nat.or_comm (a%_) b,e2,e3];omega
theorem qi(i j:Nat)(hij:i<=j)(P Q a b:Int)(hP:P=((2^i:Nat):Int))(hQ:Q=((2^j:Nat):Int))(a0:0<=a)(a1:a<4294967296)(ha:a%Q<P)(b0:0<=b)(b1:b<4294967296)(hb:b<Q)(hb0:b%P=0):
  bits .or .u32 a b=a+b:=by
 rw[u32_or a b a0 a1 b0 b1]
 obtain⟨n,rfl⟩:=Ar a0
 obtain⟨m,rfl⟩:=Ar b0
 subst hP hQ
 simp only[Zz]
 rw[zc2 i j n m hij (by exact_mod_cast ha) (by exact_mod_cast hb) (by exact_mod_cast hb0)]
 simp
theorem jJ{a Q P:Int}(hi lo:Int)(h:a=hi*Q+lo)(l0:0<=lo)(l1:lo<P)(hPQ:P<=Q):a%Q<P:=by
 subst h
 rw[Int.add_comm,Int.add_mul_emod_self_right,ZA l0 (by omega)]
 exact l1
theorem vj(a:Int)(a0:0<=a)(a1:a<4294967296):bits .or .u32 a 0=a:=by
 rw[u32_or a 0 a0 a1 (by omega) (by omega)]
 simp;omega
theorem zek(o:BinOp)(a b:Int):0<=bits o .u32 a b/\bits o .u32 a b<4294967296:=by
 have h:=bounds_u32 (wf_bits o .u32 a b)
 omega
theorem qD(o:BinOp)(a b:Int):bits .or .u32 (bits o .u32 a b) 0=bits o .u32 a b:=
 vj _ (zek o a b).1 (zek o a b).2
theorem jU(k:Nat)(hk:k<=32)(m Q x:Int)(hm:m=((2^k-1:Nat):Int))(hQ:Q=((2^k:Nat):Int))(x0:0<=x)(x1:x<4294967296):bits .and .u32 x m=x%Q:=by
 subst hm hQ
 have hle:2^k<=2^32:=AB (by omega) hk
 rw[u32_and x _ x0 x1 (by omega) (by omega)]
 obtain⟨n,rfl⟩:=Ar x0
 simp only[Zz]
 rw[AN]
 simp
theorem xu(x:Int)(x0:0<=x)(x1:x<4294967296):bits .and .u32 x 0=0:=by
 rw[u32_and x 0 x0 x1 (by omega) (by omega)];simp
theorem zgE(x:Int)(x0:0<=x)(x1:x<4294967296):bits .and .u32 x 31=x%32:=jU 5 (by omega) _ _ x rfl rfl x0 x1
theorem and1(x:Int)(x0:0<=x)(x1:x<4294967296):bits .and .u32 x 1=x%2:=jU 1 (by omega) _ _ x rfl rfl x0 x1
theorem zpf(x:Int)(x0:0<=x)(x1:x<4294967296):bits .and .u32 x 15=x%16:=jU 4 (by omega) _ _ x rfl rfl x0 x1
theorem zpg(x:Int)(x0:0<=x)(x1:x<4294967296):bits .and .u32 x 63=x%64:=jU 6 (by omega) _ _ x rfl rfl x0 x1
theorem znt(x:Int)(x0:0<=x)(x1:x<4294967296):bits .and .u32 x 127=x%128:=jU 7 (by omega) _ _ x rfl rfl x0 x1
theorem znu(x:Int)(x0:0<=x)(x1:x<4294967296):bits .and .u32 x 255=x%256:=jU 8 (by omega) _ _ x rfl rfl x0 x1
theorem zlv(x:Int)(x0:0<=x)(x1:x<4294967296):bits .and .u32 x 1023=x%1024:=jU 10 (by omega) _ _ x rfl rfl x0 x1
theorem zlw(x:Int)(x0:0<=x)(x1:x<4294967296):bits .and .u32 x 4095=x%4096:=jU 12 (by omega) _ _ x rfl rfl x0 x1
theorem znv(x:Int)(x0:0<=x)(x1:x<4294967296):bits .and .u32 x 1048575=x%1048576:=jU 20 (by omega) _ _ x rfl rfl x0 x1
end Go.Proofs.YtpiohehijkpghacGreatDoor.Hy
namespace Go.Proofs.YtpiohehijkpghacGreatDoor
open Go.RowKit
open Hy
def ldn(op:Int):Int:=if op=11\/op=14 then 1 else if op=12\/op=15 then 2 else if op=13 then 4 else 0
def stn(op:Int):Int:=if op=16 then 1 else if op=17 then 2 else if op=18 then 4 else 0
theorem xd(op:Int):ldn op=0\/ldn op=1\/ldn op=2\/ldn op=4:=by unfold ldn;split<;>(try split)<;>(try split)<;>omega
theorem vk(op:Int):stn op=0\/stn op=1\/stn op=2\/stn op=4:=by unfold stn;split<;>(try split)<;>(try split)<;>omega
theorem ji(op:Int)(w:World):
  Calls prog 85 #[.int .i64 op] w λe w'=>e=.returned (.int .u32 (ldn op))/\w'=w:=by
 go_enter func85,ntmps85
 go_wp2
 all_goals(go_ret;refine⟨?_,rfl⟩;simp_all[ldn])
theorem zay(op:Int)(w:World):
  Calls prog 147 #[.int .i64 op] w λe w'=>e=.returned (.int .u32 (stn op))/\w'=w:=by
 go_enter func147,ntmps147
 go_wp2
 all_goals(go_ret;refine⟨?_,rfl⟩;simp_all[stn])
theorem xv(p:Option Addr)(n c:Nat)(a m:Int)(hn:n<=140737488355328)(a0:0<=a)(a1:a<=4294967295)(hm:m=0\/m=1\/m=2\/m=4)(w:World):
  Calls prog 140 #[.slice p n c,.int .u32 a,.int .u32 m] w λe w'=>e=.returned (.bool (decide (0<m/\a%m=0/\a+m<=n)))/\w'=w:=by
 rcases hm with rfl|rfl|rfl|rfl
 all_goals go_enter func140,ntmps140
 all_goals go_wp2
 all_goals(go_ret;refine⟨?_,rfl⟩;simp;try omega)
def le(f:Nat->Int):Nat->Int
 |0=>0
 |1=>f 0
 |2=>f 0+f 1*256
 |3=>f 0+f 1*256+f 2*65536
 |_=>f 0+f 1*256+f 2*65536+f 3*16777216
theorem zbS(i:Nat)(P a b:Int)(hP:P=((2^i:Nat):Int))(hi:i<=32)(a0:0<=a)(a1:a<P)(b0:0<=b)(b1:b<4294967296)(hb:b%P=0):bits .or .u32 a b=a+b:=by
 have hle:P<=4294967296:=by
  subst hP
  have:2^i<=2^32:=AB (by omega) hi
  omega
 exact qi i 32 hi P 4294967296 a b hP rfl a0 (by omega) (by rw[ZA a0 (by omega)];exact a1) b0 b1 b1 hb
theorem zi5(f:Nat->Int)(b0:0<=f 0/\f 0<=255):bits .or .u32 (le f 0) (f 0)=le f 1:=by
 show bits .or .u32 0 (f 0)=f 0
 rw[zbS 0 1 0 (f 0) rfl (by omega) (by omega) (by omega) b0.1 (by omega) (by omega)]
 omega
theorem zi6(f:Nat->Int)(b0:0<=f 0/\f 0<=255)(b1:0<=f 1/\f 1<=255):bits .or .u32 (le f 1) (f 1*256)=le f 2:=
 zbS 8 256 (f 0) (f 1*256) rfl (by omega) b0.1 (by omega) (by omega) (by omega) (by omega)
theorem zi7(f:Nat->Int)(b0:0<=f 0/\f 0<=255)(b1:0<=f 1/\f 1<=255)(b2:0<=f 2/\f 2<=255):bits .or .u32 (le f 2) (f 2*65536)=le f 3:=
 zbS 16 65536 (f 0+f 1*256) (f 2*65536) rfl (by omega) (by omega) (by omega) (by omega) (by omega) (by omega)
theorem zi8(f:Nat->Int)(b0:0<=f 0/\f 0<=255)(b1:0<=f 1/\f 1<=255)(b2:0<=f 2/\f 2<=255)(b3:0<=f 3/\f 3<=255):bits .or .u32 (le f 3) (f 3*16777216)=le f 4:=
 zbS 24 16777216 (f 0+f 1*256+f 2*65536) (f 3*16777216) rfl (by omega) (by omega) (by omega) (by omega) (by omega) (by omega)
theorem zbT{a b:Int}(h:a=b)(c:Bool):Az (.tuple #[.int .u32 a,.bool c])=.returned (.tuple #[.int .u32 b,.bool c]):=by rw[h]
theorem int_eq{k:IntKind}{a b:Int}(h:a=b):AR k a=AR k b:=by rw[h]
theorem zfi(g o n c:Nat)(m:Nat)(f:Nat->Int)(hm:m=1\/m=2\/m=4)(hmn:m<=n)(hn:n<=140737488355328)(hf:∀i,i<m->0<=f i/\f i<=255)(w:World)(hc:∀i,i<m->w.cell? ⟨g,o+i,none⟩=some (.int .u8 (f i))):
  Calls prog 141 #[.slice (some ⟨g,o,none⟩) n c,.int .u32 m] w λe w'=>e=.returned (.int .u32 (le f m))/\w'=w:=by
 go_enter func141,ntmps141
 go_wp2
 go_loop [5,6,8] (λt i k=>∃j:Nat,j<=m/\k=.int .u32 j/\t=.int .u32 (le f j)) (λ_ _ k=>m-(intOf k).toNat)
 case atStart=>exact⟨0,by omega,rfl,rfl⟩
 case round=>
  obtain⟨j,hj,rfl,rfl⟩:=hrel
  obtain⟨T,hT⟩:∃T,T=le f j:=⟨_,rfl⟩
  have HT:Hid (T=le f j):=hT
  rw[<-hT]
  clear hT
  by_cases hlt:j<m
  ·rcases(by omega:j=0\/j=1\/j=2\/j=3)with rfl|rfl|rfl|rfl
   ·obtain⟨z,hz⟩:∃z,z=f 0:=⟨_,rfl⟩
    have c0:w.cell? ⟨g,o,none⟩=some (.int .u8 (f 0)):=hc 0 (by omega)
    have b0:=hf 0 (by omega)
    rw[<-hz]at c0 b0
    have hA:Hid (z=f 0):=hz
    have HF:Hid (∀i,i<m->0<=f i/\f i<=255):=hf
    clear hc hf hz
    go_wp2
    go_round
    case rel=>exact⟨1,by omega,by go_num,int_eq (by rw[HT.out,hA.out];exact zi5 f (HF.out 0 (by omega)))⟩
    case measure=>simp[intOf];omega
   ·obtain⟨z,hz⟩:∃z,z=f 1:=⟨_,rfl⟩
    have c0:w.cell? ⟨g,o+1,none⟩=some (.int .u8 (f 1)):=hc 1 (by omega)
    have b0:=hf 1 (by omega)
    rw[<-hz]at c0 b0
    have hA:Hid (z=f 1):=hz
    have HF:Hid (∀i,i<m->0<=f i/\f i<=255):=hf
    clear hc hf hz
    go_wp2
    go_round
    case rel=>exact⟨2,by omega,by go_num,int_eq (by rw[HT.out,hA.out];exact zi6 f (HF.out 0 (by omega)) (HF.out 1 (by omega)))⟩
    case measure=>simp[intOf];omega
   ·obtain⟨z,hz⟩:∃z,z=f 2:=⟨_,rfl⟩
    have c0:w.cell? ⟨g,o+2,none⟩=some (.int .u8 (f 2)):=hc 2 (by omega)
    have b0:=hf 2 (by omega)
    rw[<-hz]at c0 b0
    have hA:Hid (z=f 2):=hz
    have HF:Hid (∀i,i<m->0<=f i/\f i<=255):=hf
    clear hc hf hz
    go_wp2
    go_round
    case rel=>exact⟨3,by omega,by go_num,int_eq (by rw[HT.out,hA.out];exact zi7 f (HF.out 0 (by omega)) (HF.out 1 (by omega)) (HF.out 2 (by omega)))⟩
    case measure=>simp[intOf];omega
   ·obtain⟨z,hz⟩:∃z,z=f 3:=⟨_,rfl⟩
    have c0:w.cell? ⟨g,o+3,none⟩=some (.int .u8 (f 3)):=hc 3 (by omega)
    have b0:=hf 3 (by omega)
    rw[<-hz]at c0 b0
    have hA:Hid (z=f 3):=hz
    have HF:Hid (∀i,i<m->0<=f i/\f i<=255):=hf
    clear hc hf hz
    go_wp2
    go_round
    case rel=>exact⟨4,by omega,by go_num,int_eq (by rw[HT.out,hA.out];exact zi8 f (HF.out 0 (by omega)) (HF.out 1 (by omega)) (HF.out 2 (by omega)) (HF.out 3 (by omega)))⟩
    case measure=>simp[intOf];omega
  ·obtain rfl:j=m:=by omega
   go_wp2
   go_ret
   exact⟨congrArg Az (int_eq HT.out),rfl⟩
def Lies(w:World)(g o n:Nat)(f:Nat->Int):Prop:=∀i,i<n->w.cell? ⟨g,o+i,none⟩=some (.int .u8 (f i))
def ldv(op:Int)(f:Nat->Int):Int:=if op=11 then(if f 0<128 then f 0 else f 0+4294967040)else if op=12 then(if le f 2<32768 then le f 2 else le f 2+4294901760)else le f (ldn op).toNat
theorem zgF(p:Option Addr)(n c:Nat)(op a:Int)(hn:n<=140737488355328)(a0:0<=a)(a1:a<=4294967295)(h:¬(0<ldn op/\a%ldn op=0/\a+ldn op<=n))(w:World):
  Calls prog 98 #[.slice p n c,.int .i64 op,.int .u32 a] w λe w'=>e=.returned (.tuple #[.int .u32 0,.bool false])/\w'=w:=by
 have hd:decide (0<ldn op/\a%ldn op=0/\a+ldn op<=n)=false:=decide_eq_false h
 have hm:=xd op
 have H:Hid (ldn op=ldn op):=rfl
 obtain⟨m,hM⟩:∃m,m=ldn op:=⟨_,rfl⟩
 have C1:=ji op
 rw[<-hM]at hd hm C1
 have C2:=λw=>xv p n c a m hn a0 a1 hm w
 rw[hd]at C2
 clear hM h hd hm
 go_enter func98,ntmps98
 go_wp2_with fail
 refine(C1 _).mono ?_
 rintro e w' ⟨rfl,rfl⟩
 go_wp2_with fail
 refine(C2 _).mono ?_
 rintro e w' ⟨rfl,rfl⟩
 go_wp2_with fail
 go_ret2
 exact⟨rfl,rfl⟩
theorem zlx(f:Nat->Int)(hf:∀i,i<2->0<=f i/\f i<=255):0<=le f 2/\le f 2<=65535:=by
 have h0:=hf 0 (by omega)
 have h1:=hf 1 (by omega)
 show 0<=f 0+f 1*256/\f 0+f 1*256<=65535
 omega
theorem zly(L:Int)(h0:128<=L)(h1:L<=255):IntKind.i8.wrap L=L-256:=by
 simp[ZX,ZY,ZS];omega
theorem zi9(L:Int)(h0:32768<=L)(h1:L<=65535):IntKind.i16.wrap L=L-65536:=by
 simp[ZX,ZY,ZS];omega
theorem zel(g o n c:Nat)(op:Int)(a m:Nat)(f:Nat->Int)(hM:ldn op=(m:Int))(hn:n<=140737488355328)(a1:a<=4294967295)(h0:0<m)(h1:a%m=0)(h2:a+m<=n)(hnc:n<=c)(w:World)
  (hf:∀i,i<m->0<=f i/\f i<=255) (hc:Lies w g (o+a) m f):
  Calls prog 98 #[.slice (some ⟨g,o,none⟩) n c,.int .i64 op,.int .u32 a] w λe w'=>e=.returned (.tuple #[.int .u32 (ldv op f),.bool true])/\w'=w:=by
 have hm':=xd op
 have hm:m=1\/m=2\/m=4:=by omega
 have C1:=ji op
 rw[hM]at C1 hm'
 have C2:=λw=>xv (some ⟨g,o,none⟩) n c a m hn (by omega) (by omega) hm' w
 have hd:decide (0<(m:Int)/\(a:Int)%m=0/\(a:Int)+m<=n)=true:=decide_eq_true ⟨by omega,by omega,by omega⟩
 rw[hd]at C2
 have C3:=λw hc=>zfi g (o+a) (n-a) (c-a) m f hm (by omega) (by omega) hf w hc
 clear hd hm'
 obtain⟨L,hL⟩:∃L,L=le f m:=⟨_,rfl⟩
 have HL:Hid (L=le f m):=hL
 rw[<-hL]at C3
 clear hL
 go_enter func98,ntmps98
 go_wp2_with fail
 refine(C1 _).mono ?_
 rintro e w' ⟨rfl,rfl⟩
 go_wp2_with fail
 refine(C2 _).mono ?_
 rintro e w' ⟨rfl,rfl⟩
 go_wp2_with fail
 refine(C3 _ hc).mono ?_
 rintro e w' ⟨rfl,rfl⟩
 clear C1 C2 C3 hc
 by_cases e1:op=11
 ·have hml:m=1:=by subst e1;simp[ldn]at hM;omega
  subst hml
  have hl:L=f 0:=HL.out
  have b0:=hf 0 (by omega)
  rw[<-hl]at b0
  have HV:Hid (ldv op f=if L<128 then L else L+4294967040):=by show ldv op f=_;rw[hl,ldv,if_pos e1]
  clear hl hf HL
  by_cases hs:L<128
  ·rw[if_pos hs]at HV
   go_wp2_with fail
   go_ret2
   exact⟨zbT HV.out.symm true,rfl⟩
  ·rw[if_neg hs]at HV
   have hw:IntKind.i8.wrap L%4294967296=L+4294967040:=by rw[zly L (by omega) (by omega)];omega
   go_wp2_with fail
   rw[hw]
   go_ret2
   exact⟨zbT HV.out.symm true,rfl⟩
 ·by_cases e2:op=12
  ·have hml:m=2:=by subst e2;simp[ldn]at hM;omega
   subst hml
   have hl:L=le f 2:=HL.out
   have b0:=zlx f hf
   rw[<-hl]at b0
   have HV:Hid (ldv op f=if L<32768 then L else L+4294901760):=by show ldv op f=_;rw[hl,ldv,if_neg e1,if_pos e2]
   clear hl hf HL
   by_cases hs:L<32768
   ·rw[if_pos hs]at HV
    go_wp2_with fail
    go_ret2
    exact⟨zbT HV.out.symm true,rfl⟩
   ·rw[if_neg hs]at HV
    have hw:IntKind.i16.wrap L%4294967296=L+4294901760:=by rw[zi9 L (by omega) (by omega)];omega
    go_wp2_with fail
    rw[hw]
    go_ret2
    exact⟨zbT HV.out.symm true,rfl⟩
  ·have HV:Hid (ldv op f=L):=by
    show ldv op f=L
    rw[HL.out,ldv,if_neg e1,if_neg e2,hM];rfl
   clear HL hf hM
   go_wp2_with fail
   go_ret2
   exact⟨zbT HV.out.symm true,rfl⟩
end Go.Proofs.YtpiohehijkpghacGreatDoor
namespace Go.Proofs.YtpiohehijkpghacGreatDoor.Hy
open Go.RowKit
def sg(a:Int):Int:=if a<2147483648 then a else a-4294967296
def two(n:Nat):Int:=((2^n:Nat):Int)
def alu(op a b:Int):Int:=
 if op=28 then(a+b)%4294967296
 else if op=29 then(a-b)%4294967296
 else if op=30 then(a*two (b%32).toNat)%4294967296
 else if op=31 then(if sg a<sg b then 1 else 0)
 else if op=32 then(if a<b then 1 else 0)
 else if op=33 then((a.toNat^^^b.toNat:Nat):Int)
 else if op=34 then a/two (b%32).toNat
 else if op=35 then(sg a/two (b%32).toNat)%4294967296
 else if op=36 then((a.toNat|||b.toNat:Nat):Int)
 else if op=37 then((a.toNat&&& b.toNat:Nat):Int)
 else if op=38 then(a*b)%4294967296
 else if op=39 then(sg a*sg b/4294967296)%4294967296
 else if op=40 then(sg a*b/4294967296)%4294967296
 else if op=41 then(a*b/4294967296)%4294967296
 else if op=42 then(if b=0 then 4294967295 else(sg a).tdiv (sg b)%4294967296)
 else if op=43 then(if b=0 then 4294967295 else a/b)
 else if op=44 then(if b=0 then a else(sg a).tmod (sg b)%4294967296)
 else if op=45 then(if b=0 then a else a%b)
 else 0
def holds(op a b:Int):Bool:=
 if op=5 then a==b
 else if op=6 then a != b
 else if op=7 then decide (sg a<sg b)
 else if op=8 then !decide (sg a<sg b)
 else if op=9 then decide (a<b)
 else if op=10 then decide (b<=a)
 else false
theorem jb(a:Int)(a0:0<=a)(a1:a<=4294967295):-2147483648<=sg a/\sg a<=2147483647:=by
 unfold sg;split<;>omega
theorem zgG(a:Int)(a0:0<=a)(a1:a<=4294967295):wrap32 a=sg a:=by
 unfold wrap32 sg;split<;>omega
theorem zY(a:Int)(a0:0<=a)(a1:a<=4294967295):wrap64 (wrap32 a)=sg a:=by
 rw[zgG a a0 a1]
 have:=jb a a0 a1
 unfold wrap64;omega
theorem zgH(a:Int)(a0:0<=a)(a1:a<=4294967295):sg a=0↔a=0:=by
 unfold sg;split<;>omega
theorem zlz(n:Nat):0<two n:=by
 unfold two;have:=AP n;omega
theorem zc3(n:Nat):(2:Int)^n=two n:=by
 unfold two;simp
theorem low5(b:Int)(b0:0<=b)(b1:b<=4294967295):bits .and .u32 b 31=b%32:=by
 rw[u32_and b 31 b0 (by omega) (by omega) (by omega)]
 show((b.toNat&&& 31:Nat):Int)=_
 rw[nat_mask5];omega
def natop(op:Int)(x y:Nat):Nat:=if op=37 then x&&& y else if op=36 then x|||y else x^^^y
theorem zja(op:Int)(x y n:Nat)(hx:x<2^n)(hy:y<2^n):natop op x y<2^n:=by
 unfold natop
 split
 ·exact Nat.and_lt_two_pow _ hy
 ·split
  ·exact Nat.or_lt_two_pow hx hy
  ·exact Nat.xor_lt_two_pow hx hy
theorem zfj(x y:Int)(m:Int)(hx0:-m<=x)(hx1:x<=m):-m<=x.tdiv y/\x.tdiv y<=m:=by
 have h:(x.tdiv y).natAbs<=x.natAbs:=by rw[Int.natAbs_tdiv];exact Nat.div_le_self _ _
 omega
theorem zfk(x y:Int)(m:Int)(hx0:-m<=x)(hx1:x<=m):-m<=x.tmod y/\x.tmod y<=m:=by
 have h:(x.tmod y).natAbs<=x.natAbs:=by rw[Int.natAbs_tmod];exact Nat.mod_le _ _
 omega
def Wd(n:Int):Prop:=0<=n/\n<=4294967295
theorem qk{c:Prop}[Decidable c]{x y:Int}(hx:c->Wd x)(hy:¬c->Wd y):Wd (if c then x else y):=by
 split
 ·exact hx ‹_›
 ·exact hy ‹_›
theorem xJ(n:Int):Wd (n%4294967296):=by unfold Wd;omega
theorem km(n:Int)(h:0<=n/\n<=4294967295):Wd n:=h
theorem zc4(o a b:Int)(a0:0<=a)(a1:a<=4294967295)(b0:0<=b)(b1:b<=4294967295):Wd ((natop o a.toNat b.toNat:Nat):Int):=by
 have:=zja o a.toNat b.toNat 32 (by omega) (by omega)
 unfold Wd;omega
theorem zkJ(a b:Int)(a0:0<=a)(a1:a<=4294967295)(b0:0<=b):Wd (a/b):=by
 have h2:=Int.ediv_nonneg a0 b0
 have h3:=Int.ediv_le_self b a0
 unfold Wd;omega
theorem zlA(a b:Int)(b1:b<=4294967295)(b0:0<b):Wd (a%b):=by
 have h1:=Int.emod_nonneg a (b:=b) (by omega)
 have h2:=Int.emod_lt_of_pos a (b:=b) (by omega)
 unfold Wd;omega
theorem zbU(op a b:Int)(a0:0<=a)(a1:a<=4294967295)(b0:0<=b)(b1:b<=4294967295):0<=alu op a b/\alu op a b<=4294967295:=by
 show Wd (alu op a b)
 unfold alu
 refine qk (λ_=>xJ _) λ_=>?_
 refine qk (λ_=>xJ _) λ_=>?_
 refine qk (λ_=>xJ _) λ_=>?_
 refine qk (λ_=>qk (λ_=>km _ (by omega)) (λ_=>km _ (by omega))) λ_=>?_
 refine qk (λ_=>qk (λ_=>km _ (by omega)) (λ_=>km _ (by omega))) λ_=>?_
 refine qk (λ_=>zc4 33 a b a0 a1 b0 b1) λ_=>?_
 refine qk (λ_=>zkJ _ _ a0 a1 (Int.le_of_lt (zlz _))) λ_=>?_
 refine qk (λ_=>xJ _) λ_=>?_
 refine qk (λ_=>zc4 36 a b a0 a1 b0 b1) λ_=>?_
 refine qk (λ_=>zc4 37 a b a0 a1 b0 b1) λ_=>?_
 refine qk (λ_=>xJ _) λ_=>?_
 refine qk (λ_=>xJ _) λ_=>?_
 refine qk (λ_=>xJ _) λ_=>?_
 refine qk (λ_=>xJ _) λ_=>?_
 refine qk (λ_=>qk (λ_=>km _ (by omega)) (λ_=>xJ _)) λ_=>?_
 refine qk (λ_=>qk (λ_=>km _ (by omega)) (λ_=>zkJ _ _ a0 a1 b0)) λ_=>?_
 refine qk (λ_=>qk (λ_=>km _ (by omega)) (λ_=>xJ _)) λ_=>?_
 refine qk (λ_=>qk (λ_=>km _ (by omega)) (λ_=>zlA _ _ b1 (by omega))) λ_=>?_
 exact km _ (by omega)
end Go.Proofs.YtpiohehijkpghacGreatDoor.Hy
namespace Go.Proofs.YtpiohehijkpghacGreatDoor
open Go.RowKit
open Hy
theorem zZ{k:IntKind}{a b:Int}(h:a=b):Az (.int k a)=.returned (.int k b):=by rw[h]
theorem zjb{a b:Bool}(h:a=b):Az (.bool a)=.returned (.bool b):=by rw[h]
theorem vl(b:Int)(b0:0<=b)(b1:b<=4294967295)(w:World):
  Calls prog 190 #[.int .u32 b] w λe w'=>e=.returned (.int .u32 (b%32))/\w'=w:=by
 go_enter func190,ntmps190
 go_wp2
 go_ret
 exact⟨zZ (low5 b b0 b1),rfl⟩
theorem xK(a b:Int)(a0:0<=a)(a1:a<=4294967295)(b0:0<=b)(b1:b<=4294967295)(w:World):
  Calls prog 189 #[.int .u32 a,.int .u32 b] w λe w'=>e=.returned (.bool (decide (sg a<sg b)))/\w'=w:=by
 go_enter func189,ntmps189
 go_wp2
 go_ret
 exact⟨zjb (by rw[zY a a0 a1,zY b b0 b1]),rfl⟩
theorem wrap64_in(n:Int)(h0:-9223372036854775808<=n)(h1:n<=9223372036854775807):wrap64 n=n:=by
 unfold wrap64;omega
theorem zbV(n:Int):IntKind.u64.wrap (wrap64 n)/4294967296%4294967296=n/4294967296%4294967296:=by
 rw[ZJ];unfold wrap64;omega
theorem zfl(n:Int):IntKind.u64.wrap n/4294967296%4294967296=n/4294967296%4294967296:=by
 rw[ZJ];omega
theorem ko(a b:Int)(a0:0<=a)(a1:a<=4294967295)(b0:0<=b)(b1:b<=4294967295)(w:World):
  Calls prog 194 #[.int .u32 a,.int .u32 b] w λe w'=>e=.returned (.int .u32 (alu 42 a b))/\w'=w:=by
 by_cases hb:b=0
 ·subst hb
  go_enter func194,ntmps194
  go_wp2
  go_ret
  exact⟨rfl,rfl⟩
 ·have hb':(b==0)=false:=by simpa using hb
  have hs:¬wrap64 (wrap32 b)=0:=λh=>hb ((zgH b b0 b1).1 (zY b b0 b1▸h))
  have ha:=jb a a0 a1
  have hd:=zfj (sg a) (sg b) 2147483648 (by omega) (by omega)
  go_enter func194,ntmps194
  go_wp2
  go_ret
  exact⟨zZ (by rw[zY a a0 a1,zY b b0 b1,wrap64_in _ (by omega) (by omega)];simp[alu,hb]),rfl⟩
theorem zbW(a b:Int)(a0:0<=a)(a1:a<=4294967295)(b0:0<=b)(b1:b<=4294967295)(w:World):
  Calls prog 195 #[.int .u32 a,.int .u32 b] w λe w'=>e=.returned (.int .u32 (alu 43 a b))/\w'=w:=by
 by_cases hb:b=0
 ·subst hb
  go_enter func195,ntmps195
  go_wp2
  go_ret
  exact⟨rfl,rfl⟩
 ·have hb':(b==0)=false:=by simpa using hb
  go_enter func195,ntmps195
  go_wp2
  go_ret
  exact⟨zZ (by simp[alu,hb]),rfl⟩
theorem zao(a b:Int)(a0:0<=a)(a1:a<=4294967295)(b0:0<=b)(b1:b<=4294967295)(w:World):
  Calls prog 196 #[.int .u32 a,.int .u32 b] w λe w'=>e=.returned (.int .u32 (alu 44 a b))/\w'=w:=by
 by_cases hb:b=0
 ·subst hb
  go_enter func196,ntmps196
  go_wp2
  go_ret
  exact⟨rfl,rfl⟩
 ·have hb':(b==0)=false:=by simpa using hb
  have hs:¬wrap64 (wrap32 b)=0:=λh=>hb ((zgH b b0 b1).1 (zY b b0 b1▸h))
  have ha:=jb a a0 a1
  have hd:=zfk (sg a) (sg b) 2147483648 (by omega) (by omega)
  go_enter func196,ntmps196
  go_wp2
  go_ret
  exact⟨zZ (by rw[zY a a0 a1,zY b b0 b1];simp[alu,hb]),rfl⟩
theorem zjc(a b:Int)(a0:0<=a)(a1:a<=4294967295)(b0:0<=b)(b1:b<=4294967295)(w:World):
  Calls prog 197 #[.int .u32 a,.int .u32 b] w λe w'=>e=.returned (.int .u32 (alu 45 a b))/\w'=w:=by
 by_cases hb:b=0
 ·subst hb
  go_enter func197,ntmps197
  go_wp2
  go_ret
  exact⟨rfl,rfl⟩
 ·have hb':(b==0)=false:=by simpa using hb
  go_enter func197,ntmps197
  go_wp2
  go_ret
  exact⟨zZ (by simp[alu,hb]),rfl⟩
theorem zph(a b:Int)(a0:0<=a)(a1:a<=4294967295)(b0:0<=b)(b1:b<=4294967295)(w:World):
  Calls prog 168 #[.int .i64 28,.int .u32 a,.int .u32 b] w λe w'=>e=.returned (.int .u32 (alu 28 a b))/\w'=w:=by
 go_enter func168,ntmps168
 go_wp2
 go_ret
 exact⟨rfl,rfl⟩
theorem zpi(a b:Int)(a0:0<=a)(a1:a<=4294967295)(b0:0<=b)(b1:b<=4294967295)(w:World):
  Calls prog 168 #[.int .i64 29,.int .u32 a,.int .u32 b] w λe w'=>e=.returned (.int .u32 (alu 29 a b))/\w'=w:=by
 go_enter func168,ntmps168
 go_wp2
 go_ret
 exact⟨rfl,rfl⟩
theorem zpj(a b:Int)(a0:0<=a)(a1:a<=4294967295)(b0:0<=b)(b1:b<=4294967295)(w:World):
  Calls prog 168 #[.int .i64 38,.int .u32 a,.int .u32 b] w λe w'=>e=.returned (.int .u32 (alu 38 a b))/\w'=w:=by
 go_enter func168,ntmps168
 go_wp2
 go_ret
 exact⟨rfl,rfl⟩
theorem zpk(a b:Int)(a0:0<=a)(a1:a<=4294967295)(b0:0<=b)(b1:b<=4294967295)(w:World):
  Calls prog 168 #[.int .i64 33,.int .u32 a,.int .u32 b] w λe w'=>e=.returned (.int .u32 (alu 33 a b))/\w'=w:=by
 go_enter func168,ntmps168
 go_wp2
 go_ret
 exact⟨zZ (u32_xor a b a0 (by omega) b0 (by omega)),rfl⟩
theorem zpl(a b:Int)(a0:0<=a)(a1:a<=4294967295)(b0:0<=b)(b1:b<=4294967295)(w:World):
  Calls prog 168 #[.int .i64 36,.int .u32 a,.int .u32 b] w λe w'=>e=.returned (.int .u32 (alu 36 a b))/\w'=w:=by
 go_enter func168,ntmps168
 go_wp2
 go_ret
 exact⟨zZ (u32_or a b a0 (by omega) b0 (by omega)),rfl⟩
theorem zpm(a b:Int)(a0:0<=a)(a1:a<=4294967295)(b0:0<=b)(b1:b<=4294967295)(w:World):
  Calls prog 168 #[.int .i64 37,.int .u32 a,.int .u32 b] w λe w'=>e=.returned (.int .u32 (alu 37 a b))/\w'=w:=by
 go_enter func168,ntmps168
 go_wp2
 go_ret
 exact⟨zZ (u32_and a b a0 (by omega) b0 (by omega)),rfl⟩
theorem zpn(a b:Int)(a0:0<=a)(a1:a<=4294967295)(b0:0<=b)(b1:b<=4294967295)(w:World):
  Calls prog 168 #[.int .i64 30,.int .u32 a,.int .u32 b] w λe w'=>e=.returned (.int .u32 (alu 30 a b))/\w'=w:=by
 have s0:0<=b%32:=by omega
 have s1:b%32<=32:=by omega
 go_enter func168,ntmps168
 go_wp2_with(go_at_call 190;refine(vl b b0 b1 _).mono ?_;rintro e w' ⟨rfl,rfl⟩)
 go_ret
 exact⟨zZ (by simp[alu,zc3]),rfl⟩
theorem zpo(a b:Int)(a0:0<=a)(a1:a<=4294967295)(b0:0<=b)(b1:b<=4294967295)(w:World):
  Calls prog 168 #[.int .i64 34,.int .u32 a,.int .u32 b] w λe w'=>e=.returned (.int .u32 (alu 34 a b))/\w'=w:=by
 have s0:0<=b%32:=by omega
 have s1:b%32<=32:=by omega
 go_enter func168,ntmps168
 go_wp2_with(go_at_call 190;refine(vl b b0 b1 _).mono ?_;rintro e w' ⟨rfl,rfl⟩)
 go_ret
 exact⟨zZ (by simp[alu,zc3]),rfl⟩
theorem zpp(a b:Int)(a0:0<=a)(a1:a<=4294967295)(b0:0<=b)(b1:b<=4294967295)(w:World):
  Calls prog 168 #[.int .i64 35,.int .u32 a,.int .u32 b] w λe w'=>e=.returned (.int .u32 (alu 35 a b))/\w'=w:=by
 have s0:0<=b%32:=by omega
 have s1:b%32<=32:=by omega
 go_enter func168,ntmps168
 go_wp2_with(go_at_call 190;refine(vl b b0 b1 _).mono ?_;rintro e w' ⟨rfl,rfl⟩)
 go_ret
 exact⟨zZ (by simp[alu,zc3,zgG a a0 a1]),rfl⟩
theorem zpq(a b:Int)(a0:0<=a)(a1:a<=4294967295)(b0:0<=b)(b1:b<=4294967295)(w:World):
  Calls prog 168 #[.int .i64 31,.int .u32 a,.int .u32 b] w λe w'=>e=.returned (.int .u32 (alu 31 a b))/\w'=w:=by
 by_cases h:wrap64 (wrap32 a)<wrap64 (wrap32 b)
 all_goals
  go_enter func168,ntmps168
  go_wp2
  go_ret
  exact⟨zZ (by rw[zY a a0 a1,zY b b0 b1]at h;simp[alu,h]),rfl⟩
theorem zpr(a b:Int)(a0:0<=a)(a1:a<=4294967295)(b0:0<=b)(b1:b<=4294967295)(w:World):
  Calls prog 168 #[.int .i64 32,.int .u32 a,.int .u32 b] w λe w'=>e=.returned (.int .u32 (alu 32 a b))/\w'=w:=by
 by_cases h:a<b
 all_goals
  go_enter func168,ntmps168
  go_wp2
  go_ret
  exact⟨zZ (by simp[alu,h]),rfl⟩
theorem zps(a b:Int)(a0:0<=a)(a1:a<=4294967295)(b0:0<=b)(b1:b<=4294967295)(w:World):
  Calls prog 168 #[.int .i64 39,.int .u32 a,.int .u32 b] w λe w'=>e=.returned (.int .u32 (alu 39 a b))/\w'=w:=by
 have ha:=jb a a0 a1
 have hb:=jb b b0 b1
 go_enter func168,ntmps168
 go_wp2
 go_ret
 exact⟨zZ (by rw[zbV,zY a a0 a1,zY b b0 b1];rfl),rfl⟩
theorem zpt(a b:Int)(a0:0<=a)(a1:a<=4294967295)(b0:0<=b)(b1:b<=4294967295)(w:World):
  Calls prog 168 #[.int .i64 40,.int .u32 a,.int .u32 b] w λe w'=>e=.returned (.int .u32 (alu 40 a b))/\w'=w:=by
 have ha:=jb a a0 a1
 have hb:=jb b b0 b1
 go_enter func168,ntmps168
 go_wp2
 go_ret
 exact⟨zZ (by rw[zbV,zY a a0 a1];rfl),rfl⟩
theorem zpu(a b:Int)(a0:0<=a)(a1:a<=4294967295)(b0:0<=b)(b1:b<=4294967295)(w:World):
  Calls prog 168 #[.int .i64 41,.int .u32 a,.int .u32 b] w λe w'=>e=.returned (.int .u32 (alu 41 a b))/\w'=w:=by
 have ha:=jb a a0 a1
 have hb:=jb b b0 b1
 go_enter func168,ntmps168
 go_wp2
 go_ret
 exact⟨zZ (zfl _),rfl⟩
theorem zpv(a b:Int)(a0:0<=a)(a1:a<=4294967295)(b0:0<=b)(b1:b<=4294967295)(w:World):
  Calls prog 168 #[.int .i64 42,.int .u32 a,.int .u32 b] w λe w'=>e=.returned (.int .u32 (alu 42 a b))/\w'=w:=by
 go_enter func168,ntmps168
 go_wp2_with(go_at_call 194;refine(ko a b a0 a1 b0 b1 _).mono ?_;rintro e w' ⟨rfl,rfl⟩)
 go_ret
 exact⟨rfl,rfl⟩
theorem zpw(a b:Int)(a0:0<=a)(a1:a<=4294967295)(b0:0<=b)(b1:b<=4294967295)(w:World):
  Calls prog 168 #[.int .i64 43,.int .u32 a,.int .u32 b] w λe w'=>e=.returned (.int .u32 (alu 43 a b))/\w'=w:=by
 go_enter func168,ntmps168
 go_wp2_with(go_at_call 195;refine(zbW a b a0 a1 b0 b1 _).mono ?_;rintro e w' ⟨rfl,rfl⟩)
 go_ret
 exact⟨rfl,rfl⟩
theorem zpx(a b:Int)(a0:0<=a)(a1:a<=4294967295)(b0:0<=b)(b1:b<=4294967295)(w:World):
  Calls prog 168 #[.int .i64 44,.int .u32 a,.int .u32 b] w λe w'=>e=.returned (.int .u32 (alu 44 a b))/\w'=w:=by
 go_enter func168,ntmps168
 go_wp2_with(go_at_call 196;refine(zao a b a0 a1 b0 b1 _).mono ?_;rintro e w' ⟨rfl,rfl⟩)
 go_ret
 exact⟨rfl,rfl⟩
theorem zpy(a b:Int)(a0:0<=a)(a1:a<=4294967295)(b0:0<=b)(b1:b<=4294967295)(w:World):
  Calls prog 168 #[.int .i64 45,.int .u32 a,.int .u32 b] w λe w'=>e=.returned (.int .u32 (alu 45 a b))/\w'=w:=by
 go_enter func168,ntmps168
 go_wp2_with(go_at_call 197;refine(zjc a b a0 a1 b0 b1 _).mono ?_;rintro e w' ⟨rfl,rfl⟩)
 go_ret
 exact⟨rfl,rfl⟩
theorem zgI(op a b:Int)(w:World)(n28:(op==28)=false)(n29:(op==29)=false)(n30:(op==30)=false)(n31:(op==31)=false)(n32:(op==32)=false)(n33:(op==33)=false)(n34:(op==34)=false)(n35:(op==35)=false)(n36:(op==36)=false)(n37:(op==37)=false)(n38:(op==38)=false)(n39:(op==39)=false)(n40:(op==40)=false)(n41:(op==41)=false)(n42:(op==42)=false)(n43:(op==43)=false)(n44:(op==44)=false)(n45:(op==45)=false):
  Calls prog 168 #[.int .i64 op,.int .u32 a,.int .u32 b] w λe w'=>e=.returned (.int .u32 0)/\w'=w:=by
 go_enter func168,ntmps168
 go_wp2
 go_ret
 exact⟨rfl,rfl⟩
theorem zjd(op a b:Int)(n28:¬op=28)(n29:¬op=29)(n30:¬op=30)(n31:¬op=31)(n32:¬op=32)(n33:¬op=33)(n34:¬op=34)(n35:¬op=35)(n36:¬op=36)(n37:¬op=37)(n38:¬op=38)(n39:¬op=39)(n40:¬op=40)(n41:¬op=41)(n42:¬op=42)(n43:¬op=43)(n44:¬op=44)(n45:¬op=45):alu op a b=0:=by
 unfold alu
 simp only[n28,n29,n30,n31,n32,n33,n34,n35,n36,n37,n38,n39,n40,n41,n42,n43,n44,n45,if_false]
theorem zgJ(op:Int)(a b:Int)(a0:0<=a)(a1:a<=4294967295)(b0:0<=b)(b1:b<=4294967295)(w:World):
  Calls prog 168 #[.int .i64 op,.int .u32 a,.int .u32 b] w λe w'=>e=.returned (.int .u32 (alu op a b))/\w'=w:=by
 by_cases n28:op=28
 ·subst n28;exact zph a b a0 a1 b0 b1 w
 by_cases n29:op=29
 ·subst n29;exact zpi a b a0 a1 b0 b1 w
 by_cases n30:op=30
 ·subst n30;exact zpn a b a0 a1 b0 b1 w
 by_cases n31:op=31
 ·subst n31;exact zpq a b a0 a1 b0 b1 w
 by_cases n32:op=32
 ·subst n32;exact zpr a b a0 a1 b0 b1 w
 by_cases n33:op=33
 ·subst n33;exact zpk a b a0 a1 b0 b1 w
 by_cases n34:op=34
 ·subst n34;exact zpo a b a0 a1 b0 b1 w
 by_cases n35:op=35
 ·subst n35;exact zpp a b a0 a1 b0 b1 w
 by_cases n36:op=36
 ·subst n36;exact zpl a b a0 a1 b0 b1 w
 by_cases n37:op=37
 ·subst n37;exact zpm a b a0 a1 b0 b1 w
 by_cases n38:op=38
 ·subst n38;exact zpj a b a0 a1 b0 b1 w
 by_cases n39:op=39
 ·subst n39;exact zps a b a0 a1 b0 b1 w
 by_cases n40:op=40
 ·subst n40;exact zpt a b a0 a1 b0 b1 w
 by_cases n41:op=41
 ·subst n41;exact zpu a b a0 a1 b0 b1 w
 by_cases n42:op=42
 ·subst n42;exact zpv a b a0 a1 b0 b1 w
 by_cases n43:op=43
 ·subst n43;exact zpw a b a0 a1 b0 b1 w
 by_cases n44:op=44
 ·subst n44;exact zpx a b a0 a1 b0 b1 w
 by_cases n45:op=45
 ·subst n45;exact zpy a b a0 a1 b0 b1 w
 rw[zjd op a b n28 n29 n30 n31 n32 n33 n34 n35 n36 n37 n38 n39 n40 n41 n42 n43 n44 n45]
 exact zgI op a b w (by simpa using n28) (by simpa using n29) (by simpa using n30) (by simpa using n31) (by simpa using n32) (by simpa using n33) (by simpa using n34) (by simpa using n35) (by simpa using n36) (by simpa using n37) (by simpa using n38) (by simpa using n39) (by simpa using n40) (by simpa using n41) (by simpa using n42) (by simpa using n43) (by simpa using n44) (by simpa using n45)
theorem znw(a b:Int)(a0:0<=a)(a1:a<=4294967295)(b0:0<=b)(b1:b<=4294967295)(w:World):
  Calls prog 167 #[.int .i64 5,.int .u32 a,.int .u32 b] w λe w'=>e=.returned (.bool (holds 5 a b))/\w'=w:=by
 go_enter func167,ntmps167
 go_wp2
 go_ret
 exact⟨rfl,rfl⟩
theorem znx(a b:Int)(a0:0<=a)(a1:a<=4294967295)(b0:0<=b)(b1:b<=4294967295)(w:World):
  Calls prog 167 #[.int .i64 6,.int .u32 a,.int .u32 b] w λe w'=>e=.returned (.bool (holds 6 a b))/\w'=w:=by
 go_enter func167,ntmps167
 go_wp2
 go_ret
 exact⟨rfl,rfl⟩
theorem zny(a b:Int)(a0:0<=a)(a1:a<=4294967295)(b0:0<=b)(b1:b<=4294967295)(w:World):
  Calls prog 167 #[.int .i64 7,.int .u32 a,.int .u32 b] w λe w'=>e=.returned (.bool (holds 7 a b))/\w'=w:=by
 go_enter func167,ntmps167
 go_wp2_with(go_at_call 189;refine(xK a b a0 a1 b0 b1 _).mono ?_;rintro e w' ⟨rfl,rfl⟩)
 go_ret
 exact⟨rfl,rfl⟩
theorem znz(a b:Int)(a0:0<=a)(a1:a<=4294967295)(b0:0<=b)(b1:b<=4294967295)(w:World):
  Calls prog 167 #[.int .i64 8,.int .u32 a,.int .u32 b] w λe w'=>e=.returned (.bool (holds 8 a b))/\w'=w:=by
 go_enter func167,ntmps167
 go_wp2_with(go_at_call 189;refine(xK a b a0 a1 b0 b1 _).mono ?_;rintro e w' ⟨rfl,rfl⟩)
 go_ret
 exact⟨rfl,rfl⟩
theorem znA(a b:Int)(a0:0<=a)(a1:a<=4294967295)(b0:0<=b)(b1:b<=4294967295)(w:World):
  Calls prog 167 #[.int .i64 9,.int .u32 a,.int .u32 b] w λe w'=>e=.returned (.bool (holds 9 a b))/\w'=w:=by
 go_enter func167,ntmps167
 go_wp2
 go_ret
 exact⟨rfl,rfl⟩
theorem zlB(a b:Int)(a0:0<=a)(a1:a<=4294967295)(b0:0<=b)(b1:b<=4294967295)(w:World):
  Calls prog 167 #[.int .i64 10,.int .u32 a,.int .u32 b] w λe w'=>e=.returned (.bool (holds 10 a b))/\w'=w:=by
 go_enter func167,ntmps167
 go_wp2
 go_ret
 exact⟨rfl,rfl⟩
theorem zc5(op a b:Int)(w:World)(n5:(op==5)=false)(n6:(op==6)=false)(n7:(op==7)=false)(n8:(op==8)=false)(n9:(op==9)=false)(n10:(op==10)=false):
  Calls prog 167 #[.int .i64 op,.int .u32 a,.int .u32 b] w λe w'=>e=.returned (.bool false)/\w'=w:=by
 go_enter func167,ntmps167
 go_wp2
 go_ret
 exact⟨rfl,rfl⟩
theorem holds_none(op a b:Int)(n5:¬op=5)(n6:¬op=6)(n7:¬op=7)(n8:¬op=8)(n9:¬op=9)(n10:¬op=10):holds op a b=false:=by
 unfold holds
 simp only[n5,n6,n7,n8,n9,n10,if_false]
theorem zgK(op:Int)(a b:Int)(a0:0<=a)(a1:a<=4294967295)(b0:0<=b)(b1:b<=4294967295)(w:World):
  Calls prog 167 #[.int .i64 op,.int .u32 a,.int .u32 b] w λe w'=>e=.returned (.bool (holds op a b))/\w'=w:=by
 by_cases n5:op=5
 ·subst n5;exact znw a b a0 a1 b0 b1 w
 by_cases n6:op=6
 ·subst n6;exact znx a b a0 a1 b0 b1 w
 by_cases n7:op=7
 ·subst n7;exact zny a b a0 a1 b0 b1 w
 by_cases n8:op=8
 ·subst n8;exact znz a b a0 a1 b0 b1 w
 by_cases n9:op=9
 ·subst n9;exact znA a b a0 a1 b0 b1 w
 by_cases n10:op=10
 ·subst n10;exact zlB a b a0 a1 b0 b1 w
 rw[holds_none op a b n5 n6 n7 n8 n9 n10]
 exact zc5 op a b w (by simpa using n5) (by simpa using n6) (by simpa using n7) (by simpa using n8) (by simpa using n9) (by simpa using n10)
theorem half(x k:Nat):x/2^(k+1)=x/2^k/2:=by
 rw[Nat.pow_succ,Nat.div_div_eq_div_mul]
def p256:Nat->Int
 |0=>1
 |1=>256
 |2=>65536
 |3=>16777216
 |_=>4294967296
theorem le_rng(f:Nat->Int)(j:Nat)(hj:j<=4)(hf:∀i,i<j->0<=f i/\f i<=255):0<=le f j/\le f j<=p256 j-1:=by
 rcases(by omega:j=0\/j=1\/j=2\/j=3\/j=4)with rfl|rfl|rfl|rfl|rfl
 ·exact⟨ZN 0,by show(0:Int)<=1-1;omega⟩
 ·have h0:=hf 0 (by omega)
  show 0<=f 0/\f 0<=256-1
  omega
 ·have h0:=hf 0 (by omega)
  have h1:=hf 1 (by omega)
  show 0<=f 0+f 1*256/\f 0+f 1*256<=65536-1
  omega
 ·have h0:=hf 0 (by omega)
  have h1:=hf 1 (by omega)
  have h2:=hf 2 (by omega)
  show 0<=f 0+f 1*256+f 2*65536/\f 0+f 1*256+f 2*65536<=16777216-1
  omega
 ·have h0:=hf 0 (by omega)
  have h1:=hf 1 (by omega)
  have h2:=hf 2 (by omega)
  have h3:=hf 3 (by omega)
  show 0<=f 0+f 1*256+f 2*65536+f 3*16777216/\f 0+f 1*256+f 2*65536+f 3*16777216<=4294967296-1
  omega
structure In where
 op:Int
 rd:Nat
 s1:Nat
 s2:Nat
 im:Int
structure Cm where
 pc:Int
 next:Int
 st:Int
 ca:Int
 rd:Nat
 val:Int
 pl:Int
 many:Int
 data:Int
 out:Bool
 told:Int
def opn(op:Int):Int:=if op=19 then 28 else if op=20 then 31 else if op=21 then 32 else if op=22 then 33 else if op=23 then 36 else if op=24 then 37 else if op=25 then 30 else if op=26 then 34 else 35
def zin:In:=⟨0,0,0,0,0⟩
def zcm:Cm:=⟨0,0,0,0,0,0,0,0,0,false,0⟩
def qn(pc k:Int):Cm:=⟨pc,pc,2,k,0,0,0,0,0,false,0⟩
def onC(pc:Int)(rd:Nat)(v:Int):Cm:=⟨pc,(pc+4)%4294967296,0,0,rd,if rd=0 then 0 else v,0,0,0,false,0⟩
def sts(i:In):Bool:=decide (16<=i.op/\i.op<=18)
def trn(i:In):Bool:=decide (4<=i.op/\i.op<=10)
def gvs(i:In):Nat:=if i.op=46 then 0 else i.rd
def ra(i:In):Nat:=if i.op=47 then 17 else i.s1
def rb(i:In):Nat:=if i.op=47 then 10 else i.s2
def place(i:In)(a:Int):Int:=(a+i.im)%4294967296
def fits(n:Nat)(x many:Int):Bool:=decide (0<=x/\x%many=0/\x+many<=n)
def qf(n:Nat)(f:Nat->Int)(i:In)(pc a:Int):Cm:=
 if fits n (place i a) (ldn i.op)then onC pc i.rd (ldv i.op (λk=>f ((place i a).toNat+k)))else qn pc 3
def zje(pc nx:Int)(rd:Nat)(v:Int):Cm:=⟨pc,nx,0,0,rd,if rd=0 then 0 else v,0,0,0,false,0⟩
def nxW(i:In)(pc a b:Int):Int:=
 if i.op=3 then(pc+i.im%4294967296)%4294967296
 else if i.op=4 then(a+i.im%4294967296)%4294967296-(a+i.im%4294967296)%4294967296%2
 else if holds i.op a b=true then(pc+i.im%4294967296)%4294967296
 else(pc+4)%4294967296
def rkW(i:In)(pc a b:Int):Int:=
 if i.op=1 then i.im%4294967296
 else if i.op=2 then(pc+i.im%4294967296)%4294967296
 else if i.op=3\/i.op=4 then(pc+4)%4294967296
 else if 19<=i.op/\i.op<=27 then alu (opn i.op) a (i.im%4294967296)
 else alu i.op a b
def doW(i:In)(pc a b:Int)(n:Nat):Cm:=
 if sts i=true then
  (if fits n (place i a) (stn i.op)=true then⟨pc,(pc+4)%4294967296,0,0,0,0,place i a,stn i.op,b%p256 (stn i.op).toNat,false,0⟩else qn pc 4)
 else if i.op=46 then onC pc 0 0
 else if i.op=47 then(if a=0 then⟨pc,pc,1,0,0,0,0,0,0,false,0⟩else if a=1 then⟨pc,(pc+4)%4294967296,0,0,0,0,0,0,0,true,b⟩else qn pc 5)
 else if i.op=48 then qn pc 6
 else zje pc (nxW i pc a b) i.rd (rkW i pc a b)
def allW(n:Nat)(f:Nat->Int)(i:In)(pc a b:Int):Cm:=if ldn i.op≠0 then qf n f i pc a else doW i pc a b n
end Go.Proofs.YtpiohehijkpghacGreatDoor
namespace Go.Proofs.YtpiohehijkpghacGreatDoor.Wi
open Go.RowKit
abbrev Sl:=Int×Bool
def scs:List Sl->List Value
 |[]=>[]
 |p::l=>.int .i64 p.1::.bool p.2::scs l
theorem kW:∀l:List Sl,(scs l).length=l.length*2
 |[]=>rfl
 |p::l=>by have:=kW l;simp[scs,this];omega
theorem zc6:∀l m:List Sl,scs (l++m)=scs l++scs m
 |[],m=>rfl
 |p::l,m=>by have:=zc6 l m;simp[scs,this]
theorem za0:∀(l:List Sl) (k:Nat) (p:Sl),l[k]?=some p->(scs l)[k*2]?=some (.int .i64 p.1)
 |[],k,p,h=>by simp at h
 |q::l,0,p,h=>by simp at h;subst h;rfl
 |q::l,k+1,p,h=>by
  have:=za0 l k p (by simpa using h)
  rw[show(k+1)*2=k*2+1+1 by omega]
  simpa[scs]using this
theorem kp:∀(l:List Sl) (k:Nat) (p:Sl),l[k]?=some p->(scs l)[k*2+1]?=some (.bool p.2)
 |[],k,p,h=>by simp at h
 |q::l,0,p,h=>by simp at h;subst h;rfl
 |q::l,k+1,p,h=>by
  have:=kp l k p (by simpa using h)
  rw[show(k+1)*2+1=k*2+1+1+1 by omega]
  simpa[scs]using this
theorem vm:∀(l:List Sl),∀u∈scs l,u.oneCell'=true
 |[],u,h=>by simp[scs]at h
 |p::l,u,h=>by
  simp only[scs,Am]at h
  rcases h with rfl|rfl|h
  ·rfl
  ·rfl
  ·exact vm l u h
theorem zem:∀(l:List Sl) (m:Nat),scs (l.drop m)=(scs l).drop (m*2)
 |l,0=>by simp
 |[],m+1=>by simp[scs]
 |p::l,m+1=>by
  have:=zem l m
  rw[show(m+1)*2=m*2+1+1 by omega]
  simpa[scs]using this
theorem zgL:∀(l:List Sl) (k:Nat) (s:Int),(l[k]?).map (·.1)=some s->(scs l).set (k*2+1) (.bool true)=scs (l.set k (s,true))
 |[],k,s,h=>by simp at h
 |q::l,0,s,h=>by simp at h;subst h;rfl
 |q::l,k+1,s,h=>by
  have:=zgL l k s (by simpa using h)
  rw[show(k+1)*2+1=k*2+1+1+1 by omega]
  simp[scs,this]
def ics(l:List Int):List Value:=l.map λx=>AR .i64 x
theorem jq(l:List Int):(ics l).length=l.length*1:=by simp[ics]
theorem za1(l m:List Int):ics (l++m)=ics l++ics m:=by simp[ics]
theorem jV{l:List Int}{k:Nat}{x:Int}(h:l[k]?=some x):(ics l)[k]?=some (.int .i64 x):=by simp[ics,h]
theorem jD(l:List Int):∀u∈ics l,u.oneCell'=true:=by
 intro u hu
 obtain⟨x,_,rfl⟩:=ZB.1 hu
 rfl
theorem zc7(l:List Int)(k:Nat)(x:Int):(ics l).set k (.int .i64 x)=ics (l.set k x):=by simp[ics,List.map_set]
structure LC(w:World)(a:Option Addr)(n c size:Nat)(cs:List Value):Prop where
 len:cs.length=n*size
 le:n<=c
 top:c<=maxLen
 nil:a=none->n=0/\c=0
 one:∀u∈cs,u.oneCell'=true
 ad:∀x,a=some x->0<n->∃b o,x=⟨b,o,none⟩/\b<w.heap.size/\∀j u,cs[j]?=some u->w.cell? ⟨b,o+j,none⟩=some u
theorem LC.below{w w':World}{a:Option Addr}{n c size:Nat}{cs:List Value}(h:LC w a n c size cs){B:Nat}(hB:w.heap.size<=B)(hb:Below B w w'):LC w' a n c size cs:=
 ⟨h.len,h.le,h.top,h.nil,h.one,λx hx h0=>by
  obtain⟨b,o,rfl,hlt,hc⟩:=h.ad x hx h0
  exact⟨b,o,rfl,WZ hlt hb.size,λj u hj=>(hb.cell (p:=⟨b,o+j,none⟩) (WZ hlt hB)).trans (hc j u hj)⟩⟩
theorem LC.sure{w:World}{a:Option Addr}{n c size:Nat}{cs:List Value}(h:LC w a n c size cs)(hn:0<n):∃b o,a=some ⟨b,o,none⟩/\b<w.heap.size/\∀j u,cs[j]?=some u->w.cell? ⟨b,o+j,none⟩=some u:=by
 cases a with
 |none=>have:=(h.nil rfl).1;omega
 |some x=>
  obtain⟨b,o,rfl,hc⟩:=h.ad x rfl hn
  exact⟨b,o,rfl,hc⟩
def FarC(B:Nat)(a:Option Addr):Prop:=∀x,a=some x->B<=x.block
theorem vn(w:World)(size:Nat):LC w none 0 0 size []:=⟨by simp,Aa _,by unfold maxLen;omega,λ_=>⟨rfl,rfl⟩,λu hu=>by simp at hu,λx hx _=>by cases hx⟩
theorem zbX(B:Nat):FarC B none:=λx hx=>by cases hx
theorem qz{w:World}{B e n size:Nat}{v:Value}{cs:List Value}(hown:w.ownsRow B e size v n cs)(h1:∀u∈cs,u.oneCell'=true):∃a c,v=.slice a n c/\LC w a n c size cs/\FarC B a:=by
 have hown0:=hown
 obtain⟨hl,hcase⟩:=hown
 rcases hcase with⟨rfl,rfl⟩|⟨g,cap,cur,rfl,hg,hh,hn',hcap,hsz,htake⟩
 ·obtain rfl:cs=[]:=Au (by simpa using hl)
  exact⟨none,0,rfl,vn _ _,zbX _⟩
 ·refine⟨_,cap,rfl,⟨hl,hn',hcap,λh=>(nomatch h),h1,λx hx _=>⟨g,0,(Ak hx).symm,(Af.1 hh).1,λj u hj=>?_⟩⟩,λx hx=>by obtain rfl:=Ak hx;exact hg⟩
  have:=hown0.cells (g:=g) rfl j _ hj
  rwa [Zd]at this
theorem LC.drop{w:World}{b o n c size:Nat}{cs:List Value}(h:LC w (some ⟨b,o,none⟩) n c size cs)(m:Nat)(hm:m<=n){a:Option Addr}(ha:m<n->a=some ⟨b,o+m*size,none⟩)(hs:a.isSome=true):LC w a (n-m) (c-m) size (cs.drop (m*size)):=by
 refine⟨by rw[AO,h.len,Nat.sub_mul],by have:=h.le;omega,by have:=h.top;omega,λe=>by rw[e]at hs;simp at hs,λu hu=>h.one u (List.mem_of_mem_drop hu),λx hx h0=>?_⟩
 obtain⟨b',o',e,hlt,hc⟩:=h.ad _ rfl (by omega)
 cases e
 rw[ha (by omega)]at hx
 refine⟨b,o+m*size,(Ak hx).symm,hlt,λj u hj=>?_⟩
 rw[List.getElem?_drop]at hj
 rw[Zu]
 exact hc _ _ hj
theorem zx{P:Program}(w:World){ops:Array Oper}{rest:List Oper}{o:Oper}{a:Act}{Q:Exit->Act->World->Prop}(hgd:o.guard=none)(s x:Operand)(t:TypeId)
  (ho:o.op=.call {callee:=.builtin .append,args:=#[s,x],argTypes:=#[t,t]})
  (base:Nat) (e:TypeId) (i:TypeInfo) (z:Value) (size bytes:Nat) (ht:P.underlying t=some (.slice e)) (hi:P.info? e=some i) (hz:i.zero=some z)
  (hsize:i.size=size) (hby:i.bytes=bytes) (hzs:z.cells.size=size) (hsz:0<size)
  (v:Value) (n:Nat) (xs:List Value) (hs:a.eval s=v) (hown:w.ownsRow base e size v n xs)
  (ao:Option Addr) (m c:Nat) (cs:List Value) (hx:a.eval x=.slice ao m c) (hl:LC w ao m c size cs) (h63:n+m<=maxLen) (hb:(n+m)*bytes<=140737488355328) (hbase:base<=w.heap.size)
  (h:∀v' w',w'.ownsRow base e size v' (n+m) (xs++cs)->w.grownBy w' v.ownBlock->wpList P ops Q rest (a.put o.dst v') w'):wpList P ops Q (o::rest) a w:=by
 cases ao with
 |some ad=>
  by_cases hm:0<m
  ·refine AH w hgd s x t ho base e i z size bytes ht hi hz hsize hby hzs hsz v n _ hs hown ad m c cs hx hl.len (λj u hj=>?_) hl.one h63 hb hbase λv' w' h1 h2 _=>h v' w' h1 h2
   obtain⟨b,o',rfl,_,hc⟩:=hl.ad ad rfl hm
   rw[Zd]
   exact hc j u hj
  ·obtain rfl:m=0:=by omega
   refine AH w hgd s x t ho base e i z size bytes ht hi hz hsize hby hzs hsz v n _ hs hown ad 0 c cs hx hl.len (λj u hj=>?_) hl.one h63 hb hbase λv' w' h1 h2 _=>h v' w' h1 h2
   have hnil:cs=[]:=Au (by simpa using hl.len)
   rw[hnil]at hj
   simp at hj
 |none=>
  obtain⟨rfl,rfl⟩:=hl.nil rfl
  obtain rfl:cs=[]:=Au (by simpa using hl.len)
  refine wpList_plain hgd λK hK'=>?_
  have hrun:=Zl (P:=P) w base t o.type e i size ht hi v n _ hown
  unfold Zt
  simp only[execOp,ho,resolve,invoke,builtin,Ze,ZC,AI,ZK,ZU,ZZ,hs,hx,hrun]
  exact hK' _ _ (h v w (by simpa using hown) (Zw _ _))
structure First(p:Sl->Bool)(l:List Sl)(m:Nat):Prop where
 le:m<=l.length
 no:∀j q,j<m->l[j]?=some q->p q=false
 yes:∀q,l[m]?=some q->p q=true
structure Goes(l:List Sl)(most:Int)(m:Nat):Prop where
 le:m<=l.length
 go:∀j q,j<m->l[j]?=some q->(j:Int)<most/\q.2=true
 stop:∀q,l[m]?=some q->¬((m:Int)<most/\q.2=true)
theorem zgM{l:List Sl}{k:Nat}(h:k<l.length):∃s d,l[k]?=some (s,d):=⟨_,_,Zb h⟩
theorem take_at{α:Type}{l:List α}{k:Nat}{p:α}(h:l[k]?=some p):l.take (k+1)=l.take k++[p]:=by
 rw[List.take_add_one,h];rfl
def cutS(l:List Sl)(seq:Int):List Int:=((l.filter λq=>decide (seq<=q.1)).map (·.1)).reverse
def vo(l:List Sl)(seq:Int):List Sl:=l.filter λq=>!decide (seq<=q.1)
end Go.Proofs.YtpiohehijkpghacGreatDoor.Wi
namespace Go.Proofs.YtpiohehijkpghacGreatDoor
open Go.RowKit
open Hy
structure Fr(w:World)(B h n:Nat)(f:Nat->Int):Prop where
 base:B<=h
 lt:h<w.heap.size
 cell:∀i,i<n->w.cell? ⟨h,i,none⟩=some (.int .u8 (f i))
 free:∀i,i<n->w.frozen? ⟨h,i,none⟩=false
theorem Fr.congr{w:World}{B h n:Nat}{f f':Nat->Int}(H:Fr w B h n f)(e:∀i,i<n->f i=f' i):Fr w B h n f':=
 ⟨H.base,H.lt,λi hi=>by rw[<-e i hi];exact H.cell i hi,H.free⟩
theorem Fr.set{w:World}{B h n:Nat}{f:Nat->Int}(H:Fr w B h n f)(k:Nat)(hk:k<n)(v:Int):Fr (w.setCell ⟨h,k,none⟩ (.int .u8 v)) B h n (λi=>if i=k then v else f i):=by
 refine⟨H.base,by simpa using H.lt,λi hi=>?_,λi hi=>by rw[World.frozen?_setCell];exact H.free i hi⟩
 by_cases e:i=k
 ·subst e
  rw[World.cell?_setCell_same _ _ _ (H.cell i hi),if_pos rfl]
 ·rw[World.cell?_setCell_other _ _ _ _ (by intro h';cases h';omega),if_neg e]
  exact H.cell i hi
theorem znB:(prog.info? 5).map (λi=>(i.zero,i.size,i.bytes))=some (some (.int .u8 0),1,1):=by kernel_rfl
theorem zgN{w:World}{B n:Nat}{v:Value}{f:Nat->Int}(hn:0<n)(hown:w.ownsRow B 5 1 v n ((Zf n).map λi=>AR .u8 (f i))):
  ∃h cap,v=.slice (some ⟨h,0,none⟩) n cap/\n<=cap/\cap<=maxLen/\Fr w B h n f:=by
 have hown0:=hown
 obtain⟨_,hcase⟩:=hown
 rcases hcase with⟨_,h0⟩|⟨g,cap',cur,rfl,hg,hh,hn',hcap,hsz,htake⟩
 ·omega
 ·refine⟨g,cap',rfl,hn',hcap,hg,?_,λi hi=>?_,λi hi=>by simp[World.frozen?,hh]⟩
  ·exact(Af.1 hh).1
  ·rw[hown0.cellAt i (by omega)]
   simp[hi]
theorem vq(g o n c:Nat)(f:Nat->Int)(h0:0<n)(hn:n<=140737488355328)(w:World)(hc:Lies w g o n f):
  Calls prog 35 #[.slice (some ⟨g,o,none⟩) n c] w λe w'=>(∃h cap,e=.returned (.slice (some ⟨h,0,none⟩) n cap)/\n<=cap/\cap<=maxLen/\Fr w' w.heap.size h n f)/\Below w.heap.size w w':=by
 obtain⟨i0,hi,hz0,hz1,hz2⟩:=Ax znB
 have q22:∀(w:World) (a:Option Addr) (n c n' c':Nat),(binOp .eql 28 (.slice a n c) (.slice none n' c')).run prog w=.ok (.bool a.isNone) w:=λw a n c n' c'=>AK w _ _ a n c n' c' underlying28
 have A:Hid (Lies w g o n f):=hc
 clear hc
 go_enter func35,ntmps35
 go_wp2_with(at_builtin;refine AH _ rfl _ _ 28 rfl w.heap.size 5 i0 (.int .u8 0) 1 1 underlying28 hi hz0 hz1 hz2 rfl (by decide) _ _ _ rfl (Ay w #[] 0 (Aa _) (AX _) rfl) ⟨g,o,none⟩ n c ((Zf n).map λi=>AR .u8 (f i)) rfl ?qc1 ?qc2 ?qc3 ?qc4 ?qc5 ?qc6 ?_)
 case qc1=>simp
 case qc2=>
  intro j u hj
  have hjn:j<n:=by
   have:=(Aq.1 hj).1
   simpa using this
  have hb:=An _ _ (A.out j hjn)
  rw[((Ad w.heap.size w).alloc (Aa _) _).cell (by rw[Go.WideShapes.add_plain];exact hb)]
  simp[hjn]at hj
  rw[<-hj,Go.WideShapes.add_plain]
  exact A.out j hjn
 case qc3=>intro u hu;obtain⟨x,_,rfl⟩:=ZB.1 hu;rfl
 case qc4=>unfold maxLen;omega
 case qc5=>omega
 case qc6=>simp
 intro v' w1 hown hgrow hnil
 go_wp2
 go_ret
 have hown':w1.ownsRow w.heap.size 5 1 v' n ((Zf n).map λi=>AR .u8 (f i)):=by simpa using hown
 obtain⟨h,cap,rfl,a1,a2,a3⟩:=zgN h0 hown'
 exact⟨⟨h,cap,rfl,a1,a2,a3⟩,((Ad _ w).alloc (Aa _) _).grown hgrow (by simp) (by intro k hk;simp[Zp]at hk;omega)⟩
def sto(f:Nat->Int)(a:Nat)(W:Int)(j i:Nat):Int:=if a<=i/\i<a+j then W/p256 (i-a)%256 else f i
theorem zjf(f:Nat->Int)(a:Nat)(W:Int)(j i:Nat):(if i=a+j then W/p256 j%256 else sto f a W j i)=sto f a W (j+1) i:=by
 unfold sto
 by_cases e:i=a+j
 ·subst e
  rw[if_pos rfl,if_pos ⟨by omega,by omega⟩,show a+j-a=j by omega]
 ·rw[if_neg e]
  by_cases h:a<=i/\i<a+j
  ·rw[if_pos h,if_pos ⟨h.1,by omega⟩]
  ·rw[if_neg h,if_neg (by omega)]
theorem Fr.step{w:World}{B h n:Nat}{f:Nat->Int}{a j:Nat}{W:Int}(H:Fr w B h n (sto f a W j))(hk:a+j<n)(v:Int)(hv:v=W/p256 j%256):Fr (w.setCell ⟨h,a+j,none⟩ (.int .u8 v)) B h n (sto f a W (j+1)):=by
 subst hv
 exact(H.set (a+j) hk _).congr λi _=>zjf f a W j i
theorem zgO(p:Option Addr)(n c:Nat)(op a:Int)(hn:n<=140737488355328)(a0:0<=a)(a1:a<=4294967295)(h:¬(0<stn op/\a%stn op=0/\a+stn op<=n))(w:World):
  Calls prog 111 #[.slice p n c,.int .i64 op,.int .u32 a] w λe w'=>e=.returned (.int .u32 0)/\w'=w:=by
 have hd:decide (0<stn op/\a%stn op=0/\a+stn op<=n)=false:=decide_eq_false h
 have hm:=vk op
 obtain⟨m,hM⟩:∃m,m=stn op:=⟨_,rfl⟩
 have C1:=zay op
 rw[<-hM]at hd hm C1
 have C2:=λw=>xv p n c a m hn a0 a1 hm w
 rw[hd]at C2
 clear hM h hd hm
 go_enter func111,ntmps111
 go_wp2_with fail
 refine(C1 _).mono ?_
 rintro e w' ⟨rfl,rfl⟩
 go_wp2_with fail
 refine(C2 _).mono ?_
 rintro e w' ⟨rfl,rfl⟩
 go_wp2_with fail
 go_ret
 exact⟨rfl,rfl⟩
theorem zaz(p:Option Addr)(n c:Nat)(op a:Int)(hn:n<=140737488355328)(a0:0<=a)(a1:a<=4294967295)(h:0<stn op/\a%stn op=0/\a+stn op<=n)(w:World):
  Calls prog 111 #[.slice p n c,.int .i64 op,.int .u32 a] w λe w'=>e=.returned (.int .u32 (stn op))/\w'=w:=by
 have hd:decide (0<stn op/\a%stn op=0/\a+stn op<=n)=true:=decide_eq_true h
 have hm:=vk op
 obtain⟨m,hM⟩:∃m,m=stn op:=⟨_,rfl⟩
 have C1:=zay op
 rw[<-hM]at hd hm C1⊢
 have C2:=λw=>xv p n c a m hn a0 a1 hm w
 rw[hd]at C2
 clear hM h hd hm
 go_enter func111,ntmps111
 go_wp2_with fail
 refine(C1 _).mono ?_
 rintro e w' ⟨rfl,rfl⟩
 go_wp2_with fail
 refine(C2 _).mono ?_
 rintro e w' ⟨rfl,rfl⟩
 go_wp2_with fail
 go_ret
 exact⟨rfl,rfl⟩
end Go.Proofs.YtpiohehijkpghacGreatDoor
namespace Go.Proofs.YtpiohehijkpghacGreatDoor.Od
open Go.Proofs.YtpiohehijkpghacGreatDoor.Wi
open Go.RowKit
open Hy
structure Ac where
 seq:Int
 st:Bool
 kn:Bool
 pl:Int
 many:Int
 data:Int
 done:Bool
structure Ac.Ok(a:Ac):Prop where
 p0:0<=a.pl
 p1:a.pl<=4294967295
 d0:0<=a.data
 d1:a.data<=4294967295
 m0:-9223372036854775808<=a.many
 m1:a.many<=9223372036854775807
def cel(p:Ac):List Value:=[.int .i64 p.seq,.bool p.st,.bool p.kn,.int .u32 p.pl,.int .i64 p.many,.int .u32 p.data,.bool p.done]
abbrev acv(p:Ac):Value:=.agg #[.int .i64 p.seq,.bool p.st,.bool p.kn,.int .u32 p.pl,.int .i64 p.many,.int .u32 p.data,.bool p.done]
def acs:List Ac->List Value
 |[]=>[]
 |p::l=>cel p++acs l
theorem vr:∀l:List Ac,(acs l).length=l.length*7
 |[]=>rfl
 |p::l=>by have:=vr l;simp[acs,cel,this];omega
theorem yv:∀(l:List Ac) (k j:Nat) (p:Ac) (u:Value),l[k]?=some p->(cel p)[j]?=some u->(acs l)[k*7+j]?=some u
 |[],k,j,p,u,h,hu=>by simp at h
 |q::l,0,j,p,u,h,hu=>by
  simp at h;subst h
  have hj:j<(cel q).length:=(Aq.1 hu).1
  rw[acs,Nat.zero_mul,ZD,AV hj]
  exact hu
 |q::l,k+1,j,p,u,h,hu=>by
  have:=yv l k j p u (by simpa using h) hu
  rw[acs,AT (by simp[cel];omega)]
  rw[show(k+1)*7+j-(cel q).length=k*7+j by simp[cel];omega]
  exact this
theorem xe(p:Ac):∀u∈cel p,u.oneCell'=true:=by
 intro u hu
 simp only[cel,Am,List.not_mem_nil,or_false]at hu
 rcases hu with rfl|rfl|rfl|rfl|rfl|rfl|rfl<;>rfl
def wd(a:Ac):Int:=if a.many<0 then 0 else if 4<a.many then 4 else a.many
theorem zen(a:Ac):0<=wd a/\wd a<=4:=by unfold wd;split<;>(try split)<;>omega
def hs(a:Ac)(x:Int):Bool:=decide (a.pl<=x/\x<a.pl+wd a)
def ahd(seq:Int)(a:Ac):Bool:=a.st&&decide (a.seq<seq)
def unk(seq:Int)(a:Ac):Bool:=ahd seq a&&!a.kn
def sto1(seq:Int)(a:Ac):Bool:=a.st&&a.kn&&decide (a.seq=seq)
def ovr(seq:Int)(a:Ac):Bool:=!a.st&&a.done&&a.kn&&decide (seq<a.seq)
def gv(seq x:Int)(a:Ac):Bool:=ahd seq a&&a.kn&&hs a x
def mt(s a:Ac):Bool:=decide (s.pl<a.pl+wd a/\a.pl<s.pl+wd s/\0<wd s/\0<wd a)
def aft(l:List Ac)(o:Option Nat)(a:Ac):Bool:=match o with
 |none=>true
 |some j=>match l[j]? with
  |none=>true
  |some q=>decide (q.seq<=a.seq)
def bst(l:List Ac)(seq x:Int):Nat->Option Nat
 |0=>none
 |k+1=>match l[k]? with
  |none=>bst l seq x k
  |some a=>if(gv seq x a&&aft l (bst l seq x k) a)=true then some k else bst l seq x k
theorem kr(l:List Ac)(seq x:Int):∀k j,bst l seq x k=some j->j<k/\∃q,l[j]?=some q/\gv seq x q=true
 |0,j,h=>by simp[bst]at h
 |k+1,j,h=>by
  unfold bst at h
  split at h
  ·obtain⟨h1,h2⟩:=kr l seq x k j h
   exact⟨by omega,h2⟩
  ·rename_i a ha
   split at h
   ·rename_i hc
    cases h
    simp at hc
    exact⟨by omega,a,ha,hc.1⟩
   ·obtain⟨h1,h2⟩:=kr l seq x k j h
    exact⟨by omega,h2⟩
theorem zgP{l:List Ac}{seq x:Int}{k:Nat}{a:Ac}(ha:l[k]?=some a)(h:gv seq x a=false):bst l seq x (k+1)=bst l seq x k:=by
 rw[bst,ha]
 simp[h]
theorem zgQ{l:List Ac}{seq x:Int}{k:Nat}{a:Ac}(ha:l[k]?=some a)(h:gv seq x a=true)(hn:bst l seq x k=none):bst l seq x (k+1)=some k:=by
 rw[bst,ha]
 simp[h,hn,aft]
theorem zjg{l:List Ac}{seq x:Int}{k j:Nat}{a q:Ac}(ha:l[k]?=some a)(h:gv seq x a=true)(hj:bst l seq x k=some j)(hq:l[j]?=some q)(hle:q.seq<=a.seq):bst l seq x (k+1)=some k:=by
 rw[bst,ha]
 simp[h,hj,aft,hq,hle]
theorem zjh{l:List Ac}{seq x:Int}{k j:Nat}{a q:Ac}(ha:l[k]?=some a)(hj:bst l seq x k=some j)(hq:l[j]?=some q)(hle:a.seq<q.seq):bst l seq x (k+1)=bst l seq x k:=by
 rw[bst,ha]
 have:¬q.seq<=a.seq:=by omega
 simp[hj,aft,hq,this]
def byt(a:Ac)(x:Int):Int:=a.data/two (8*(x-a.pl).toNat)%256
theorem zlC(a:Ac)(x:Int):0<=byt a x/\byt a x<=255:=by unfold byt;omega
def seen(l:List Ac)(seq x m:Int)(k:Nat):Int:=match bst l seq x k with
 |none=>m
 |some j=>match l[j]? with
  |none=>m
  |some q=>byt q x
theorem zeo(l:List Ac)(seq x m:Int)(k:Nat)(h:0<=m/\m<=255):0<=seen l seq x m k/\seen l seq x m k<=255:=by
 unfold seen
 split
 ·exact h
 ·split
  ·exact h
  ·exact zlC _ _
theorem seen_none{l:List Ac}{seq x m:Int}{k:Nat}(h:bst l seq x k=none):seen l seq x m k=m:=by unfold seen;rw[h]
theorem ks{l:List Ac}{seq x m:Int}{k j:Nat}{q:Ac}(h:bst l seq x k=some j)(hq:l[j]?=some q):seen l seq x m k=byt q x:=by unfold seen;rw[h];simp only[hq]
structure FirstA(p:Ac->Bool)(l:List Ac)(m:Nat):Prop where
 le:m<=l.length
 no:∀j q,j<m->l[j]?=some q->p q=false
 yes:∀q,l[m]?=some q->p q=true
theorem kt(p:Ac->Bool):∀l,∃m,FirstA p l m
 |[]=>⟨0,Aa _,λj q h=>absurd h (by omega),λq h=>by simp at h⟩
 |q::l=>by
  cases hq:p q with
  |true=>exact⟨0,AX _,λj q h=>absurd h (by omega),λq' h=>by simp at h;subst h;exact hq⟩
  |false=>
   obtain⟨m,h⟩:=kt p l
   refine⟨m+1,by have:=h.le;simp;omega,λj q' hj hq'=>?_,λq' h'=>h.yes q' (by simpa using h')⟩
   cases j with
   |zero=>simp at hq';subst hq';exact hq
   |succ j=>exact h.no j q' (by omega) (by simpa using hq')
theorem zep{l:List Ac}{k:Nat}(h:k<l.length):∃p,l[k]?=some p:=⟨_,Zb h⟩
def bef(o:Option Int)(a:Ac):Bool:=match o with
 |none=>true
 |some x=>decide (a.seq<x)
def lst(l:List Ac)(s:Ac):Nat->Option Int
 |0=>none
 |k+1=>match l[k]? with
  |none=>lst l s k
  |some a=>if(ovr s.seq a&&mt s a&&bef (lst l s k) a)=true then some a.seq else lst l s k
theorem zkK{l:List Ac}{s a:Ac}{k:Nat}(ha:l[k]?=some a)(h:(ovr s.seq a&&mt s a)=false):lst l s (k+1)=lst l s k:=by
 rw[lst,ha]
 simp only[h,Bool.false_and]
 rfl
theorem zgR{l:List Ac}{s a:Ac}{k:Nat}(ha:l[k]?=some a)(h:(ovr s.seq a&&mt s a)=true)(hn:lst l s k=none):lst l s (k+1)=some a.seq:=by
 rw[lst,ha]
 simp only[h,hn,bef]
 rfl
theorem zji{l:List Ac}{s a:Ac}{k:Nat}{x:Int}(ha:l[k]?=some a)(h:(ovr s.seq a&&mt s a)=true)(hx:lst l s k=some x)(hlt:a.seq<x):lst l s (k+1)=some a.seq:=by
 rw[lst,ha]
 simp only[h,hx,bef,hlt]
 rfl
theorem zjj{l:List Ac}{s a:Ac}{k:Nat}{x:Int}(ha:l[k]?=some a)(hx:lst l s k=some x)(hle:x<=a.seq):lst l s (k+1)=lst l s k:=by
 rw[lst,ha]
 have:¬a.seq<x:=by omega
 simp[hx,bef,this]
theorem znC{s a:Ac}{x:Int}(h1:hs s x=true)(h2:hs a x=true):mt s a=true:=by
 simp only[hs,decide_eq_true_eq]at h1 h2
 exact decide_eq_true ⟨by omega,by omega,by omega,by omega⟩
theorem zpz{s a:Ac}(h:mt s a=true):∃x,(x=s.pl\/x=a.pl)/\hs s x=true/\hs a x=true:=by
 simp only[mt,decide_eq_true_eq]at h
 by_cases hle:a.pl<=s.pl
 ·exact⟨s.pl,.inl rfl,decide_eq_true ⟨by omega,by omega⟩,decide_eq_true ⟨by omega,by omega⟩⟩
 ·exact⟨a.pl,.inr rfl,decide_eq_true ⟨by omega,by omega⟩,decide_eq_true ⟨by omega,by omega⟩⟩
def four(f:Nat->Int):Int:=f 0+f 1*256+f 2*65536+f 3*16777216
def upto(m:Nat)(f:Nat->Int):Nat->Int:=λi=>if i<m then f i else 0
theorem zgS(m:Nat)(hm:m=1\/m=2\/m=4)(f:Nat->Int):le f m=four (upto m f):=by
 rcases hm with rfl|rfl|rfl<;>simp[le,four,upto]
def put1(f:Nat->Int)(n:Nat)(b:Int):Nat->Int:=λi=>if i=n then b else f i
theorem zjk(k W:Nat)(hk:k<=32)(h:W<4294967296):W&&& ((2^(32-k)-1)<<<k)=2^k*(W/2^k):=by
 apply Nat.eq_of_testBit_eq
 intro j
 rw[Nat.testBit_and,Nat.testBit_shiftLeft,Nat.testBit_two_pow_sub_one,Nat.testBit_two_pow_mul,Nat.testBit_div_two_pow]
 by_cases hj:k<=j
 ·by_cases h32:j<32
  ·simp[hj]
   intro _;omega
  ·have:W.testBit j=false:=Nat.testBit_lt_two_pow (WZ h (by rw[show 4294967296=2^32 by rfl];exact AB (by omega) (by omega)))
   rw[show j-k+k=j by omega]
   simp[this]
 ·simp[hj]
theorem ku(i W:Nat)(hi:i=0\/i=8\/i=16\/i=24)(h:W<4294967296):W&&& (4294967295-255*2^i)=W%2^i+2^(i+8)*(W/2^(i+8)):=by
 have e:4294967295-255*2^i=(2^i-1)|||((2^(32-(i+8))-1)<<<(i+8)):=by rcases hi with rfl|rfl|rfl|rfl<;>decide
 rw[e,Nat.and_or_distrib_left,AN,zjk _ _ (by omega) h,Nat.or_comm]
 rw[nat_join (i+8) _ _ (by simp) (WZ (Nat.mod_lt _ (AP _)) (AB (by omega) (by omega)))]
 omega
theorem zlD(i:Nat)(hi:i=0\/i=8\/i=16\/i=24)(P W b:Int)(hP:P=((2^i:Nat):Int))(w0:0<=W)(w1:W<4294967296)(b0:0<=b)(b1:b<=255):
  bits .or .u32 (bits .andNot .u32 W (255*P)) (b*P)=W%P+b*P+256*P*(W/(256*P)):=by
 obtain⟨N,rfl⟩:=Ar w0
 have hN:N<4294967296:=by omega
 rcases hi with rfl|rfl|rfl|rfl
 ·obtain rfl:P=1:=hP
  have e1:bits .andNot .u32 (N:Int) (255*1)=(N:Int)%1+256*((N:Int)/256):=by
   have h1:=AU N 255 hN (by omega)
   have h2:N&&& (4294967295-255)=N%1+256*(N/256):=ku 0 N (by omega) hN
   rw[h2]at h1
   refine h1.trans ?_
   omega
  rw[e1,qi 0 8 (by omega) 1 256 _ _ rfl rfl (by omega) (by omega) (by omega) (by omega) (by omega) (by omega) (by omega)]
  omega
 ·obtain rfl:P=256:=hP
  have e1:bits .andNot .u32 (N:Int) (255*256)=(N:Int)%256+65536*((N:Int)/65536):=by
   have h1:=AU N 65280 hN (by omega)
   have h2:N&&& (4294967295-65280)=N%256+65536*(N/65536):=ku 8 N (by omega) hN
   rw[h2]at h1
   refine h1.trans ?_
   omega
  rw[e1,qi 8 16 (by omega) 256 65536 _ _ rfl rfl (by omega) (by omega) (by omega) (by omega) (by omega) (by omega) (by omega)]
  omega
 ·obtain rfl:P=65536:=hP
  have e1:bits .andNot .u32 (N:Int) (255*65536)=(N:Int)%65536+16777216*((N:Int)/16777216):=by
   have h1:=AU N 16711680 hN (by omega)
   have h2:N&&& (4294967295-16711680)=N%65536+16777216*(N/16777216):=ku 16 N (by omega) hN
   rw[h2]at h1
   refine h1.trans ?_
   omega
  rw[e1,qi 16 24 (by omega) 65536 16777216 _ _ rfl rfl (by omega) (by omega) (by omega) (by omega) (by omega) (by omega) (by omega)]
  omega
 ·obtain rfl:P=16777216:=hP
  have e1:bits .andNot .u32 (N:Int) (255*16777216)=(N:Int)%16777216+4294967296*((N:Int)/4294967296):=by
   have h1:=AU N 4278190080 hN (by omega)
   have h2:N&&& (4294967295-4278190080)=N%16777216+4294967296*(N/4294967296):=ku 24 N (by omega) hN
   rw[h2]at h1
   refine h1.trans ?_
   omega
  rw[e1,qi 24 32 (by omega) 16777216 4294967296 _ _ rfl rfl (by omega) (by omega) (by omega) (by omega) (by omega) (by omega) (by omega)]
  omega
theorem zjl(n:Nat)(f:Nat->Int)(b W P:Int)(hn:n<4)(hP:P=((2^(8*n):Nat):Int))(hf:∀i,0<=f i/\f i<=255)(b0:0<=b)(b1:b<=255)(hW:W=four f):
  bits .or .u32 (bits .andNot .u32 W (255*P)) (b*P)=four (put1 f n b):=by
 have h0:=hf 0
 have h1:=hf 1
 have h2:=hf 2
 have h3:=hf 3
 have w0:0<=W/\W<4294967296:=by subst hW;unfold four;omega
 rw[zlD (8*n) (by omega) P W b hP w0.1 w0.2 b0 b1]
 subst hW
 rcases(by omega:n=0\/n=1\/n=2\/n=3)with rfl|rfl|rfl|rfl
 ·obtain rfl:P=1:=hP
  simp[four,put1];omega
 ·obtain rfl:P=256:=hP
  simp[four,put1];omega
 ·obtain rfl:P=65536:=hP
  simp[four,put1];omega
 ·obtain rfl:P=16777216:=hP
  simp[four,put1];omega
end Go.Proofs.YtpiohehijkpghacGreatDoor.Od
namespace Go.Proofs.YtpiohehijkpghacGreatDoor.Od
open Go.Proofs.YtpiohehijkpghacGreatDoor.Wi
open Go.RowKit
open Hy
def sb(l:List Ac)(seq:Int)(n A:Nat)(f:Nat->Int):Nat->Int:=λi=>seen l seq ((A:Int)+i) (f (A+i)) n
theorem zbY{l:List Ac}{seq:Int}{n A:Nat}{f:Nat->Int}{i:Nat}(h:0<=f (A+i)/\f (A+i)<=255):0<=sb l seq n A f i/\sb l seq n A f i<=255:=zeo _ _ _ _ _ h
def Sure(l:List Ac)(seq:Int)(k:Nat)(U:Bool):Prop:=U=true↔∀(j:Nat) (q:Ac),j<k->l[j]?=some q->unk seq q=false
theorem Sure.eq{l:List Ac}{seq:Int}{n m:Nat}{U:Bool}(h:Sure l seq n U)(hm:FirstA (unk seq) l m)(hl:l.length=n):U=!(decide (m<n)):=by
 unfold Sure at h
 by_cases hlt:m<n
 ·obtain⟨q,hq⟩:=zep (l:=l) (k:=m) (by omega)
  have:¬U=true:=λhu=>by have h1:=h.1 hu m q hlt hq;rw[hm.yes q hq]at h1;cases h1
  simp[hlt]
  simpa using this
 ·have:U=true:=h.2 λj q hj hq=>hm.no j q (by omega) hq
  simp[hlt,this]
def Fit(many:Int)(A ml:Nat):Prop:=(many=1\/many=2\/many=4)/\(A:Int)%many=0/\(A:Int)+many<=ml
end Go.Proofs.YtpiohehijkpghacGreatDoor.Od
namespace Go.Proofs.YtpiohehijkpghacGreatDoor.Re.Hy
open Go.RowKit
def cn(g:Nat->Int)(x:Int):Nat->Nat
 |0=>0
 |k+1=>cn g x k+(if g k=x then 1 else 0)
def sm(h:Nat->Nat):Nat->Nat
 |0=>0
 |k+1=>sm h k+h k
def jn(r f:Nat->Int)(i:Nat):Int:=if i<32 then r i else f (i-32)
theorem jn_r{r f:Nat->Int}{i:Nat}(h:i<32):jn r f i=r i:=if_pos h
theorem jn_f{r f:Nat->Int}(i:Nat):jn r f (32+i)=f i:=by
 unfold jn
 rw[if_neg (by omega),show 32+i-32=i by omega]
theorem znD(g:Nat->Int)(x:Int):∀n,cn g x n<=n
 |0=>Aa _
 |n+1=>by
  have:=znD g x n
  unfold cn
  split<;>omega
theorem za2(g:Nat->Int)(x:Int):∀n,cn g x n=0↔∀i,i<n->g i≠x
 |0=>⟨λ_ i h=>absurd h (by omega),λ_=>rfl⟩
 |n+1=>by
  have ih:=za2 g x n
  constructor
  ·intro h i hi
   have h':cn g x n+(if g n=x then 1 else 0)=0:=h
   by_cases e:g n=x
   ·rw[if_pos e]at h';omega
   ·rcases(by omega:i<n\/i=n)with q|q
    ·exact ih.1 (by omega) i q
    ·rw[q];exact e
  ·intro h
   show cn g x n+(if g n=x then 1 else 0)=0
   rw[if_neg (h n (by omega)),ih.2 (λi hi=>h i (by omega))]
theorem zgT(g:Nat->Int)(Q:Int->Prop):∀n,(∀i,i<n->Q (g i))->((∀x,Q x->cn g x n<=1)↔∀i j,i<n->j<n->g i=g j->i=j)
 |0,_=>⟨λ_ i _ h=>absurd h (by omega),λ_ x _=>by simp[cn]⟩
 |n+1,hQ=>by
  have ih:=zgT g Q n (λi hi=>hQ i (by omega))
  constructor
  ·intro h
   have h1:∀x,Q x->cn g x n<=1:=λx hx=>by
    have:=h x hx
    unfold cn at this
    omega
   have h2:∀i,i<n->g i≠g n:=by
    have h3:=h (g n) (hQ n (by omega))
    unfold cn at h3
    rw[if_pos rfl]at h3
    exact(za2 g (g n) n).1 (by omega)
   intro i j hi hj e
   rcases(by omega:i<n\/i=n)with a|a<;>rcases(by omega:j<n\/j=n)with b|b
   ·exact(ih.1 h1) i j a b e
   ·subst b;exact absurd e (h2 i a)
   ·subst a;exact absurd e.symm (h2 j b)
   ·omega
  ·intro h x hx
   have h1:=ih.2 (λi j hi hj e=>h i j (by omega) (by omega) e) x hx
   unfold cn
   by_cases e:g n=x
   ·have:cn g x n=0:=(za2 g x n).2 λi hi e2=>by
     have:=h i n (by omega) (by omega) (by rw[e,e2])
     omega
    rw[if_pos e];omega
   ·rw[if_neg e];omega
theorem zeq{a b:Nat->Nat}:∀n,(∀i,i<n->a i=b i)->sm a n=sm b n
 |0,_=>rfl
 |n+1,e=>by
  unfold sm
  rw[zeq n (λi hi=>e i (by omega)),e n (by omega)]
theorem zgU{a b:Nat->Nat}:∀n,(∀i,i<n->a i<=b i)->sm a n<=sm b n
 |0,_=>Aa _
 |n+1,e=>by
  have h1:=zgU n (λi hi=>e i (by omega))
  have h2:=e n (by omega)
  unfold sm
  omega
theorem znE{a b:Nat->Nat}:∀n,(∀i,i<n->a i<=b i)->sm a n=sm b n->∀i,i<n->a i=b i
 |0,_,_=>λi h=>absurd h (by omega)
 |n+1,e,h=>λi hi=>by
  have h1:=zgU n (λi hi=>e i (by omega))
  have h2:=e n (by omega)
  unfold sm at h
  rcases(by omega:i<n\/i=n)with q|q
  ·exact znE n (λi hi=>e i (by omega)) (by omega) i q
  ·subst q;omega
theorem zgV{a:Nat->Nat}(n:Nat)(h:∀i,i<n->a i<=1):sm a n<=n:=by
 have:∀n,sm (λ_=>1) n=n:=λn=>by
  induction n with
  |zero=>rfl
  |succ n ih=>show sm _ n+1=n+1;rw[ih]
 exact ZE (zgU n h) (Nat.le_of_eq (this n))
theorem zkL(a b:Nat->Nat):∀n,sm (λi=>a i+b i) n=sm a n+sm b n
 |0=>rfl
 |n+1=>by
  show sm (λi=>a i+b i) n+(a n+b n)=sm a n+a n+(sm b n+b n)
  rw[zkL a b n]
  omega
theorem zkM(y:Int):∀n:Nat,sm (λp=>if y=(p:Int)then 1 else 0) n=if 0<=y/\y<n then 1 else 0
 |0=>by simp[sm]
 |n+1=>by
  show sm (λp=>if y=(p:Int)then 1 else 0) n+(if y=(n:Int)then 1 else 0)=_
  rw[zkM y n]
  by_cases e:y=n
  ·rw[if_neg (by omega),if_pos e,if_pos (by omega)]
  ·rw[if_neg e]
   by_cases q:0<=y/\y<n
   ·rw[if_pos q,if_pos (by omega)]
   ·rw[if_neg q,if_neg (by omega)]
theorem znF(g:Nat->Int)(P:Nat):∀N,sm (λp=>cn g p (N+1)) P=sm (λp=>cn g p N) P+if 0<=g N/\g N<P then 1 else 0:=λN=>by
 have:sm (λp=>cn g p (N+1)) P=sm (λp=>cn g p N+(if g N=(p:Int)then 1 else 0)) P:=rfl
 rw[this,zkL,zkM]
theorem yJ(g:Nat->Int)(P:Nat):∀N,sm (λp=>cn g p N) P<=N
 |0=>by
  have:sm (λp=>cn g p 0) P<=sm (λ_=>0) P:=zgU P (λi _=>Aa _)
  have h0:∀n,sm (λ_=>0) n=0:=λn=>by induction n with
   |zero=>rfl
   |succ n ih=>show sm _ n+0=0;rw[ih]
  rw[h0]at this
  exact this
 |N+1=>by
  rw[znF]
  have:=yJ g P N
  split<;>omega
theorem zbZ(g:Nat->Int)(P:Nat):∀N,sm (λp=>cn g p N) P=N↔∀i,i<N->0<=g i/\g i<P
 |0=>⟨λ_ i h=>absurd h (by omega),λ_=>by have:=yJ g P 0;omega⟩
 |N+1=>by
  have ih:=zbZ g P N
  have hle:=yJ g P N
  rw[znF]
  constructor
  ·intro h i hi
   by_cases e:0<=g N/\g N<P
   ·rw[if_pos e]at h
    rcases(by omega:i<N\/i=N)with q|q
    ·exact ih.1 (by omega) i q
    ·rw[q];exact e
   ·rw[if_neg e]at h;omega
  ·intro h
   rw[if_pos (h N (by omega)),ih.2 (λi hi=>h i (by omega))]
structure All(g:Nat->Int)(N P:Nat):Prop where
 rng:∀i,i<N->0<=g i/\g i<P
 inj:∀i j,i<N->j<N->g i=g j->i=j
theorem zlE(g:Nat->Int)(N P:Nat):((∀p,p<P->cn g (p:Nat) N<=1)/\sm (λp=>cn g p N) P=N)↔All g N P:=by
 rw[zbZ]
 constructor
 ·rintro⟨h,hr⟩
  refine⟨hr,(zgT g (λx=>0<=x/\x<P) N hr).1 λx hx=>?_⟩
  have:=h x.toNat (by omega)
  rwa [Int.toNat_of_nonneg hx.1]at this
 ·rintro⟨hr,hi⟩
  exact⟨λp hp=>(zgT g (λx=>0<=x/\x<P) N hr).2 hi p ⟨by omega,by omega⟩,hr⟩
def o1(g:Nat->Int)(N p:Nat):Nat:=if cn g p N=1 then 1 else 0
theorem za3(g:Nat->Int)(N P:Nat):(N<=P/\sm (o1 g N) P=N)↔All g N P:=by
 rw[<-zlE]
 have hle:∀p,p<P->o1 g N p<=cn g p N:=λp _=>by unfold o1;split<;>omega
 constructor
 ·rintro⟨h1,h2⟩
  have a:=zgU P hle
  have b:=yJ g P N
  have c:=znE P hle (by omega)
  refine⟨λp hp=>?_,by omega⟩
  rw[<-c p hp]
  unfold o1
  split<;>omega
 ·rintro⟨h1,h2⟩
  have c:∀p,p<P->o1 g N p=cn g p N:=λp hp=>by
   have:=h1 p hp
   unfold o1
   split<;>omega
  have e:sm (o1 g N) P=N:=(zeq P c).trans h2
  refine⟨?_,e⟩
  have:=zgV P (λi hi=>(show o1 g N i<=1 by unfold o1;split<;>omega))
  omega
structure MayBe(P:Int)(n:Nat)(r f:Nat->Int):Prop where
 low:33<=P
 high:P<=96
 all:All (jn r f) (32+n) P.toNat
theorem MayBe.few{P:Int}{n:Nat}{r f:Nat->Int}(h:MayBe P n r f):32+n<=P/\n<=64:=by
 have:=((za3 _ _ _).2 h.all).1
 have:=h.low
 have:=h.high
 omega
theorem MayBe.mk'{P:Int}{n:Nat}{r f:Nat->Int}(low:33<=P)(high:P<=96)(hr:∀i,i<32->0<=r i/\r i<P)(hf:∀i,i<n->0<=f i/\f i<P)
  (rr:∀i j,i<32->j<32->r i=r j->i=j) (ff:∀i j,i<n->j<n->f i=f j->i=j) (rf:∀i j,i<32->j<n->r i≠f j):MayBe P n r f:=by
 refine⟨low,high,λi hi=>?_,λi j hi hj e=>?_⟩
 ·by_cases a:i<32
  ·rw[jn_r a];have:=hr i a;omega
  ·rw[show i=32+(i-32) by omega,jn_f];have:=hf (i-32) (by omega);omega
 ·by_cases a:i<32<;>by_cases b:j<32
  ·rw[jn_r a,jn_r b]at e;exact rr i j a b e
  ·rw[jn_r a,show j=32+(j-32) by omega,jn_f]at e;exact absurd e (rf i _ a (by omega))
  ·rw[jn_r b,show i=32+(i-32) by omega,jn_f]at e;exact absurd e.symm (rf j _ b (by omega))
  ·rw[show i=32+(i-32) by omega,show j=32+(j-32) by omega,jn_f,jn_f]at e
   have:=ff (i-32) (j-32) (by omega) (by omega) e
   omega
def up(f:Nat->Int)(k:Nat)(x:Int)(j:Nat):Int:=if j=k then x else f j
theorem zfm(f:Nat->Int)(k:Nat)(x:Int):up f k x k=x:=if_pos rfl
theorem zjm{f:Nat->Int}{k:Nat}{x:Int}{j:Nat}(h:j≠k):up f k x j=f j:=if_neg h
theorem znG(f:Nat->Int)(k:Nat)(x y:Int):up (up f k x) k y=up f k y:=by
 funext j
 unfold up
 split<;>rfl
theorem znH(f:Nat->Int)(k:Nat):up f k (f k)=f:=by
 funext j
 unfold up
 split
 ·rename_i h;rw[h]
 ·rfl
def tl(f:Nat->Int)(i:Nat):Int:=f (i+1)
def hd(x:Int)(f:Nat->Int)(i:Nat):Int:=if i=0 then x else f (i-1)
def en(f:Nat->Int)(n:Nat)(x:Int)(i:Nat):Int:=if i<n then f i else x
structure Idle(P:Int)(n:Nat)(r f:Nat->Int)(x:Int):Prop where
 lo:0<=x
 hi:x<P
 no:cn (jn r f) x (32+n)=0
theorem Idle.mk'{P:Int}{n:Nat}{r f:Nat->Int}{x:Int}(lo:0<=x)(hi:x<P)(hr:∀i,i<32->r i≠x)(hf:∀i,i<n->f i≠x):Idle P n r f x:=by
 refine⟨lo,hi,(za2 _ _ _).2 λi hi=>?_⟩
 by_cases a:i<32
 ·rw[jn_r a];exact hr i a
 ·rw[show i=32+(i-32) by omega,jn_f];exact hf _ (by omega)
abbrev mcs(P:Int)(r:Nat->Int)(v:Value):Array Value:=#[.int .i64 P,.int .i64 (r 0),.int .i64 (r 1),.int .i64 (r 2),.int .i64 (r 3),.int .i64 (r 4),.int .i64 (r 5),.int .i64 (r 6),.int .i64 (r 7),.int .i64 (r 8),.int .i64 (r 9),.int .i64 (r 10),.int .i64 (r 11),.int .i64 (r 12),.int .i64 (r 13),.int .i64 (r 14),.int .i64 (r 15),.int .i64 (r 16),.int .i64 (r 17),.int .i64 (r 18),.int .i64 (r 19),.int .i64 (r 20),.int .i64 (r 21),.int .i64 (r 22),.int .i64 (r 23),.int .i64 (r 24),.int .i64 (r 25),.int .i64 (r 26),.int .i64 (r 27),.int .i64 (r 28),.int .i64 (r 29),.int .i64 (r 30),.int .i64 (r 31),v]
theorem zfn(P:Int)(r:Nat->Int)(v:Value)(k:Nat)(h:k<32):(mcs P r v)[1+k]?=some (.int .i64 (r k)):=
 match k,h with
 |0,_=>rfl
 |1,_=>rfl
 |2,_=>rfl
 |3,_=>rfl
 |4,_=>rfl
 |5,_=>rfl
 |6,_=>rfl
 |7,_=>rfl
 |8,_=>rfl
 |9,_=>rfl
 |10,_=>rfl
 |11,_=>rfl
 |12,_=>rfl
 |13,_=>rfl
 |14,_=>rfl
 |15,_=>rfl
 |16,_=>rfl
 |17,_=>rfl
 |18,_=>rfl
 |19,_=>rfl
 |20,_=>rfl
 |21,_=>rfl
 |22,_=>rfl
 |23,_=>rfl
 |24,_=>rfl
 |25,_=>rfl
 |26,_=>rfl
 |27,_=>rfl
 |28,_=>rfl
 |29,_=>rfl
 |30,_=>rfl
 |31,_=>rfl
 |n+32,h=>absurd h (by omega)
theorem zfo(P:Int)(r:Nat->Int)(v:Value)(x:Int)(k:Nat)(h:k<32):(mcs P r v).setIfInBounds (1+k) (.int .i64 x)=mcs P (up r k x) v:=
 match k,h with
 |0,_=>rfl
 |1,_=>rfl
 |2,_=>rfl
 |3,_=>rfl
 |4,_=>rfl
 |5,_=>rfl
 |6,_=>rfl
 |7,_=>rfl
 |8,_=>rfl
 |9,_=>rfl
 |10,_=>rfl
 |11,_=>rfl
 |12,_=>rfl
 |13,_=>rfl
 |14,_=>rfl
 |15,_=>rfl
 |16,_=>rfl
 |17,_=>rfl
 |18,_=>rfl
 |19,_=>rfl
 |20,_=>rfl
 |21,_=>rfl
 |22,_=>rfl
 |23,_=>rfl
 |24,_=>rfl
 |25,_=>rfl
 |26,_=>rfl
 |27,_=>rfl
 |28,_=>rfl
 |29,_=>rfl
 |30,_=>rfl
 |31,_=>rfl
 |n+32,h=>absurd h (by omega)
theorem zgW(P:Int)(r:Nat->Int)(v u:Value):(mcs P r v).setIfInBounds 33 u=mcs P r u:=rfl
theorem znI(P Q:Int)(r:Nat->Int)(v:Value):(mcs P r v).setIfInBounds 0 (.int .i64 Q)=mcs Q r v:=rfl
theorem zer(P:Int)(r:Nat->Int)(v:Value):(mcs P r v).size=34:=rfl
end Go.Proofs.YtpiohehijkpghacGreatDoor.Re.Hy
namespace Go.Proofs.YtpiohehijkpghacGreatDoor.Re
open Go.RowKit
open Re.Hy
structure Lie(w:World)(a:Option Addr)(n c:Nat)(f:Nat->Int):Prop where
 le:n<=c
 top:c<=maxLen
 nil:a=none->n=0/\c=0
 wf:∀i,i<n->(Zg .i64 (f i)).wf=true
 ad:∀x,a=some x->0<n->∃b o,x=⟨b,o,none⟩/\∀i,i<n->w.cell? ⟨b,o+i,none⟩=some (.int .i64 (f i))
theorem Lie.below{w w':World}{a:Option Addr}{n c:Nat}{f:Nat->Int}(h:Lie w a n c f){B:Nat}(hB:w.heap.size<=B)(hb:Below B w w'):Lie w' a n c f:=
 ⟨h.le,h.top,h.nil,h.wf,λx hx h0=>by
  obtain⟨b,o,rfl,hc⟩:=h.ad x hx h0
  exact⟨b,o,rfl,λi hi=>(hb.cell (p:=⟨b,o+i,none⟩) (WZ (An _ _ (hc i hi)) hB)).trans (hc i hi)⟩⟩
theorem Lie.congr{w:World}{a:Option Addr}{n c:Nat}{f f':Nat->Int}(h:Lie w a n c f)(e:∀i,i<n->f i=f' i):Lie w a n c f':=
 ⟨h.le,h.top,h.nil,λi hi=>by rw[<-e i hi];exact h.wf i hi,λx hx h0=>by
  obtain⟨b,o,rfl,hc⟩:=h.ad x hx h0
  exact⟨b,o,rfl,λi hi=>by rw[<-e i hi];exact hc i hi⟩⟩
theorem Lie.sure{w:World}{a:Option Addr}{n c:Nat}{f:Nat->Int}(h:Lie w a n c f)(hn:0<n):∃b o,a=some ⟨b,o,none⟩/\b<w.heap.size/\∀i,i<n->w.cell? ⟨b,o+i,none⟩=some (.int .i64 (f i)):=by
 cases a with
 |none=>have:=(h.nil rfl).1;omega
 |some x=>
  obtain⟨b,o,rfl,hc⟩:=h.ad x rfl hn
  exact⟨b,o,rfl,An _ _ (hc 0 hn),hc⟩
def Far(B:Nat)(a:Option Addr):Prop:=∀x,a=some x->B<=x.block
theorem Far.mono{B B':Nat}{a:Option Addr}(h:Far B a)(hB:B'<=B):Far B' a:=λx hx=>ZE hB (h x hx)
theorem Lie.moved{w w':World}{a:Option Addr}{n c:Nat}{f:Nat->Int}(h:Lie w a n c f)(hb:∀x,a=some x->w'.heap[x.block]?=w.heap[x.block]?):Lie w' a n c f:=
 ⟨h.le,h.top,h.nil,h.wf,λx hx h0=>by
  have e:=hb x hx
  obtain⟨b,o,rfl,hc⟩:=h.ad x hx h0
  exact⟨b,o,rfl,λi hi=>(World.cell?_of_block (w:=w) (a:=⟨b,o+i,none⟩) e).trans (hc i hi)⟩⟩
def row(f:Nat->Int)(n:Nat):List Value:=(Zf n).map λi=>AR .i64 (f i)
theorem xS(f:Nat->Int)(n:Nat):(row f n).length=n:=by simp[row]
theorem znJ{f:Nat->Int}{n j:Nat}{u:Value}(h:(row f n)[j]?=some u):j<n/\u=.int .i64 (f j):=by
 have hj:j<n:=by have:=(Aq.1 h).1;rwa [xS]at this
 refine⟨hj,?_⟩
 simp[row,hj]at h
 exact h.symm
theorem vt(f:Nat->Int){n j:Nat}(h:j<n):(row f n)[j]?=some (.int .i64 (f j)):=by simp[row,h]
theorem row_one(f:Nat->Int)(n:Nat):∀u∈row f n,u.oneCell'=true:=by
 intro u hu
 obtain⟨x,_,rfl⟩:=ZB.1 hu
 rfl
def cat(F:Nat->Int)(n:Nat)(f:Nat->Int)(i:Nat):Int:=if i<n then F i else f (i-n)
theorem zgX(F:Nat->Int)(n:Nat)(f:Nat->Int)(m:Nat):row F n++row f m=row (cat F n f) (n+m):=by
 apply List.ext_getElem?
 intro j
 by_cases h:j<n
 ·rw[AV (by rw[xS];exact h),vt _ h,vt _ (by omega)]
  unfold cat
  rw[if_pos h]
 ·rw[AT (by rw[xS];omega),xS]
  by_cases h2:j<n+m
  ·rw[vt _ (by omega),vt _ h2]
   unfold cat
   rw[if_neg h]
  ·rw[Zm (by rw[xS];omega),Zm (by rw[xS];omega)]
theorem vu{f f':Nat->Int}{n:Nat}(e:∀i,i<n->f i=f' i):row f n=row f' n:=by
 unfold row
 apply List.map_congr_left
 intro i hi
 rw[e i (by simpa using hi)]
theorem kX{w:World}{B e n:Nat}{v:Value}{f:Nat->Int}(hown:w.ownsRow B e 1 v n (row f n))(hw:∀i,i<n->(Zg .i64 (f i)).wf=true):∃a c,v=.slice a n c/\Lie w a n c f/\Far B a:=by
 have hown0:=hown
 obtain⟨_,hcase⟩:=hown
 rcases hcase with⟨rfl,rfl⟩|⟨g,cap,cur,rfl,hg,hh,hn',hcap,hsz,htake⟩
 ·exact⟨none,0,rfl,⟨Aa _,by unfold maxLen;omega,λ_=>⟨rfl,rfl⟩,hw,λx hx _=>by cases hx⟩,λx hx=>by cases hx⟩
 ·refine⟨_,cap,rfl,⟨hn',hcap,λh=>(nomatch h),hw,λx hx _=>⟨g,0,(Ak hx).symm,λi hi=>?_⟩⟩,λx hx=>by obtain rfl:=Ak hx;exact hg⟩
  have:=hown0.cells (g:=g) rfl i _ (vt f hi)
  rwa [Zd]at this
theorem qu{P:Program}(w:World){ops:Array Oper}{rest:List Oper}{o:Oper}{a:Act}{Q:Exit->Act->World->Prop}(hgd:o.guard=none)(s x:Operand)(t:TypeId)
  (ho:o.op=.call {callee:=.builtin .append,args:=#[s,x],argTypes:=#[t,t]})
  (base:Nat) (e:TypeId) (i:TypeInfo) (ht:P.underlying t=some (.slice e)) (hi:P.info? e=some i) (hz:i.zero=some (.int .i64 0)) (hsize:i.size=1) (hby:i.bytes=8)
  (v:Value) (n:Nat) (F:Nat->Int) (hs:a.eval s=v) (hown:w.ownsRow base e 1 v n (row F n))
  (ao:Option Addr) (m c:Nat) (f:Nat->Int) (hx:a.eval x=.slice ao m c) (hl:Lie w ao m c f) (hb:n+m<=1000000) (hbase:base<=w.heap.size)
  (h:∀v' w',w'.ownsRow base e 1 v' (n+m) (row (cat F n f) (n+m))->w.grownBy w' v.ownBlock->wpList P ops Q rest (a.put o.dst v') w'):wpList P ops Q (o::rest) a w:=by
 cases ao with
 |some ad=>
  refine AH w hgd s x t ho base e i (.int .i64 0) 1 8 ht hi hz hsize hby rfl (by decide) v n _ hs hown ad m c (row f m) hx (by rw[xS];omega) (λj u hj=>?_) (row_one f m) (by unfold maxLen;omega) (by omega) hbase λv' w' h1 h2 _=>h v' w' (by rw[<-zgX];exact h1) h2
  obtain⟨hj',rfl⟩:=znJ hj
  obtain⟨b,o',rfl,hc⟩:=hl.ad ad rfl (by omega)
  rw[Zd]
  exact hc j hj'
 |none=>
  obtain⟨rfl,rfl⟩:=hl.nil rfl
  refine wpList_plain hgd λK hK'=>?_
  have hrun:=Zl (P:=P) w base t o.type e i 1 ht hi v n _ hown
  unfold Zt
  simp only[execOp,ho,resolve,invoke,builtin,Ze,ZC,AI,ZK,ZU,ZZ,hs,hx,hrun]
  exact hK' _ _ (h v w (by rw[<-zgX];simpa[row]using hown) (Zw _ _))
structure Cnts(D:DataW Unit)(g:Nat->Int)(k:Nat):Prop where
 is:Maps.IsMap D
 at':∀x,D.atKey (.int .i64 x) (.lit (.int .i64 0))=.lit (.int .i64 (cn g x k))
theorem zgY(g:Nat->Int):Cnts (.map []) g 0:=⟨⟨[],rfl⟩,λx=>rfl⟩
theorem Cnts.num{D:DataW Unit}{g:Nat->Int}{k:Nat}(h:Cnts D g k){x c:Int}(hat:D.atKey (.int .i64 x) (.lit (.int .i64 0))=.lit (.int .i64 c)):c=cn g x k:=by
 have:=(h.at' x).symm.trans hat
 injection this with e
 injection e with _ e
 exact e.symm
theorem Cnts.step{D:DataW Unit}{g:Nat->Int}{k:Nat}(h:Cnts D g k){y c:Int}(hy:y=c+1)(hc:c=cn g (g k) k):Cnts (D.put (.int .i64 (g k)) (.lit (.int .i64 y))) g (k+1):=by
 refine⟨h.is.put _ _,λx=>?_⟩
 by_cases e:g k=x
 ·subst e
  rw[Maps.atKey_put_same (k:=.int .i64 (g k)) h.is (show WideAt.IsKeyLit (.int .i64 (g k))from trivial),hy,hc]
  show _=DataW.lit (Zg _ ((cn g (g k) k+(if g k=g k then 1 else 0):Nat):Int))
  rw[if_pos rfl]
  rfl
 ·rw[Maps.atKey_put_other (by intro e2;injection e2 with _ e2;exact e e2.symm),h.at' x]
  show _=DataW.lit (Zg _ ((cn g x k+(if g k=x then 1 else 0):Nat):Int))
  rw[if_neg e,Nat.add_zero]
theorem wrap_small{c:Int}(h0:0<=c)(h1:c<=1000000):wrap64 c=c:=by
 have:=WY (n:=c) (by omega)
 unfold wrap64
 first|omega|(simp;omega)
theorem Cnts.next{D:DataW Unit}{g:Nat->Int}{k:Nat}(h:Cnts D g k){x c:Int}(hx:x=g k)(hat:D.atKey (.int .i64 x) (.lit (.int .i64 0))=.lit (.int .i64 c))(hk:k<1000000):Cnts (D.put (.int .i64 x) (.lit (.int .i64 (wrap64 (c+1))))) g (k+1):=by
 subst hx
 have e:=h.num hat
 have:=znD g (g k) k
 exact h.step (wrap_small (by omega) (by omega)) e
theorem vw(x:Int)(w:World):Calls prog 49 #[.int .i64 x] w λe w'=>e=.returned (.bool (decide (33<=x/\x<=96)))/\w'=w:=by
 go_enter func49,ntmps49
 go_wp2
 all_goals go_ret
 all_goals exact⟨by simp;omega,rfl⟩
theorem zaA(x:Int)(w:World):Calls prog 170 #[.int .i64 x] w λe w'=>e=.returned (.bool (decide (1<=x/\x<32)))/\w'=w:=by
 go_enter func170,ntmps170
 go_wp2
 all_goals go_ret
 all_goals exact⟨by simp;try omega,rfl⟩
end Go.Proofs.YtpiohehijkpghacGreatDoor.Re
namespace Go.Proofs.YtpiohehijkpghacGreatDoor.Re
open Go.RowKit Go.Maps
open Re.Hy
theorem zk{w:World}{b:Nat}{o:Obj}(h:w.heap[b]?=some o):b<w.heap.size:=(Af.1 h).1
theorem law3:Keyed prog 3:=int_keyed underlying3
theorem zjn(w:World):(zeroValue 3).run prog w=.ok (.int .i64 0) w:=by kernel_rfl
theorem zb0(T:Array Value)(P:Int)(r f:Nat->Int)(a:Option Addr)(n c:Nat)(hT:Hid (T=mcs P r (.slice a n c)))(hF:T[33]?=some (.slice a n c))(hR:Hid (∀k,k<32->(Zg .i64 (r k)).wf=true))(hn:n<=64)(w:World)(hL:Hid (Lie w a n c f)):
  Calls prog 148 #[.agg T] w λe w'=>∃B D,e=.returned (.map (some B))/\w'.ownsMap prog 3 (plainElem (H:=Unit) prog 3) B (32+n) D/\Cnts D (jn r f) (32+n)/\Below w.heap.size w w':=by
 have hmm:∀(x:Int) (w:World),(Instr.makeMap 231 (some (.int .i64 x))).run prog w=.ok (.map (some w.heap.size)) (w.alloc (.map #[] 0)):=λx w=>by
  simp only[Instr.makeMap,Ze,run_underlying underlying231,AI]
  rfl
 go_enter func148,ntmps148
 go_wp2
 have hB0:Below w.heap.size w ((w.alloc (Zc T 59)).alloc (Obj.map #[] 0)):=((Ad _ _).alloc (Aa _) _).alloc (by simp) _
 go_loopw [12] (λi wr=>∃k:Nat,k<=32/\i=.int .i64 k/\∃D,wr.ownsMap prog 3 (plainElem (H:=Unit) prog 3) (w.heap.size+1) k D/\Cnts D (jn r f) k/\wr.heap[w.heap.size]?=some (.cells T 59 (0,0))/\Below w.heap.size w wr)
  (λi _=>32-(intOf i).toNat)
 case atStart=>exact⟨0,by omega,rfl,_,by simpa using World.ownsMap_made (w.alloc (Zc T 59)) _ _ _,zgY _,AQ _ _ _,hB0⟩
 case round=>
  obtain⟨k,hk,rfl,D,hown,hcn,hrow,hnx⟩:=hrel
  by_cases hlt:k<32
  ·have hcx:wr.cell? ⟨w.heap.size,1+k,none⟩=some (.int .i64 (r k)):=(Ab wr w.heap.size _ _ _ _ hrow).trans (by rw[hT.out];exact zfn _ _ _ _ hlt)
   have hkey:keyOf prog 3 (.int .i64 (r k))=some (.int .i64 (r k)):=keyOf_int_mk underlying3 (hR.out k hlt)
   have HO:Hid (Below w.heap.size w wr):=hnx
   have HR0:Hid (wr.heap[w.heap.size]?=some (.cells T 59 (0,0))):=hrow
   clear hnx hrow
   go_wp2_with(first
    |(at_lookup;refine AL _ rfl _ _ 231 rfl 3 3 .i64 law3 underlying231 underlying3 (zjn _) (w.heap.size+1) k _ rfl hown _ _ rfl hkey ?_;intro c hat hwc)
    |(at_mapUpdate;refine Zq _ rfl _ _ _ 231 rfl 3 3 law3 underlying231 _ (w.heap.size+1) k _ rfl hown (by unfold maxLen;omega) _ _ _ rfl rfl hkey _ [] (plainElem_int underlying3 (wrap64_wf _)) ?_;intro w1 hown1 hgrow1)
    |go_in)
   go_roundw
   case rel=>exact⟨k+1,by omega,by go_num,_,hown1,hcn.next (jn_r hlt).symm hat (by omega),(hgrow1.block _ (zk HR0.out) (by simp)).trans HR0.out,HO.out.grown hgrow1 HO.out.size (λj hj=>by cases hj;omega)⟩
   case measure=>simp[intOf];omega
  ·have:k=32:=by omega
   subst this
   rw[show((32:Nat):Int)=32 from rfl]
   have hcF:wr.cell? ⟨w.heap.size,33,none⟩=some (.slice a n c):=(Ab wr w.heap.size _ _ _ _ hrow).trans hF
   go_wp2
   have HO:Hid (Below w.heap.size w wr):=hnx
   clear hnx hrow hcF
   go_loopw [26] (λi wr=>∃k:Nat,k<=n/\i=.int .i64 k/\∃D,wr.ownsMap prog 3 (plainElem (H:=Unit) prog 3) (w.heap.size+1) (32+k) D/\Cnts D (jn r f) (32+k)/\Below w.heap.size w wr)
    (λi _=>n-(intOf i).toNat)
   case atStart=>exact⟨0,by omega,rfl,_,hown,hcn,HO.out⟩
   case round=>
    obtain⟨k,hk,rfl,D,hown,hcn,hnx⟩:=hrel
    by_cases hlt:k<n
    ·obtain⟨b,o,rfl,hb,hc⟩:=hL.out.sure (by omega)
     have hcx:wr.cell? ⟨b,o+k,none⟩=some (.int .i64 (f k)):=(hnx.cell (p:=⟨b,o+k,none⟩) hb).trans (hc k hlt)
     have hkey:keyOf prog 3 (.int .i64 (f k))=some (.int .i64 (f k)):=keyOf_int_mk underlying3 (hL.out.wf k hlt)
     have HO:Hid (Below w.heap.size w wr):=hnx
     clear hnx hc
     go_wp2_with(first
      |(at_lookup;refine AL _ rfl _ _ 231 rfl 3 3 .i64 law3 underlying231 underlying3 (zjn _) (w.heap.size+1) (32+k) _ rfl hown _ _ rfl hkey ?_;intro c hat hwc)
      |(at_mapUpdate;refine Zq _ rfl _ _ _ 231 rfl 3 3 law3 underlying231 _ (w.heap.size+1) (32+k) _ rfl hown (by unfold maxLen;omega) _ _ _ rfl rfl hkey _ [] (plainElem_int underlying3 (wrap64_wf _)) ?_;intro w1 hown1 hgrow1)
      |go_in)
     go_roundw
     case rel=>exact⟨k+1,by omega,by go_num,_,hown1,hcn.next (jn_f k).symm hat (by omega),HO.out.grown hgrow1 HO.out.size (λj hj=>by cases hj;omega)⟩
     case measure=>simp[intOf];omega
    ·have:k=n:=by omega
     subst this
     go_wp2
     go_ret
     exact⟨_,_,rfl,hown,hcn,hnx⟩
abbrev Rg(r:Nat->Int):Prop:=∀k,k<32->(Zg .i64 (r k)).wf=true
theorem zo{P:Program}{ops:Array Oper}{rest:List Oper}{o:Oper}{a:Act}{w:World}{Q:Exit->Act->World->Prop}(hw:AA o (yielded ops a.tmps)=true)(ty:TypeId)(x:Operand)(ho:o.op=.load ty x)
  (g:Nat) (hx:a.eval x=.pointer (some ⟨g,0,none⟩)) (t:TypeId) (cs:Array Value) (fr:Nat×Nat) (d:TypeDesc) (hg:w.heap[g]?=some (.cells cs t fr))
  (hu:P.underlying ty=some d) (hd:(match d with|.struct _|.array _ _=>true|_=>false)=true) (hi:(P.info? ty).map (·.size)=some cs.size)
  (h:wpList P ops Q rest (a.put o.dst (.agg cs)) w):wpList P ops Q (o::rest) a w:=by
 unfold wpList
 rw[if_pos hw]
 exact Or.inl (wp_load_row ty x ho g hx t cs fr d hg hu hd hi h)
theorem vx{H:Type}{P:Program}(w:World){ops:Array Oper}{rest:List Oper}{o:Oper}{a:Act}{Q:Exit->Act->World->Prop}
  (hg:AA o (yielded ops a.tmps)=true) (m x:Operand) (t:TypeId) (hop:o.op=Op.lookup t m x false)
  (k e:TypeId) (q:IntKind) (K:Keyed P k) (ht:P.underlying t=some (.map k e)) (he:P.underlying e=some (.int q)) (hz:(zeroValue e).run P w=.ok (.int q 0) w) (b n:Nat) (D:DataW H)
  (hm:a.eval m=.map (some b)) (hown:w.ownsMap P k (plainElem P e) b n D) (key:Value) (kl:Lit) (hx:a.eval x=key) (hkey:keyOf P k key=some kl)
  (hK:∀c:Int,D.atKey kl (.lit (.int q 0))=.lit (.int q c)->(Zg q c).wf=true->wpList P ops Q rest (a.put o.dst (.int q c)) w):
  wpList P ops Q (o::rest) a w:=by
 unfold wpList
 rw[if_pos hg]
 left
 obtain⟨c,hrun,hat,hwc⟩:=hown.lookup_int K ht he hz hkey
 unfold Zt
 simp[execOp,hop,hm,hx,hrun,Result.andThen]
 exact hK c hat hwc
theorem size_map:(prog.info? 59).map (·.size)=some 34:=by kernel_rfl
theorem qI{T:Array Value}{P:Int}{r:Nat->Int}{v:Value}(h:T=mcs P r v):(prog.info? 59).map (·.size)=some T.size:=by rw[size_map,h];rfl
theorem heap_alloc_new(w:World)(o:Obj):(w.alloc o).heap[w.heap.size]?=some o:=by
 show(w.heap.push o)[w.heap.size]?=some o
 simp
theorem za4(T:Array Value)(P:Int)(r f:Nat->Int)(a:Option Addr)(n c:Nat)(b:Bool)(hT:Hid (T=mcs P r (.slice a n c)))(hb:Hid (b=true↔MayBe P n r f))
  (h0:T[0]?=some (.int .i64 P)) (hF:T[33]?=some (.slice a n c)) (hR:Hid (Rg r)) (hn:n<=140737488355328) (w:World) (hL:Hid (Lie w a n c f)):
  Calls prog 113 #[.agg T] w λe w'=>e=.returned (.bool b)/\Below w.heap.size w w':=by
 have C1:=vw P
 by_cases hp:33<=P/\P<=96
 ·rw[decide_eq_true hp]at C1
  by_cases hm:(32+n:Int)<=P
  ·have C2:=λw=>zb0 T P r f a n c hT hF hR (by omega) w
   have HI:Hid ((prog.info? 59).map (·.size)=some T.size):=qI hT.out
   go_enter func113,ntmps113
   go_upto_region 1 with fail
   generalize hW:w.alloc (Zc T 59)=W
   have HR0:Hid (W.heap[w.heap.size]?=some (.cells T 59 (0,0))):=by rw[<-hW];show _=_;exact heap_alloc_new _ _
   have HB0:Hid (Below w.heap.size w W):=by rw[<-hW];exact(Ad _ _).alloc (Aa _) _
   have c0:W.cell? ⟨w.heap.size,0,none⟩=some (.int .i64 P):=(Ab W w.heap.size _ _ _ _ HR0.out).trans h0
   have c33:W.cell? ⟨w.heap.size,33,none⟩=some (.slice a n c):=(Ab W w.heap.size _ _ _ _ HR0.out).trans hF
   clear hW
   go_wp2_with fail
   refine(C1 _).mono ?_
   rintro e w' ⟨rfl,rfl⟩
   go_wp2_with(refine wpList_load_row rfl 59 _ rfl _ rfl 59 _ (0,0) _ HR0.out underlying59 rfl HI.out ?_)
   refine(C2 _ (hL.out.below (Aa _) HB0.out)).mono ?_
   rintro e W1 ⟨B,D,rfl,hown,hcn,hk⟩
   have c0':W1.cell? ⟨w.heap.size,0,none⟩=some (.int .i64 P):=(hk.cell (p:=⟨w.heap.size,0,none⟩) (zk HR0.out)).trans c0
   have HB1:Hid (Below w.heap.size w W1):=HB0.out.trans (hk.mono HB0.out.size)
   clear hk HR0 HB0 c0 c33
   go_wp2_with fail
   have hfin:(32+(n:Int)-(sm (o1 (jn r f) (32+n)) P.toNat:Nat)=0)↔b=true:=by
    rw[hb.out]
    constructor
    ·intro h
     exact⟨hp.1,hp.2,(za3 _ _ _).1 ⟨by omega,by omega⟩⟩
    ·intro h
     have:=((za3 _ _ _).2 h.all).2
     omega
   go_loopw [3,24] (λv i wr=>∃k:Nat,∃m:Int,k<=P.toNat/\i=.int .i64 k/\v=.int .i64 m/\m=32+(n:Int)-(sm (o1 (jn r f) (32+n)) k:Nat)/\wr=W1)
    (λ_ i _=>P.toNat-(intOf i).toNat)
   case atStart=>exact⟨0,_,by omega,rfl,rfl,by simp[sm],rfl⟩
   case round=>
    obtain⟨k,m,hk,rfl,rfl,hm,rfl⟩:=hrel
    have hs:sm (o1 (jn r f) (32+n)) k<=k:=zgV k (λi hi=>(show o1 (jn r f) (32+n) i<=1 by unfold o1;split<;>omega))
    have m0:-100<=m:=by omega
    have m1:m<=1000:=by omega
    by_cases hlt:k<P.toNat
    ·have hlt':(k:Int)<P:=by omega
     have hkey:keyOf prog 3 (.int .i64 (k:Int))=some (.int .i64 (k:Int)):=keyOf_int_mk underlying3 (WY (by omega))
     have hstep:sm (o1 (jn r f) (32+n)) (k+1)=sm (o1 (jn r f) (32+n)) k+o1 (jn r f) (32+n) k:=rfl
     go_wp2_with(at_lookup;refine AL _ rfl _ _ 231 rfl 3 3 .i64 law3 underlying231 underlying3 (zjn _) B (32+n) _ rfl hown _ _ rfl hkey ?_;intro q hat hwc)
     all_goals have hq:=hcn.num hat
     all_goals have ho:(cn (jn r f) (k:Int) (32+n)=1/\o1 (jn r f) (32+n) k=1)\/(cn (jn r f) (k:Int) (32+n)≠1/\o1 (jn r f) (32+n) k=0):=by unfold o1;split<;>simp_all
     all_goals refine⟨⟨k+1,_,by omega,by go_num,rfl,?_,trivial⟩,by simp[intOf];omega⟩
     all_goals rw[hstep]
     all_goals first|(have h1:q=1:=by simpa using(by assumption:(q==1)=true))|(have h1:q≠1:=by simpa using(by assumption:(q==1)=false))
     all_goals omega
    ·have:k=P.toNat:=by omega
     subst this
     have hlt':¬(((P.toNat:Nat):Int)<P):=by omega
     go_wp2
     go_ret
     refine⟨congrArg (λx=>Az (Qb x)) (?_:_=b),HB1.out⟩
     rw[ZP,<-hfin]
     simp
  ·have hbf:b=false:=by
    cases b
    ·rfl
    ·have:=(hb.out.1 rfl).few;omega
   subst hbf
   go_enter func113,ntmps113
   go_wp2_with fail
   refine(C1 _).mono ?_
   rintro e w' ⟨rfl,rfl⟩
   go_wp2_with fail
   go_ret
   exact⟨rfl,by first|exact Ad _ _|exact(Ad _ _).alloc (Aa _) _⟩
 ·have hbf:b=false:=by
   cases b
   ·rfl
   ·have:=hb.out.1 rfl
    exact absurd ⟨this.low,this.high⟩ hp
  subst hbf
  rw[decide_eq_false hp]at C1
  go_enter func113,ntmps113
  go_wp2_with fail
  refine(C1 _).mono ?_
  rintro e w' ⟨rfl,rfl⟩
  go_wp2_with fail
  go_ret
  exact⟨rfl,by first|exact Ad _ _|exact(Ad _ _).alloc (Aa _) _⟩
theorem zb1(T:Array Value)(P:Int)(r f:Nat->Int)(a:Option Addr)(n c:Nat)(x:Int)(b:Bool)(hT:Hid (T=mcs P r (.slice a n c)))(hb:Hid (b=true↔Idle P n r f x))
  (h0:T[0]?=some (.int .i64 P)) (hF:T[33]?=some (.slice a n c)) (hR:Hid (Rg r)) (hn:n<=64) (hP:P<=96) (w:World) (hL:Hid (Lie w a n c f)):
  Calls prog 114 #[.agg T,.int .i64 x] w λe w'=>e=.returned (.bool b)/\Below w.heap.size w w':=by
 have C2:=λw=>zb0 T P r f a n c hT hF hR hn w
 have HI:Hid ((prog.info? 59).map (·.size)=some T.size):=qI hT.out
 by_cases hp:0<=x/\x<P
 ·obtain⟨x0,x1⟩:=hp
  go_enter func114,ntmps114
  go_upto_region 1 with fail
  generalize hW:w.alloc (Zc T 59)=W
  have HR0:Hid (W.heap[w.heap.size]?=some (.cells T 59 (0,0))):=by rw[<-hW];show _=_;exact heap_alloc_new _ _
  have HB0:Hid (Below w.heap.size w W):=by rw[<-hW];exact(Ad _ _).alloc (Aa _) _
  have c0:W.cell? ⟨w.heap.size,0,none⟩=some (.int .i64 P):=(Ab W w.heap.size _ _ _ _ HR0.out).trans h0
  have c33:W.cell? ⟨w.heap.size,33,none⟩=some (.slice a n c):=(Ab W w.heap.size _ _ _ _ HR0.out).trans hF
  clear hW
  go_wp2_with(refine zo (by rfl) 59 _ rfl _ rfl 59 _ (0,0) _ HR0.out underlying59 rfl HI.out ?_)
  refine(C2 _ (hL.out.below (Aa _) HB0.out)).mono ?_
  rintro e W1 ⟨B,D,rfl,hown,hcn,hk⟩
  have HB1:Hid (Below w.heap.size w W1):=HB0.out.trans (hk.mono HB0.out.size)
  clear hk HR0 HB0 c0 c33
  have hkey:keyOf prog 3 (.int .i64 x)=some (.int .i64 x):=keyOf_int_mk underlying3 (WY (by omega))
  go_wp2_with(at_lookup;refine vx _ (by rfl) _ _ 231 rfl 3 3 .i64 law3 underlying231 underlying3 (zjn _) B (32+n) _ rfl hown _ _ rfl hkey ?_;intro q hat hwc)
  have hq:=hcn.num hat
  go_ret
  refine⟨congrArg (λx=>Az (Qb x)) (?_:_=b),HB1.out⟩
  rw[ZP,hb.out]
  constructor
  ·intro h
   exact⟨x0,x1,by simp at h;omega⟩
  ·intro h
   have:=h.no
   simp;omega
 ·have hbf:b=false:=by
   cases b
   ·rfl
   ·have:=hb.out.1 rfl
    exact absurd ⟨this.lo,this.hi⟩ hp
  subst hbf
  by_cases x0:0<=x
  ·have x1:decide (x<P)=false:=by simp;omega
   go_enter func114,ntmps114
   go_upto_region 1 with fail
   generalize hW:w.alloc (Zc T 59)=W
   have HR0:Hid (W.heap[w.heap.size]?=some (.cells T 59 (0,0))):=by rw[<-hW];show _=_;exact heap_alloc_new _ _
   have HB0:Hid (Below w.heap.size w W):=by rw[<-hW];exact(Ad _ _).alloc (Aa _) _
   have c0:W.cell? ⟨w.heap.size,0,none⟩=some (.int .i64 P):=(Ab W w.heap.size _ _ _ _ HR0.out).trans h0
   clear hW
   go_wp2_with(refine wpList_skip (by rfl) ?_)
   go_ret
   exact⟨rfl,HB0.out⟩
  ·go_enter func114,ntmps114
   go_upto_region 1 with fail
   generalize hW:w.alloc (Zc T 59)=W
   have HR0:Hid (W.heap[w.heap.size]?=some (.cells T 59 (0,0))):=by rw[<-hW];show _=_;exact heap_alloc_new _ _
   have HB0:Hid (Below w.heap.size w W):=by rw[<-hW];exact(Ad _ _).alloc (Aa _) _
   have c0:W.cell? ⟨w.heap.size,0,none⟩=some (.int .i64 P):=(Ab W w.heap.size _ _ _ _ HR0.out).trans h0
   clear hW
   go_wp2_with(refine wpList_skip (by rfl) ?_)
   go_ret
   exact⟨rfl,HB0.out⟩
theorem zjo:(prog.info? 3).map (λi=>(i.zero,i.size,i.bytes))=some (some (.int .i64 0),1,8):=by kernel_rfl
theorem vy(b o n c:Nat)(f:Nat->Int)(hn:n<=1000)(w:World)(hL:Hid (Lie w (some ⟨b,o,none⟩) n c f)):
  Calls prog 171 #[.slice (some ⟨b,o,none⟩) n c] w λe w'=>(∃a' c',e=.returned (.slice a' n c')/\Lie w' a' n c' f/\Far w.heap.size a')/\Below w.heap.size w w':=by
 obtain⟨i0,hi,hz0,hz1,hz2⟩:=Ax zjo
 have q22:∀(w:World) (a:Option Addr) (n c n' c':Nat),(binOp .eql 29 (.slice a n c) (.slice none n' c')).run prog w=.ok (.bool a.isNone) w:=λw a n c n' c'=>AK w _ _ a n c n' c' underlying29
 go_enter func171,ntmps171
 go_wp2_with(at_builtin;refine qu _ rfl _ _ 29 rfl w.heap.size 3 i0 underlying29 hi hz0 hz1 hz2 _ 0 f rfl (Ay w #[] 0 (Aa _) (AX _) rfl) _ n c f rfl (hL.out.below (Aa _) ((Ad _ _).alloc (Aa _) _)) (by omega) (by simp) ?_)
 intro v' w1 hown hgrow
 go_wp2
 go_ret
 have hown':w1.ownsRow w.heap.size 3 1 v' n (row f n):=by
  rw[vu (f':=cat f 0 f) (λi _=>by simp[cat]),<-ZD n]
  simpa using hown
 obtain⟨a',c',rfl,a3⟩:=kX hown' hL.out.wf
 exact⟨⟨a',c',rfl,a3⟩,((Ad _ w).alloc (Aa _) _).grown hgrow (by simp) (by intro k hk;simp[Zp]at hk;omega)⟩
theorem zgZ(N:Nat)(h0:0<N)(hN:N<=1000)(w:World)(f:Nat->Int):
  Calls prog 149 #[.slice none 0 0,.int .i64 N] w λe w'=>(∃v',e=.returned v'/\w'.ownsRow w.heap.size 3 1 v' 0 (row f 0))/\Below w.heap.size w w':=by
 obtain⟨i0,hi,hz0,hz1,hz2⟩:=Ax zjo
 go_enter func149,ntmps149
 go_wp2
 all_goals have e8:t3.bytes=8:=rfl
 all_goals have e9:Zr N 0*t3.bytes<=281474976710656:=growslice_fits h0 (by rw[e8];omega)
 all_goals try(exfalso;first|omega|(simp only[e8]at*;omega))
 go_ret
 have hge:=grownCap_ge w N 0 3
 have hle:=Zx w N 0 3 (by unfold maxLen;omega)
 refine⟨⟨_,rfl,Ay w _ _ (Aa _) hle ?_⟩,(((Ad _ _).alloc (Aa _) _).drew)⟩
 simp only[ZF,size_zeroCells]
 show N*1+(grownCap w N 0 3-N)*1=grownCap w N 0 3*1
 omega
theorem vz(q:Nat)(a1 a2:Option Addr)(n1 c1 n2 c2:Nat)(f1 f2:Nat->Int)(h0:0<n1+n2)(hn:n1+n2<=1000)(w:World)
  (hq:q<w.heap.size) (k0:w.cell? ⟨q,0,none⟩=some (.slice a1 n1 c1)) (k1:w.cell? ⟨q,1,none⟩=some (.slice a2 n2 c2)) (hL1:Hid (Lie w a1 n1 c1 f1)) (hL2:Hid (Lie w a2 n2 c2 f2)):
  Calls prog 115 #[.slice (some ⟨q,0,none⟩) 2 2] w λe w'=>(∃a' c',e=.returned (.slice a' (n1+n2) c')/\Lie w' a' (n1+n2) c' (cat f1 n1 f2)/\Far w.heap.size a')/\Below w.heap.size w w':=by
 obtain⟨i0,hi,hz0,hz1,hz2⟩:=Ax zjo
 have C:=λw=>zgZ (n1+n2) h0 hn w f1
 simp only[ZQ]at C
 go_enter func115,ntmps115
 go_wp2_with fail
 refine AC 3 ?_
 rw[Ai]
 go_wp2_with fail
 rw[Ai]
 go_wp2_with fail
 rw[Ai]
 go_wp2_with fail
 refine(C _).mono ?_
 rintro e W1 ⟨⟨v,rfl,hown⟩,hk⟩
 have j0:W1.cell? ⟨q,0,none⟩=some (.slice a1 n1 c1):=(hk.cell (p:=⟨q,0,none⟩) hq).trans k0
 have j1:W1.cell? ⟨q,1,none⟩=some (.slice a2 n2 c2):=(hk.cell (p:=⟨q,1,none⟩) hq).trans k1
 have HO:Hid (W1.ownsRow w.heap.size 3 1 v 0 (row f1 0)):=hown
 have HK:Hid (Below w.heap.size w W1):=hk
 clear hown hk k0 k1 C
 go_wp2_with fail
 refine AC 3 ?_
 rw[Ai]
 go_wp2_with(at_builtin;refine qu _ rfl _ _ 29 rfl w.heap.size 3 i0 underlying29 hi hz0 hz1 hz2 _ 0 f1 rfl HO.out _ n1 c1 f1 rfl (hL1.out.below (Aa _) HK.out) (by omega) HK.out.size ?_;intro v1 w1 hown1 hgrow1)
 have m1:w1.cell? ⟨q,1,none⟩=some (.slice a2 n2 c2):=hgrow1.cell j1 (by intro e;have h:w.heap.size<=q:=(HO.out.lt _ e.symm).1;omega)
 have HO1:Hid (w1.ownsRow w.heap.size 3 1 v1 n1 (row f1 n1)):=by
  show w1.ownsRow _ _ _ _ _ _
  rw[vu (f':=cat f1 0 f1) (λi _=>by simp[cat]),<-ZD n1]
  simpa using hown1
 have HK1:Hid (Below w.heap.size w w1):=HK.out.grown hgrow1 HK.out.size (λk hk=>(HO.out.lt k hk).1)
 clear hown1 hgrow1 HO HK j0 j1
 rw[Ai]
 go_wp2_with(at_builtin;refine qu _ rfl _ _ 29 rfl w.heap.size 3 i0 underlying29 hi hz0 hz1 hz2 _ n1 f1 rfl HO1.out _ n2 c2 f2 rfl (hL2.out.below (Aa _) HK1.out) (by omega) HK1.out.size ?_;intro v2 w2 hown2 hgrow2)
 have HK2:Hid (Below w.heap.size w w2):=HK1.out.grown hgrow2 HK1.out.size (λk hk=>(HO1.out.lt k hk).1)
 have HO2:Hid (w2.ownsRow w.heap.size 3 1 v2 (n1+n2) (row (cat f1 n1 f2) (n1+n2))):=hown2
 clear hown2 hgrow2
 rw[Ai]
 go_wp2_with fail
 go_ret
 obtain⟨a',c',rfl,a3⟩:=kX HO2.out (λi hi=>by
  unfold cat
  split
  ·exact hL1.out.wf i (by omega)
  ·exact hL2.out.wf _ (by omega))
 exact⟨⟨a',c',rfl,a3⟩,HK2.out⟩
end Go.Proofs.YtpiohehijkpghacGreatDoor.Re
namespace Go.Proofs.YtpiohehijkpghacGreatDoor.Re
open Go.RowKit Go.Maps
open Re.Hy
theorem zB{w:World}{b i:Nat}{cs:Array Value}{t:TypeId}{fr:Nat×Nat}{v:Value}(h:w.heap[b]?=some (.cells cs t fr)):(w.setCell ⟨b,i,none⟩ v).heap[b]?=some (.cells (cs.setIfInBounds i v) t fr):=by
 simp[Zv,AM,h]
theorem zi{w:World}{b g i:Nat}{o:Obj}{v:Value}(h:w.heap[g]?=some o)(hne:b≠g):(w.setCell ⟨b,i,none⟩ v).heap[g]?=some o:=by
 simp[Zv,AM,h,hne]
theorem zD{w:World}{b g i:Nat}(v:Value)(h:g≠b):(w.setCell ⟨b,i,none⟩ v).heap[g]?=w.heap[g]?:=by
 simp[Zv,AM,Ne.symm h]
theorem zc{B:Nat}{a w:World}(h:Below B a w){g:Nat}(hg:B<=g)(cs:Array Value):Below B a (w.setRow g cs):=
 ⟨h.os,h.tape,h.output,by simpa using h.size,λk hk=>(AJ _ _ _ _ (by omega)).trans (h.block k hk)⟩
theorem zb{P:Program}{ops:Array Oper}{S:World->Prop}{op:Oper}{a:Act}(hw:AA op (yielded ops a.tmps)=true)(ty:TypeId)(x:Operand)(ho:op.op=.load ty x)
  (g:Nat) (hx:a.eval x=.pointer (some ⟨g,0,none⟩)) (t:TypeId) (cs:Array Value) (fr:Nat×Nat) (d:TypeDesc) (hS:∀w,S w->w.heap[g]?=some (.cells cs t fr))
  (hu:P.underlying ty=some d) (hd:(match d with|.struct _|.array _ _=>true|_=>false)=true) (hi:(P.info? ty).map (·.size)=some cs.size):YieldsIf P ops S op (.agg cs) a:=
 .inl ⟨hw,λw hw'=>by
  unfold execOp
  simp only[ho,hx,Instr.loadAt,Instr.sureAddr,Ze,ZC,AI,AG w g t ty cs fr d (hS w hw') hu hd hi]⟩
theorem za5{Φ:World->Prop}{w:World}{A B:Obj}(h:∀W:World,W.heap[w.heap.size]?=some A->W.heap[w.heap.size+1]?=some B->Below w.heap.size w W->w.heap.size+2<=W.heap.size->Φ W):Φ ((w.alloc A).alloc B):=
 h _ (AQ _ _ _) (Zj _ _ _) (((Ad _ _).alloc (Aa _) _).alloc (by simp) _) (by simp)
abbrev zm:Array Value:=mcs 0 (λ_=>0) (.slice none 0 0)
theorem za6:zm.size=34:=rfl
theorem xw(P:Int)(r:Nat->Int)(a:Option Addr)(n c:Nat):(mcs P r (.slice a n c)).all (·.oneCell')=true:=by simp[Value.oneCell']
theorem zg0(T:Array Value)(P:Int)(r f:Nat->Int)(a:Option Addr)(n c:Nat)(hT:Hid (T=mcs P r (.slice a n c)))(hm:Hid (MayBe P n r f))
  (h0:T[0]?=some (.int .i64 P)) (hF:T[33]?=some (.slice a n c)) (hR:Hid (Rg r)) (k:Nat) (k0:1<=k) (k1:k<32) (hn:0<n) (w:World) (hL:Hid (Lie w a n c f)):
  Calls prog 137 #[.agg T,.int .i64 k] w λe w'=>(∃a' c',e=.returned (.tuple #[.agg (mcs P (up r k (f 0)) (.slice a' (n-1) c')),.int .i64 (f 0),.int .i64 (r k),.bool true])/\Lie w' a' (n-1) c' (tl f)/\Far w.heap.size a')/\Below w.heap.size w w':=by
 have hn64:=hm.out.few.2
 have C1:=λw=>za4 T P r f a n c true hT ⟨λ_=>hm.out,λ_=>rfl⟩ h0 hF hR (by omega) w
 have C2:=zaA (k:Int)
 rw[decide_eq_true (⟨by omega,by omega⟩:(1:Int)<=k/\(k:Int)<32)]at C2
 obtain⟨b,o,rfl,hb,hc⟩:=hL.out.sure hn
 have hcR:T[1+k]?=some (.int .i64 (r k)):=by rw[hT.out];exact zfn _ _ _ _ k1
 have HI:Hid ((prog.info? 59).map (·.size)=some T.size):=qI hT.out
 go_enter func137,ntmps137
 go_upto_region 1 with fail
 refine za5 (Φ:=λW=>Qa _ _ _ _ W) ?_
 intro W HR' HZ' HB' hs0
 have HR:Hid (W.heap[w.heap.size]?=some (.cells T 59 (0,0))):=HR'
 have HB:Hid (Below w.heap.size w W):=HB'
 obtain⟨Z,hZ,HZ⟩:∃Z:Array Value,Hid (Z.size=34)/\Hid (W.heap[w.heap.size+1]?=some (.cells Z 59 (0,0))):=⟨zm,za6,HZ'⟩
 clear HR' HZ' HB'
 go_wp2_with(refine zo (by rfl) 59 _ rfl _ rfl 59 _ (0,0) _ HR.out underlying59 rfl HI.out ?_)
 refine(C1 _ (hL.out.below (Aa _) HB.out)).mono ?_
 rintro e W1 ⟨rfl,hk⟩
 have HR1:Hid (W1.heap[w.heap.size]?=some (.cells T 59 (0,0))):=(hk.block _ (zk HR.out)).trans HR.out
 have HZ1:Hid (W1.heap[w.heap.size+1]?=some (.cells Z 59 (0,0))):=(hk.block _ (zk HZ.out)).trans HZ.out
 have HB1:Hid (Below w.heap.size w W1):=HB.out.trans (hk.mono HB.out.size)
 have hs1:w.heap.size+1<W1.heap.size:=zk HZ1.out
 clear hk HR HZ HB hs0 C1
 go_wp2_with fail
 refine(C2 _).mono ?_
 rintro e w' ⟨rfl,rfl⟩
 have c33:w'.cell? ⟨w.heap.size,33,none⟩=some (.slice (some ⟨b,o,none⟩) n c):=(Ab _ w.heap.size _ _ _ _ HR1.out).trans hF
 have cR:w'.cell? ⟨w.heap.size,1+k,none⟩=some (.int .i64 (r k)):=(Ab _ w.heap.size _ _ _ _ HR1.out).trans hcR
 have cF:w'.cell? ⟨b,o,none⟩=some (.int .i64 (f 0)):=(HB1.out.cell (p:=⟨b,o,none⟩) hb).trans (hc 0 hn)
 have hf:∀j,w'.frozen? ⟨w.heap.size,j,none⟩=false:=λj=>AF _ _ j _ _ HR1.out
 clear hc C2
 go_wp2_with fail
 go_region
 go_wp2_with fail
 case inl=>
  have hc1:c=1:=by first|assumption|omega
  subst hc1
  have HB2:Hid (Below w.heap.size w ((w'.setCell ⟨w.heap.size,1+k,none⟩ (.int .i64 (f 0))).drew)):=(HB1.out.setCell (Aa _) _).drew
  have HR2:Hid (((w'.setCell ⟨w.heap.size,1+k,none⟩ (.int .i64 (f 0))).drew).heap[w.heap.size]?=some (.cells (T.setIfInBounds (1+k) (.int .i64 (f 0))) 59 (0,0))):=zB HR1.out
  have HZ2:Hid (((w'.setCell ⟨w.heap.size,1+k,none⟩ (.int .i64 (f 0))).drew).heap[w.heap.size+1]?=some (.cells Z 59 (0,0))):=zi HZ1.out (by omega)
  clear HR1 HZ1 c33 cR cF hf HB1 hs1
  generalize (w'.setCell ⟨w.heap.size,1+k,none⟩ (.int .i64 (f 0))).drew=W2 at*
  have hl2:Hid (Lie W2 (some ⟨b,o,none⟩) (n-1) 0 (tl f)):=⟨by have:=hL.out.le;omega,by unfold maxLen;omega,λh=>(nomatch h),λi hi=>absurd hi (by have:=hL.out.le;omega),λx hx _=>⟨b,o,(Ak hx).symm,λi hi=>absurd hi (by have:=hL.out.le;omega)⟩⟩
  refine(vy b (o) (n-1) (0) (tl f) (by omega) _ hl2).mono ?_
  rintro e W3 ⟨⟨a',c',rfl,hl,hfar⟩,hk⟩
  have HL3:Hid (Lie W3 a' (n-1) c' (tl f)):=hl
  have HA3:Hid (Far (w.heap.size+2) a'):=hfar.mono (by have:=zk HZ2.out;omega)
  have HR3:Hid (W3.heap[w.heap.size]?=some (.cells (T.setIfInBounds (1+k) (.int .i64 (f 0))) 59 (0,0))):=(hk.block _ (zk HR2.out)).trans HR2.out
  have HZ3:Hid (W3.heap[w.heap.size+1]?=some (.cells Z 59 (0,0))):=(hk.block _ (zk HZ2.out)).trans HZ2.out
  have HB3:Hid (Below w.heap.size w W3):=HB2.out.trans (hk.mono HB2.out.size)
  have hs3:w.heap.size+1<W3.heap.size:=zk HZ3.out
  clear hk hl hfar HR2 HZ2 HB2 hl2
  obtain⟨M,hM⟩:∃M,Hid (M=mcs P (up r k (f 0)) (.slice a' (n-1) c')):=⟨_,rfl⟩
  have eM:(T.setIfInBounds (1+k) (.int .i64 (f 0))).setIfInBounds 33 (.slice a' (n-1) c')=M:=by rw[hM.out,hT.out,zfo _ _ _ _ _ k1,zgW]
  have c33:W3.cell? ⟨w.heap.size,33,none⟩=some (.slice (some ⟨b,o,none⟩) n 1):=(Ab _ w.heap.size _ _ _ _ HR3.out).trans (by rw[hT.out,zfo _ _ _ _ _ k1];rfl)
  have hf:∀j,W3.frozen? ⟨w.heap.size,j,none⟩=false:=λj=>AF _ _ j _ _ HR3.out
  have HR4:Hid ((W3.setCell ⟨w.heap.size,33,none⟩ (.slice a' (n-1) c')).heap[w.heap.size]?=some (.cells M 59 (0,0))):=by rw[<-eM];exact zB HR3.out
  have HZ4:Hid ((W3.setCell ⟨w.heap.size,33,none⟩ (.slice a' (n-1) c')).heap[w.heap.size+1]?=some (.cells Z 59 (0,0))):=zi HZ3.out (by omega)
  have HB4:Hid (Below w.heap.size w (W3.setCell ⟨w.heap.size,33,none⟩ (.slice a' (n-1) c'))):=HB3.out.setCell (Aa _) _
  have MI:Hid ((prog.info? 59).map (·.size)=some M.size):=qI hM.out
  have MO:Hid (M.all (·.oneCell')=true):=by show _=_;rw[hM.out];exact xw _ _ _ _ _
  have MZ:Hid (Z.size=M.size):=by show _=_;rw[hM.out,hZ.out];rfl
  clear eM HR3 HZ3 HB3
  go_wp2_with(first|(refine zo (by rfl) 59 _ rfl _ rfl 59 _ (0,0) _ HR4.out underlying59 rfl MI.out ?_)|(refine AD rfl 59 _ _ rfl _ _ rfl rfl 59 _ HZ4.out MI.out MZ.out MO.out ?_))
  refine Ao (v:=.tuple #[.agg M,.int .i64 (f 0),.int .i64 (r k),.bool true]) ?_ rfl ⟨⟨a',c',by rw[hM.out],?_,HA3.out.mono (by omega)⟩,?_⟩
  ·have L2:=AG (P:=prog) _ _ 59 59 M (0,0) _ (AY _ _ _ _ _ _ HZ4.out) underlying59 rfl MI.out
   simp[results,results137,asAddr,L2]
  ·refine HL3.out.moved λx hx=>?_
   have:=HA3.out x hx
   rw[AJ _ _ _ _ (by omega)]
   exact zD _ (by omega)
  ·exact zc HB4.out (by omega) _
 case inr=>
  have HB2:Hid (Below w.heap.size w ((w'.setCell ⟨w.heap.size,1+k,none⟩ (.int .i64 (f 0))).drew)):=(HB1.out.setCell (Aa _) _).drew
  have HR2:Hid (((w'.setCell ⟨w.heap.size,1+k,none⟩ (.int .i64 (f 0))).drew).heap[w.heap.size]?=some (.cells (T.setIfInBounds (1+k) (.int .i64 (f 0))) 59 (0,0))):=zB HR1.out
  have HZ2:Hid (((w'.setCell ⟨w.heap.size,1+k,none⟩ (.int .i64 (f 0))).drew).heap[w.heap.size+1]?=some (.cells Z 59 (0,0))):=zi HZ1.out (by omega)
  clear HR1 HZ1 c33 cR cF hf HB1 hs1
  generalize (w'.setCell ⟨w.heap.size,1+k,none⟩ (.int .i64 (f 0))).drew=W2 at*
  have hl2:Hid (Lie W2 (some ⟨b,o+1,none⟩) (n-1) (c-1) (tl f)):=by
   have hl1:=hL.out.below (Aa _) HB2.out
   refine⟨by have:=hl1.le;omega,by have:=hl1.top;omega,λh=>(nomatch h),λi hi=>hl1.wf (i+1) (by omega),λx hx _=>⟨b,o+1,(Ak hx).symm,λi hi=>?_⟩⟩
   obtain⟨b',o',e,hc⟩:=hl1.ad _ rfl hn
   cases e
   have:=hc (i+1) (by omega)
   rw[show o+1+i=o+(i+1) by omega]
   exact this
  refine(vy b (o+1) (n-1) (c-1) (tl f) (by omega) _ hl2).mono ?_
  rintro e W3 ⟨⟨a',c',rfl,hl,hfar⟩,hk⟩
  have HL3:Hid (Lie W3 a' (n-1) c' (tl f)):=hl
  have HA3:Hid (Far (w.heap.size+2) a'):=hfar.mono (by have:=zk HZ2.out;omega)
  have HR3:Hid (W3.heap[w.heap.size]?=some (.cells (T.setIfInBounds (1+k) (.int .i64 (f 0))) 59 (0,0))):=(hk.block _ (zk HR2.out)).trans HR2.out
  have HZ3:Hid (W3.heap[w.heap.size+1]?=some (.cells Z 59 (0,0))):=(hk.block _ (zk HZ2.out)).trans HZ2.out
  have HB3:Hid (Below w.heap.size w W3):=HB2.out.trans (hk.mono HB2.out.size)
  have hs3:w.heap.size+1<W3.heap.size:=zk HZ3.out
  clear hk hl hfar HR2 HZ2 HB2 hl2
  obtain⟨M,hM⟩:∃M,Hid (M=mcs P (up r k (f 0)) (.slice a' (n-1) c')):=⟨_,rfl⟩
  have eM:(T.setIfInBounds (1+k) (.int .i64 (f 0))).setIfInBounds 33 (.slice a' (n-1) c')=M:=by rw[hM.out,hT.out,zfo _ _ _ _ _ k1,zgW]
  have c33:W3.cell? ⟨w.heap.size,33,none⟩=some (.slice (some ⟨b,o,none⟩) n c):=(Ab _ w.heap.size _ _ _ _ HR3.out).trans (by rw[hT.out,zfo _ _ _ _ _ k1];rfl)
  have hf:∀j,W3.frozen? ⟨w.heap.size,j,none⟩=false:=λj=>AF _ _ j _ _ HR3.out
  have HR4:Hid ((W3.setCell ⟨w.heap.size,33,none⟩ (.slice a' (n-1) c')).heap[w.heap.size]?=some (.cells M 59 (0,0))):=by rw[<-eM];exact zB HR3.out
  have HZ4:Hid ((W3.setCell ⟨w.heap.size,33,none⟩ (.slice a' (n-1) c')).heap[w.heap.size+1]?=some (.cells Z 59 (0,0))):=zi HZ3.out (by omega)
  have HB4:Hid (Below w.heap.size w (W3.setCell ⟨w.heap.size,33,none⟩ (.slice a' (n-1) c'))):=HB3.out.setCell (Aa _) _
  have MI:Hid ((prog.info? 59).map (·.size)=some M.size):=qI hM.out
  have MO:Hid (M.all (·.oneCell')=true):=by show _=_;rw[hM.out];exact xw _ _ _ _ _
  have MZ:Hid (Z.size=M.size):=by show _=_;rw[hM.out,hZ.out];rfl
  clear eM HR3 HZ3 HB3
  go_wp2_with(first|(refine zo (by rfl) 59 _ rfl _ rfl 59 _ (0,0) _ HR4.out underlying59 rfl MI.out ?_)|(refine AD rfl 59 _ _ rfl _ _ rfl rfl 59 _ HZ4.out MI.out MZ.out MO.out ?_))
  refine Ao (v:=.tuple #[.agg M,.int .i64 (f 0),.int .i64 (r k),.bool true]) ?_ rfl ⟨⟨a',c',by rw[hM.out],?_,HA3.out.mono (by omega)⟩,?_⟩
  ·have L2:=AG (P:=prog) _ _ 59 59 M (0,0) _ (AY _ _ _ _ _ _ HZ4.out) underlying59 rfl MI.out
   simp[results,results137,asAddr,L2]
  ·refine HL3.out.moved λx hx=>?_
   have:=HA3.out x hx
   rw[AJ _ _ _ _ (by omega)]
   exact zD _ (by omega)
  ·exact zc HB4.out (by omega) _
theorem Hid.mk'{p:Prop}(h:p):Hid p:=h
theorem znK(w:World)(a b:Obj):(((w.alloc a).alloc b).drew).heap[w.heap.size]?=some a:=AQ _ _ _
theorem znL(w:World)(a b:Obj):(((w.alloc a).alloc b).drew).heap[w.heap.size+1]?=some b:=Zj _ _ _
theorem znM(w:World)(a b:Obj):Below w.heap.size w (((w.alloc a).alloc b).drew):=(((Ad _ _).alloc (Aa _) _).alloc (by simp) _).drew
theorem znN(w:World)(a b:Obj):w.heap.size+2<=(((w.alloc a).alloc b).drew).heap.size:=by
 show _<=((w.alloc a).alloc b).heap.size
 simp
theorem zg1(T:Array Value)(P:Int)(r f:Nat->Int)(a:Option Addr)(n c:Nat)(hT:Hid (T=mcs P r (.slice a n c)))(hm:Hid (MayBe P n r f))
  (h0:T[0]?=some (.int .i64 P)) (hF:T[33]?=some (.slice a n c)) (hR:Hid (Rg r)) (x:Int) (hx:Hid (Idle P n r f x)) (w:World) (hL:Hid (Lie w a n c f)):
  Calls prog 79 #[.agg T,.int .i64 x] w λe w'=>(∃a' c',e=.returned (.tuple #[.agg (mcs P r (.slice a' (n+1) c')),.bool true])/\Lie w' a' (n+1) c' (en f n x)/\Far w.heap.size a')/\Below w.heap.size w w':=by
 have hn64:=hm.out.few.2
 have C1:=λw=>za4 T P r f a n c true hT ⟨λ_=>hm.out,λ_=>rfl⟩ h0 hF hR (by omega) w
 have C3:=λw=>zb1 T P r f a n c x true hT ⟨λ_=>hx.out,λ_=>rfl⟩ h0 hF hR hn64 hm.out.high w
 have HI:Hid ((prog.info? 59).map (·.size)=some T.size):=qI hT.out
 go_enter func79,ntmps79
 go_upto_region 1 with fail
 refine za5 (Φ:=λW=>Qa _ _ _ _ W) ?_
 intro W0 HR' HZ' HB' hs0
 have HR0:Hid (W0.heap[w.heap.size]?=some (.cells T 59 (0,0))):=HR'
 have HB0:Hid (Below w.heap.size w W0):=HB'
 obtain⟨Z,hZ,HZ0⟩:∃Z:Array Value,Hid (Z.size=34)/\Hid (W0.heap[w.heap.size+1]?=some (.cells Z 59 (0,0))):=⟨zm,za6,HZ'⟩
 clear HR' HZ' HB'
 go_wp2_with(refine zo (by rfl) 59 _ rfl _ rfl 59 _ (0,0) _ HR0.out underlying59 rfl HI.out ?_)
 refine(C1 _ (hL.out.below (Aa _) HB0.out)).mono ?_
 rintro e W1 ⟨rfl,hk⟩
 have HR1:Hid (W1.heap[w.heap.size]?=some (.cells T 59 (0,0))):=(hk.block _ (zk HR0.out)).trans HR0.out
 have HZ1:Hid (W1.heap[w.heap.size+1]?=some (.cells Z 59 (0,0))):=(hk.block _ (zk HZ0.out)).trans HZ0.out
 have HB1:Hid (Below w.heap.size w W1):=HB0.out.trans (hk.mono HB0.out.size)
 have hs1:w.heap.size+1<W1.heap.size:=zk HZ1.out
 clear hk HR0 HZ0 HB0 hs0
 go_wp2_with(refine zo (by rfl) 59 _ rfl _ rfl 59 _ (0,0) _ HR1.out underlying59 rfl HI.out ?_)
 refine(C3 _ (hL.out.below (Aa _) HB1.out)).mono ?_
 rintro e W2 ⟨rfl,hk⟩
 have HR2:Hid (W2.heap[w.heap.size]?=some (.cells T 59 (0,0))):=(hk.block _ (zk HR1.out)).trans HR1.out
 have HZ2:Hid (W2.heap[w.heap.size+1]?=some (.cells Z 59 (0,0))):=(hk.block _ (zk HZ1.out)).trans HZ1.out
 have HB2:Hid (Below w.heap.size w W2):=HB1.out.trans (hk.mono HB1.out.size)
 have hs2:w.heap.size+1<W2.heap.size:=zk HZ2.out
 clear hk HR1 HZ1 HB1 hs1
 have c33:W2.cell? ⟨w.heap.size,33,none⟩=some (.slice a n c):=(Ab _ w.heap.size _ _ _ _ HR2.out).trans hF
 go_wp2_with fail
 refine za5 (w:=W2) (Φ:=λW=>Calls _ _ _ W _) ?_
 intro W3 ha hb3 hk hs3
 have l1:Hid (Lie W3 a n c f):=hL.out.below (Aa _) (HB2.out.trans (hk.mono HB2.out.size))
 have l2:Hid (Lie W3 (some ⟨W2.heap.size,0,none⟩) 1 1 (λ_=>x)):=by
  refine⟨Aa _,by unfold maxLen;omega,λh=>(nomatch h),λi hi=>WY (by have:=hx.out.lo;have:=hx.out.hi;have:=hm.out.high;omega),λy hy _=>⟨W2.heap.size,0,(Ak hy).symm,λi hi=>?_⟩⟩
  obtain rfl:i=0:=by omega
  rw[Ab _ _ _ _ _ _ ha]
  rfl
 have e0:W3.cell? ⟨W2.heap.size+1,0,none⟩=some (.slice a n c):=by rw[Ab _ _ _ _ _ _ hb3];rfl
 have e1:W3.cell? ⟨W2.heap.size+1,1,none⟩=some (.slice (some ⟨W2.heap.size,0,none⟩) 1 1):=by rw[Ab _ _ _ _ _ _ hb3];rfl
 refine(vz (W2.heap.size+1) a (some ⟨W2.heap.size,0,none⟩) n c 1 1 f (λ_=>x) (by omega) (by omega) W3 (by omega) e0 e1 l1 l2).mono ?_
 rintro e W4 ⟨⟨a',c',rfl,hl,hfar⟩,hk4⟩
 have HL4:Hid (Lie W4 a' (n+1) c' (cat f n (λ_=>x))):=hl
 have HA4:Hid (Far (w.heap.size+2) a'):=hfar.mono (by omega)
 clear hl hfar l1 l2 e0 e1 ha hb3 c33
 have HR3:Hid (W3.heap[w.heap.size]?=some (.cells T 59 (0,0))):=(hk.block _ (zk HR2.out)).trans HR2.out
 have HZ3:Hid (W3.heap[w.heap.size+1]?=some (.cells Z 59 (0,0))):=(hk.block _ (zk HZ2.out)).trans HZ2.out
 have HB3:Hid (Below w.heap.size w W3):=HB2.out.trans (hk.mono HB2.out.size)
 have hs3b:w.heap.size+1<W3.heap.size:=zk HZ3.out
 clear hk HR2 HZ2 HB2 hs2 hs3b
 have HR4:Hid (W4.heap[w.heap.size]?=some (.cells T 59 (0,0))):=(hk4.block _ (zk HR3.out)).trans HR3.out
 have HZ4:Hid (W4.heap[w.heap.size+1]?=some (.cells Z 59 (0,0))):=(hk4.block _ (zk HZ3.out)).trans HZ3.out
 have HB4:Hid (Below w.heap.size w W4):=HB3.out.trans (hk4.mono HB3.out.size)
 have hs4:w.heap.size+1<W4.heap.size:=zk HZ4.out
 clear hk4 HR3 HZ3 HB3 hs3
 obtain⟨M,hM⟩:∃M,Hid (M=mcs P r (.slice a' (n+1) c')):=⟨_,rfl⟩
 have eM:T.setIfInBounds 33 (.slice a' (n+1) c')=M:=by rw[hM.out,hT.out,zgW]
 have c33:W4.cell? ⟨w.heap.size,33,none⟩=some (.slice a n c):=(Ab _ w.heap.size _ _ _ _ HR4.out).trans hF
 have hf:∀j,W4.frozen? ⟨w.heap.size,j,none⟩=false:=λj=>AF _ _ j _ _ HR4.out
 have HR5:Hid ((W4.setCell ⟨w.heap.size,33,none⟩ (.slice a' (n+1) c')).heap[w.heap.size]?=some (.cells M 59 (0,0))):=by rw[<-eM];exact(zB HR4.out)
 have HZ5:Hid ((W4.setCell ⟨w.heap.size,33,none⟩ (.slice a' (n+1) c')).heap[w.heap.size+1]?=some (.cells Z 59 (0,0))):=(zi HZ4.out (by omega))
 have HB5:Hid (Below w.heap.size w (W4.setCell ⟨w.heap.size,33,none⟩ (.slice a' (n+1) c'))):=(HB4.out.setCell (Aa _) _)
 have MI:Hid ((prog.info? 59).map (·.size)=some M.size):=qI hM.out
 have MO:Hid (M.all (·.oneCell')=true):=by show _=_;rw[hM.out];exact xw _ _ _ _ _
 have MZ:Hid (Z.size=M.size):=by show _=_;rw[hM.out,hZ.out];rfl
 clear eM HR4 HZ4 HB4
 go_wp2_with(first|(refine zo (by rfl) 59 _ rfl _ rfl 59 _ (0,0) _ HR5.out underlying59 rfl MI.out ?_)|(refine AD rfl 59 _ _ rfl _ _ rfl rfl 59 _ HZ5.out MI.out MZ.out MO.out ?_))
 refine Ao (v:=.tuple #[.agg M,.bool true]) ?_ rfl ⟨⟨a',c',by rw[hM.out],?_,HA4.out.mono (by omega)⟩,?_⟩
 ·have L2:=AG (P:=prog) _ _ 59 59 M (0,0) _ (AY _ _ _ _ _ _ HZ5.out) underlying59 rfl MI.out
  simp[results,results79,asAddr,L2]
 ·refine HL4.out.moved λy hy=>?_
  have:=HA4.out y hy
  rw[AJ _ _ _ _ (by omega)]
  exact zD _ (by omega)
 ·exact zc HB5.out (by omega) _
def rg(k i:Nat):Int:=if i<k then i else 0
theorem zlF(k:Nat):up (rg k) k k=rg (k+1):=by
 funext i
 unfold up rg
 by_cases h:i=k
 ·subst h;simp
 ·rw[if_neg h]
  by_cases h2:i<k
  ·rw[if_pos h2,if_pos (by omega)]
  ·rw[if_neg h2,if_neg (by omega)]
theorem zg2{P:Int}{r r':Nat->Int}{v:Value}(h:∀i,i<32->r i=r' i):mcs P r v=mcs P r' v:=by
 apply Array.ext_getElem?
 intro i
 by_cases h0:i=0
 ·subst h0;rfl
 ·by_cases h1:i<33
  ·rw[show i=1+(i-1) by omega,zfn _ _ _ _ (by omega),zfn _ _ _ _ (by omega),h _ (by omega)]
  ·by_cases h2:i=33
   ·subst h2;rfl
   ·rw[Aw (by rw[zer];omega),Aw (by rw[zer];omega)]
theorem qX{P:Program}{ops:Array Oper}{rest:List Oper}{o:Oper}{a:Act}{W:World}{Q:Exit->Act->World->Prop}(hgd:o.guard=none)(ty:TypeId)(x y:Operand)(ho:o.op=.store ty x y)
  (cells:Array Value) (t:TypeId) (old:Array Value) (hx:a.eval x=.pointer (some ⟨W.heap.size,0,none⟩)) (hy:a.eval y=.agg cells)
  (hi:(P.info? ty).map (·.size)=some cells.size) (hold:old.size=cells.size) (h1:cells.all (·.oneCell')=true)
  (h:∀V:World,V.heap[W.heap.size]?=some (.cells cells t (0,0))->Below W.heap.size W V->wpList P ops Q rest (a.put o.dst undef) V):wpList P ops Q (o::rest) a (W.alloc (.cells old t (0,0))):=
 AD hgd ty x y ho W.heap.size cells hx hy t old (heap_alloc_new _ _) hi hold h1 (h _ (AY _ _ _ _ _ _ (heap_alloc_new _ _)) (zc ((Ad _ _).alloc (Aa _) _) (Aa _) _))
theorem qJ{w w':World}{base:Nat}{e:TypeId}{size:Nat}{v:Value}{n:Nat}{xs:List Value}(h:w.ownsRow base e size v n xs)(hb:∀g,v.ownBlock=some g->w'.heap[g]?=w.heap[g]?):w'.ownsRow base e size v n xs:=by
 obtain⟨h1,h2⟩:=h
 refine⟨h1,?_⟩
 rcases h2 with h2|⟨g,cap,cur,hv,hg,hh,r⟩
 ·exact .inl h2
 ·exact .inr ⟨g,cap,cur,hv,hg,(hb g (by rw[hv];rfl)).trans hh,r⟩
theorem jk{w:World}{base:Nat}{e:TypeId}{size:Nat}{v:Value}{n:Nat}{xs:List Value}(h:w.ownsRow base e size v n xs):∃lp lc,v=.slice lp n lc:=by
 rcases h.2 with⟨hv,rfl⟩|⟨g,cap,cur,hv,_⟩
 ·exact⟨_,_,hv⟩
 ·exact⟨_,_,hv⟩
theorem zlG(w:World)(x:Int)(hx:(Zg .i64 x).wf=true):Lie (w.alloc (.cells #[.int .i64 x] 3)) (some ⟨w.heap.size,0,none⟩) 1 1 (λ_=>x):=by
 refine⟨Aa _,by unfold maxLen;omega,λh=>(nomatch h),λi hi=>hx,λy hy _=>⟨w.heap.size,0,(Ak hy).symm,λi hi=>?_⟩⟩
 obtain rfl:i=0:=by omega
 rw[Ab _ _ _ _ _ _ (heap_alloc_new _ _)]
 rfl
theorem zg3{w1 w2:World}{o A:Obj}{g e n:Nat}{v:Value}{xs:List Value}(h:w1.heap[g]?=some A)(hown:w1.ownsRow (g+1) e 1 v n xs)(hg:(w1.alloc o).grownBy w2 v.ownBlock):w2.heap[g]?=some A:=by
 have hlt:=zk h
 rw[hg.block g (by simp;omega) (by intro e;have:=(hown.lt g e.symm).1;omega),heap_alloc_old _ _ hlt]
 exact h
theorem zlH{Φ:World->Prop}{w:World}{A:Obj}(h:∀W:World,W.heap[w.heap.size]?=some A->Below w.heap.size w W->W.heap.size=w.heap.size+1->Φ W):Φ (w.alloc A):=
 h _ (heap_alloc_new _ _) ((Ad _ _).alloc (Aa _) _) (by simp)
theorem zjp(P:Int)(p0:33<=P)(p1:P<=96)(w:World):
  Calls prog 28 #[.int .i64 P] w λe w'=>(∃a' c',e=.returned (.tuple #[.agg (mcs P (rg P.toNat) (.slice a' (P.toNat-32) c')),.int .i64 0])/\Lie w' a' (P.toNat-32) c' (λi=>32+i)/\Far w.heap.size a')/\Below w.heap.size w w':=by
 have C1:=vw P
 rw[decide_eq_true ⟨p0,p1⟩]at C1
 obtain⟨i0,hi,hz0,hz1,hz2⟩:=Ax zjo
 go_enter func28,ntmps28
 go_upto_region 1 with fail
 refine zlH (Φ:=λW=>Qa _ _ _ _ W) ?_
 intro W HZ' HB' hs0
 have HB:Hid (Below w.heap.size w W):=HB'
 obtain⟨Z,hZ,HZ⟩:∃Z:Array Value,Hid (Z.size=34)/\Hid (W.heap[w.heap.size]?=some (.cells Z 59 (0,0))):=⟨zm,za6,HZ'⟩
 have HS:Hid (W.heap.size=w.heap.size+1):=hs0
 clear HZ' HB' hs0
 go_wp2_with fail
 refine(C1 _).mono ?_
 rintro e w' ⟨rfl,rfl⟩
 go_upto_region 3 with fail
 go_upto_region 4 with(refine qX rfl 59 _ _ rfl (mcs P (rg 0) (.slice none 0 0)) _ _ rfl rfl (qI rfl) rfl (xw _ _ _ _ _) ?_;intro V ha hk)
 have HM:Hid (V.heap[w.heap.size+1]?=some (.cells (mcs P (rg 0) (.slice none 0 0)) 59 (0,0))):=by rw[<-HS.out];exact ha
 have HZ1:Hid (V.heap[w.heap.size]?=some (.cells Z 59 (0,0))):=(hk.block _ (zk HZ.out)).trans HZ.out
 have HB1:Hid (Below w.heap.size w V):=HB.out.trans (hk.mono HB.out.size)
 have hs1:w.heap.size+2<=V.heap.size:=zk HM.out
 rw[HS.out]
 clear ha hk HZ HB HS
 go_wp2_with fail
 generalize Value.agg _=XX
 go_loopw [13] (λi wr=>∃k:Nat,∃v:Value,k<=P.toNat/\i=.int .i64 k/\Hid (wr.heap[w.heap.size+1]?=some (.cells (mcs P (rg k) v) 59 (0,0)))/\Hid (wr.ownsRow (w.heap.size+2) 3 1 v (k-32) (row (λi=>32+i) (k-32)))/\Hid (wr.heap[w.heap.size]?=some (.cells Z 59 (0,0)))/\Hid (Below w.heap.size w wr)/\w.heap.size+2<=wr.heap.size)
  (λi _=>P.toNat-(intOf i).toNat)
 case atStart=>exact⟨0,_,by omega,rfl,HM,AZ _ _ _ _,HZ1,HB1,hs1⟩
 case round=>
  obtain⟨k,v,hk,rfl,HM,HO,HZ,HB,hs⟩:=hrel
  by_cases hlt:k<P.toNat
  ·have hlt':(k:Int)<P:=by omega
   by_cases h32:k<32
   ·have h32':(k:Int)<32:=by omega
    have ck:wr.cell? ⟨w.heap.size+1,1+k,none⟩=some (.int .i64 (rg k k)):=(Ab _ _ _ _ _ _ HM.out).trans (zfn _ _ _ _ h32)
    have hf:∀j,wr.frozen? ⟨w.heap.size+1,j,none⟩=false:=λj=>AF _ _ j _ _ HM.out
    go_wp2_with fail
    refine⟨⟨k+1,v,by omega,by go_num,?_,?_,?_,?_,?_⟩,by simp[intOf];omega⟩
    ·rw[<-zlF k,<-zfo P (rg k) v k k h32];exact zB HM.out
    ·rw[show k+1-32=k-32 by omega]
     exact qJ HO.out λg hg=>zD (b:=w.heap.size+1) _ (by have:=(HO.out.lt g hg).1;omega)
    ·exact zi HZ.out (by omega)
    ·exact HB.out.setCell (Nat.le_succ _) _
    ·simpa using hs
   ·have h32':¬(k:Int)<32:=by omega
    obtain⟨lp,lc,rfl⟩:=jk HO.out
    have c33:wr.cell? ⟨w.heap.size+1,33,none⟩=some (.slice lp (k-32) lc):=(Ab _ _ _ _ _ _ HM.out).trans rfl
    go_wp2_with(at_builtin;go_loud (refine qu _ rfl _ _ 29 rfl (w.heap.size+2) 3 i0 underlying29 hi hz0 hz1 hz2 _ (k-32) (λi=>32+i) rfl (HO.out.alloc _) _ 1 1 (λ_=>(k:Int)) rfl (zlG wr k (WY (by omega))) (by omega) (by simp;omega) ?_;intro v1 w1 hown1 hgrow1;obtain⟨lp1,lc1,rfl⟩:=jk hown1;have HM1:=zg3 HM.out HO.out hgrow1;have hc1:w1.cell? ⟨w.heap.size+1,33,none⟩=some (.slice lp (k-32) lc):=(Ab _ _ _ _ _ _ HM1).trans rfl;have hf1:∀j,w1.frozen? ⟨w.heap.size+1,j,none⟩=false:=λj=>AF _ _ j _ _ HM1))
    refine⟨⟨k+1,.slice lp1 (k-32+1) lc1,by omega,by go_num,?_,?_,?_,?_,?_⟩,by simp[intOf];omega⟩
    ·rw[zg2 (r:=rg (k+1)) (r':=rg k) (λi hi=>by unfold rg;rw[if_pos (by omega),if_pos (by omega)]),<-zgW P (rg k) (.slice lp (k-32) lc)]
     exact zB HM1
    ·have hown2:w1.ownsRow (w.heap.size+2) 3 1 (.slice lp1 (k-32+1) lc1) (k+1-32) (row (λi=>32+i) (k+1-32)):=by
      rw[vu (f':=cat (λi=>32+i) (k-32) (λ_=>(k:Int))) (λi hi=>by unfold cat;split<;>(simp only[]<;>omega)),show k+1-32=k-32+1 by omega]
      exact hown1
     exact qJ hown2 λg hg=>zD (b:=w.heap.size+1) _ (by have:=(hown2.lt g hg).1;omega)
    ·exact zi ((hgrow1.block _ (by simp;omega) (by intro e;have:=(HO.out.lt _ e.symm).1;omega)).trans ((heap_alloc_old _ _ (by omega)).trans HZ.out)) (by omega)
    ·exact((HB.out.alloc HB.out.size _).grown hgrow1 (by simp;omega) (λg hg=>by have:=(HO.out.lt g hg).1;omega)).setCell (Nat.le_succ _) _
    ·have:=hgrow1.size
     simp at this⊢
     omega
  ·have:k=P.toNat:=by omega
   subst this
   have hlt':decide (((P.toNat:Nat):Int)<P)=false:=by simp;omega
   obtain⟨lp,lc,rfl⟩:=jk HO.out
   obtain⟨M,hM⟩:∃M,Hid (M=mcs P (rg P.toNat) (.slice lp (P.toNat-32) lc)):=⟨_,rfl⟩
   have HM':Hid (wr.heap[w.heap.size+1]?=some (.cells M 59 (0,0))):=by rw[hM.out];exact HM
   have MI:Hid ((prog.info? 59).map (·.size)=some M.size):=qI hM.out
   have MO:Hid (M.all (·.oneCell')=true):=by show _=_;rw[hM.out];exact xw _ _ _ _ _
   have MZ:Hid (Z.size=M.size):=by show _=_;rw[hM.out,hZ.out];rfl
   clear HM
   go_wp2_with(first|(refine zo (by rfl) 59 _ rfl _ rfl 59 _ (0,0) _ HM'.out underlying59 rfl MI.out ?_)|(refine AD rfl 59 _ _ rfl _ _ rfl rfl 59 _ HZ.out MI.out MZ.out MO.out ?_))
   obtain⟨a',c',e,hl,hfar⟩:=kX HO.out (λi hi=>WY (by omega))
   cases e
   refine Ao (v:=.tuple #[.agg M,.int .i64 0]) ?_ rfl ⟨⟨lp,lc,by rw[hM.out],?_,hfar.mono (by omega)⟩,?_⟩
   ·have L2:=AG (P:=prog) _ _ 59 59 M (0,0) _ (AY _ _ _ _ _ _ HZ.out) underlying59 rfl MI.out
    simp[results,results28,asAddr,L2]
   ·refine hl.moved λy hy=>?_
    have:=hfar y hy
    rw[AJ _ _ _ _ (by omega)]
   ·exact zc HB.out (by omega) _
end Go.Proofs.YtpiohehijkpghacGreatDoor.Re
namespace Go.Proofs.YtpiohehijkpghacGreatDoor.Wi
open Go.RowKit
theorem zkN:(prog.info? 3).map (λi=>(i.zero,i.size,i.bytes))=some (some (.int .i64 0),1,8):=by kernel_rfl
theorem zb2:(prog.info? 159).map (λi=>(i.zero,i.size,i.bytes))=some (some (.agg #[.int .i64 0,.bool false]),2,16):=by kernel_rfl
def above(seq:Int)(q:Sl):Bool:=decide (seq<=q.1)
def waits(seq:Int)(q:Sl):Bool:=decide (q.1=seq)&&!q.2
def Asks(g:Nat)(b:Nat)(p:Sl->Bool)(w:World):Prop:=
 ∀(W:World) (s:Int) (d:Bool),Below w.heap.size w W->Calls prog g #[.agg #[.int .i64 s,.bool d],.pointer (some ⟨b,0,none⟩)] W λe w'=>e=.returned (.bool (p (s,d)))/\Below W.heap.size W w'
theorem zb3(B:Nat)(seq:Int)(w:World)(hc:w.cell? ⟨B,0,none⟩=some (.int .i64 seq)):Asks 169 B (above seq) w:=by
 intro W s d hb
 have hB:B<w.heap.size:=An _ _ hc
 have hc1:W.cell? ⟨B,0,none⟩=some (.int .i64 seq):=(hb.cell (p:=⟨B,0,none⟩) hB).trans hc
 have hB1:B<W.heap.size:=WZ hB hb.size
 clear hb hc hB
 go_enter func169,ntmps169
 go_wp2
 go_ret
 exact⟨rfl,(Ad _ _).alloc (Aa _) _⟩
theorem zfp(B:Nat)(seq:Int)(w:World)(hc:w.cell? ⟨B,0,none⟩=some (.int .i64 seq)):Asks 157 B (waits seq) w:=by
 intro W s d hb
 have hB:B<w.heap.size:=An _ _ hc
 have hc1:W.cell? ⟨B,0,none⟩=some (.int .i64 seq):=(hb.cell (p:=⟨B,0,none⟩) hB).trans hc
 have hB1:B<W.heap.size:=WZ hB hb.size
 clear hb hc hB
 by_cases e:s=seq
 ·subst e
  go_enter func157,ntmps157
  go_wp2
  go_ret
  exact⟨by simp[waits],(Ad _ _).alloc (Aa _) _⟩
 ·have e2:(s==seq)=false:=by simpa using e
  go_enter func157,ntmps157
  go_wp2
  go_ret
  exact⟨by simp[waits,e],(Ad _ _).alloc (Aa _) _⟩
theorem zlI:∀args w,(callFunc 169 args).run prog w=.ok (.enter 169 args) w:=enters_of func169 (by kernel_rfl) rfl
theorem zjq:∀args w,(callFunc 157 args).run prog w=.ok (.enter 157 args) w:=enters_of func157 (by kernel_rfl) rfl
theorem xL(g b:Nat)(p:Sl->Bool)(eg:∀args w,(callFunc g args).run prog w=.ok (.enter g args) w)(a:Option Addr)(n c:Nat)(hn:n<=140737488355328)(l:List Sl)(m:Nat)(hm:Hid (First p l m))(r:Int)(hr:Hid (r=if m<n then(m:Int)else-1))(w:World)(hL:Hid (LC w a n c 2 (scs l)))(hA:Hid (Asks g b p w)):
  Calls prog 156 #[.slice a n c,.func (.func g) #[] #[.pointer (some ⟨b,0,none⟩)]] w λe w'=>e=.returned (.int .i64 r)/\Below w.heap.size w w':=by
 have hlen:Hid (l.length=n):=by have:=hL.out.len;rw[kW]at this;show _=_;omega
 have hmn:m<=n:=by have:=hm.out.le;have:=hlen.out;omega
 go_enter func156,ntmps156
 go_wp2_with fail
 go_loopw [8] (λi wr=>∃k:Nat,k<=m/\i=.int .i64 k/\Hid (Below w.heap.size w wr))
  (λi _=>n-(intOf i).toNat)
 case atStart=>exact⟨0,by omega,rfl,Ad _ _⟩
 case round=>
  obtain⟨k,hk,rfl,HB⟩:=hrel
  by_cases hlt:k<n
  ·obtain⟨s,d,hsd⟩:=zgM (l:=l) (k:=k) (by rw[hlen.out];exact hlt)
   obtain⟨bb,o,rfl,hb,hc⟩:=hL.out.sure (by omega)
   have c0:wr.cell? ⟨bb,o+k*2,none⟩=some (.int .i64 s):=(HB.out.cell (p:=⟨bb,o+k*2,none⟩) hb).trans (hc _ _ (za0 _ _ _ hsd))
   have c1:wr.cell? ⟨bb,o+k*2+1,none⟩=some (.bool d):=(HB.out.cell (p:=⟨bb,o+k*2+1,none⟩) hb).trans (by rw[Zu];exact hc _ _ (kp _ _ _ hsd))
   have hcall:=hA.out wr s d HB.out
   by_cases hkm:k=m
   ·subst hkm
    have hp:p (s,d)=true:=hm.out.yes _ hsd
    rw[hp]at hcall
    have hrk:r=k:=by rw[hr.out,if_pos hlt]
    subst hrk
    clear hc hsd hp
    go_wp2_with fail
    refine hcall.mono ?_
    rintro e w' ⟨rfl,hb'⟩
    have HB':Hid (Below w.heap.size w w'):=HB.out.trans (hb'.mono HB.out.size)
    clear hcall hb' c0 c1
    go_wp2_with fail
    go_ret
    exact⟨rfl,HB'.out⟩
   ·have hp:p (s,d)=false:=hm.out.no k _ (by omega) hsd
    rw[hp]at hcall
    clear hc hsd hp
    go_wp2_with fail
    refine hcall.mono ?_
    rintro e w' ⟨rfl,hb'⟩
    have HB':Hid (Below w.heap.size w w'):=HB.out.trans (hb'.mono HB.out.size)
    clear hcall hb' c0 c1
    go_wp2_with fail
    exact⟨⟨k+1,by omega,by go_num,HB'⟩,by simp[intOf];omega⟩
  ·have:k=n:=by omega
   subst this
   have hrk:r=-1:=by rw[hr.out,if_neg (by omega)]
   subst hrk
   go_wp2_with fail
   go_ret
   exact⟨rfl,HB.out⟩
theorem kY(g b:Nat)(p:Sl->Bool)(eg:∀args w,(callFunc g args).run prog w=.ok (.enter g args) w)(a:Option Addr)(n c:Nat)(hn:n<=140737488355328)(l:List Sl)(m:Nat)(hm:Hid (First p l m))(r:Bool)(hr:Hid (r=decide (m<n)))(w:World)(hL:Hid (LC w a n c 2 (scs l)))(hA:Hid (Asks g b p w)):
  Calls prog 135 #[.slice a n c,.func (.func g) #[] #[.pointer (some ⟨b,0,none⟩)]] w λe w'=>e=.returned (.bool r)/\Below w.heap.size w w':=by
 obtain⟨x,hx⟩:∃x,Hid (x=if m<n then(m:Int)else-1):=⟨_,rfl⟩
 have C:=λw hL hA=>xL g b p eg a n c hn l m hm x hx w hL hA
 have hr2:Hid (decide (0<=x)=r):=by
  show _=_
  rw[hr.out,hx.out]
  by_cases h:m<n
  ·rw[if_pos h];simp[h]
  ·rw[if_neg h];simp[h]
 go_enter func135,ntmps135
 go_wp2_with fail
 refine(C _ hL hA).mono ?_
 rintro e w' ⟨rfl,hb⟩
 have HB:Hid (Below w.heap.size w w'):=hb
 clear hb C
 go_wp2_with fail
 go_ret
 exact⟨by simp[hr2.out],HB.out⟩
theorem zb4(seq:Int)(w:World):Calls prog 136 #[.int .i64 seq] w λe w'=>e=.returned (.func (.func 169) #[] #[.pointer (some ⟨w.heap.size,0,none⟩)])/\w'.cell? ⟨w.heap.size,0,none⟩=some (.int .i64 seq)/\Below w.heap.size w w':=by
 have hmf:∀(fn:Fn) (first cap:Array Value) (w:World),(ZT fn first cap).run prog w=.ok (.func fn first cap) w:=λ_ _ _ _=>rfl
 go_enter func136,ntmps136
 go_wp2
 go_ret
 exact⟨rfl,by simp,(Ad _ _).alloc (Aa _) _⟩
theorem zc8(b o n c:Nat)(hn:n*16<=140737488355328)(cs:List Value)(w:World)(hL:Hid (LC w (some ⟨b,o,none⟩) n c 2 cs)):
  Calls prog 158 #[.slice (some ⟨b,o,none⟩) n c] w λe w'=>(∃v',e=.returned v'/\w'.ownsRow w.heap.size 159 2 v' n cs)/\Below w.heap.size w w':=by
 obtain⟨i0,hi,hz0,hz1,hz2⟩:=Ax zb2
 have q22:∀(w:World) (a:Option Addr) (n c n' c':Nat),(binOp .eql 62 (.slice a n c) (.slice none n' c')).run prog w=.ok (.bool a.isNone) w:=λw a n c n' c'=>AK w _ _ a n c n' c' underlying62
 go_enter func158,ntmps158
 go_wp2_with(at_builtin;refine zx _ rfl _ _ 62 rfl w.heap.size 159 i0 _ 2 16 underlying62 hi hz0 hz1 hz2 rfl (by decide) _ 0 [] rfl (Ay w #[] 0 (Aa _) (AX _) rfl) _ n c cs rfl (hL.out.below (Aa _) ((Ad _ _).alloc (Aa _) _)) (by unfold maxLen;omega) (by omega) (by simp) ?_)
 intro v' w1 hown hgrow
 go_wp2
 go_ret
 exact⟨⟨_,rfl,by simpa using hown⟩,((Ad _ w).alloc (Aa _) _).grown hgrow (by simp) (by intro k hk;simp[Zp]at hk;omega)⟩
theorem zg4(N:Nat)(h0:0<N)(hN:N*16<=140737488355328)(w:World):
  Calls prog 110 #[.slice none 0 0,.int .i64 N] w λe w'=>(∃v',e=.returned v'/\w'.ownsRow w.heap.size 159 2 v' 0 [])/\Below w.heap.size w w':=by
 obtain⟨i0,hi,hz0,hz1,hz2⟩:=Ax zb2
 go_enter func110,ntmps110
 go_wp2
 all_goals have e8:t159.bytes=16:=rfl
 all_goals have e9:Zr N 0*t159.bytes<=281474976710656:=growslice_fits h0 (by rw[e8];omega)
 all_goals try(exfalso;first|omega|(simp only[e8]at*;omega))
 go_ret
 have hge:=grownCap_ge w N 0 159
 have hle:=Zx w N 0 159 (by unfold maxLen;omega)
 refine⟨⟨_,rfl,Ay w _ _ (Aa _) hle ?_⟩,(((Ad _ _).alloc (Aa _) _).drew)⟩
 simp only[ZF,size_zeroCells]
 show N*2+(grownCap w N 0 159-N)*2=grownCap w N 0 159*2
 omega
theorem zfq(w:World):
  Calls prog 110 #[.slice none 0 0,.int .i64 0] w λe w'=>(∃v',e=.returned v'/\w'.ownsRow w.heap.size 159 2 v' 0 [])/\Below w.heap.size w w':=by
 go_enter func110,ntmps110
 go_wp2
 go_ret
 exact⟨⟨_,rfl,AZ _ _ _ _⟩,Ad _ _⟩
theorem zb5(N:Nat)(hN:N*16<=140737488355328)(w:World):
  Calls prog 110 #[.slice none 0 0,.int .i64 N] w λe w'=>(∃v',e=.returned v'/\w'.ownsRow w.heap.size 159 2 v' 0 [])/\Below w.heap.size w w':=by
 by_cases h:0<N
 ·exact zg4 N h hN w
 ·obtain rfl:N=0:=by omega
  exact zfq w
theorem zc9(q:Nat)(a1 a2:Option Addr)(n1 c1 n2 c2:Nat)(cs1 cs2:List Value)(hn:(n1+n2)*16<=140737488355328)(w:World)
  (hq:q<w.heap.size) (k0:w.cell? ⟨q,0,none⟩=some (.slice a1 n1 c1)) (k1:w.cell? ⟨q,1,none⟩=some (.slice a2 n2 c2)) (hL1:Hid (LC w a1 n1 c1 2 cs1)) (hL2:Hid (LC w a2 n2 c2 2 cs2)):
  Calls prog 77 #[.slice (some ⟨q,0,none⟩) 2 2] w λe w'=>(∃v',e=.returned v'/\w'.ownsRow w.heap.size 159 2 v' (n1+n2) (cs1++cs2))/\Below w.heap.size w w':=by
 obtain⟨i0,hi,hz0,hz1,hz2⟩:=Ax zb2
 have C:=λw=>zb5 (n1+n2) hn w
 simp only[ZQ]at C
 go_enter func77,ntmps77
 go_wp2_with fail
 refine AC 3 ?_
 rw[Ai]
 go_wp2_with fail
 rw[Ai]
 go_wp2_with fail
 rw[Ai]
 go_wp2_with fail
 refine(C _).mono ?_
 rintro e W1 ⟨⟨v,rfl,hown⟩,hk⟩
 have j0:W1.cell? ⟨q,0,none⟩=some (.slice a1 n1 c1):=(hk.cell (p:=⟨q,0,none⟩) hq).trans k0
 have j1:W1.cell? ⟨q,1,none⟩=some (.slice a2 n2 c2):=(hk.cell (p:=⟨q,1,none⟩) hq).trans k1
 have HO:Hid (W1.ownsRow w.heap.size 159 2 v 0 []):=hown
 have HK:Hid (Below w.heap.size w W1):=hk
 clear hown hk k0 k1 C
 go_wp2_with fail
 refine AC 3 ?_
 rw[Ai]
 go_wp2_with(at_builtin;refine zx _ rfl _ _ 62 rfl w.heap.size 159 i0 _ 2 16 underlying62 hi hz0 hz1 hz2 rfl (by decide) _ 0 [] rfl HO.out _ n1 c1 cs1 rfl (hL1.out.below (Aa _) HK.out) (by unfold maxLen;omega) (by omega) HK.out.size ?_;intro v1 w1 hown1 hgrow1)
 have m1:w1.cell? ⟨q,1,none⟩=some (.slice a2 n2 c2):=hgrow1.cell j1 (by intro e;have h:w.heap.size<=q:=(HO.out.lt _ e.symm).1;omega)
 have HO1:Hid (w1.ownsRow w.heap.size 159 2 v1 n1 cs1):=by show ZV _ _ _ _ _ _ _;simpa using hown1
 have HK1:Hid (Below w.heap.size w w1):=HK.out.grown hgrow1 HK.out.size (λk hk=>(HO.out.lt k hk).1)
 clear hown1 hgrow1 HO HK j0 j1
 rw[Ai]
 go_wp2_with(at_builtin;refine zx _ rfl _ _ 62 rfl w.heap.size 159 i0 _ 2 16 underlying62 hi hz0 hz1 hz2 rfl (by decide) _ n1 cs1 rfl HO1.out _ n2 c2 cs2 rfl (hL2.out.below (Aa _) HK1.out) (by unfold maxLen;omega) (by omega) HK1.out.size ?_;intro v2 w2 hown2 hgrow2)
 have HK2:Hid (Below w.heap.size w w2):=HK1.out.grown hgrow2 HK1.out.size (λk hk=>(HO1.out.lt k hk).1)
 have HO2:Hid (w2.ownsRow w.heap.size 159 2 v2 (n1+n2) (cs1++cs2)):=hown2
 clear hown2 hgrow2
 rw[Ai]
 go_wp2_with fail
 go_ret
 exact⟨⟨_,rfl,HO2.out⟩,HK2.out⟩
theorem xT(q:Nat)(a1:Option Addr)(n1 c1:Nat)(cs1:List Value)(hn:n1*16<=140737488355328)(w:World)
  (hq:q<w.heap.size) (k0:w.cell? ⟨q,0,none⟩=some (.slice a1 n1 c1)) (hL1:Hid (LC w a1 n1 c1 2 cs1)):
  Calls prog 77 #[.slice (some ⟨q,0,none⟩) 1 1] w λe w'=>(∃v',e=.returned v'/\w'.ownsRow w.heap.size 159 2 v' n1 cs1)/\Below w.heap.size w w':=by
 obtain⟨i0,hi,hz0,hz1,hz2⟩:=Ax zb2
 have C:=λw=>zb5 n1 hn w
 go_enter func77,ntmps77
 go_wp2_with fail
 refine AC 2 ?_
 rw[Ai]
 go_wp2_with fail
 rw[Ai]
 go_wp2_with fail
 refine(C _).mono ?_
 rintro e W1 ⟨⟨v,rfl,hown⟩,hk⟩
 have j0:W1.cell? ⟨q,0,none⟩=some (.slice a1 n1 c1):=(hk.cell (p:=⟨q,0,none⟩) hq).trans k0
 have HO:Hid (W1.ownsRow w.heap.size 159 2 v 0 []):=hown
 have HK:Hid (Below w.heap.size w W1):=hk
 clear hown hk k0 C
 go_wp2_with fail
 refine AC 2 ?_
 rw[Ai]
 go_wp2_with(at_builtin;refine zx _ rfl _ _ 62 rfl w.heap.size 159 i0 _ 2 16 underlying62 hi hz0 hz1 hz2 rfl (by decide) _ 0 [] rfl HO.out _ n1 c1 cs1 rfl (hL1.out.below (Aa _) HK.out) (by unfold maxLen;omega) (by omega) HK.out.size ?_;intro v1 w1 hown1 hgrow1)
 have HO1:Hid (w1.ownsRow w.heap.size 159 2 v1 n1 cs1):=by show ZV _ _ _ _ _ _ _;simpa using hown1
 have HK1:Hid (Below w.heap.size w w1):=HK.out.grown hgrow1 HK.out.size (λk hk=>(HO.out.lt k hk).1)
 clear hown1 hgrow1 HO HK j0
 rw[Ai]
 go_wp2_with fail
 go_ret
 exact⟨⟨_,rfl,HO1.out⟩,HK1.out⟩
theorem qO{w:World}{base base':Nat}{e:TypeId}{size:Nat}{v:Value}{n:Nat}{xs:List Value}(h:w.ownsRow base e size v n xs)(hb:base'<=base):w.ownsRow base' e size v n xs:=by
 obtain⟨h1,h2⟩:=h
 refine⟨h1,?_⟩
 rcases h2 with h2|⟨g,cap,cur,hv,hg,r⟩
 ·exact .inl h2
 ·exact .inr ⟨g,cap,cur,hv,ZE hb hg,r⟩
theorem zjr{w w':World}{base:Nat}{e:TypeId}{size:Nat}{v:Value}{n:Nat}{xs:List Value}(h:w.ownsRow base e size v n xs)(hb:∀g,v.ownBlock=some g->w'.heap[g]?=w.heap[g]?):w'.ownsRow base e size v n xs:=by
 obtain⟨h1,h2⟩:=h
 refine⟨h1,?_⟩
 rcases h2 with h2|⟨g,cap,cur,hv,hg,hh,r⟩
 ·exact .inl h2
 ·exact .inr ⟨g,cap,cur,hv,hg,(hb g (by rw[hv];rfl)).trans hh,r⟩
theorem zv{w w':World}{base:Nat}{e:TypeId}{size:Nat}{v:Value}{n:Nat}{xs:List Value}(h:w.ownsRow base e size v n xs){B:Nat}(hB:w.heap.size<=B)(hb:Below B w w'):w'.ownsRow base e size v n xs:=
 zjr h λg hg=>hb.block g (WZ (h.lt g hg).2 hB)
theorem vA{w:World}{base:Nat}{e:TypeId}{size:Nat}{v:Value}{n:Nat}{xs:List Value}(h:w.ownsRow base e size v n xs):∃lp lc,v=.slice lp n lc:=by
 rcases h.2 with⟨hv,rfl⟩|⟨g,cap,cur,hv,_⟩
 ·exact⟨_,_,hv⟩
 ·exact⟨_,_,hv⟩
theorem zh{Φ:World->Prop}{w:World}{A:Obj}(h:∀W:World,W.heap[w.heap.size]?=some A->Below w.heap.size w W->Φ W):Φ (w.alloc A):=
 h _ (heap_alloc_new _ _) ((Ad _ _).alloc (Aa _) _)
theorem jr{Φ:World->Prop}{w:World}{A B:Obj}(h:∀W:World,W.heap[w.heap.size]?=some A->W.heap[w.heap.size+1]?=some B->Below w.heap.size w W->w.heap.size+2<=W.heap.size->Φ W):Φ ((w.alloc A).alloc B):=
 h _ (AQ _ _ _) (Zj _ _ _) (((Ad _ _).alloc (Aa _) _).alloc (by simp) _) (by simp)
theorem zaB{w:World}{g n size:Nat}{t:TypeId}{cs:List Value}(h:w.heap[g]?=some (.cells cs.toArray t (0,0)))(h1:∀u∈cs,u.oneCell'=true)(hl:cs.length=n*size)(hm:n<=maxLen:=by unfold maxLen;omega):LC w (some ⟨g,0,none⟩) n n size cs:=
 ⟨hl,Aa _,hm,λh=>(nomatch h),h1,λx hx _=>⟨g,0,(Ak hx).symm,(Af.1 h).1,λj u hj=>by
  rw[Ab _ _ _ _ _ _ h]
  simpa using hj⟩⟩
theorem zes{w:World}{B e n size:Nat}{v:Value}{cs:List Value}(hown:w.ownsRow B e size v n cs)(hn:0<n):∃g cap,v=.slice (some ⟨g,0,none⟩) n cap:=by
 rcases hown.2 with⟨_,h⟩|⟨g,cap,cur,h,_⟩
 ·omega
 ·exact⟨g,cap,h⟩
def zg5(w:World)(l:List Sl)(ok:Bool)(e:Ending)(w':World):Prop:=
 (∃a c,e=.returned (.tuple #[.slice a l.length c,.bool ok])/\LC w' a l.length c 2 (scs l)/\FarC w.heap.size a)/\Below w.heap.size w w'
theorem zjs{w w':World}{e:Ending}(he:e=.returned (.tuple #[.slice none 0 0,.bool false]))(hb:Below w.heap.size w w'):zg5 w [] false e w':=
 ⟨⟨none,0,he,vn _ _,zbX _⟩,hb⟩
theorem zb6{w w':World}{v:Value}{l:List Sl}{n:Nat}(hn:l.length=n)(hown:w'.ownsRow w.heap.size 159 2 v n (scs l))(hb:Below w.heap.size w w'):zg5 w l true (.returned (.tuple #[v,.bool true])) w':=by
 subst hn
 obtain⟨a,c,rfl,h1,h2⟩:=qz hown (vm l)
 exact⟨⟨a,c,rfl,h1,h2⟩,hb⟩
theorem zfr(a:Option Addr)(n c:Nat)(room seq:Int)(h:room<=n)(w:World):
  Calls prog 91 #[.slice a n c,.int .i64 room,.int .i64 seq] w λe w'=>zg5 w [] false e w':=by
 have h1:decide (room<=(n:Int))=true:=by simpa using h
 go_enter func91,ntmps91
 go_wp2_with fail
 refine Ao (v:=.tuple #[.slice none 0 0,.bool false]) ?_ rfl (zjs rfl (Ad _ _))
 simp[results,results91,asAddr]
theorem zg6(a:Option Addr)(n c:Nat)(room seq:Int)(h:n<room)(l:List Sl)(hm:Hid (First (above seq) l n))(hn:n*16+16<=140737488355328)(w:World)(hL:Hid (LC w a n c 2 (scs l))):
  Calls prog 91 #[.slice a n c,.int .i64 room,.int .i64 seq] w λe w'=>zg5 w (l++[(seq,false)]) true e w':=by
 have h1:decide (room<=(n:Int))=false:=by simpa using h
 have hlen:Hid (l.length=n):=by have:=hL.out.len;rw[kW]at this;show _=_;omega
 go_enter func91,ntmps91
 go_wp2_with fail
 refine(zb4 seq _).mono ?_
 rintro e W1 ⟨rfl,hc,hb⟩
 have HB:Hid (Below w.heap.size w W1):=hb
 have HA:Hid (Asks 169 w.heap.size (above seq) W1):=zb3 _ _ _ hc
 clear hc hb
 go_wp2_with fail
 refine(kY 169 w.heap.size (above seq) zlI a n c (by omega) l n hm false (show _=_ by simp) W1 (hL.out.below (Aa _) HB.out) HA).mono ?_
 rintro e W2 ⟨rfl,hb⟩
 have HB2:Hid (Below w.heap.size w W2):=HB.out.trans (hb.mono HB.out.size)
 clear hb HB
 go_wp2_with fail
 refine jr (Φ:=λW=>Calls _ _ _ W _) ?_
 intro V hV1 hV2 hVb hVs
 have q0:V.cell? ⟨W2.heap.size+1,0,none⟩=some (.slice a n c):=(Ab _ _ _ _ _ _ hV2).trans rfl
 have q1:V.cell? ⟨W2.heap.size+1,1,none⟩=some (.slice (some ⟨W2.heap.size,0,none⟩) 1 1):=(Ab _ _ _ _ _ _ hV2).trans rfl
 have HV:Hid (Below w.heap.size w V):=HB2.out.trans (hVb.mono HB2.out.size)
 have L2:Hid (LC V (some ⟨W2.heap.size,0,none⟩) 1 1 2 (scs [(seq,false)])):=zaB hV1 (vm [(seq,false)]) rfl
 have hq:W2.heap.size+1<V.heap.size:=(Af.1 hV2).1
 refine(zc9 (W2.heap.size+1) a (some ⟨W2.heap.size,0,none⟩) n c 1 1 (scs l) (scs [(seq,false)]) (by omega) V hq q0 q1 (hL.out.below (Aa _) HV.out) L2).mono ?_
 rintro e W3 ⟨⟨v,rfl,hown⟩,hb⟩
 have HB3:Hid (Below w.heap.size w W3):=HV.out.trans (hb.mono HV.out.size)
 have HO:Hid (W3.ownsRow w.heap.size 159 2 v (n+1) (scs (l++[(seq,false)]))):=by rw[zc6];exact qO hown HV.out.size
 clear hb hown hV1 hV2 hVb hVs q0 q1 HV L2 hq HB2
 go_wp2_with fail
 refine Ao (v:=.tuple #[v,.bool true]) ?_ rfl (zb6 (by simp[hlen.out]) HO.out HB3.out)
 simp[results,results91,asAddr]
theorem zg7(a:Option Addr)(n c:Nat)(seq:Int)(l:List Sl)(m:Nat)(hm:Hid (First (waits seq) l m))(hmn:m<n)(hn:n*16<=140737488355328)(w:World)(hL:Hid (LC w a n c 2 (scs l))):
  Calls prog 124 #[.slice a n c,.int .i64 seq] w λe w'=>zg5 w (l.set m (seq,true)) true e w':=by
 have hmf:∀(fn:Fn) (first cap:Array Value) (w:World),(ZT fn first cap).run prog w=.ok (.func fn first cap) w:=λ_ _ _ _=>rfl
 have hlen:Hid (l.length=n):=by have:=hL.out.len;rw[kW]at this;show _=_;omega
 obtain⟨b0,o0,rfl,hb0,hc0⟩:=hL.out.sure (by omega)
 clear hc0 hb0
 have hat:Hid ((l[m]?).map (·.1)=some seq):=by
  obtain⟨s,d,hsd⟩:=zgM (l:=l) (k:=m) (by rw[hlen.out];exact hmn)
  have:=hm.out.yes _ hsd
  simp[waits]at this
  show _=_
  rw[hsd]
  simp[this.1]
 go_enter func124,ntmps124
 go_wp2_with fail
 refine zh (Φ:=λW=>Calls _ _ _ W _) ?_
 intro V hV hVb
 have HV:Hid (Below w.heap.size w V):=hVb
 have HA:Hid (Asks 157 w.heap.size (waits seq) V):=zfp _ _ _ ((Ab _ _ _ _ _ _ hV).trans rfl)
 clear hV hVb
 refine(xL 157 w.heap.size (waits seq) zjq _ n c (by omega) l m hm m (show _=_ by rw[if_pos hmn]) V (hL.out.below (Aa _) HV.out) HA).mono ?_
 rintro e W1 ⟨rfl,hb⟩
 have HB:Hid (Below w.heap.size w W1):=HV.out.trans (hb.mono HV.out.size)
 clear hb HV HA
 go_wp2_with fail
 refine(zc8 b0 o0 n c hn (scs l) W1 (hL.out.below (Aa _) HB.out)).mono ?_
 rintro e W2 ⟨⟨v,rfl,hown⟩,hb⟩
 obtain⟨g,cap,rfl⟩:=zes hown (by omega)
 have HO:Hid (W2.ownsRow w.heap.size 159 2 (.slice (some ⟨g,0,none⟩) n cap) n (scs l)):=qO hown HB.out.size
 have HB2:Hid (Below w.heap.size w W2):=HB.out.trans (hb.mono HB.out.size)
 have hfr:W2.frozen? ⟨g,m*2+1,none⟩=false:=HO.out.frozenAt _
 have hcl:W2.cell? ⟨g,m*2+1,none⟩=(scs l)[m*2+1]?:=HO.out.cellAt _ (by omega)
 obtain⟨s,d,hsd⟩:=zgM (l:=l) (k:=m) (by rw[hlen.out];exact hmn)
 rw[kp _ _ _ hsd]at hcl
 have hg:=(HO.out.lt g rfl).1
 clear hb hown HB hsd
 go_wp2_with fail
 have hst:=HO.out.stored (m*2+1) (.bool true)
 rw[zgL _ _ _ hat.out]at hst
 refine Ao (v:=.tuple #[.slice (some ⟨g,0,none⟩) n cap,.bool true]) ?_ rfl (zb6 (by simp[hlen.out]) hst.1 (HB2.out.setCell hg _))
 simp[results,results124,asAddr]
theorem below_setRow{B:Nat}{a w:World}(h:Below B a w){g:Nat}(hg:B<=g)(cs:Array Value):Below B a (w.setRow g cs):=
 ⟨h.os,h.tape,h.output,by simpa using h.size,λk hk=>(AJ _ _ _ _ (by omega)).trans (h.block k hk)⟩
theorem zet(w:World)(a:Option Addr)(size:Nat):LC w a 0 0 size []:=⟨by simp,Aa _,by unfold maxLen;omega,λ_=>⟨rfl,rfl⟩,λu hu=>by simp at hu,λx hx h0=>absurd h0 (by omega)⟩
theorem znO{w:World}{a:Option Addr}{m c size size':Nat}{cs:List Value}{f:Addr->Addr}(h:LC w a m c size cs):LC w (Zy f a) 0 (c-m) size' []:=by
 refine⟨by simp,AX _,by have:=h.top;omega,λe=>?_,λu hu=>by simp at hu,λx hx h0=>absurd h0 (by omega)⟩
 cases a with
 |none=>have:=h.nil rfl;omega
 |some x=>cases e
def jW(l:List Sl)(m:Nat):List Int:=(l.take m).map (·.1)
theorem kv{l:List Sl}{m n:Nat}(h:l.length=n)(hm:m<=n):(jW l m).length=m:=by
 unfold jW
 rw[List.length_map,List.length_take,h]
 omega
theorem zfs{l:List Sl}{k:Nat}{s:Int}{d:Bool}(h:l[k]?=some (s,d)):jW l (k+1)=jW l k++[s]:=by
 unfold jW
 rw[take_at h,ZR]
 rfl
def zb7(w:World)(l:List Sl)(k:List Int)(e:Ending)(w':World):Prop:=
 (∃a c b d,e=.returned (.tuple #[.slice a l.length c,.slice b k.length d])/\LC w' a l.length c 2 (scs l)/\FarC w.heap.size a/\LC w' b k.length d 1 (ics k)/\FarC w.heap.size b)/\Below w.heap.size w w'
theorem jK{w w':World}{v u:Value}{l:List Sl}{k:List Int}{n m:Nat}(hn:l.length=n)(hm:k.length=m)(hown:w'.ownsRow w.heap.size 159 2 v n (scs l))(hk:w'.ownsRow w.heap.size 3 1 u m (ics k))(hb:Below w.heap.size w w'):zb7 w l k (.returned (.tuple #[v,u])) w':=by
 subst hn hm
 obtain⟨a,c,rfl,h1,h2⟩:=qz hown (vm l)
 obtain⟨b,d,rfl,h3,h4⟩:=qz hk (jD k)
 exact⟨⟨a,c,b,d,rfl,h1,h2,h3,h4⟩,hb⟩
theorem zjt(a:Option Addr)(n c:Nat)(most:Int)(l:List Sl)(m:Nat)(hm:Hid (Goes l most m))(hn:n*16<=140737488355328)(w:World)(hL:Hid (LC w a n c 2 (scs l))):
  Calls prog 50 #[.slice a n c,.int .i64 most] w λe w'=>zb7 w (l.drop m) (jW l m) e w':=by
 obtain⟨i3,hi3,hz0,hz1,hz2⟩:=Ax zkN
 have hlen:Hid (l.length=n):=by have:=hL.out.len;rw[kW]at this;show _=_;omega
 have hmn:m<=n:=by have:=hm.out.le;have:=hlen.out;omega
 go_enter func50,ntmps50
 go_wp2_with fail
 go_loopw [6,11] (λv i wr=>∃k:Nat,k<=m/\i=.int .i64 k/\Hid (wr.ownsRow w.heap.size 3 1 v k (ics (jW l k)))/\Hid (Below w.heap.size w wr))
  (λ_ i _=>n-(intOf i).toNat)
 case atStart=>exact⟨0,by omega,rfl,AZ _ _ _ _,Ad _ _⟩
 case round=>
  obtain⟨k,hk,rfl,HO,HB⟩:=hrel
  obtain⟨pk,ck,rfl⟩:=vA HO.out
  by_cases hlt:k<n
  ·obtain⟨s,d,hsd⟩:=zgM (l:=l) (k:=k) (by rw[hlen.out];exact hlt)
   obtain⟨bb,o,rfl,hb,hc⟩:=hL.out.sure (by omega)
   have c0:wr.cell? ⟨bb,o+k*2,none⟩=some (.int .i64 s):=(HB.out.cell (p:=⟨bb,o+k*2,none⟩) hb).trans (hc _ _ (za0 _ _ _ hsd))
   have c1:wr.cell? ⟨bb,o+k*2+1,none⟩=some (.bool d):=(HB.out.cell (p:=⟨bb,o+k*2+1,none⟩) hb).trans (by rw[Zu];exact hc _ _ (kp _ _ _ hsd))
   have hkc:k<c:=by have:=hL.out.le;omega
   clear hc
   go_upto_region 5 with fail
   refine zh (Φ:=λW=>Qa _ _ _ _ W) ?_
   intro U hU hUb
   have HBU:Hid (Below w.heap.size w U):=HB.out.trans (hUb.mono HB.out.size)
   have HOU:Hid (U.ownsRow w.heap.size 3 1 (.slice pk k ck) k (ics (jW l k))):=zv HO.out (Aa _) hUb
   have e0:U.cell? ⟨wr.heap.size,0,none⟩=some (.int .i64 s):=(Ab _ _ _ _ _ _ hU).trans rfl
   have e1:U.cell? ⟨wr.heap.size,1,none⟩=some (.bool d):=(Ab _ _ _ _ _ _ hU).trans rfl
   clear hU hUb HB HO c0 c1
   generalize wr.heap.size=q at*
   by_cases hkm:k=m
   ·subst hkm
    have hst:=hm.out.stop _ hsd
    by_cases hmo:(k:Int)<most
    case' pos=>
     have hd:d=false:=by
      cases d with
      |false=>rfl
      |true=>exact absurd ⟨hmo,rfl⟩ hst
     subst hd
     have hmo2:decide (most<=(k:Int))=false:=by simpa using hmo
    case' neg=>
     have hmo2:decide (most<=(k:Int))=true:=by simpa using hmo
    all_goals
     clear hst hsd
     go_wp2_with fail
     refine zh (Φ:=λW=>Calls _ _ _ W _) ?_
     intro V hV hVb
     have HV:Hid (Below w.heap.size w V):=HBU.out.trans (hVb.mono HBU.out.size)
     have q0:V.cell? ⟨U.heap.size,0,none⟩=some (.slice (some ⟨bb,o+k*2,none⟩) (n-k) (c-k)):=(Ab _ _ _ _ _ _ hV).trans rfl
     have hq:U.heap.size<V.heap.size:=(Af.1 hV).1
     have HOV:Hid (V.ownsRow w.heap.size 3 1 (.slice pk k ck) k (ics (jW l k))):=zv HOU.out (Aa _) hVb
     have L2:Hid (LC V (some ⟨bb,o+k*2,none⟩) (n-k) (c-k) 2 (scs (l.drop k))):=by rw[zem];exact LC.drop (hL.out.below (Aa _) HV.out) k (by omega) (λ_=>rfl) rfl
     refine(xT U.heap.size (some ⟨bb,o+k*2,none⟩) (n-k) (c-k) (scs (l.drop k)) (by omega) V hq q0 L2).mono ?_
     rintro e W3 ⟨⟨v,rfl,hown⟩,hb3⟩
     have HB3:Hid (Below w.heap.size w W3):=HV.out.trans (hb3.mono HV.out.size)
     have HO3:Hid (W3.ownsRow w.heap.size 159 2 v ((n-k)) (scs (l.drop k))):=qO hown HV.out.size
     have HK3:Hid (W3.ownsRow w.heap.size 3 1 (.slice pk k ck) k (ics (jW l k))):=zv HOV.out (Aa _) hb3
     clear hV hVb HV q0 hq HOV L2 hown hb3
     go_wp2_with fail
     refine Ao (v:=.tuple #[v,.slice pk k ck]) ?_ rfl (jK (by rw[AO,hlen.out];try omega) (kv hlen.out (by omega)) HO3.out HK3.out HB3.out)
     simp[results,results50,asAddr]
   ·have hgo:=hm.out.go k _ (by omega) hsd
    obtain⟨hmo,hd⟩:=hgo
    have hd':d=true:=hd
    subst hd'
    have hmo2:decide (most<=(k:Int))=false:=by simpa using hmo
    have HN:Hid (jW l (k+1)=jW l k++[s]):=zfs hsd
    clear hsd hd
    go_wp2_with(at_builtin;refine zx _ rfl _ _ 29 rfl w.heap.size 3 i3 _ 1 8 underlying29 hi3 hz0 hz1 hz2 rfl (by decide) _ k _ rfl (zv HOU.out (Aa _) ((Ad _ _).alloc (Aa _) _)) _ 1 1 (ics [s]) rfl (zaB (heap_alloc_new _ _) (jD [s]) rfl) (by unfold maxLen;omega) (by omega) (by have:=HBU.out.size;simp;omega) ?_;intro v1 w1 hown1 hgrow1)
    have HO1:Hid (w1.ownsRow w.heap.size 3 1 v1 (k+1) (ics (jW l (k+1)))):=by rw[HN.out,za1];exact hown1
    have HB1:Hid (Below w.heap.size w w1):=(HBU.out.alloc HBU.out.size _).grown hgrow1 (by have:=HBU.out.size;simp;omega) (λj hj=>(HOU.out.lt j hj).1)
    clear hown1 hgrow1
    go_wp2_with fail
    exact⟨⟨k+1,by omega,by go_num,HO1,HB1⟩,by simp[intOf];omega⟩
  ·have:k=n:=by omega
   subst this
   have hmk:m=k:=by omega
   subst hmk
   go_wp2_with fail
   case inl=>
    have hcm:m=c:=by first|assumption|omega
    subst hcm
    refine zh (Φ:=λW=>Calls _ _ _ W _) ?_
    intro V hV hVb
    have HV:Hid (Below w.heap.size w V):=HB.out.trans (hVb.mono HB.out.size)
    have q0:V.cell? ⟨wr.heap.size,0,none⟩=some (.slice a 0 0):=(Ab _ _ _ _ _ _ hV).trans rfl
    have hq:wr.heap.size<V.heap.size:=(Af.1 hV).1
    have HOV:Hid (V.ownsRow w.heap.size 3 1 (.slice pk m ck) m (ics (jW l m))):=zv HO.out (Aa _) hVb
    have L2:Hid (LC V a 0 0 2 (scs (l.drop m))):=by rw[Zh (by rw[hlen.out];exact Aa _)];exact zet _ _ _
    refine(xT wr.heap.size a 0 0 (scs (l.drop m)) (by omega) V hq q0 L2).mono ?_
    rintro e W3 ⟨⟨v,rfl,hown⟩,hb3⟩
    have HB3:Hid (Below w.heap.size w W3):=HV.out.trans (hb3.mono HV.out.size)
    have HO3:Hid (W3.ownsRow w.heap.size 159 2 v (0) (scs (l.drop m))):=qO hown HV.out.size
    have HK3:Hid (W3.ownsRow w.heap.size 3 1 (.slice pk m ck) m (ics (jW l m))):=zv HOV.out (Aa _) hb3
    clear hV hVb HV q0 hq HOV L2 hown hb3
    go_wp2_with fail
    refine Ao (v:=.tuple #[v,.slice pk m ck]) ?_ rfl (jK (by rw[AO,hlen.out];try omega) (kv hlen.out (by omega)) HO3.out HK3.out HB3.out)
    simp[results,results50,asAddr]
   case inr=>
    refine zh (Φ:=λW=>Calls _ _ _ W _) ?_
    intro V hV hVb
    have HV:Hid (Below w.heap.size w V):=HB.out.trans (hVb.mono HB.out.size)
    have q0:V.cell? ⟨wr.heap.size,0,none⟩=some (.slice (Zy (λx=>x.add (m*2)) a) 0 (c-m)):=(Ab _ _ _ _ _ _ hV).trans rfl
    have hq:wr.heap.size<V.heap.size:=(Af.1 hV).1
    have HOV:Hid (V.ownsRow w.heap.size 3 1 (.slice pk m ck) m (ics (jW l m))):=zv HO.out (Aa _) hVb
    have L2:Hid (LC V (Zy (λx=>x.add (m*2)) a) 0 (c-m) 2 (scs (l.drop m))):=by rw[Zh (by rw[hlen.out];exact Aa _)];exact znO (hL.out.below (Aa _) HV.out)
    refine(xT wr.heap.size (Zy (λx=>x.add (m*2)) a) 0 (c-m) (scs (l.drop m)) (by omega) V hq q0 L2).mono ?_
    rintro e W3 ⟨⟨v,rfl,hown⟩,hb3⟩
    have HB3:Hid (Below w.heap.size w W3):=HV.out.trans (hb3.mono HV.out.size)
    have HO3:Hid (W3.ownsRow w.heap.size 159 2 v (0) (scs (l.drop m))):=qO hown HV.out.size
    have HK3:Hid (W3.ownsRow w.heap.size 3 1 (.slice pk m ck) m (ics (jW l m))):=zv HOV.out (Aa _) hb3
    clear hV hVb HV q0 hq HOV L2 hown hb3
    go_wp2_with fail
    refine Ao (v:=.tuple #[v,.slice pk m ck]) ?_ rfl (jK (by rw[AO,hlen.out];try omega) (kv hlen.out (by omega)) HO3.out HK3.out HB3.out)
    simp[results,results50,asAddr]
end Go.Proofs.YtpiohehijkpghacGreatDoor.Wi
namespace Go.Proofs.YtpiohehijkpghacGreatDoor.Gu.Hy
open Go.RowKit
structure Tb where
 L:Nat->Int
 G:Nat->Int
 P:Nat->Int
 A:Nat->Int
 S:Nat->Int
 U:Nat->Int
abbrev tcs(t:Tb):Array Value:=#[.int .i64 (t.L 0),.int .u32 (t.G 0),.int .i64 (t.L 1),.int .u32 (t.G 1),.int .i64 (t.L 2),.int .u32 (t.G 2),.int .i64 (t.L 3),.int .u32 (t.G 3),.int .i64 (t.L 4),.int .u32 (t.G 4),.int .i64 (t.L 5),.int .u32 (t.G 5),.int .i64 (t.L 6),.int .u32 (t.G 6),.int .i64 (t.L 7),.int .u32 (t.G 7),.int .i64 (t.L 8),.int .u32 (t.G 8),.int .i64 (t.L 9),.int .u32 (t.G 9),.int .i64 (t.L 10),.int .u32 (t.G 10),.int .i64 (t.L 11),.int .u32 (t.G 11),.int .i64 (t.L 12),.int .u32 (t.G 12),.int .i64 (t.L 13),.int .u32 (t.G 13),.int .i64 (t.L 14),.int .u32 (t.G 14),.int .i64 (t.L 15),.int .u32 (t.G 15),.int .u32 (t.P 0),.int .u32 (t.A 0),.int .u32 (t.S 0),.int .i64 (t.U 0),.int .u32 (t.P 1),.int .u32 (t.A 1),.int .u32 (t.S 1),.int .i64 (t.U 1),.int .u32 (t.P 2),.int .u32 (t.A 2),.int .u32 (t.S 2),.int .i64 (t.U 2),.int .u32 (t.P 3),.int .u32 (t.A 3),.int .u32 (t.S 3),.int .i64 (t.U 3),.int .u32 (t.P 4),.int .u32 (t.A 4),.int .u32 (t.S 4),.int .i64 (t.U 4),.int .u32 (t.P 5),.int .u32 (t.A 5),.int .u32 (t.S 5),.int .i64 (t.U 5),.int .u32 (t.P 6),.int .u32 (t.A 6),.int .u32 (t.S 6),.int .i64 (t.U 6),.int .u32 (t.P 7),.int .u32 (t.A 7),.int .u32 (t.S 7),.int .i64 (t.U 7)]
def bnd(n:Int):Int:=if n<0 then 0 else if 3<n then 3 else n
def up(f:Nat->Int)(k:Nat)(x:Int)(j:Nat):Int:=if j=k then x else f j
theorem zfm(f:Nat->Int)(k:Nat)(x:Int):up f k x k=x:=if_pos rfl
theorem znG(f:Nat->Int)(k:Nat)(x y:Int):up (up f k x) k y=up f k y:=by
 funext j
 unfold up
 split<;>rfl
theorem znH(f:Nat->Int)(k:Nat):up f k (f k)=f:=by
 funext j
 unfold up
 split
 ·rename_i h;rw[h]
 ·rfl
theorem zlJ(t:Tb)(k:Nat)(h:k<16):(tcs t)[k*2]?=some (.int .i64 (t.L k)):=
 match k,h with
 |0,_=>rfl
 |1,_=>rfl
 |2,_=>rfl
 |3,_=>rfl
 |4,_=>rfl
 |5,_=>rfl
 |6,_=>rfl
 |7,_=>rfl
 |8,_=>rfl
 |9,_=>rfl
 |10,_=>rfl
 |11,_=>rfl
 |12,_=>rfl
 |13,_=>rfl
 |14,_=>rfl
 |15,_=>rfl
 |n+16,h=>absurd h (by omega)
theorem znP(t:Tb)(x:Int)(k:Nat)(h:k<16):(tcs t).setIfInBounds (k*2) (.int .i64 x)=tcs {t with L:=up t.L k x}:=
 match k,h with
 |0,_=>rfl
 |1,_=>rfl
 |2,_=>rfl
 |3,_=>rfl
 |4,_=>rfl
 |5,_=>rfl
 |6,_=>rfl
 |7,_=>rfl
 |8,_=>rfl
 |9,_=>rfl
 |10,_=>rfl
 |11,_=>rfl
 |12,_=>rfl
 |13,_=>rfl
 |14,_=>rfl
 |15,_=>rfl
 |n+16,h=>absurd h (by omega)
theorem znQ(t:Tb)(k:Nat)(h:k<16):(tcs t)[k*2+1]?=some (.int .u32 (t.G k)):=
 match k,h with
 |0,_=>rfl
 |1,_=>rfl
 |2,_=>rfl
 |3,_=>rfl
 |4,_=>rfl
 |5,_=>rfl
 |6,_=>rfl
 |7,_=>rfl
 |8,_=>rfl
 |9,_=>rfl
 |10,_=>rfl
 |11,_=>rfl
 |12,_=>rfl
 |13,_=>rfl
 |14,_=>rfl
 |15,_=>rfl
 |n+16,h=>absurd h (by omega)
theorem zpA(t:Tb)(x:Int)(k:Nat)(h:k<16):(tcs t).setIfInBounds (k*2+1) (.int .u32 x)=tcs {t with G:=up t.G k x}:=
 match k,h with
 |0,_=>rfl
 |1,_=>rfl
 |2,_=>rfl
 |3,_=>rfl
 |4,_=>rfl
 |5,_=>rfl
 |6,_=>rfl
 |7,_=>rfl
 |8,_=>rfl
 |9,_=>rfl
 |10,_=>rfl
 |11,_=>rfl
 |12,_=>rfl
 |13,_=>rfl
 |14,_=>rfl
 |15,_=>rfl
 |n+16,h=>absurd h (by omega)
theorem znR(t:Tb)(k:Nat)(h:k<8):(tcs t)[32+k*4]?=some (.int .u32 (t.P k)):=
 match k,h with
 |0,_=>rfl
 |1,_=>rfl
 |2,_=>rfl
 |3,_=>rfl
 |4,_=>rfl
 |5,_=>rfl
 |6,_=>rfl
 |7,_=>rfl
 |n+8,h=>absurd h (by omega)
theorem znI(t:Tb)(x:Int)(k:Nat)(h:k<8):(tcs t).setIfInBounds (32+k*4) (.int .u32 x)=tcs {t with P:=up t.P k x}:=
 match k,h with
 |0,_=>rfl
 |1,_=>rfl
 |2,_=>rfl
 |3,_=>rfl
 |4,_=>rfl
 |5,_=>rfl
 |6,_=>rfl
 |7,_=>rfl
 |n+8,h=>absurd h (by omega)
theorem znS(t:Tb)(k:Nat)(h:k<8):(tcs t)[32+k*4+1]?=some (.int .u32 (t.A k)):=
 match k,h with
 |0,_=>rfl
 |1,_=>rfl
 |2,_=>rfl
 |3,_=>rfl
 |4,_=>rfl
 |5,_=>rfl
 |6,_=>rfl
 |7,_=>rfl
 |n+8,h=>absurd h (by omega)
theorem zpB(t:Tb)(x:Int)(k:Nat)(h:k<8):(tcs t).setIfInBounds (32+k*4+1) (.int .u32 x)=tcs {t with A:=up t.A k x}:=
 match k,h with
 |0,_=>rfl
 |1,_=>rfl
 |2,_=>rfl
 |3,_=>rfl
 |4,_=>rfl
 |5,_=>rfl
 |6,_=>rfl
 |7,_=>rfl
 |n+8,h=>absurd h (by omega)
theorem znT(t:Tb)(k:Nat)(h:k<8):(tcs t)[32+k*4+2]?=some (.int .u32 (t.S k)):=
 match k,h with
 |0,_=>rfl
 |1,_=>rfl
 |2,_=>rfl
 |3,_=>rfl
 |4,_=>rfl
 |5,_=>rfl
 |6,_=>rfl
 |7,_=>rfl
 |n+8,h=>absurd h (by omega)
theorem zpC(t:Tb)(x:Int)(k:Nat)(h:k<8):(tcs t).setIfInBounds (32+k*4+2) (.int .u32 x)=tcs {t with S:=up t.S k x}:=
 match k,h with
 |0,_=>rfl
 |1,_=>rfl
 |2,_=>rfl
 |3,_=>rfl
 |4,_=>rfl
 |5,_=>rfl
 |6,_=>rfl
 |7,_=>rfl
 |n+8,h=>absurd h (by omega)
theorem znU(t:Tb)(k:Nat)(h:k<8):(tcs t)[32+k*4+3]?=some (.int .i64 (t.U k)):=
 match k,h with
 |0,_=>rfl
 |1,_=>rfl
 |2,_=>rfl
 |3,_=>rfl
 |4,_=>rfl
 |5,_=>rfl
 |6,_=>rfl
 |7,_=>rfl
 |n+8,h=>absurd h (by omega)
theorem zpD(t:Tb)(x:Int)(k:Nat)(h:k<8):(tcs t).setIfInBounds (32+k*4+3) (.int .i64 x)=tcs {t with U:=up t.U k x}:=
 match k,h with
 |0,_=>rfl
 |1,_=>rfl
 |2,_=>rfl
 |3,_=>rfl
 |4,_=>rfl
 |5,_=>rfl
 |6,_=>rfl
 |7,_=>rfl
 |n+8,h=>absurd h (by omega)
end Go.Proofs.YtpiohehijkpghacGreatDoor.Gu.Hy
namespace Go.Proofs.YtpiohehijkpghacGreatDoor.Co
open Go.RowKit
open Hy
open Wi Od Re.Hy
open Gu.Hy (Tb)
structure Dg where
 seq:Int
 pc:Int
 i:In
 st:Int
 a:Int
 b:Int
 rd:Nat
 to:Int
 old:Int
 next:Int
 gs:Bool
 late:Int
 car:Bool
 c:Cm
structure Mc where
 dcd:Int->Option In
 dow:In->Int->Int->Int->Nat->Cm
 br:Tb->Int->Bool×Int
 va:Tb->Int->Int×Bool
 lb:Tb->Int->Bool->Int->Tb
 lv:Tb->Int->Int->Tb
structure Cr where
 win:Int
 phys:Int
 wide:Int
 n:Nat
 coms:List Cm
 R:Nat->Int
 pc:Int
 st:Int
 ca:Int
 f:Nat->Int
 cyc:Int
 tak:Int
 bck:Int
 tb:Tb
 regs:Nat->Int
 free:List Int
 wd:Int->Int
 th:Int->Bool
 slots:List Sl
 under:List Dg
 asked:List Ac
 scr:List Int
 fro:Int
 opn:Bool
def comC(M:Mc)(n:Nat)(f:Nat->Int)(i:In)(pc a b:Int):Cm:=if ldn i.op≠0 then qf n f i pc a else M.dow i pc a b n
def fet(M:Mc)(n:Nat)(f:Nat->Int)(pc:Int):In×Int:=
 if fits n pc 4 then(match M.dcd (le (λk=>f (pc.toNat+k)) 4)with
  |some i=>(i,0)
  |none=>(zin,2))else(zin,1)
def kC(M:Mc)(n:Nat)(R:Nat->Int)(pc:Int)(f:Nat->Int):Cm:=
 if(fet M n f pc).2≠0 then qn pc (fet M n f pc).2 else comC M n f (fet M n f pc).1 pc (R (ra (fet M n f pc).1)) (R (rb (fet M n f pc).1))
def stoC(f:Nat->Int)(c:Cm):Nat->Int:=sto f c.pl.toNat c.data c.many.toNat
def updC(R:Nat->Int)(c:Cm):Nat->Int:=if c.rd=0 then R else up R c.rd c.val
def seeV(l:List Ac)(seq x many:Int)(f:Nat->Int):Int:=le (sb l seq l.length x.toNat f) many.toNat
def seeU(l:List Ac)(seq:Int):Bool:=l.all λq=>!unk seq q
def ownA(o:Dg):Ac:=⟨o.seq,false,true,o.pc,4,0,true⟩
def ldA(seq x many:Int):Ac:=⟨seq,false,true,x,many,0,true⟩
def stA(seq:Int)(c:Cm):Ac:=⟨seq,true,true,c.pl,c.many,c.data,false⟩
def st0(seq:Int):Ac:=⟨seq,true,false,0,0,0,false⟩
def upI(wd:Int->Int)(x v:Int):Int->Int:=λy=>if y=x then v else wd y
def upB(th:Int->Bool)(x:Int)(v:Bool):Int->Bool:=λy=>if y=x then v else th y
def chN(s:Cr):Int:=match s.scr with
 |[]=>0
 |x::_=>x%18446744073709551616
def chS(s:Cr):Cr:={s with scr:=s.scr.tail}
def rdI(M:Mc)(s:Cr):In×Int:=
 if fits s.n s.fro 4 then(match M.dcd (seeV s.asked s.tak s.fro 4 s.f)with
  |some i=>(i,0)
  |none=>(zin,2))else(zin,1)
def askO(s:Cr)(o:Dg):Cr:={s with asked:=s.asked++(ownA o::if sts o.i then[st0 o.seq]else[])}
def namO(s:Cr)(o:Dg):Cr×Dg:=
 if o.rd=0 then(s,{o with a:=s.regs (ra o.i),b:=s.regs (rb o.i)})
 else({s with regs:=up s.regs o.rd (s.free.headD 0),free:=s.free.tail,th:=upB s.th (s.free.headD 0) false},{o with a:=s.regs (ra o.i),b:=s.regs (rb o.i),to:=s.free.headD 0,old:=s.regs o.rd})
def donS(l:List Sl)(seq:Int):List Sl:=l.map λq=>if q.1=seq then(q.1,true)else q
def yC(s:Cr)(o:Dg)(k:Int):Cr×Dg:=({s with slots:=donS s.slots o.seq,opn:=false},{o with st:=2,c:=qn o.pc k})
def wayO(M:Mc)(s:Cr)(o:Dg):Cr×Int:=
 if o.i.op=3 then(s,(o.pc+o.i.im)%4294967296)
 else if trn o.i then
  (chS s,if((M.br s.tb o.pc).1^^decide (chN s%2=1))then(if o.i.op=4 then(M.br s.tb o.pc).2 else(o.pc+o.i.im)%4294967296)else(o.pc+4)%4294967296)
 else(s,(o.pc+4)%4294967296)
def valO(M:Mc)(s:Cr)(pc k:Int):Int×Bool:=if k%3=1 then(0,false)else if k%3=2 then(k%4294967296,true)else M.va s.tb pc
def gueL(M:Mc)(s:Cr)(o:Dg):Cr×Dg:=
 let o:={o with late:=chN s%10,car:=decide (chN s/10%2=1)}
 let v:=valO M s o.pc (chN s/10/2)
 if v.2=true/\o.rd≠0 then({chS s with wd:=upI s.wd o.to v.1,th:=upB s.th o.to true},{o with gs:=true})else(chS s,o)
def gueO(M:Mc)(s:Cr)(o:Dg):Cr×Dg:=
 let r:=wayO M s o
 let s1:={r.1 with fro:=r.2}
 let o1:={o with next:=r.2}
 if ldn o.i.op=0 then(s1,o1)else gueL M s1 o1
def newO(M:Mc)(s:Cr):Dg:=⟨s.tak,s.fro,(rdI M s).1,0,0,0,gvs (rdI M s).1,0,0,0,false,0,false,zcm⟩
def tak1(M:Mc)(s:Cr):Cr×Bool:=
 if s.win<=s.slots.length then(s,false)
 else if gvs (rdI M s).1≠0/\s.free=[]then(s,false)
 else
  let r:=namO (askO {s with slots:=s.slots++[(s.tak,false)],tak:=s.tak+1} (newO M s)) (newO M s)
  let t:=if(rdI M s).2≠0 then yC r.1 r.2 (rdI M s).2 else gueO M r.1 r.2
  ({t.1 with under:=t.1.under++[t.2]},true)
def takN(M:Mc):Nat->Cr->Cr
 |0,s=>s
 |k+1,s=>if s.opn=true then(if(tak1 M s).2=true then takN M k (tak1 M s).1 else(tak1 M s).1)else s
def undo(regs:Nat->Int)(free:List Int):List Dg->(Nat->Int)×List Int
 |[]=>(regs,free)
 |o::l=>let r:=undo regs free l;if o.rd=0 then r else(up r.1 o.rd o.old,r.1 o.rd::r.2)
def back(s:Cr)(seq pc:Int):Cr:=
 let r:=undo s.regs s.free (s.under.filter λo=>decide (seq<=o.seq))
 {s with regs:=r.1,free:=r.2,slots:=vo s.slots seq,under:=s.under.filter (λo=>!decide (seq<=o.seq)),asked:=s.asked.filter (λq=>!decide (seq<=q.seq)),bck:=if cutS s.slots seq=[]then s.bck else s.bck+1,fro:=pc,opn:=true}
def pcOf(l:List Dg)(seq:Int):Int:=match l.find? (λo=>decide (o.seq=seq))with
 |some o=>o.pc
 |none=>0
def setA(l:List Ac)(seq:Int)(e:Ac):List Ac:=l.map λq=>if q.st=true/\q.seq=seq then e else q
def settle(s:Cr)(seq:Int)(c:Cm):Cr:=
 let s1:={s with asked:=setA s.asked seq (stA seq c)}
 match lst s1.asked (stA seq c) s1.asked.length with
  |none=>s1
  |some e=>back s1 e (pcOf s.under e)
def jL(s:Cr)(o:Dg)(c:Cm):Bool:=c.rd=0||!o.gs||decide (s.wd o.to=c.val)
def jc(s:Cr)(o:Dg)(c:Cm):Cr:=if c.rd=0 then s else{s with wd:=upI s.wd o.to c.val,th:=upB s.th o.to true}
def putO(l:List Dg)(seq:Int)(g:Dg->Dg):List Dg:=l.map λo=>if o.seq=seq then g o else o
def fin1(s:Cr)(o:Dg)(c:Cm):Cr:=
 let s1:={s with under:=putO s.under o.seq (λo=>{o with st:=2,c:=c}),slots:=donS s.slots o.seq}
 if sts o.i then settle s1 o.seq c else s1
def finish(s:Cr)(o:Dg)(c:Cm):Cr:=
 if jL (fin1 s o c) o c=true/\c.next=o.next then jc (fin1 s o c) o c
 else{back (jc (fin1 s o c) o c) (o.seq+1) c.next with opn:=decide (c.st=0)}
def lod1(s:Cr)(o:Dg):Cr:=
 let x:=place o.i (s.wd o.a)
 let m:=ldn o.i.op
 if fits s.n x m then
  if !(seeU s.asked o.seq)&&o.car then s
  else finish {s with asked:=s.asked++[ldA o.seq x m]} o (onC o.pc o.i.rd (ldv o.i.op (sb s.asked o.seq s.asked.length x.toNat s.f)))
 else finish s o (qn o.pc 3)
def lodS(s:Cr)(q:Int):Cr:=match s.under.find? (λo=>decide (o.seq=q))with
 |none=>s
 |some o=>if 0<o.late then{s with under:=putO s.under q (λo=>{o with late:=o.late-1})}else lod1 s o
def load(s:Cr):Cr:=((s.under.filter λo=>decide (o.st=1)).map (·.seq)).foldl lodS s
def sta1(M:Mc)(s:Cr)(o:Dg):Cr:=
 if ldn o.i.op≠0 then{s with under:=putO s.under o.seq (λo=>{o with st:=1})}
 else finish s o (M.dow o.i o.pc (s.wd o.a) (s.wd o.b) s.n)
def staS(M:Mc)(s:Cr)(q:Int):Cr:=match s.under.find? (λo=>decide (o.seq=q))with
 |none=>s
 |some o=>sta1 M s o
def ready(s:Cr):List Int:=(s.under.filter λo=>decide (o.st=0)&&s.th o.a&&s.th o.b).map (·.seq)
def turn(s:Cr)(l:List Int):List Int:=match l with
 |[]=>[]
 |x::r=>if 1<l.length/\chN s%2=1 then x::r.reverse else x::r
def start(M:Mc)(s:Cr):Cr:=
 let l:=ready s
 let s1:=if 1<l.length then chS s else s
 ((turn s l).take s.wide.toNat).foldl (staS M) s1
def learn(M:Mc)(t:Tb)(o:Dg):Tb:=
 let t1:=if trn o.i then M.lb t o.pc (decide (o.i.op=4)||!decide (o.c.next=(o.pc+4)%4294967296)) o.c.next else t
 if ldn o.i.op≠0/\o.c.rd≠0 then M.lv t1 o.pc o.c.val else t1
def com1(M:Mc)(s:Cr)(o:Dg):Cr:=
 {s with coms:=s.coms++[o.c],R:=updC s.R o.c,pc:=o.c.next,st:=o.c.st,ca:=o.c.ca,f:=stoC s.f o.c,free:=if o.rd=0 then s.free else s.free++[o.old],tb:=learn M s.tb o}
def left(s:Cr):Int:=2000-s.coms.length-(6000-s.cyc)/30
def qY:List Sl->Nat->Nat
 |[],_=>0
 |_,0=>0
 |q::l,k+1=>if q.2 then qY l k+1 else 0
def commit(M:Mc)(s:Cr):Cr:=
 let m:=qY s.slots (min s.wide (left s)).toNat
 let s1:=(s.under.take m).foldl (com1 M) s
 {s1 with slots:=s.slots.drop m,under:=s.under.drop m,asked:=s.asked.filter λq=>!decide (q.seq∈(s.slots.take m).map (·.1))}
def cycle(M:Mc)(s:Cr):Cr:=
 let s1:=commit M {s with cyc:=s.cyc+1}
 if s1.st=0 then takN M s.wide.toNat (start M (load s1))else s1
def runN(M:Mc):Nat->Cr->Cr
 |0,s=>s
 |k+1,s=>if s.st=0 then runN M k (cycle M s)else s
def begin(win phys wide:Int)(n:Nat)(R:Nat->Int)(pc st ca:Int)(f:Nat->Int)(scr:List Int):Cr:=
 ⟨win,phys,wide,n,[],R,pc,st,ca,f,0,0,0,⟨λ_=>0,λ_=>0,λ_=>0,λ_=>0,λ_=>0,λ_=>0⟩,λi=>i,(Zf (phys.toNat-32)).map (λi:Nat=>32+(i:Int)),λx=>if x<32 then R x.toNat else 0,λx=>decide (x<32),[],[],[],scr,pc,true⟩
def nm(m:Nat->Int)(o:Dg):Nat->Int:=if o.rd=0 then m else up m o.rd o.to
def nf(f:Nat->Int)(o:Dg):Nat->Int:=if o.st=2 then stoC f o.c else f
def mE(m:Nat->Int)(l:List Dg):Nat->Int:=l.foldl nm m
def fE(f:Nat->Int)(l:List Dg):Nat->Int:=l.foldl nf f
def nx(o:Dg):Int:=if o.st=2 then o.c.next else o.next
def pE(pc:Int)(l:List Dg):Int:=l.foldl (λ_ o=>nx o) pc
def stp(o:Dg):Prop:=o.st=2/\o.c.st≠0
structure Loc(M:Mc)(n:Nat)(wd:Int->Int)(th:Int->Bool)(pc:Int)(m:Nat->Int)(f:Nat->Int)(o:Dg):Prop where
 hpc:o.pc=pc
 ins:o.i=(fet M n f pc).1
 rd:o.rd=gvs o.i
 a:o.a=m (ra o.i)
 b:o.b=m (rb o.i)
 old:o.rd≠0->o.old=m o.rd
 bad:(fet M n f pc).2≠0->o.st=2/\o.c=qn pc (fet M n f pc).2
 thr:o.st≠0->(fet M n f pc).2=0->th o.a=true/\th o.b=true
 com:o.st=2->(fet M n f pc).2=0->o.c=comC M n f o.i pc (wd o.a) (wd o.b)
 fil:o.st=2->o.c.st=0->o.rd≠0->th o.to=true/\wd o.to=o.c.val
 gsd:o.st≠2->o.rd≠0->th o.to=o.gs
 sta:o.st=0\/(o.st=1/\ldn o.i.op≠0)\/o.st=2
 way:o.st≠2->o.i.op≠3->trn o.i=false->o.next=(o.pc+4)%4294967296
def Ch(M:Mc)(n:Nat)(wd:Int->Int)(th:Int->Bool):Int->(Nat->Int)->(Nat->Int)->List Dg->Prop
 |_,_,_,[]=>True
 |pc,m,f,o::l=>Loc M n wd th pc m f o/\(stp o->l=[])/\Ch M n wd th (nx o) (nm m o) (nf f o) l
theorem zg8{M:Mc}{n:Nat}{wd:Int->Int}{th:Int->Bool}{pc:Int}{m f:Nat->Int}{o:Dg}{l:List Dg}:Ch M n wd th pc m f (o::l)↔Loc M n wd th pc m f o/\(stp o->l=[])/\Ch M n wd th (nx o) (nm m o) (nf f o) l:=Iff.rfl
theorem jM{M:Mc}{n:Nat}{wd:Int->Int}{th:Int->Bool}:∀{l1 l2:List Dg} {pc:Int} {m f:Nat->Int},Ch M n wd th pc m f (l1++l2)↔Ch M n wd th pc m f l1/\(l2≠[]->∀o∈l1,¬stp o)/\Ch M n wd th (pE pc l1) (mE m l1) (fE f l1) l2
 |[],l2,pc,m,f=>by simp[Ch,pE,mE,fE]
 |o::l1,l2,pc,m,f=>by
  have ih:=jM (M:=M) (n:=n) (wd:=wd) (th:=th) (l1:=l1) (l2:=l2) (pc:=nx o) (m:=nm m o) (f:=nf f o)
  have e1:pE pc (o::l1)=pE (nx o) l1:=rfl
  have e2:mE m (o::l1)=mE (nm m o) l1:=rfl
  have e3:fE f (o::l1)=fE (nf f o) l1:=rfl
  rw[e1,e2,e3,ZL,zg8,zg8,ih]
  constructor
  ·rintro⟨h1,h2,h3,h4,h5⟩
   refine⟨⟨h1,λhs=>(Zi.1 (h2 hs)).1,h3⟩,λhne q hq=>?_,h5⟩
   rcases Am.1 hq with rfl|hq
   ·exact λhs=>hne (Zi.1 (h2 hs)).2
   ·exact h4 hne q hq
  ·rintro⟨⟨h1,h2,h3⟩,h4,h5⟩
   refine⟨h1,λhs=>?_,h3,λhne q hq=>h4 hne q (Ag _ hq),h5⟩
   by_cases hne:l2=[]
   ·rw[hne,h2 hs];rfl
   ·exact absurd hs (h4 hne o (Ah ..))
def tos:List Dg->List Int
 |[]=>[]
 |o::l=>if o.rd=0 then tos l else o.to::tos l
theorem zT(o:Dg)(l:List Dg):tos (o::l)=if o.rd=0 then tos l else o.to::tos l:=rfl
theorem qj:∀l1 l2,tos (l1++l2)=tos l1++tos l2
 |[],l2=>rfl
 |o::l1,l2=>by
  have:=qj l1 l2
  rw[ZL,zT,zT]
  split
  ·exact this
  ·rw[this];rfl
theorem vB:∀{l:List Dg} {o:Dg},o∈l->o.rd≠0->o.to∈tos l
 |[],o,h,h0=>by cases h
 |o'::l,o,h,h0=>by
  rw[zT]
  rcases Am.1 h with rfl|h
  ·rw[if_neg h0];exact Ah ..
  ·have:=vB h h0
   split
   ·exact this
   ·exact Ag _ this
structure Dis(P:Int)(m:Nat->Int)(l:List Int):Prop where
 inj:∀r r',r<32->r'<32->m r=m r'->r=r'
 nod:l.Nodup
 apart:∀r,r<32->m r∉l
 rm:∀r,r<32->0<=m r/\m r<P
 rf:∀x∈l,0<=x/\x<P
theorem Dis.up{P:Int}{m:Nat->Int}{x:Int}{l:List Int}(h:Dis P m (x::l)){k:Nat}(hk:k<32):Dis P (up m k x) l:=by
 have hn:=List.nodup_cons.1 h.nod
 have hx:∀r,r<32->m r≠x:=λr hr e=>h.apart r hr (by rw[e];exact Ah ..)
 refine⟨λr r' hr hr' e=>?_,hn.2,λr hr=>?_,λr hr=>?_,λy hy=>h.rf y (Ag _ hy)⟩
 ·unfold Re.Hy.up at e
  split at e
  ·split at e
   ·omega
   ·exact absurd e.symm (hx r' hr')
  ·split at e
   ·exact absurd e (hx r hr)
   ·exact h.inj r r' hr hr' e
 ·unfold Re.Hy.up
  split
  ·exact hn.1
  ·exact λhm=>h.apart r hr (Ag _ hm)
 ·unfold Re.Hy.up
  split
  ·exact h.rf x (Ah ..)
  ·exact h.rm r hr
theorem Dis.nm{P:Int}{m:Nat->Int}{o:Dg}{l:List Dg}{fr:List Int}(h:Dis P m (tos (o::l)++fr))(hk:o.rd<32):Dis P (nm m o) (tos l++fr):=by
 unfold Go.Proofs.YtpiohehijkpghacGreatDoor.Co.nm
 rw[zT]at h
 split
 ·rename_i h0;rw[if_pos h0]at h;exact h
 ·rename_i h0;rw[if_neg h0]at h;exact Dis.up h hk
theorem Dis.mE{P:Int}{fr:List Int}:∀{l1 l2:List Dg} {m:Nat->Int},Dis P m (tos (l1++l2)++fr)->(∀o∈l1,o.rd<32)->Dis P (mE m l1) (tos l2++fr)
 |[],l2,m,h,_=>h
 |o::l1,l2,m,h,hr=>Dis.mE (l1:=l1) (m:=Go.Proofs.YtpiohehijkpghacGreatDoor.Co.nm m o) (Dis.nm h (hr o (Ah ..))) (λq hq=>hr q (Ag _ hq))
theorem za7:∀(l:List Dg) (m:Nat->Int) (r:Nat),(∃r',(r'=r)/\mE m l r=m r')\/mE m l r∈tos l
 |[],m,r=>.inl ⟨r,rfl,rfl⟩
 |o::l,m,r=>by
  have e2:mE m (o::l)=mE (nm m o) l:=rfl
  rw[e2,zT]
  rcases za7 l (nm m o) r with⟨r',rfl,h⟩|h
  ·rw[h]
   unfold nm
   split
   ·exact .inl ⟨r',rfl,rfl⟩
   ·by_cases e:r'=o.rd
    ·subst e;rw[zfm];exact .inr (Ah ..)
    ·rw[zjm e];exact .inl ⟨r',rfl,rfl⟩
  ·right
   split
   ·exact h
   ·exact Ag _ h
theorem yK{M:Mc}{n:Nat}{wd wd':Int->Int}{th th':Int->Bool}:∀{l:List Dg} {pc:Int} {m f:Nat->Int},Ch M n wd th pc m f l->
  (∀o∈l,(o.st≠0->th o.a=true->th o.b=true->(th' o.a=true/\th' o.b=true/\wd' o.a=wd o.a/\wd' o.b=wd o.b))/\(o.rd≠0->th' o.to=th o.to/\wd' o.to=wd o.to))->Ch M n wd' th' pc m f l
 |[],pc,m,f,_,_=>trivial
 |o::l,pc,m,f,h,hw=>by
  obtain⟨h1,h2,h3⟩:=h
  obtain⟨ha,ht⟩:=hw o (Ah ..)
  refine⟨⟨h1.hpc,h1.ins,h1.rd,h1.a,h1.b,h1.old,h1.bad,λhs hf=>?_,λhs hf=>?_,λhs hc h0=>?_,λhs h0=>?_,h1.sta,h1.way⟩,h2,yK h3 (λq hq=>hw q (Ag _ hq))⟩
  ·obtain⟨x,y⟩:=h1.thr hs hf
   exact⟨(ha hs x y).1,(ha hs x y).2.1⟩
  ·obtain⟨x,y⟩:=h1.thr (by omega) hf
   obtain⟨_,_,e1,e2⟩:=ha (by omega) x y
   rw[e1,e2];exact h1.com hs hf
  ·rw[(ht h0).1,(ht h0).2];exact h1.fil hs hc h0
  ·rw[(ht h0).1];exact h1.gsd hs h0
structure MOk(M:Mc):Prop where
 fld:∀{x i},M.dcd x=some i->i.rd<32/\i.s1<32/\i.s2<32/\1<=i.op/\i.op<=48
 stops:∀{x i} pc a b n,M.dcd x=some i->ldn i.op=0->(M.dow i pc a b n).st≠0->(M.dow i pc a b n).next=pc/\(M.dow i pc a b n).rd=0/\i.op≠3/\trn i=false/\(M.dow i pc a b n).many=0
 gives:∀{x i} pc a b n,M.dcd x=some i->ldn i.op=0->(M.dow i pc a b n).st=0->(M.dow i pc a b n).rd=gvs i
 many:∀{x i} pc a b n,M.dcd x=some i->ldn i.op=0->(M.dow i pc a b n).many=0\/(sts i=true/\((M.dow i pc a b n).many=1\/(M.dow i pc a b n).many=2\/(M.dow i pc a b n).many=4)/\0<=(M.dow i pc a b n).pl/\(M.dow i pc a b n).pl+(M.dow i pc a b n).many<=n)
theorem zb8(M:Mc)(n:Nat)(f:Nat->Int)(pc:Int):(fet M n f pc=(zin,1)/\fits n pc 4=false)\/(fits n pc 4=true/\M.dcd (le (λk=>f (pc.toNat+k)) 4)=none/\fet M n f pc=(zin,2))\/(fits n pc 4=true/\∃i,M.dcd (le (λk=>f (pc.toNat+k)) 4)=some i/\fet M n f pc=(i,0)):=by
 unfold fet
 cases h:fits n pc 4 with
 |false=>left;simp
 |true=>
  right
  cases hd:M.dcd (le (λk=>f (pc.toNat+k)) 4)with
  |none=>left;simp
  |some i=>right;exact⟨rfl,i,rfl,by simp⟩
theorem vC{M:Mc}{n:Nat}{f:Nat->Int}{pc:Int}(h:(fet M n f pc).2=0):∃x,M.dcd x=some (fet M n f pc).1:=by
 rcases zb8 M n f pc with⟨e,_⟩|⟨_,_,e⟩|⟨_,i,hd,e⟩
 ·rw[e]at h;exact absurd h (by decide)
 ·rw[e]at h;exact absurd h (by decide)
 ·rw[e];exact⟨_,hd⟩
theorem za8{M:Mc}{n:Nat}{f:Nat->Int}{pc:Int}(h:(fet M n f pc).2≠0):(fet M n f pc).1=zin:=by
 rcases zb8 M n f pc with⟨e,_⟩|⟨_,_,e⟩|⟨_,i,hd,e⟩
 ·rw[e]
 ·rw[e]
 ·rw[e]at h;exact absurd rfl h
theorem za9{g h:Nat->Int}{m:Nat}(hm:m<=4)(e:∀k,k<m->g k=h k):le g m=le h m:=by
 rcases(by omega:m=0\/m=1\/m=2\/m=3\/m=4)with rfl|rfl|rfl|rfl|rfl
 ·rfl
 ·show g 0=h 0;rw[e 0 (by omega)]
 ·show g 0+g 1*256=h 0+h 1*256;rw[e 0 (by omega),e 1 (by omega)]
 ·show g 0+g 1*256+g 2*65536=h 0+h 1*256+h 2*65536;rw[e 0 (by omega),e 1 (by omega),e 2 (by omega)]
 ·show g 0+g 1*256+g 2*65536+g 3*16777216=h 0+h 1*256+h 2*65536+h 3*16777216;rw[e 0 (by omega),e 1 (by omega),e 2 (by omega),e 3 (by omega)]
theorem zg9{M:Mc}{n:Nat}{f f':Nat->Int}{pc:Int}(h:fits n pc 4=true->∀k,k<4->f' (pc.toNat+k)=f (pc.toNat+k)):fet M n f' pc=fet M n f pc:=by
 unfold fet
 cases hf:fits n pc 4 with
 |false=>rfl
 |true=>rw[za9 (Aa 4) (h hf)]
theorem yw(op:Int):0<=ldn op/\ldn op<=4:=by rcases xd op with h|h|h|h<;>omega
theorem zb9{op:Int}{g h:Nat->Int}(h0:ldn op≠0)(e:∀k:Nat,(k:Int)<ldn op->g k=h k):ldv op g=ldv op h:=by
 unfold ldv
 have h4:=yw op
 split
 ·rename_i ho;rw[e 0 (by rw[ho];decide)]
 ·split
  ·rename_i ho
   have:ldn op=2:=by rw[ho];decide
   rw[za9 (m:=2) (by omega) (λk hk=>e k (by omega))]
  ·exact za9 (by omega) (λk hk=>e k (by omega))
theorem zft{M:Mc}{n:Nat}{f f':Nat->Int}{i:In}{pc a b:Int}(h:ldn i.op≠0->fits n (place i a) (ldn i.op)=true->∀k:Nat,(k:Int)<ldn i.op->f' ((place i a).toNat+k)=f ((place i a).toNat+k)):comC M n f' i pc a b=comC M n f i pc a b:=by
 unfold comC
 split
 ·rename_i h0
  unfold qf
  split
  ·rename_i hf;rw[zb9 h0 (h h0 hf)]
  ·rfl
 ·rfl
theorem zha{f:Nat->Int}{a j i:Nat}{W:Int}(h:a<=i/\i<a+j):sto f a W j i=W/p256 (i-a)%256:=if_pos h
theorem vD{f:Nat->Int}{a j i:Nat}{W:Int}(h:¬(a<=i/\i<a+j)):sto f a W j i=f i:=if_neg h
theorem zkO{M:Mc}{n:Nat}{wd:Int->Int}{th:Int->Bool}{Q:Nat->Prop}:∀{l:List Dg} {pc:Int} {m f f':Nat->Int},Ch M n wd th pc m f l->(∀x,¬Q x->f' x=f x)->
  (∀o∈l,(fits n o.pc 4=true->∀k,k<4->¬Q (o.pc.toNat+k))/\(o.st=2->ldn o.i.op≠0->fits n (place o.i (wd o.a)) (ldn o.i.op)=true->∀k:Nat,(k:Int)<ldn o.i.op->¬Q ((place o.i (wd o.a)).toNat+k)))->Ch M n wd th pc m f' l
 |[],pc,m,f,f',_,_,_=>trivial
 |o::l,pc,m,f,f',h,hf,hq=>by
  obtain⟨h1,h2,h3⟩:=h
  obtain⟨q1,q2⟩:=hq o (Ah ..)
  have e:fet M n f' pc=fet M n f pc:=zg9 λh k hk=>hf _ (by have:=q1 (by rw[h1.hpc];exact h) k hk;rw[h1.hpc]at this;exact this)
  refine⟨⟨h1.hpc,by rw[e];exact h1.ins,h1.rd,h1.a,h1.b,h1.old,by rw[e];exact h1.bad,by rw[e];exact h1.thr,λhs hz=>?_,h1.fil,h1.gsd,h1.sta,h1.way⟩,h2,zkO h3 (λx hx=>?_) (λp hp=>hq p (Ag _ hp))⟩
  ·rw[e]at hz
   rw[h1.com hs hz]
   exact(zft λh0 hfi k hk=>hf _ (q2 hs h0 hfi k hk)).symm
  ·unfold nf
   split
   ·unfold stoC
    by_cases hin:o.c.pl.toNat<=x/\x<o.c.pl.toNat+o.c.many.toNat
    ·rw[zha hin,zha hin]
    ·rw[vD hin,vD hin];exact hf x hx
   ·exact hf x hx
def hasB(o:Dg)(x:Nat):Prop:=o.st=2/\o.c.pl.toNat<=x/\x<o.c.pl.toNat+o.c.many.toNat
theorem zda:∀{l:List Dg} {f:Nat->Int} {x:Nat},(∀o∈l,¬hasB o x)->fE f l x=f x
 |[],f,x,_=>rfl
 |o::l,f,x,h=>by
  have e:fE f (o::l)=fE (nf f o) l:=rfl
  rw[e,zda (λq hq=>h q (Ag _ hq))]
  unfold nf
  split
  ·rename_i hs
   exact vD λhin=>h o (Ah ..) ⟨hs,hin⟩
  ·rfl
theorem znV(f:Nat->Int)(l1 l2:List Dg):fE f (l1++l2)=fE (fE f l1) l2:=Za ..
theorem kD(m:Nat->Int)(l1 l2:List Dg):mE m (l1++l2)=mE (mE m l1) l2:=Za ..
theorem zaC(pc:Int)(l1 l2:List Dg):pE pc (l1++l2)=pE (pE pc l1) l2:=Za ..
theorem zlK{l r:List Dg}{o:Dg}{f:Nat->Int}{x:Nat}(h:hasB o x)(hr:∀q∈r,¬hasB q x):fE f (l++o::r) x=o.c.data/p256 (x-o.c.pl.toNat)%256:=by
 rw[znV]
 have e:fE (fE f l) (o::r)=fE (nf (fE f l) o) r:=rfl
 rw[e,zda hr]
 unfold nf
 rw[if_pos h.1]
 exact zha h.2
theorem zhb(P:Dg->Prop):∀l:List Dg,(∀o∈l,¬P o)\/∃l1 o l2,l=l1++o::l2/\P o/\∀q∈l2,¬P q
 |[]=>.inl λo h=>by cases h
 |o::l=>by
  rcases zhb P l with h|⟨l1,q,l2,rfl,hq,hr⟩
  ·by_cases ho:P o
   ·exact .inr ⟨[],o,l,rfl,ho,h⟩
   ·left
    intro q hq
    rcases Am.1 hq with rfl|hq
    ·exact ho
    ·exact h q hq
  ·exact .inr ⟨o::l1,q,l2,rfl,hq,hr⟩
theorem yL{l:List Ac}{seq x:Int}:∀{k:Nat},bst l seq x k=none->∀j q,j<k->l[j]?=some q->gv seq x q=false
 |0,_,j,q,hj,_=>absurd hj (by omega)
 |k+1,h,j,q,hj,hq=>by
  unfold bst at h
  split at h
  ·rename_i hk
   by_cases e:j=k
   ·subst e;rw[hk]at hq;cases hq
   ·exact yL h j q (by omega) hq
  ·rename_i a ha
   split at h
   ·cases h
   ·rename_i hc
    have hn:=h
    rw[hn]at hc
    by_cases e:j=k
    ·subst e
     rw[ha]at hq
     cases hq
     simpa[aft]using hc
    ·exact yL h j q (by omega) hq
theorem zba{l:List Ac}{seq x:Int}:∀{k j:Nat} {p:Ac},bst l seq x k=some j->l[j]?=some p->∀i q,i<k->l[i]?=some q->gv seq x q=true->q.seq<=p.seq
 |0,j,p,h,_,i,q,hi,_,_=>absurd hi (by omega)
 |k+1,j,p,h,hp,i,q,hi,hq,hg=>by
  unfold bst at h
  split at h
  ·rename_i hk
   by_cases e:i=k
   ·subst e;rw[hk]at hq;cases hq
   ·exact zba h hp i q (by omega) hq hg
  ·rename_i a ha
   split at h
   ·rename_i hc
    cases h
    rw[hp]at ha
    cases ha
    simp at hc
    by_cases e:i=k
    ·subst e;rw[hp]at hq;cases hq;exact ZN _
    ·cases hb:bst l seq x k with
     |none=>have:=yL hb i q (by omega) hq;rw[this]at hg;cases hg
     |some j'=>
      obtain⟨hlt,p',hp',_⟩:=kr _ _ _ _ _ hb
      have h1:=zba hb hp' i q (by omega) hq hg
      have h2:=hc.2
      rw[hb]at h2
      simp[aft,hp']at h2
      omega
   ·rename_i hc
    by_cases e:i=k
    ·subst e
     rw[ha]at hq
     cases hq
     obtain⟨hlt,p',hp',_⟩:=kr _ _ _ _ _ h
     rw[hp]at hp'
     cases hp'
     simp[hg,h,aft,hp]at hc
     omega
    ·exact zba h hp i q (by omega) hq hg
theorem zlL{l:List Ac}{seq x m:Int}(h:∀q∈l,gv seq x q=false):Od.seen l seq x m l.length=m:=by
 cases hb:bst l seq x l.length with
 |none=>exact seen_none hb
 |some j=>
  obtain⟨_,q,hq,hg⟩:=kr _ _ _ _ _ hb
  rw[h q (Zs hq)]at hg
  cases hg
theorem zju{l:List Ac}{seq x m:Int}{p:Ac}(hp:p∈l)(hg:gv seq x p=true)(hm:∀q∈l,gv seq x q=true->q.seq<=p.seq/\(q.seq=p.seq->q=p)):Od.seen l seq x m l.length=byt p x:=by
 obtain⟨i,hi⟩:=List.getElem?_of_mem hp
 have hil:i<l.length:=(Aq.1 hi).1
 cases hb:bst l seq x l.length with
 |none=>have:=yL hb i p hil hi;rw[this]at hg;cases hg
 |some j=>
  obtain⟨_,q,hq,hgq⟩:=kr _ _ _ _ _ hb
  have h1:=zba hb hq i p hil hi hg
  have h2:=hm q (Zs hq) hgq
  rw[ks hb hq,h2.2 (by omega)]
def entA(o:Dg):Ac:=if o.st=2 then stA o.seq o.c else st0 o.seq
structure As(n:Nat)(wd:Int->Int)(l:List Dg)(k:List Ac):Prop where
 of:∀q∈k,∃o∈l,q.seq=o.seq/\(q.st=true->sts o.i=true/\q=entA o)
 own:∀o∈l,ownA o∈k
 sto:∀o∈l,sts o.i=true->entA o∈k
 lod:∀o∈l,o.st=2->ldn o.i.op≠0->fits n (place o.i (wd o.a)) (ldn o.i.op)=true->ldA o.seq (place o.i (wd o.a)) (ldn o.i.op)∈k
def Rise(l:List Dg):Prop:=(l.map (·.seq)).Pairwise (·<·)
theorem zy{l1 l2:List Dg}:Rise (l1++l2)↔Rise l1/\Rise l2/\∀o∈l1,∀q∈l2,o.seq<q.seq:=by
 unfold Rise
 rw[ZR,List.pairwise_append]
 simp
theorem zV{o:Dg}{l:List Dg}:Rise (o::l)↔(∀q∈l,o.seq<q.seq)/\Rise l:=by
 unfold Rise
 simp
theorem jX:∀{l:List Dg} {o q:Dg},Rise l->o∈l->q∈l->o.seq=q.seq->o=q
 |[],o,q,_,h,_,_=>by cases h
 |p::l,o,q,h,ho,hq,e=>by
  obtain⟨h1,h2⟩:=zV.1 h
  rcases Am.1 ho with ho|ho
  ·rcases Am.1 hq with hq|hq
   ·rw[ho,hq]
   ·have:=h1 q hq;rw[ho]at e;omega
  ·rcases Am.1 hq with hq|hq
   ·have:=h1 o ho;rw[hq]at e;omega
   ·exact jX h2 ho hq e
def cmOk(o:Dg):Prop:=o.st=2->o.c.many=0\/(sts o.i=true/\(o.c.many=1\/o.c.many=2\/o.c.many=4)/\0<=o.c.pl)
theorem zjv(j:Nat)(h:j<4):p256 j=two (8*j):=by
 rcases(by omega:j=0\/j=1\/j=2\/j=3)with rfl|rfl|rfl|rfl<;>decide
theorem zpE{q:Int}{c:Cm}(h:c.many=0\/c.many=1\/c.many=2\/c.many=4):Od.wd (stA q c)=c.many:=by
 show(if c.many<0 then 0 else if 4<c.many then 4 else c.many)=c.many
 rw[if_neg (by omega),if_neg (by omega)]
theorem zlM{q x:Int}{c:Cm}(h:c.many=0\/c.many=1\/c.many=2\/c.many=4):Od.hs (stA q c) x=true↔c.pl<=x/\x<c.pl+c.many:=by
 unfold Od.hs
 rw[decide_eq_true_iff,zpE h]
 exact Iff.rfl
theorem zlN{n:Nat}{wd:Int->Int}{l1 l2:List Dg}{k:List Ac}(A:As n wd (l1++l2) k)(hr:Rise (l1++l2)){s:Int}(h1:∀o∈l1,o.seq<s)(h2:∀o∈l2,s<=o.seq)(hc:∀o∈l1,cmOk o)(f:Nat->Int)(x:Nat):
  Od.seen k s x (f x) k.length=fE f l1 x:=by
 have key:∀q∈k,gv s x q=true->∃o∈l1,q=stA o.seq o.c/\hasB o x/\o.st=2:=by
  intro q hq hg
  simp only[gv,ahd,ZI,decide_eq_true_eq]at hg
  obtain⟨⟨⟨hst,hsq⟩,hk⟩,hh⟩:=hg
  obtain⟨o,ho,e,he⟩:=A.of q hq
  obtain⟨_,he⟩:=he hst
  have ho1:o∈l1:=by
   rcases Zk.1 ho with h|h
   ·exact h
   ·have:=h2 o h;omega
  unfold entA at he
  split at he
  ·rename_i h2
   subst he
   refine⟨o,ho1,rfl,⟨h2,?_⟩,h2⟩
   have hm:=hc o ho1 h2
   rw[zlM (by omega)]at hh
   omega
  ·subst he
   cases hk
 rcases zhb (λo=>hasB o x) l1 with hn|⟨p,o,r,rfl,ho,hrr⟩
 ·rw[zda hn]
  refine zlL λq hq=>?_
  cases hg:gv s x q with
  |false=>rfl
  |true=>
   obtain⟨o,ho,_,hb,_⟩:=key q hq hg
   exact absurd hb (hn o ho)
 ·rw[zlK ho hrr]
  have hol:o∈p++o::r:=by simp
  have hm:=hc o hol ho.1
  have hm':sts o.i=true/\(o.c.many=1\/o.c.many=2\/o.c.many=4)/\0<=o.c.pl:=by
   rcases hm with hm|hm
   ·have:=ho.2;rw[hm]at this;simp at this;omega
   ·exact hm
  have hmem:stA o.seq o.c∈k:=by
   have:=A.sto o (by simp) hm'.1
   unfold entA at this
   rwa [if_pos ho.1]at this
  have hgo:gv s x (stA o.seq o.c)=true:=by
   have:=ho.2
   have:=h1 o hol
   have e1:Od.hs (stA o.seq o.c) x=true:=(zlM (by omega)).2 (by omega)
   have e2:ahd s (stA o.seq o.c)=true:=by show(true&&decide (o.seq<s))=true;simp[this]
   unfold gv
   rw[e1,e2]
   rfl
  rw[zju hmem hgo]
  ·show o.c.data/two (8*((x:Int)-o.c.pl).toNat)%256=_
   rw[zjv _ (by have:=ho.2;omega),show((x:Int)-o.c.pl).toNat=x-o.c.pl.toNat by omega]
  ·intro q hq hg
   obtain⟨o',ho',rfl,hb,_⟩:=key q hq hg
   have hpo:o'∈p++[o]:=by
    rcases Zk.1 ho' with h|h
    ·exact List.mem_append_left _ h
    ·rcases Am.1 h with rfl|h
     ·simp
     ·exact absurd hb (hrr o' h)
   have hr1:Rise (p++o::r):=(zy.1 hr).1
   have hle:o'.seq<=o.seq:=by
    rcases Zk.1 hpo with h|h
    ·have:=(zy.1 hr1).2.2 o' h o (Ah ..);omega
    ·rw[List.mem_singleton.1 h];exact ZN _
   refine⟨hle,λe=>?_⟩
   rw[jX hr1 ho' hol e]
end Go.Proofs.YtpiohehijkpghacGreatDoor.Co
