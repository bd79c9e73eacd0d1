/- IT GOES ON: for every core, hart and memory that may be, every script of choices, and any cycles: at least one instruction is committed in each 60 cycles. The variables decode.forms and hart.immediate start as the program's text lays them. -/
import Derived.Test.YtpiohehijkpghabGreatDoorCards
import Derived.Test.YtpiohehijkpghabGreatDoorTie
import Derived.WalkKit
import Derived.ProofKit
import Derived.OpenShut
import Derived.Deep.DeepHandedRow
import Derived.Deep.Fields
import Derived.SizedLaws
import Derived.ChangeOld
import Derived.ChangeKeysEq
import Derived.Test.YtpiohehijkpghabGreatDoorG55
set_option maxRecDepth 100000
namespace Go.Proofs.YtpiohehijkpghabGreatDoor.coreGoes
open Go.ChangeShapes Go.WideShapes Go.ChangeAt Go.RowKit
open Hy
set_option linter.unusedVariables false
theorem own:ownKnob Tryz.prog.godebug=none:=by kernel_rfl
theorem laidOut:laidOutB Tryz.prog=true:=by kernel_rfl
theorem contract (H:Type) (enc:TypeId×Value→H) (W:World) (base:Nat) (args:Array Value) (ds gs:List (DataW H)) (before:List MemPlace)
  (hval:∀(j:Nat) t v,Tryz.f4.params[j]?=some t→args[j]?=some v→Value.okWide Tryz.prog W .any base t v)
  (hW:DataW.Whole enc Tryz.prog Tryz.f4.params.toList Rows.coreGoesSpec.vars false W args.toList ds gs before) (hsz:(DataW.weightsEach Tryz.prog (Tryz.f4.params.toList++Rows.coreGoesSpec.plain.varTypes Tryz.prog) (ds++gs)).all (·≤reachBytes)=true) (hL:laidMetH Tryz.prog Rows.coreGoesRow.laid W):
  Calls Tryz.prog 4 args W fun e W'=>∃v,e=.returned v∧Rows.coreGoesSpec.post enc Tryz.prog Tryz.f4 false true false false W args v W':=by
 have hW':=hW
 obtain⟨p,q,hA0,hV,rfl,hfz,hnd⟩:=hW
 have hA:DataW.TrodAll enc Tryz.prog W 0 (fun _=>true) true Tryz.f4.params.toList args.toList ds p:=hA0
 rw[Tryz.params4]at hA hval hsz
 obtain⟨v0,vs0,d0,ds0,p0,q0,hargs,rfl,rfl,h0,r0⟩:=trodAll_cons hA
 obtain⟨v1,vs1,d1,ds1,p1,q1,rfl,rfl,rfl,h1,r1⟩:=trodAll_cons r0
 obtain⟨v2,vs2,d2,ds2,p2,q2,rfl,rfl,rfl,h2,r2⟩:=trodAll_cons r1
 obtain⟨v3,vs3,d3,ds3,p3,q3,rfl,rfl,rfl,h3,r3⟩:=trodAll_cons r2
 obtain⟨v4,vs4,d4,ds4,p4,q4,rfl,rfl,rfl,h4,r4⟩:=trodAll_cons r3
 obtain⟨rfl,rfl,rfl⟩:=trodAll_nil r4
 obtain rfl:args=#[v0,v1,v2,v3,v4]:=by cases args;simp_all
 obtain⟨rfl,rfl⟩:=trodVars_none hV
 obtain⟨cc,rfl,hs0⟩:=okWide_struct Tryz.underlying23 (hval 0 23 v0 rfl rfl)
 have hs0:cc.size=3:=hs0.trans (by kernel_rfl)
 obtain⟨cs,rfl,hs1⟩:=okWide_struct Tryz.underlying27 (hval 1 27 v1 rfl rfl)
 have hs1:cs.size=35:=hs1.trans (by kernel_rfl)
 obtain⟨aM,nM,cM,rfl⟩:=okWide_slice Tryz.underlying28 (hval 2 28 v2 rfl rfl)
 obtain⟨aS,nS,cS,rfl⟩:=okWide_slice Tryz.underlying29 (hval 3 29 v3 rfl rfl)
 obtain⟨cyc,rfl,rfl,rfl,w4⟩:=open_int Tryz.underlying3 (hval 4 3 v4 rfl rfl) h4
 have k0:=h0
 have k1:=h1
 have k2:=h2
 have k3:=h3
 have lt0:∀x∈p0,x.block<W.heap.size:=by obtain⟨m,hm⟩:=k0;exact DataW.trod_lt m _ _ _ hm
 have lt1:∀x∈p1,x.block<W.heap.size:=by obtain⟨m,hm⟩:=k1;exact DataW.trod_lt m _ _ _ hm
 have lt2:∀x∈p2,x.block<W.heap.size:=by obtain⟨m,hm⟩:=k2;exact DataW.trod_lt m _ _ _ hm
 have lt3:∀x∈p3,x.block<W.heap.size:=by obtain⟨m,hm⟩:=k3;exact DataW.trod_lt m _ _ _ hm
 obtain⟨win,phys,wide,rfl⟩:∃a b c:Int,cc=#[.int .i64 a,.int .i64 b,.int .i64 c]:=by
  obtain⟨fuel,hf⟩:=h0
  exact Co.config_cells hs0 hf
 obtain⟨R,pc,st,ca,hcs',hR,pc0,pc1⟩:∃(R:Nat→Int) (pc st ca:Int),cs=hcs R pc st ca∧(∀i,i<32→0≤R i∧R i≤4294967295)∧0≤pc∧pc≤4294967295:=by
  obtain⟨fuel,hf⟩:=h1
  exact hart_cells hs1 hf
 obtain⟨f,hM,hf⟩:∃f:Nat→Int,Wi.LC W aM nM cM 1 (Co.bcs f nM)∧(∀i,i<nM→0≤f i∧f i≤255):=by
  obtain⟨fuel,hf⟩:=h2
  exact(Co.bytes_lc hf).2
 obtain⟨scr,hscr,hS⟩:∃scr:List Int,scr.length=nS∧Wi.LC W aS nS cS 1 (Wi.ics scr):=by
  obtain⟨fuel,hf⟩:=h3
  exact(Co.ints_lc hf).2
 obtain⟨hT,hT2⟩:=tabs_of_laid hL
 have hnM:nM≤140737488355328:=by
  obtain⟨fuel,hf⟩:=h2
  rcases(Co.bytes_lc hf).1 with h|⟨xs,ys,hd,hl⟩
  ·omega
  ·have hreach:=sized_slice hsz (j:=2) (t:=28) (e:=5) rfl (by rw[hd];rfl) Tryz.underlying28
   rw[show Tryz.prog.bytesOf 5=1 by kernel_rfl]at hreach
   simp only[reachBytes]at hreach
   omega
 have hnS:nS≤140737488355328:=by
  obtain⟨fuel,hf⟩:=h3
  rcases(Co.ints_lc hf).1 with h|⟨xs,ys,hd,hl⟩
  ·omega
  ·have hreach:=sized_slice hsz (j:=3) (t:=29) (e:=3) rfl (by rw[hd];rfl) Tryz.underlying29
   rw[show Tryz.prog.bytesOf 3=8 by kernel_rfl]at hreach
   simp only[reachBytes]at hreach
   omega
 clear hA0
 subst hcs'
 refine(Co.coreGoes_all win phys wide R pc st ca aM nM cM aS nS cS cyc W hT hT2 hR ⟨pc0,pc1⟩ f hM hf scr hscr hS hnM hnS).mono fun e W' ⟨he,bel⟩=>?_
 subst he
 exact⟨_,rfl,_,_,_,[],_,[],hW',trodAll_mk1 (shut_bool Tryz.underlying4 _),(trodAll_cons_mk (Below.trod laidOut (by kernel_rfl) (of_decide_eq_true (by kernel_rfl)) k0 bel lt0) (trodAll_cons_mk (Below.trod laidOut (by kernel_rfl) (of_decide_eq_true (by kernel_rfl)) k1 bel lt1) (trodAll_cons_mk (Below.trod laidOut (by kernel_rfl) (of_decide_eq_true (by kernel_rfl)) k2 bel lt2) (trodAll_cons_mk (Below.trod laidOut (by kernel_rfl) (of_decide_eq_true (by kernel_rfl)) k3 bel lt3) (trodAll_cons_mk (shut_int Tryz.underlying3 w4) trodAll_mk0))))),rfl,bel.frame _,fun h=>by cases h⟩
theorem laid_met (os:Os):laidMet Tryz.prog Rows.coreGoesRow.laid (({World.holding Tryz.prog os ⟨#[],#[],[]⟩with heap:=((World.holding Tryz.prog os ⟨#[],#[],[]⟩).heap.modify 1 fun|.cells _ t frozen=>.cells (ftab.map fun z=>Value.int .u32 z).toArray t frozen|o=>o).modify 0 fun|.cells _ t frozen=>.cells (itab.map fun z=>Value.int .i64 z).toArray t frozen|o=>o}:World).forCall (fun _ _=>0) ⟨#[],#[.agg #[.int .i64 0,.int .i64 0,.int .i64 0],hv (fun _=>0) 0 0 0,.slice none 0 0,.slice none 0 0,.int .i64 0],[]⟩).memory:=
 laidMet_of_run' 8 (by kernel_rfl) (by kernel_rfl)
theorem reads (os:Os) {H:Type} (enc:TypeId×Value→H):∃places,DataW.whole enc Tryz.prog (({World.holding Tryz.prog os ⟨#[],#[],[]⟩with heap:=((World.holding Tryz.prog os ⟨#[],#[],[]⟩).heap.modify 1 fun|.cells _ t frozen=>.cells (ftab.map fun z=>Value.int .u32 z).toArray t frozen|o=>o).modify 0 fun|.cells _ t frozen=>.cells (itab.map fun z=>Value.int .i64 z).toArray t frozen|o=>o}:World).forCall (fun _ _=>0) ⟨#[],#[.agg #[.int .i64 0,.int .i64 0,.int .i64 0],hv (fun _=>0) 0 0 0,.slice none 0 0,.slice none 0 0,.int .i64 0],[]⟩).memory Tryz.f4.params.toList Rows.coreGoesSpec.vars false (#[.agg #[.int .i64 0,.int .i64 0,.int .i64 0],hv (fun _=>0) 0 0 0,.slice none 0 0,.slice none 0 0,.int .i64 0]:Array Value).toList 8=some ([.agg [.lit (.int .i64 0),.lit (.int .i64 0),.lit (.int .i64 0)],.agg [.agg [.lit (.int .u32 0),.lit (.int .u32 0),.lit (.int .u32 0),.lit (.int .u32 0),.lit (.int .u32 0),.lit (.int .u32 0),.lit (.int .u32 0),.lit (.int .u32 0),.lit (.int .u32 0),.lit (.int .u32 0),.lit (.int .u32 0),.lit (.int .u32 0),.lit (.int .u32 0),.lit (.int .u32 0),.lit (.int .u32 0),.lit (.int .u32 0),.lit (.int .u32 0),.lit (.int .u32 0),.lit (.int .u32 0),.lit (.int .u32 0),.lit (.int .u32 0),.lit (.int .u32 0),.lit (.int .u32 0),.lit (.int .u32 0),.lit (.int .u32 0),.lit (.int .u32 0),.lit (.int .u32 0),.lit (.int .u32 0),.lit (.int .u32 0),.lit (.int .u32 0),.lit (.int .u32 0),.lit (.int .u32 0)],.lit (.int .u32 0),.lit (.int .i64 0),.lit (.int .i64 0)],.nil,.nil,.lit (.int .i64 0)],[],places):=
 ⟨[],by kernel_rfl⟩
theorem lifted (os:Os) (started:os.Started) (H:Type) (enc:TypeId×Value→H) (F:Stop.Interp):
  ReturnsInHanded {} Tryz.checked os 4 .any ((OpenSpec.ofChange Rows.coreGoesSpec).preRow enc Tryz.prog Tryz.f4 Rows.coreGoesRow.domain false Rows.coreGoesRow.laid) (((OpenSpec.ofChange Rows.coreGoesSpec).at F).post enc Tryz.prog Tryz.f4 false true false false):=by
 obtain⟨places,hx⟩:=reads os enc
 refine returnsInHanded_of_row (C:=Tryz.checked) (s:=OpenSpec.ofChange Rows.coreGoesSpec) own started (by kernel_rfl) Tryz.func4
  (witness_row_at (enc:=enc) (C:=Tryz.checked) false ({World.holding Tryz.prog os ⟨#[],#[],[]⟩with heap:=((World.holding Tryz.prog os ⟨#[],#[],[]⟩).heap.modify 1 fun|.cells _ t frozen=>.cells (ftab.map fun z=>Value.int .u32 z).toArray t frozen|o=>o).modify 0 fun|.cells _ t frozen=>.cells (itab.map fun z=>Value.int .i64 z).toArray t frozen|o=>o}:World) #[.agg #[.int .i64 0,.int .i64 0,.int .i64 0],hv (fun _=>0) 0 0 0,.slice none 0 0,.slice none 0 0,.int .i64 0] rfl (by kernel_rfl) (by kernel_rfl) (by kernel_rfl)
   (OpenSpec.preRow_of_cond 8 hx (by kernel_rfl) (fun k hk=>by cases hk) (by kernel_rfl) (laid_met os))) ?_
 intro W base args ds gs before hval hW _ _ hsz hL _ _
 exact contract H enc W base args ds gs before hval hW hsz hL
theorem said:Rows.CoreGoesSaid:=
 OpenClaim.holds_of_cond 4 Tryz.f4 rfl rfl rfl rfl rfl rfl rfl ⟨rfl,rfl,rfl,rfl,rfl⟩ rfl rfl rfl rfl rfl (by kernel_rfl) Tryz.func4 (by kernel_rfl)
  (of_decide_eq_true (by kernel_rfl)) (by unfold Func.isWrapper;first|(rw[if_pos (by decide+kernel)];kernel_rfl)|(rw[if_neg (by decide+kernel)];exact⟨rfl,rfl⟩))
  (fun os started H enc _ F=>by rw[OpenClaim.pre_eq_preRow];exact lifted os started H enc F)
theorem plain (f:FuncId) (fn:Func) (hf:Tryz.pinned.checked.prog.funcNamed "humpyard/humpyardlaw.CoreGoes" =some f) (hfn:Tryz.pinned.checked.prog.funcs[f]?=some fn):
  false=Tryz.pinned.checked.prog.looks []∧∀(j:Nat) t,fn.params[j]?=some t→Tryz.pinned.checked.prog.wantsStandIn t=false:=by
 obtain rfl:f=4:=Option.some.inj ((show Tryz.prog.funcNamed "humpyard/humpyardlaw.CoreGoes" =some 4 by kernel_rfl).symm.trans hf)|>.symm
 obtain rfl:fn=Tryz.f4:=(Option.some.inj (Tryz.func4.symm.trans hfn)).symm
 refine⟨by kernel_rfl,fun j t ht=>?_⟩
 rw[Tryz.params4]at ht
 have hm:=Array.mem_of_getElem? ht
 simp at hm
 rcases hm with rfl|rfl|rfl|rfl|rfl
 ·exact(show Tryz.prog.wantsStandIn 23=false by kernel_rfl)
 ·exact(show Tryz.prog.wantsStandIn 27=false by kernel_rfl)
 ·exact(show Tryz.prog.wantsStandIn 28=false by kernel_rfl)
 ·exact(show Tryz.prog.wantsStandIn 29=false by kernel_rfl)
 ·exact(show Tryz.prog.wantsStandIn 3=false by kernel_rfl)
theorem card:Rows.CoreGoesCardSaid:=
 Claim7.holds_tied_plain_at .later [] _ _ _ _ said (fun _ h=>by cases h) (by kernel_rfl) (fun _ h=>by cases h) coreGoes_row_tie rfl ⟨rfl,rfl⟩ (by kernel_rfl) rfl plain (by kernel_rfl)
end Go.Proofs.YtpiohehijkpghabGreatDoor.coreGoes
namespace Go.Proofs.YtpiohehijkpghabGreatDoor
theorem coreGoes_holds:Rows.CoreGoesCardSaid:=coreGoes.card
end Go.Proofs.YtpiohehijkpghabGreatDoor
