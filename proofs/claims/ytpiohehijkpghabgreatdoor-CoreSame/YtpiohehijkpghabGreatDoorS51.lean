/- NOBODY CAN TELL: for every core, hart and memory, such as may not be among them, every script of choices, and any cycles: what is committed, in order, is what one does that takes one instruction after the other, and so are hart and memory behind it; or the program tells what is wrong. The variables decode.forms and hart.immediate start as the program's text lays them. -/
import Derived.Test.YtpiohehijkpghabGreatDoorCards
import Derived.Test.YtpiohehijkpghabGreatDoorTie
import Derived.WalkKit
import Derived.ProofKit
import Derived.OpenShut
import Derived.Deep.DeepHandedRow
import Derived.Deep.Fields
import Derived.SizedLaws
import Derived.ChangeOld
import Derived.ChangeKeysEq
import Derived.Test.YtpiohehijkpghabGreatDoorS50
set_option maxRecDepth 100000
set_option linter.unusedVariables false
open Go.Proofs.Tryz
namespace Go.Proofs.YtpiohehijkpghabGreatDoor.coreSame
open Go.ChangeShapes Go.WideShapes Go.ChangeAt Go.RowKit
open Hy
theorem own:ownKnob prog.godebug=none:=by kernel_rfl
theorem laidOut:laidOutB prog=true:=by kernel_rfl
theorem contract(H:Type)(enc:TypeId×Value->H)(W:World)(base:Nat)(args:Array Value)(ds gs:List (DataW H))(before:List MemPlace)
  (hval:∀(j:Nat) t v,f3.params[j]?=some t->args[j]?=some v->Value.okWide prog W .any base t v)
  (hW:DataW.Whole enc prog f3.params.toList Rows.coreSameSpec.vars false W args.toList ds gs before) (hsz:(DataW.weightsEach prog (f3.params.toList++Rows.coreSameSpec.plain.varTypes prog) (ds++gs)).all (·<=reachBytes)=true) (hL:laidMetH prog Rows.coreSameRow.laid W):
  Calls prog 3 args W fun e W'=>∃v,e=.returned v/\Rows.coreSameSpec.post enc prog f3 false true false false W args v W':=by
 have hW':=hW
 obtain⟨p,q,hA0,hV,rfl,hfz,hnd⟩:=hW
 have hA:DataW.TrodAll enc prog W 0 (fun _=>true) true f3.params.toList args.toList ds p:=hA0
 rw[params3]at hA hval hsz
 obtain⟨v0,vs0,d0,ds0,p0,q0,hargs,rfl,rfl,h0,r0⟩:=trodAll_cons hA
 obtain⟨v1,vs1,d1,ds1,p1,q1,rfl,rfl,rfl,h1,r1⟩:=trodAll_cons r0
 obtain⟨v2,vs2,d2,ds2,p2,q2,rfl,rfl,rfl,h2,r2⟩:=trodAll_cons r1
 obtain⟨v3,vs3,d3,ds3,p3,q3,rfl,rfl,rfl,h3,r3⟩:=trodAll_cons r2
 obtain⟨v4,vs4,d4,ds4,p4,q4,rfl,rfl,rfl,h4,r4⟩:=trodAll_cons r3
 obtain⟨rfl,rfl,rfl⟩:=trodAll_nil r4
 obtain rfl:args=#[v0,v1,v2,v3,v4]:=by cases args;simp_all
 obtain⟨rfl,rfl⟩:=trodVars_none hV
 obtain⟨c0,rfl,hs0⟩:=okWide_struct underlying23 (hval 0 23 v0 rfl rfl)
 have hs0:c0.size=3:=hs0.trans (by kernel_rfl)
 obtain⟨cs,rfl,hs1⟩:=okWide_struct underlying27 (hval 1 27 v1 rfl rfl)
 have hs1:cs.size=35:=hs1.trans (by kernel_rfl)
 obtain⟨a2,n2,c2,rfl⟩:=okWide_slice underlying28 (hval 2 28 v2 rfl rfl)
 obtain⟨a3,n3,c3,rfl⟩:=okWide_slice underlying29 (hval 3 29 v3 rfl rfl)
 obtain⟨z4,rfl,rfl,rfl,w4⟩:=open_int underlying3 (hval 4 3 v4 rfl rfl) h4
 have k0:=h0
 have lt0:∀x∈p0,x.block<W.heap.size:=by obtain⟨m,hm⟩:=k0;exact DataW.trod_lt m _ _ _ hm
 have k1:=h1
 have lt1:∀x∈p1,x.block<W.heap.size:=by obtain⟨m,hm⟩:=k1;exact DataW.trod_lt m _ _ _ hm
 have k2:=h2
 have lt2:∀x∈p2,x.block<W.heap.size:=by obtain⟨m,hm⟩:=k2;exact DataW.trod_lt m _ _ _ hm
 have k3:=h3
 have lt3:∀x∈p3,x.block<W.heap.size:=by obtain⟨m,hm⟩:=k3;exact DataW.trod_lt m _ _ _ hm
 obtain⟨win0,phys0,wide0,rfl⟩:∃a b c:Int,c0=#[.int .i64 a,.int .i64 b,.int .i64 c]:=by
  obtain⟨fuel,hf⟩:=h0
  exact Co.zcQ hs0 hf
 obtain⟨R,pc,st,ca,hcs',hR,pc0,pc1⟩:∃(R:Nat->Int) (pc st ca:Int),cs=hcs R pc st ca/\(∀i,i<32->0<=R i/\R i<=4294967295)/\0<=pc/\pc<=4294967295:=by
  obtain⟨fuel,hf⟩:=h1
  exact zfl hs1 hf
 subst hcs'
 obtain⟨f2,hM2,hf2⟩:∃f:Nat->Int,Wi.LC W a2 n2 c2 1 (Co.bcs f n2)/\(∀i,i<n2->0<=f i/\f i<=255):=by
  obtain⟨fuel,hf⟩:=h2
  exact(Co.zeS hf).2
 have hn2:n2<=140737488355328:=by
  obtain⟨fuel,hf⟩:=h2
  rcases(Co.zeS hf).1 with h|⟨xs,ys,hd,hl⟩
  ·omega
  ·have hreach:=sized_slice hsz (j:=2) (t:=28) (e:=5) rfl (by rw[hd];rfl) underlying28
   rw[show prog.bytesOf 5=1 by kernel_rfl]at hreach
   simp only[reachBytes]at hreach
   omega
 obtain⟨scr3,hscr3,hS3⟩:∃scr:List Int,scr.length=n3/\Wi.LC W a3 n3 c3 1 (Wi.ics scr):=by
  obtain⟨fuel,hf⟩:=h3
  exact(Co.ziH hf).2
 have hn3:n3<=140737488355328:=by
  obtain⟨fuel,hf⟩:=h3
  rcases(Co.ziH hf).1 with h|⟨xs,ys,hd,hl⟩
  ·omega
  ·have hreach:=sized_slice hsz (j:=3) (t:=29) (e:=3) rfl (by rw[hd];rfl) underlying29
   rw[show prog.bytesOf 3=8 by kernel_rfl]at hreach
   simp only[reachBytes]at hreach
   omega
 obtain⟨hT,hT2⟩:=zbZ hL
 clear hA0
 refine(Co.zcS win0 phys0 wide0 R pc st ca a2 n2 c2 a3 n3 c3 z4 W hT hT2 hR ⟨pc0,pc1⟩ f2 hM2 hf2 scr3 hscr3 hS3 hn2 hn3).mono fun e W' ⟨he,bel⟩=>?_
 subst he
 exact⟨_,rfl,_,_,_,[],_,[],hW',trodAll_mk1 (shut_bool underlying4 _),(trodAll_cons_mk (Below.trod laidOut (by kernel_rfl) (of_decide_eq_true (by kernel_rfl)) k0 bel lt0) (trodAll_cons_mk (Below.trod laidOut (by kernel_rfl) (of_decide_eq_true (by kernel_rfl)) k1 bel lt1) (trodAll_cons_mk (Below.trod laidOut (by kernel_rfl) (of_decide_eq_true (by kernel_rfl)) k2 bel lt2) (trodAll_cons_mk (Below.trod laidOut (by kernel_rfl) (of_decide_eq_true (by kernel_rfl)) k3 bel lt3) (trodAll_cons_mk (shut_int underlying3 w4) trodAll_mk0))))),rfl,bel.frame _,fun h=>by cases h⟩
theorem zkr(os:Os):laidMet prog Rows.coreSameRow.laid (({World.holding prog os ⟨#[],#[],[]⟩with heap:=((World.holding prog os ⟨#[],#[],[]⟩).heap.modify 1 fun|.cells _ t frozen=>.cells (ftab.map fun z=>Value.int .u32 z).toArray t frozen|o=>o).modify 0 fun|.cells _ t frozen=>.cells (itab.map fun z=>Value.int .i64 z).toArray t frozen|o=>o}:World).forCall (fun _ _=>0) ⟨#[],#[.agg #[.int .i64 0,.int .i64 0,.int .i64 0],hv (fun _=>0) 0 0 0,.slice none 0 0,.slice none 0 0,.int .i64 0],[]⟩).memory:=
 laidMet_of_run' 8 (by kernel_rfl) (by kernel_rfl)
theorem reads(os:Os){H:Type}(enc:TypeId×Value->H):∃places,DataW.whole enc prog (({World.holding prog os ⟨#[],#[],[]⟩with heap:=((World.holding prog os ⟨#[],#[],[]⟩).heap.modify 1 fun|.cells _ t frozen=>.cells (ftab.map fun z=>Value.int .u32 z).toArray t frozen|o=>o).modify 0 fun|.cells _ t frozen=>.cells (itab.map fun z=>Value.int .i64 z).toArray t frozen|o=>o}:World).forCall (fun _ _=>0) ⟨#[],#[.agg #[.int .i64 0,.int .i64 0,.int .i64 0],hv (fun _=>0) 0 0 0,.slice none 0 0,.slice none 0 0,.int .i64 0],[]⟩).memory f3.params.toList Rows.coreSameSpec.vars false (#[.agg #[.int .i64 0,.int .i64 0,.int .i64 0],hv (fun _=>0) 0 0 0,.slice none 0 0,.slice none 0 0,.int .i64 0]:Array Value).toList 8=some ([.agg [.lit (.int .i64 0),.lit (.int .i64 0),.lit (.int .i64 0)],.agg [.agg [.lit (.int .u32 0),.lit (.int .u32 0),.lit (.int .u32 0),.lit (.int .u32 0),.lit (.int .u32 0),.lit (.int .u32 0),.lit (.int .u32 0),.lit (.int .u32 0),.lit (.int .u32 0),.lit (.int .u32 0),.lit (.int .u32 0),.lit (.int .u32 0),.lit (.int .u32 0),.lit (.int .u32 0),.lit (.int .u32 0),.lit (.int .u32 0),.lit (.int .u32 0),.lit (.int .u32 0),.lit (.int .u32 0),.lit (.int .u32 0),.lit (.int .u32 0),.lit (.int .u32 0),.lit (.int .u32 0),.lit (.int .u32 0),.lit (.int .u32 0),.lit (.int .u32 0),.lit (.int .u32 0),.lit (.int .u32 0),.lit (.int .u32 0),.lit (.int .u32 0),.lit (.int .u32 0),.lit (.int .u32 0)],.lit (.int .u32 0),.lit (.int .i64 0),.lit (.int .i64 0)],.nil,.nil,.lit (.int .i64 0)],[],places):=
 ⟨[],by kernel_rfl⟩
theorem lifted(os:Os)(started:os.Started)(H:Type)(enc:TypeId×Value->H)(F:Stop.Interp):
  ReturnsInHanded {} checked os 3 .any ((OpenSpec.ofChange Rows.coreSameSpec).preRow enc prog f3 Rows.coreSameRow.domain false Rows.coreSameRow.laid) (((OpenSpec.ofChange Rows.coreSameSpec).at F).post enc prog f3 false true false false):=by
 obtain⟨places,hx⟩:=reads os enc
 refine returnsInHanded_of_row (C:=checked) (s:=OpenSpec.ofChange Rows.coreSameSpec) own started (by kernel_rfl) func3
  (witness_row_at (enc:=enc) (C:=checked) false ({World.holding prog os ⟨#[],#[],[]⟩with heap:=((World.holding prog os ⟨#[],#[],[]⟩).heap.modify 1 fun|.cells _ t frozen=>.cells (ftab.map fun z=>Value.int .u32 z).toArray t frozen|o=>o).modify 0 fun|.cells _ t frozen=>.cells (itab.map fun z=>Value.int .i64 z).toArray t frozen|o=>o}:World) #[.agg #[.int .i64 0,.int .i64 0,.int .i64 0],hv (fun _=>0) 0 0 0,.slice none 0 0,.slice none 0 0,.int .i64 0] rfl (by kernel_rfl) (by kernel_rfl) (by kernel_rfl)
   (OpenSpec.preRow_of_cond 8 hx (by kernel_rfl) (fun k hk=>by cases hk) (by kernel_rfl) (zkr os))) ?_
 intro W base args ds gs before hval hW _ _ hsz hL _ _
 exact contract H enc W base args ds gs before hval hW hsz hL
theorem said:Rows.CoreSameSaid:=
 OpenClaim.holds_of_cond 3 f3 rfl rfl rfl rfl rfl rfl rfl ⟨rfl,rfl,rfl,rfl,rfl⟩ rfl rfl rfl rfl rfl (by kernel_rfl) func3 (by kernel_rfl)
  (of_decide_eq_true (by kernel_rfl)) (by unfold Func.isWrapper;first|(rw[if_pos (by decide+kernel)];kernel_rfl)|(rw[if_neg (by decide+kernel)];exact⟨rfl,rfl⟩))
  (fun os started H enc _ F=>by rw[OpenClaim.pre_eq_preRow];exact lifted os started H enc F)
theorem plain(f:FuncId)(fn:Func)(hf:Tryz.pinned.checked.prog.funcNamed "humpyard/humpyardlaw.CoreSame" =some f)(hfn:Tryz.pinned.checked.prog.funcs[f]?=some fn):
  false=Tryz.pinned.checked.prog.looks []/\∀(j:Nat) t,fn.params[j]?=some t->Tryz.pinned.checked.prog.wantsStandIn t=false:=by
 obtain rfl:f=3:=Option.some.inj ((show prog.funcNamed "humpyard/humpyardlaw.CoreSame" =some 3 by kernel_rfl).symm.trans hf)|>.symm
 obtain rfl:fn=f3:=(Option.some.inj (func3.symm.trans hfn)).symm
 refine⟨by kernel_rfl,fun j t ht=>?_⟩
 rw[params3]at ht
 have hm:=Array.mem_of_getElem? ht
 simp at hm
 have hm:t=23\/t=27\/t=28\/t=29\/t=3:=by omega
 rcases hm with rfl|rfl|rfl|rfl|rfl
 ·exact(show prog.wantsStandIn 23=false by kernel_rfl)
 ·exact(show prog.wantsStandIn 27=false by kernel_rfl)
 ·exact(show prog.wantsStandIn 28=false by kernel_rfl)
 ·exact(show prog.wantsStandIn 29=false by kernel_rfl)
 ·exact(show prog.wantsStandIn 3=false by kernel_rfl)
theorem card:Rows.CoreSameCardSaid:=
 Claim7.holds_tied_plain_at .later [] _ _ _ _ said (fun _ h=>by cases h) (by kernel_rfl) (fun _ h=>by cases h) coreSame_row_tie rfl ⟨rfl,rfl⟩ (by kernel_rfl) rfl plain (by kernel_rfl)
end Go.Proofs.YtpiohehijkpghabGreatDoor.coreSame
namespace Go.Proofs.YtpiohehijkpghabGreatDoor
theorem coreSame_holds:Rows.CoreSameCardSaid:=coreSame.card
end Go.Proofs.YtpiohehijkpghabGreatDoor
