/- For every script the program answers line by line what its layers answer: what the keeper, which goes through a script's lines by itself, says is what drive.Play answers. The variables decode.forms, hart.immediate, strconv.ErrRange, strconv.ErrSyntax and three tables of the standard library start as the program's text lays them; the arguments hold together at most 1048576 letters. -/
import Derived.Test.YtpiohehijkpghacGreatDoorCards
import Derived.Test.YtpiohehijkpghacGreatDoorTie
import Derived.ShutString
import Derived.Deep.Fields
import Derived.Test.YtpiohehijkpghacGreatDoorE13
import Derived.Test.YtpiohehijkpghacGreatDoorE12
set_option maxRecDepth 100000
set_option linter.unusedSimpArgs false
set_option linter.unusedVariables false
open Go.Proofs.Tryz
namespace Go.Proofs.YtpiohehijkpghacGreatDoor.driveTells
open Go.ChangeShapes Go.WideShapes Go.ChangeAt Go.RowKit Go.ChangeMaps
open Hy
theorem own:ownKnob prog.godebug=none:=by kernel_rfl
theorem laidOut:laidOutB prog=true:=by kernel_rfl
theorem contract(H:Type)(enc:TypeId×Value->H)(W:World)(base:Nat)(args:Array Value)(ds gs:List (DataW H))(before:List MemPlace)
  (hval:∀(j:Nat) t v,f4.params[j]?=some t->args[j]?=some v->Value.okWide prog W .any base t v)
  (hW:DataW.Whole enc prog f4.params.toList Rows.driveTellsSpec.vars false W args.toList ds gs before) (hk:Rows.uptoSmall H (ds++gs)=true) (hL:laidMetH prog Rows.driveTellsRow.laid W):
  Calls prog 4 args W λe W'=>∃v,e=.returned v/\Rows.driveTellsSpec.post enc prog f4 false true false false W args v W':=by
 have hW':=hW
 obtain⟨p,q,hA0,hV,rfl,hfz,hnd⟩:=hW
 have hA:DataW.TrodAll enc prog W 0 (λ_=>true) true f4.params.toList args.toList ds p:=hA0
 rw[params4]at hA hval
 obtain⟨v0,vs0,d0,ds0,p0,q0,hargs,rfl,rfl,h0,r0⟩:=trodAll_cons hA
 obtain⟨rfl,rfl,rfl⟩:=trodAll_nil r0
 obtain rfl:args=#[v0]:=by cases args;simp_all
 obtain⟨rfl,rfl⟩:=trodVars_none hV
 obtain⟨s0,rfl,rfl,rfl,m0⟩:=open_string underlying9 (hval 0 9 v0 rfl rfl) h0
 have hb:=of_decide_eq_true hk
 simp only[List.append_nil,Rows.uptoBulkAll,Rows.uptoBulk]at hb
 obtain⟨⟨l0⟩⟩:=s0
 obtain⟨hT,hT2,hP,hE⟩:=Dr.laid_of hL
 clear hA0
 refine(Dr.driveTells_walk l0 (by simp at hb;omega) W (Dr.lay_of hE hP hT hT2)).mono λe W' ⟨he,bel⟩=>?_
 subst he
 exact⟨_,rfl,_,_,_,[],_,[],hW',trodAll_mk1 (shut_bool underlying4 _),(trodAll_cons_mk (shut_string underlying9 m0) trodAll_mk0),rfl,bel.frame _,λh=>by cases h⟩
theorem wit(os:Os):∃w0:World,w0.os=os/\(w0.forCall (λ_ _=>0) ⟨#[],#[.string ⟨#[]⟩],[]⟩).variablesB prog=true/\((w0.forCall (λ_ _=>0) ⟨#[],#[.string ⟨#[]⟩],[]⟩).heap.toList.drop prog.globals.size).take ((begin prog (λ_ _=>0) default).world.heap.size-prog.globals.size)=(begin prog (λ_ _=>0) default).world.heap.toList.drop prog.globals.size/\
  Input.okWideB prog (w0.forCall (λ_ _=>0) ⟨#[],#[.string ⟨#[]⟩],[]⟩) 4 ⟨#[],#[.string ⟨#[]⟩],[]⟩=true/\laidMet prog Rows.driveTellsRow.laid (w0.forCall (λ_ _=>0) ⟨#[],#[.string ⟨#[]⟩],[]⟩).memory/\
  ∀(H:Type) (enc:TypeId×Value->H),DataW.whole enc prog (w0.forCall (λ_ _=>0) ⟨#[],#[.string ⟨#[]⟩],[]⟩).memory f4.params.toList Rows.driveTellsSpec.vars false (#[.string ⟨#[]⟩]:Array Value).toList 8=some ([.lit (.string [])],[],[]):=
 ⟨({(World.holding prog os ⟨#[.cells #[.string ⟨#[118,97,108,117,101,32,111,117,116,32,111,102,32,114,97,110,103,101]⟩] 277,.cells #[.string ⟨#[105,110,118,97,108,105,100,32,115,121,110,116,97,120]⟩] 277],#[],[]⟩)with heap:=((((((((World.holding prog os ⟨#[.cells #[.string ⟨#[118,97,108,117,101,32,111,117,116,32,111,102,32,114,97,110,103,101]⟩] 277,.cells #[.string ⟨#[105,110,118,97,108,105,100,32,115,121,110,116,97,120]⟩] 277],#[],[]⟩).heap.modify 0 λ|.cells _ t frozen=>.cells (ftab.map λz=>Value.int .u32 z).toArray t frozen|o=>o).modify 2 λ|.cells _ t frozen=>.cells (itab.map λz=>Value.int .i64 z).toArray t frozen|o=>o).modify 3 λ|.cells _ t frozen=>.cells #[.iface 275 (.pointer (some ⟨14,0,none⟩))] t frozen|o=>o).modify 4 λ|.cells _ t frozen=>.cells #[.iface 275 (.pointer (some ⟨13,0,none⟩))] t frozen|o=>o).modify 5 λ|.cells _ t frozen=>.cells (Lib.pow10Tab.map λz=>Value.int .u64 z).toArray t frozen|o=>o).modify 6 λ|.cells _ t frozen=>.cells (([0,1,28,2,29,14,24,3,30,22,20,15,25,17,4,8,31,27,13,23,21,19,16,7,26,12,18,6,11,5,10,9]:List Int).map λz=>Value.int .u8 z).toArray t frozen|o=>o).modify 7 λ|.cells _ t frozen=>.cells (([0,1,56,2,57,49,28,3,61,58,42,50,38,29,17,4,62,47,59,36,45,43,51,22,53,39,33,30,24,18,12,5,63,55,48,27,60,41,37,16,46,35,44,21,52,32,23,11,54,26,40,15,34,20,31,10,25,14,19,9,13,8,7,6]:List Int).map λz=>Value.int .u8 z).toArray t frozen|o=>o)}:World),rfl,by kernel_rfl,by kernel_rfl,by kernel_rfl,laidMet_of_run' 8 (by kernel_rfl) (by kernel_rfl),λH enc=>by kernel_rfl⟩
theorem lifted(os:Os)(started:os.Started)(H:Type)(enc:TypeId×Value->H)(F:Stop.Interp):
  ReturnsInHanded {} checked os 4 .any ((Rows.OpenSpec.upto Rows.driveTellsSpec).preRow enc prog f4 Rows.driveTellsUptoRow.domain false Rows.driveTellsUptoRow.laid) (((Rows.OpenSpec.upto Rows.driveTellsSpec).at F).post enc prog f4 false true false false):=by
 obtain⟨w0,h1,h2,h3,h4,h5,h6⟩:=wit os
 refine returnsInHanded_of_row (C:=checked) (s:=Rows.OpenSpec.upto Rows.driveTellsSpec) own started (by kernel_rfl) func4
  (witness_row_at (enc:=enc) (C:=checked) false w0 #[.string ⟨#[]⟩] h1 h2 h3 h4
   (OpenSpec.preRow_of_cond 8 (h6 H enc) (by kernel_rfl) (λk hk=>by cases hk;kernel_rfl) (by kernel_rfl) h5)) ?_
 intro W base args ds gs before hval hW _ hcond _ hL _ _
 exact contract H enc W base args ds gs before hval hW (hcond _ rfl) hL
theorem said:Rows.DriveTellsUptoSaid:=
 OpenClaim.holds_of_cond 4 f4 rfl rfl rfl rfl rfl rfl rfl ⟨rfl,rfl,rfl,rfl,rfl⟩ rfl rfl rfl rfl rfl (by kernel_rfl) func4 (by kernel_rfl)
  (of_decide_eq_true (by kernel_rfl)) (by unfold Func.isWrapper;first|(rw[if_pos (by decide+kernel)];kernel_rfl)|(rw[if_neg (by decide+kernel)];exact⟨rfl,rfl⟩))
  (λos started H enc _ F=>by rw[OpenClaim.pre_eq_preRow];exact lifted os started H enc F)
theorem plain(f:FuncId)(fn:Func)(hf:Tryz.pinned.checked.prog.funcNamed "humpyard/humpyardkeep.DriveTells" =some f)(hfn:Tryz.pinned.checked.prog.funcs[f]?=some fn):
  true=Tryz.pinned.checked.prog.looks []/\∀(j:Nat) t,fn.params[j]?=some t->Tryz.pinned.checked.prog.wantsStandIn t=false:=by
 obtain rfl:f=4:=Option.some.inj ((show prog.funcNamed "humpyard/humpyardkeep.DriveTells" =some 4 by kernel_rfl).symm.trans hf)|>.symm
 obtain rfl:fn=f4:=(Option.some.inj (func4.symm.trans hfn)).symm
 refine⟨by kernel_rfl,λj t ht=>?_⟩
 rw[params4]at ht
 have hm:=Array.mem_of_getElem? ht
 obtain rfl:t=9:=by simpa using hm
 exact(show prog.wantsStandIn 9=false by kernel_rfl)
theorem card:Rows.DriveTellsUptoCardSaid:=
 Claim7.holds_tied_plain_at .later [] _ _ _ _ said (λ_ h=>by cases h) (by kernel_rfl) (λ_ h=>by cases h) driveTellsUpto_row_tie rfl ⟨rfl,rfl⟩ (by kernel_rfl) rfl plain (by kernel_rfl)
end Go.Proofs.YtpiohehijkpghacGreatDoor.driveTells
namespace Go.Proofs.YtpiohehijkpghacGreatDoor
theorem driveTells_holds:Rows.DriveTellsUptoCardSaid:=driveTells.card
end Go.Proofs.YtpiohehijkpghacGreatDoor
