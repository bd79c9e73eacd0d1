/- What instructions do, as plain numbers: facts. Nothing of the program is named here. -/
import Derived.Test.YtpiohehijkpghabGreatDoorG12
import Derived.Test.YtpiohehijkpghabGreatDoorG28
import Derived.Test.YtpiohehijkpghabGreatDoorG25
import Derived.Test.YtpiohehijkpghabGreatDoorG01
import Derived.Test.YtpiohehijkpghabGreatDoorG03
set_option maxRecDepth 20000
set_option maxHeartbeats 1000000
namespace Go.Proofs.YtpiohehijkpghabGreatDoor.Co
open Go.RowKit
open Hy
open Wi Od Re.Hy
open Gu.Hy (Tb tcs)
set_option linter.unusedVariables false
set_option linter.unusedSimpArgs false
theorem keepC {w w':World} {a:Addr} {v:Value} (hb:Below w.heap.size w w') (h:w.cell? a=some v):w'.cell? a=some v:=(hb.cell (p:=a) (World.block_lt_of_cell? _ _ h)).trans h
theorem keepR {w w':World} {b o:Nat} {cs:List Value} (hb:Below w.heap.size w w') (h:w.rangeAt b o cs):w'.rangeAt b o cs:=fun j v hj=>keepC hb (h j v hj)
theorem fit_fits {n:Nat} {x:Int} (h0:0≤x) {m:Nat} (hm:m=1∨m=2∨m=4):fits n x m=true↔Fit (m:Int) x.toNat n:=by
 unfold fits Fit
 rw[decide_eq_true_eq,Int.toNat_of_nonneg h0]
 constructor
 ·rintro⟨_,h1,h2⟩
  exact⟨by omega,h1,h2⟩
 ·rintro⟨_,h1,h2⟩
  exact⟨h0,h1,h2⟩
theorem sure_seeU (l:List Ac) (seq:Int):Sure l seq l.length (seeU l seq):=by
 unfold Sure seeU
 rw[List.all_eq_true]
 constructor
 ·intro h j q hj hq
  have:=h q (List.mem_of_getElem? hq)
  simpa using this
 ·intro h q hq
  obtain⟨j,hj,hjq⟩:=List.getElem_of_mem hq
  have:=h j q hj (by rw[List.getElem?_eq_getElem hj,hjq])
  simp[this]
def seeA (s:Cr) (seq x:Int) (m:Nat):Value:=.tuple #[.int .u32 (if fits s.n x m then seeV s.asked seq x m s.f else 0),.bool (fits s.n x m),.bool (fits s.n x m&&seeU s.asked seq)]
theorem cSee {N:Nat} {w:World} {b:Nat} {s:Cr} {L:Sls} (S:St N w b s L) (hok:∀q∈s.asked,q.Ok) (hn:s.asked.length≤100000000) (seq x:Int) (hx:U32 x) (m:Nat) (hm:m=1∨m=2∨m=4) (W:World) (hW:Below w.heap.size w W):
  Calls Tryz.prog 71 #[L.a,L.m,.int .i64 seq,.int .u32 x,.int .i64 m] W fun e w'=>e=.returned (seeA s seq x m)∧Below W.heap.size W w':=by
 have S:=S.below hW
 obtain⟨a,c,ea⟩:=S.its.ia.slice
 obtain⟨p,mc,em,hB⟩:=S.its.im
 have hU:=S.its.ia
 rw[ea]at hU
 have HL:=hU.lc
 rw[←acs_flat]at HL
 obtain⟨A,rfl⟩:=Int.eq_ofNat_of_zero_le hx.1
 have hA:A≤4294967295:=by have:=hx.2;omega
 have hml:s.n≤4096:=hB.hn
 rw[ea,em]
 unfold seeA
 by_cases hf:fits s.n A m=true
 ·have hfit:=(fit_fits (n:=s.n) hx.1 hm).1 hf
  obtain⟨_,h1,h2⟩:=hfit
  rw[Int.toNat_natCast]at h1 h2
  rw[hf,Bool.true_and,if_pos rfl]
  have hmm:A+m≤s.n:=by omega
  obtain⟨g,o,rfl,hl⟩:=hB.hm (by omega)
  refine uSee_yes a s.asked.length c s.asked hok g o s.n mc hB.hnc s.f seq A m hA (by omega) hm (by omega) hmm hB.hf _ (show _=_ from ?_) _ (sure_seeU _ _) (by omega) W HL hl ?_
  ·unfold seeV
   rw[Int.toNat_natCast,Int.toNat_natCast]
  ·exact World.block_lt_of_cell? _ _ (hl 0 (by omega))
 ·have hnf:¬Fit (m:Int) A s.n:=fun h=>hf ((fit_fits (n:=s.n) hx.1 hm).2 (by rw[Int.toNat_natCast];exact h))
  have hff:fits s.n A m=false:=by simpa using hf
  rw[hff,Bool.false_and,if_neg (by decide)]
  exact uSee_no a s.asked.length c p s.n mc seq m A hA (by omega) hnf W
theorem cDecode {x:Int} (hx:U32 x) (w:World) (ht:Tab w):Calls Tryz.prog 114 #[.int .u32 x] w fun e w'=>e=.returned (.tuple #[ivI ((dcdM x).getD zin),.bool (dcdM x).isSome])∧Below w.heap.size w w':=by
 have hd:dcdM x=dcdW x:=if_pos hx
 refine(Decode_any x hx.1 hx.2 w ht).mono ?_
 rintro e w' ⟨⟨n,n1,n2,hh,hf,rfl⟩|⟨hno,rfl⟩,hb⟩
 ·refine⟨?_,hb⟩
  have h1:=rd_rng n (by omega) x hx.1 hx.2
  have h2:=rs1_rng n (by omega) x hx.1 hx.2
  have h3:=rs2_rng n (by omega) x hx.1 hx.2
  rw[hd]
  unfold dcdW
  rw[dcdN_some x n n1 hh hf 48 n2]
  simp only[Option.getD_some,Option.isSome_some]
  show Ending.returned (.tuple #[iv n _ _ _ _,_])=Ending.returned (.tuple #[iv _ ((Int.toNat _:Nat):Int) ((Int.toNat _:Nat):Int) ((Int.toNat _:Nat):Int) _,_])
  rw[Int.toNat_of_nonneg h1.1,Int.toNat_of_nonneg h2.1,Int.toNat_of_nonneg h3.1]
 ·refine⟨?_,hb⟩
  rw[hd]
  unfold dcdW
  rw[dcdN_none x 48 hno]
  rfl
theorem le_rng {g:Nat→Int} {m:Nat} (hm:m≤4) (h:∀i,i<m→0≤g i∧g i≤255):U32 (le g m):=by
 unfold U32
 rcases(by omega:m=0∨m=1∨m=2∨m=3∨m=4)with rfl|rfl|rfl|rfl|rfl
 ·simp[le]
 ·have:=h 0 (by omega);simp[le];omega
 ·have:=h 0 (by omega);have:=h 1 (by omega);simp[le];omega
 ·have:=h 0 (by omega);have:=h 1 (by omega);have:=h 2 (by omega);simp[le];omega
 ·have:=h 0 (by omega);have:=h 1 (by omega);have:=h 2 (by omega);have:=h 3 (by omega);simp[le];omega
theorem see_rng {s:Cr} {seq x:Int} {m:Nat} (hf:∀i,i<s.n→0≤s.f i∧s.f i≤255) (hm:m≤4) (h:fits s.n x m=true):U32 (seeV s.asked seq x m s.f):=by
 have hp:=fits_pos h
 unfold seeV
 rw[Int.toNat_natCast]
 exact le_rng hm fun i hi=>sb_rng (hf _ (by omega))
theorem res_row2 {P:Program} {fn:Func} {p u:Tmp} {ty:TypeId} (h:fn.results=#[.cell p ty,.tmp u]) (tmps:Array Value) (w:World) (g:Nat) (t:TypeId) (cs:Array Value) (fr:Nat×Nat) (d:TypeDesc) (x:Value)
  (hp:tmps.getD p undef=.pointer (some ⟨g,0,none⟩)) (hx:tmps.getD u undef=x) (hg:w.heap[g]?=some (.cells cs t fr))
  (hu:P.underlying ty=some d) (hd:(match d with|.struct _|.array _ _=>true|_=>false)=true) (hi:(P.info? ty).map (·.size)=some cs.size):
  (results fn tmps).run P w=.ok (.tuple #[.agg cs,x]) w:=by
 have hp':tmps[p]?.getD undef=.pointer (some ⟨g,0,none⟩):=by simpa using hp
 have hx':tmps[u]?.getD undef=x:=by simpa using hx
 simp[results,h,hp',hx',asAddr,run_loadVar_row w g t ty cs fr d hg hu hd hi]
theorem size_ins:(Tryz.prog.info? 77).map (·.size)=some 5:=by kernel_rfl
def ivL (i:In):Array Value:=#[.int .i64 i.op,.int .i64 i.rd,.int .i64 i.s1,.int .i64 i.s2,.int .i32 i.im]
theorem ivL_ok (i:In):(Tryz.prog.info? 77).map (·.size)=some (ivL i).size∧(ivL zin).size=(ivL i).size∧(ivL i).all (·.oneCell')=true:=by
 refine⟨size_ins,rfl,?_⟩
 unfold ivL
 simp[Value.oneCell']
theorem set_row {w:World} {g:Nat} {cur new:Array Value} {t:TypeId} {fr:Nat×Nat} (h:w.heap[g]?=some (.cells cur t fr)):(w.setRow g new).heap[g]?=some (.cells new t fr):=setRow_heap w g cur new t fr h
theorem below_setRow {B:Nat} {a w:World} {g:Nat} (h:Below B a w) (new:Array Value) (hg:B≤g:=by exact Nat.le_refl _):Below B a (w.setRow g new):=
 h.trans ⟨rfl,rfl,rfl,by simp,fun k hk=>setRow_other w g k _ (by omega)⟩
theorem cread_any {N:Nat} {w:World} {b:Nat} {s:Cr} {L:Sls} (S:St N w b s L) (hok:∀q∈s.asked,q.Ok) (hn:s.asked.length≤100000000) (hfro:U32 s.fro):Calls Tryz.prog 77 #[.pointer (some ⟨b,0,none⟩),.int .i64 s.tak] w fun e w'=>e=.returned (.tuple #[ivI (rdI mach s).1,.int .i64 (rdI mach s).2])∧Below w.heap.size w w':=by
 have CS0:=fun W hW=>cSee S hok hn s.tak s.fro hfro 4 (by omega) W hW
 obtain⟨a,c,ea⟩:=S.its.ia.slice
 obtain⟨p,mc,em,hB⟩:=S.its.im
 have k335:w.cell? ⟨b,335,none⟩=some (.slice a s.asked.length c):=(cell_at S.row (by omega)).trans (congrArg some ea)
 have k39:w.cell? ⟨b,39,none⟩=some (.slice p s.n mc):=(cell_at S.row (by omega)).trans (congrArg some em)
 have k337:w.cell? ⟨b,337,none⟩=some (.int .u32 s.fro):=(cell_at S.row (by omega)).trans rfl
 have hb:b<w.heap.size:=(Array.getElem?_eq_some_iff.1 S.row).1
 have HT:Hid (Tab w):=S.its.tb
 have e4:((4:Nat):Int)=4:=rfl
 unfold seeA at CS0
 rw[ea,em,e4]at CS0
 have HF:=hB.hf
 cases hf:fits s.n s.fro 4 with
 |false=>
  have e1:rdI mach s=(zin,1):=by unfold rdI;rw[if_neg (by rw[hf];decide)]
  rw[e1]
  rw[hf]at CS0
  simp only[Bool.false_and,if_neg Bool.false_ne_true]at CS0
  have CS:Hid (∀W,Below w.heap.size w W→Calls Tryz.prog 71 #[.slice a s.asked.length c,.slice p s.n mc,.int .i64 s.tak,.int .u32 s.fro,.int .i64 4] W fun e w'=>e=.returned (.tuple #[.int .u32 0,.bool false,.bool false])∧Below W.heap.size W w'):=CS0
  generalize s.asked.length=n at*
  generalize s.n=ml at*
  generalize s.fro=x at*
  generalize s.tak=q at*
  clear CS0 S hok hB ea em e1 hf HF
  go_enter Tryz.func77,Tryz.ntmps77
  go_upto_region 1 with fail
  refine Wi.one_box (Φ:=fun W=>Code.wp _ _ _ _ W) ?_
  intro V hV hVb
  have k335:=keepC hVb k335
  have k39:=keepC hVb k39
  have k337:=keepC hVb k337
  have HVb:Hid (Below w.heap.size w V):=hVb
  have HV:Hid (V.heap[w.heap.size]?=some (.cells #[.int .i64 0,.int .i64 0,.int .i64 0,.int .i64 0,.int .i32 0] 77 (0,0))):=hV
  clear hV hVb
  refine wp_region_held_drew (S:=fun w'=>w'.cell? ⟨b,335,none⟩=some (.slice a n c)∧w'.cell? ⟨b,39,none⟩=some (.slice p ml mc)∧w'.cell? ⟨b,337,none⟩=some (.int .u32 x)) (by kernel_rfl) (⟨k335,k39,k337⟩) (fun hH=>?_)
  refine tI 0 (.pointer (some ⟨b,0,none⟩)) rfl hH ?_;try go_simp
  refine tI 1 (.pointer (some ⟨b,0,none⟩)) rfl hH ?_;try go_simp
  refine tI 2 (.pointer (some ⟨b,335,none⟩)) rfl hH ?_;try go_simp
  refine tH 3 (.slice a n c) rfl (Or.inl ⟨by rfl,by intro wz hSw;have hc:=hSw.1;go_simp⟩) hH ?_;try go_simp
  refine tI 4 (.pointer (some ⟨b,0,none⟩)) rfl hH ?_;try go_simp
  refine tI 5 (.pointer (some ⟨b,0,none⟩)) rfl hH ?_;try go_simp
  refine tI 6 (.pointer (some ⟨b,3,none⟩)) rfl hH ?_;try go_simp
  refine tI 7 (.pointer (some ⟨b,39,none⟩)) rfl hH ?_;try go_simp
  refine tH 8 (.slice p ml mc) rfl (Or.inl ⟨by rfl,by intro wz hSw;have hc:=hSw.2.1;go_simp⟩) hH ?_;try go_simp
  refine tI 9 (.int .i64 q) rfl hH ?_;try go_simp
  refine tI 10 (.pointer (some ⟨b,0,none⟩)) rfl hH ?_;try go_simp
  refine tI 11 (.pointer (some ⟨b,0,none⟩)) rfl hH ?_;try go_simp
  refine tI 12 (.pointer (some ⟨b,337,none⟩)) rfl hH ?_;try go_simp
  refine tH 13 (.int .u32 x) rfl (Or.inl ⟨by rfl,by intro wz hSw;have hc:=hSw.2.2;go_simp⟩) hH ?_;try go_simp
  refine wpAnyH_ready (rs:=[14]) (by kernel_rfl) (by simp) ?_
  refine AllReadyH.cons rfl (fun K hK=>?_) AllReadyH.nil
  go_simp
  refine(CS.out _ (HVb.out.trans ((Below.refl _ _).drew))).mono ?_
  rintro e V1 ⟨rfl,hk⟩
  have HB1:Hid (Below V.heap.size V V1):=below_first hk (Nat.le_refl _)
  go_wp2_with fail
  refine hK.out _ _ (⟨keepC hk (hH.1),keepC hk (hH.2.1),keepC hk (hH.2.2)⟩) (fun hH=>?_)
  clear hK K
  try go_simp
  refine tI 15 (.tuple #[.int .u32 0,.bool false,.bool false]) rfl hH ?_;try go_simp
  refine tI 16 (.int .u32 0) rfl hH ?_;try go_simp
  refine tI 17 (.bool false) rfl hH ?_;try go_simp
  refine tI 18 (.bool false) rfl hH ?_;try go_simp
  refine tI 19 (.int .u32 0) rfl hH ?_;try go_simp
  refine tI 20 (.bool false) rfl hH ?_;try go_simp
  refine tI 21 (.bool false) rfl hH ?_;try go_simp
  refine wpAnyH_done (by kernel_rfl) ?_ _
  have HF1:Hid (Below w.heap.size w V1):=HVb.out.trans (HB1.out.mono HVb.out.size)
  have HR:Hid (V1.heap[w.heap.size]?=some (.cells (ivL zin) 77 (0,0))):=(HB1.out.block _ (heap_lt HV.out)).trans HV.out
  clear hH HVb HV HB1 k335 k39 k337 CS hk
  go_wp2_with(refine wpList_store_row rfl 77 _ _ rfl _ _ rfl rfl 77 _ HR.out (ivL_ok zin).1 (ivL_ok zin).2.1 (ivL_ok zin).2.2 ?_)
  exact bodyPost_ret (v:=.tuple #[ivI zin,.int .i64 1]) (res_row2 Tryz.results77 _ _ _ 77 _ (0,0) _ _ rfl rfl (set_row HR.out) Tryz.underlying77 rfl (ivL_ok zin).1) rfl ⟨rfl,below_setRow HF1.out _⟩
 |true=>
  have hy:U32 (seeV s.asked s.tak s.fro 4 s.f):=see_rng (m:=4) hB.hf (by omega) hf
  rw[hf]at CS0
  simp only[Bool.true_and,if_true]at CS0
  have e1:rdI mach s=(match dcdM (seeV s.asked s.tak s.fro 4 s.f)with|some i=>(i,0)|none=>(zin,2)):=by unfold rdI;rw[if_pos hf];rfl
  rw[e1]
  have CS:Hid (∀W,Below w.heap.size w W→Calls Tryz.prog 71 #[.slice a s.asked.length c,.slice p s.n mc,.int .i64 s.tak,.int .u32 s.fro,.int .i64 4] W fun e w'=>e=.returned (.tuple #[.int .u32 (seeV s.asked s.tak s.fro 4 s.f),.bool true,.bool (seeU s.asked s.tak)])∧Below W.heap.size W w'):=CS0
  generalize seeV s.asked s.tak s.fro 4 s.f=y at*
  generalize seeU s.asked s.tak=U at*
  have CD:Hid (∀W,Tab W→Calls Tryz.prog 114 #[.int .u32 y] W fun e w'=>e=.returned (.tuple #[ivI ((dcdM y).getD zin),.bool (dcdM y).isSome])∧Below W.heap.size W w'):=fun W hW=>cDecode hy W hW
  generalize s.asked.length=n at*
  generalize s.n=ml at*
  generalize s.fro=x at*
  generalize s.tak=q at*
  clear CS0 S hok hB ea em e1 hf HF hy
  cases hd:dcdM y with
  |none=>
   rw[hd]at CD
   simp only[Option.getD_none,Option.isSome_none]at CD
   clear hd
   go_enter Tryz.func77,Tryz.ntmps77
   go_upto_region 1 with fail
   refine Wi.one_box (Φ:=fun W=>Code.wp _ _ _ _ W) ?_
   intro V hV hVb
   have k335:=keepC hVb k335
   have k39:=keepC hVb k39
   have k337:=keepC hVb k337
   have HVb:Hid (Below w.heap.size w V):=hVb
   have HV:Hid (V.heap[w.heap.size]?=some (.cells #[.int .i64 0,.int .i64 0,.int .i64 0,.int .i64 0,.int .i32 0] 77 (0,0))):=hV
   clear hV hVb
   refine wp_region_held_drew (S:=fun w'=>w'.cell? ⟨b,335,none⟩=some (.slice a n c)∧w'.cell? ⟨b,39,none⟩=some (.slice p ml mc)∧w'.cell? ⟨b,337,none⟩=some (.int .u32 x)) (by kernel_rfl) (⟨k335,k39,k337⟩) (fun hH=>?_)
   refine tI 0 (.pointer (some ⟨b,0,none⟩)) rfl hH ?_;try go_simp
   refine tI 1 (.pointer (some ⟨b,0,none⟩)) rfl hH ?_;try go_simp
   refine tI 2 (.pointer (some ⟨b,335,none⟩)) rfl hH ?_;try go_simp
   refine tH 3 (.slice a n c) rfl (Or.inl ⟨by rfl,by intro wz hSw;have hc:=hSw.1;go_simp⟩) hH ?_;try go_simp
   refine tI 4 (.pointer (some ⟨b,0,none⟩)) rfl hH ?_;try go_simp
   refine tI 5 (.pointer (some ⟨b,0,none⟩)) rfl hH ?_;try go_simp
   refine tI 6 (.pointer (some ⟨b,3,none⟩)) rfl hH ?_;try go_simp
   refine tI 7 (.pointer (some ⟨b,39,none⟩)) rfl hH ?_;try go_simp
   refine tH 8 (.slice p ml mc) rfl (Or.inl ⟨by rfl,by intro wz hSw;have hc:=hSw.2.1;go_simp⟩) hH ?_;try go_simp
   refine tI 9 (.int .i64 q) rfl hH ?_;try go_simp
   refine tI 10 (.pointer (some ⟨b,0,none⟩)) rfl hH ?_;try go_simp
   refine tI 11 (.pointer (some ⟨b,0,none⟩)) rfl hH ?_;try go_simp
   refine tI 12 (.pointer (some ⟨b,337,none⟩)) rfl hH ?_;try go_simp
   refine tH 13 (.int .u32 x) rfl (Or.inl ⟨by rfl,by intro wz hSw;have hc:=hSw.2.2;go_simp⟩) hH ?_;try go_simp
   refine wpAnyH_ready (rs:=[14]) (by kernel_rfl) (by simp) ?_
   refine AllReadyH.cons rfl (fun K hK=>?_) AllReadyH.nil
   go_simp
   refine(CS.out _ (HVb.out.trans ((Below.refl _ _).drew))).mono ?_
   rintro e V1 ⟨rfl,hk⟩
   have HB1:Hid (Below V.heap.size V V1):=below_first hk (Nat.le_refl _)
   go_wp2_with fail
   refine hK.out _ _ (⟨keepC hk (hH.1),keepC hk (hH.2.1),keepC hk (hH.2.2)⟩) (fun hH=>?_)
   clear hK K
   try go_simp
   refine tI 15 (.tuple #[.int .u32 y,.bool true,.bool U]) rfl hH ?_;try go_simp
   refine tI 16 (.int .u32 y) rfl hH ?_;try go_simp
   refine tI 17 (.bool true) rfl hH ?_;try go_simp
   refine tI 18 (.bool U) rfl hH ?_;try go_simp
   refine tI 19 (.int .u32 y) rfl hH ?_;try go_simp
   refine tI 20 (.bool true) rfl hH ?_;try go_simp
   refine tI 21 (.bool U) rfl hH ?_;try go_simp
   refine wpAnyH_done (by kernel_rfl) ?_ _
   have HF1:Hid (Below w.heap.size w V1):=HVb.out.trans (HB1.out.mono HVb.out.size)
   have HR:Hid (V1.heap[w.heap.size]?=some (.cells (ivL zin) 77 (0,0))):=(HB1.out.block _ (heap_lt HV.out)).trans HV.out
   clear hH HVb HV HB1 k335 k39 k337 CS hk
   go_wp2_with fail
   refine(CD.out _ (HT.out.below HF1.out HT.out.size)).mono ?_
   rintro e V2 ⟨rfl,hk2⟩
   have HR:Hid (V2.heap[w.heap.size]?=some (.cells (ivL zin) 77 (0,0))):=(hk2.block _ (heap_lt HR.out)).trans HR.out
   have HF1:Hid (Below w.heap.size w V2):=HF1.out.trans (hk2.mono HF1.out.size)
   clear hk2 CD
   go_upto_region 6 with fail
   refine Wi.one_box (Φ:=fun W=>Code.wp _ _ _ _ W) ?_
   intro V3 hV3 hb3
   have HR:Hid (V3.heap[w.heap.size]?=some (.cells (ivL zin) 77 (0,0))):=(hb3.block _ (heap_lt HR.out)).trans HR.out
   have HF1:Hid (Below w.heap.size w V3):=HF1.out.trans (hb3.mono HF1.out.size)
   have HV3:Hid (V3.heap[V2.heap.size]?=some (.cells (ivL zin) 77 (0,0))):=hV3
   clear hV3 hb3
   generalize V2.heap.size=z at*
   go_wp2_with(refine wpList_store_row rfl 77 _ _ rfl _ _ rfl rfl 77 _ HR.out (ivL_ok zin).1 (ivL_ok zin).2.1 (ivL_ok zin).2.2 ?_)
   exact bodyPost_ret (v:=.tuple #[ivI zin,.int .i64 2]) (res_row2 Tryz.results77 _ _ _ 77 _ (0,0) _ _ rfl rfl (set_row HR.out) Tryz.underlying77 rfl (ivL_ok zin).1) rfl ⟨rfl,below_setRow HF1.out _⟩
  |some i=>
   rw[hd]at CD
   simp only[Option.getD_some,Option.isSome_some]at CD
   clear hd
   go_enter Tryz.func77,Tryz.ntmps77
   go_upto_region 1 with fail
   refine Wi.one_box (Φ:=fun W=>Code.wp _ _ _ _ W) ?_
   intro V hV hVb
   have k335:=keepC hVb k335
   have k39:=keepC hVb k39
   have k337:=keepC hVb k337
   have HVb:Hid (Below w.heap.size w V):=hVb
   have HV:Hid (V.heap[w.heap.size]?=some (.cells #[.int .i64 0,.int .i64 0,.int .i64 0,.int .i64 0,.int .i32 0] 77 (0,0))):=hV
   clear hV hVb
   refine wp_region_held_drew (S:=fun w'=>w'.cell? ⟨b,335,none⟩=some (.slice a n c)∧w'.cell? ⟨b,39,none⟩=some (.slice p ml mc)∧w'.cell? ⟨b,337,none⟩=some (.int .u32 x)) (by kernel_rfl) (⟨k335,k39,k337⟩) (fun hH=>?_)
   refine tI 0 (.pointer (some ⟨b,0,none⟩)) rfl hH ?_;try go_simp
   refine tI 1 (.pointer (some ⟨b,0,none⟩)) rfl hH ?_;try go_simp
   refine tI 2 (.pointer (some ⟨b,335,none⟩)) rfl hH ?_;try go_simp
   refine tH 3 (.slice a n c) rfl (Or.inl ⟨by rfl,by intro wz hSw;have hc:=hSw.1;go_simp⟩) hH ?_;try go_simp
   refine tI 4 (.pointer (some ⟨b,0,none⟩)) rfl hH ?_;try go_simp
   refine tI 5 (.pointer (some ⟨b,0,none⟩)) rfl hH ?_;try go_simp
   refine tI 6 (.pointer (some ⟨b,3,none⟩)) rfl hH ?_;try go_simp
   refine tI 7 (.pointer (some ⟨b,39,none⟩)) rfl hH ?_;try go_simp
   refine tH 8 (.slice p ml mc) rfl (Or.inl ⟨by rfl,by intro wz hSw;have hc:=hSw.2.1;go_simp⟩) hH ?_;try go_simp
   refine tI 9 (.int .i64 q) rfl hH ?_;try go_simp
   refine tI 10 (.pointer (some ⟨b,0,none⟩)) rfl hH ?_;try go_simp
   refine tI 11 (.pointer (some ⟨b,0,none⟩)) rfl hH ?_;try go_simp
   refine tI 12 (.pointer (some ⟨b,337,none⟩)) rfl hH ?_;try go_simp
   refine tH 13 (.int .u32 x) rfl (Or.inl ⟨by rfl,by intro wz hSw;have hc:=hSw.2.2;go_simp⟩) hH ?_;try go_simp
   refine wpAnyH_ready (rs:=[14]) (by kernel_rfl) (by simp) ?_
   refine AllReadyH.cons rfl (fun K hK=>?_) AllReadyH.nil
   go_simp
   refine(CS.out _ (HVb.out.trans ((Below.refl _ _).drew))).mono ?_
   rintro e V1 ⟨rfl,hk⟩
   have HB1:Hid (Below V.heap.size V V1):=below_first hk (Nat.le_refl _)
   go_wp2_with fail
   refine hK.out _ _ (⟨keepC hk (hH.1),keepC hk (hH.2.1),keepC hk (hH.2.2)⟩) (fun hH=>?_)
   clear hK K
   try go_simp
   refine tI 15 (.tuple #[.int .u32 y,.bool true,.bool U]) rfl hH ?_;try go_simp
   refine tI 16 (.int .u32 y) rfl hH ?_;try go_simp
   refine tI 17 (.bool true) rfl hH ?_;try go_simp
   refine tI 18 (.bool U) rfl hH ?_;try go_simp
   refine tI 19 (.int .u32 y) rfl hH ?_;try go_simp
   refine tI 20 (.bool true) rfl hH ?_;try go_simp
   refine tI 21 (.bool U) rfl hH ?_;try go_simp
   refine wpAnyH_done (by kernel_rfl) ?_ _
   have HF1:Hid (Below w.heap.size w V1):=HVb.out.trans (HB1.out.mono HVb.out.size)
   have HR:Hid (V1.heap[w.heap.size]?=some (.cells (ivL zin) 77 (0,0))):=(HB1.out.block _ (heap_lt HV.out)).trans HV.out
   clear hH HVb HV HB1 k335 k39 k337 CS hk
   go_wp2_with fail
   refine(CD.out _ (HT.out.below HF1.out HT.out.size)).mono ?_
   rintro e V2 ⟨rfl,hk2⟩
   have HR:Hid (V2.heap[w.heap.size]?=some (.cells (ivL zin) 77 (0,0))):=(hk2.block _ (heap_lt HR.out)).trans HR.out
   have HF1:Hid (Below w.heap.size w V2):=HF1.out.trans (hk2.mono HF1.out.size)
   clear hk2 CD
   go_upto_region 7 with fail
   refine Wi.one_box (Φ:=fun W=>Code.wp _ _ _ _ W) ?_
   intro V3 hV3 hb3
   have HR:Hid (V3.heap[w.heap.size]?=some (.cells (ivL zin) 77 (0,0))):=(hb3.block _ (heap_lt HR.out)).trans HR.out
   have HF1:Hid (Below w.heap.size w V3):=HF1.out.trans (hb3.mono HF1.out.size)
   have HV3:Hid (V3.heap[V2.heap.size]?=some (.cells (ivL i) 77 (0,0))):=hV3
   clear hV3 hb3
   generalize V2.heap.size=z at*
   go_wp2_with(first|refine wpList_load_row rfl 77 _ rfl _ rfl 77 _ (0,0) _ HV3.out Tryz.underlying77 rfl (ivL_ok i).1 ?_|refine wpList_store_row rfl 77 _ _ rfl _ _ rfl rfl 77 _ HR.out (ivL_ok i).1 (ivL_ok i).2.1 (ivL_ok i).2.2 ?_)
   exact bodyPost_ret (v:=.tuple #[ivI i,.int .i64 0]) (res_row2 Tryz.results77 _ _ _ 77 _ (0,0) _ _ rfl rfl (set_row HR.out) Tryz.underlying77 rfl (ivL_ok i).1) rfl ⟨rfl,below_setRow HF1.out _⟩
end Go.Proofs.YtpiohehijkpghabGreatDoor.Co
namespace Go.Proofs.YtpiohehijkpghabGreatDoor
open Go.RowKit
open Hy
set_option linter.unusedVariables false
theorem scatter_any (h a n c:Nat) (m B:Nat) (W:Int) (f:Nat→Int) (hm:m=1∨m=2∨m=4) (hmn:a+m≤n) (hn:n≤140737488355328) (W0:0≤W) (W1:W≤4294967295) (w:World) (H:Fr w B h n f):
  Calls Tryz.prog 87 #[.slice (some ⟨h,a,none⟩) (n-a) c,.int .u32 m,.int .u32 W] w fun e w'=>e=.returned (.tuple #[])∧Fr w' B h n (sto f a W m)∧Below B w w'∧w'.heap.size=w.heap.size:=by
 go_enter Tryz.func87,Tryz.ntmps87
 go_wp2
 go_loopw [6,8] (fun i k wr=>∃j:Nat,j≤m∧k=.int .u32 j∧Fr wr B h n (sto f a W j)∧Below B w wr∧wr.heap.size=w.heap.size) (fun _ k _=>m-(intOf k).toNat)
 case atStart=>exact⟨0,by omega,rfl,H.congr fun i _=>by unfold sto;rw[if_neg (by omega)],Below.refl _ _,rfl⟩
 case round=>
  obtain⟨j,hj,rfl,hF,hB,hS⟩:=hrel
  by_cases hlt:j<m
  ·have c0:=hF.cell (a+j) (by omega)
   have z0:=hF.free (a+j) (by omega)
   rcases(by omega:j=0∨j=1∨j=2∨j=3)with rfl|rfl|rfl|rfl
   ·rw[Nat.add_zero]at c0 z0
    go_wp2
    refine⟨⟨1,by omega,rfl,hF.step (j:=0) (by omega) _ (by rw[show p256 0=1 from rfl,Int.ediv_one]),hB.setCell hF.base _,by simpa using hS⟩,by simp[intOf];omega⟩
   ·go_wp2
    refine⟨⟨2,by omega,rfl,hF.step (j:=1) (by omega) _ rfl,hB.setCell hF.base _,by simpa using hS⟩,by simp[intOf];omega⟩
   ·go_wp2
    refine⟨⟨3,by omega,rfl,hF.step (j:=2) (by omega) _ rfl,hB.setCell hF.base _,by simpa using hS⟩,by simp[intOf];omega⟩
   ·go_wp2
    refine⟨⟨4,by omega,rfl,hF.step (j:=3) (by omega) _ (by rw[show p256 3=16777216 from rfl];omega),hB.setCell hF.base _,by simpa using hS⟩,by simp[intOf];omega⟩
  ·obtain rfl:j=m:=by omega
   go_wp2
   go_end0
   exact⟨rfl,hF,hB,hS⟩
theorem Store_any (g o n c:Nat) (op:Int) (a m:Nat) (W:Int) (f:Nat→Int) (hM:stn op=(m:Int)) (hn:n≤140737488355328) (a1:a≤4294967295) (h0:0<m) (h1:a%m=0) (h2:a+m≤n) (hnc:n≤c) (W0:0≤W) (W1:W≤4294967295) (w:World)
  (hc:Lies w g o n f):
  Calls Tryz.prog 63 #[.slice (some ⟨g,o,none⟩) n c,.int .i64 op,.int .u32 a,.int .u32 W] w fun e w'=>(∃h cap,e=.returned (.tuple #[.slice (some ⟨h,0,none⟩) n cap,.bool true])∧n≤cap∧Fr w' w.heap.size h n (sto f a W m))∧Below w.heap.size w w':=by
 have hm':=stn_cases op
 have hm:m=1∨m=2∨m=4:=by omega
 have C1:=fun w=>Stores_yes (some ⟨g,o,none⟩) n c op a hn (by omega) (by omega) (by rw[hM];exact⟨by omega,by omega,by omega⟩) w
 rw[hM]at C1 hm'
 have C3:=fun w hc=>Clone_any g o n c f (by omega) hn w hc
 clear hm'
 go_enter Tryz.func63,Tryz.ntmps63
 go_wp2_with fail
 refine(C1 _).mono ?_
 rintro e w' ⟨rfl,rfl⟩
 go_wp2_with fail
 refine(C3 _ hc).mono ?_
 rintro e w1 ⟨⟨h,cap,rfl,hcap,hmax,hF⟩,hB⟩
 clear C1 C3
 go_wp2_with fail
 refine(scatter_any h a n (cap-a) m w'.heap.size W f hm (by omega) hn W0 W1 w1 hF).mono ?_
 rintro e w2 ⟨rfl,hF2,hB2,hS2⟩
 go_wp2_with fail
 go_ret2
 exact⟨⟨h,cap,rfl,hcap,hF2⟩,hB.trans hB2⟩
theorem onC_no (pc v:Int) {rd:Nat} (h:rd=0):onC pc rd v=⟨pc,(pc+4)%4294967296,0,0,0,0,0,0,0,false,0⟩:=by subst h;rfl
theorem onC_yes (pc v:Int) {rd:Nat} (h:¬rd=0):onC pc rd v=⟨pc,(pc+4)%4294967296,0,0,rd,v,0,0,0,false,0⟩:=by unfold onC;rw[if_neg h]
end Go.Proofs.YtpiohehijkpghabGreatDoor
