/- Harts and bytes as a law's arguments; the two tables out of the row's list. -/
import Derived.OpenShut
import Derived.ProofKit
import Derived.Lib.LaidTab
import Derived.Deep.DeepHandedRow
import Derived.SizedLaws
import Derived.Test.YtpiohehijkpghabGreatDoorG53
import Derived.Test.YtpiohehijkpghabGreatDoorG23
import Derived.Test.YtpiohehijkpghabGreatDoorG13
import Derived.Test.YtpiohehijkpghabGreatDoorG12
set_option maxRecDepth 100000
set_option maxHeartbeats 4000000
namespace Go.Proofs.YtpiohehijkpghabGreatDoor.Co
open Go.RowKit
open Hy
open Wi Od Re.Hy
open Gu.Hy (Tb tcs)
set_option linter.unusedVariables false
set_option linter.unusedSimpArgs false
theorem wrapW (n:Int) (h0:0≤n) (h1:n≤1000000):IntKind.i64.wrap n=n:=by
 simp[IntKind.wrap,IntKind.bits,IntKind.signed]
 try omega
theorem one_boxC {Φ:World→Prop} {w:World} {A:Obj} (h:∀W:World,W.heap[w.heap.size]?=some A→Below w.heap.size w W→Φ W):Φ (w.alloc A):=h _ (heap_alloc_new _ _) ((Below.refl _ _).alloc (Nat.le_refl _) _)
theorem goes_facts (win phys wide:Int) (n:Nat) (R:Nat→Int) (pc st ca:Int) (f:Nat→Int) (scr:List Int) (cyc:Int) (hc0:0≤cyc) (hc1:cyc≤6000) (hw:1≤win) (hp:33≤phys) (hp2:phys≤96) (hwi:1≤wide):
  0≤(runN mach cyc.toNat (begin win phys wide n R pc st ca f scr)).cyc∧(runN mach cyc.toNat (begin win phys wide n R pc st ca f scr)).cyc≤cyc∧((runN mach cyc.toNat (begin win phys wide n R pc st ca f scr)).st=0→(runN mach cyc.toNat (begin win phys wide n R pc st ca f scr)).cyc=cyc)∧(runN mach cyc.toNat (begin win phys wide n R pc st ca f scr)).wide=wide∧((runN mach cyc.toNat (begin win phys wide n R pc st ca f scr)).cyc).tdiv 60≤((runN mach cyc.toNat (begin win phys wide n R pc st ca f scr)).coms.length:Int)∧((runN mach cyc.toNat (begin win phys wide n R pc st ca f scr)).coms.length:Int)≤(runN mach cyc.toNat (begin win phys wide n R pc st ca f scr)).cyc*wide:=by
 have G0:=begin_good (M:=mach) win phys wide n R pc st ca f scr hw hp hp2 hwi
 have h0:(begin win phys wide n R pc st ca f scr).cyc=0:=rfl
 have h1:(begin win phys wide n R pc st ca f scr).wide=wide:=rfl
 have hk:((cyc.toNat:Nat):Int)=cyc:=Int.toNat_of_nonneg hc0
 obtain⟨G,a,b,c,_⟩:=runN_good mach_ok cyc.toNat _ G0 (by rw[h0];omega)
 obtain⟨r,hr⟩:∃r,r=runN mach cyc.toNat (begin win phys wide n R pc st ca f scr):=⟨_,rfl⟩
 rw[←hr]at G a b c⊢
 rw[h0]at a b
 rw[h1]at c
 have hm:=G.many
 rw[c]at hm
 have hcy:=G.cyc
 refine⟨hcy,by omega,fun h=>by have:=b h;omega,c,?_,hm⟩
 rw[Int.tdiv_eq_ediv_of_nonneg hcy]
 rcases G.goes with h|h<;>omega
theorem coreGoes_no (win phys wide:Int) (H:Array Value) (hm:Bool) (HH:Hid ((Tryz.prog.info? 27).map (·.size)=some H.size)) (CM:Hid (∀W,Calls Tryz.prog 16 #[.agg H] W fun e w'=>e=.returned (.bool hm)∧Below W.heap.size W w')) (mp:Option Addr) (n mc:Nat) (sp:Option Addr) (sn sc:Nat) (cyc:Int) (hn:n≤140737488355328) (hsn:sn≤140737488355328) (w:World) (CQ:Hid (∀W,Calls Tryz.prog 13 #[.agg H] W fun e w'=>e=.returned (.bool hm)∧Below W.heap.size W w')) (CODE:wrongN (mayC win phys wide) hm n sn cyc≠0):
  Calls Tryz.prog 4 #[.agg #[.int .i64 win,.int .i64 phys,.int .i64 wide],.agg H,.slice mp n mc,.slice sp sn sc,.int .i64 cyc] w fun e w'=>e=.returned (.bool true)∧Below w.heap.size w w':=by
 have CW:=fun W=>lwrong_any win phys wide H hm HH CQ mp n mc sp sn sc cyc hn hsn W
 obtain⟨cd,hcd⟩:∃c,c=wrongN (mayC win phys wide) hm n sn cyc:=⟨_,rfl⟩
 rw[←hcd]at CW CODE
 clear hcd
 go_enter Tryz.func4,Tryz.ntmps4
 go_upto_region 1 with fail
 refine Wi.two_boxes (Φ:=fun W=>Code.wp _ _ _ _ W) ?_
 intro V e1 e2 hb hsz
 have HQ:Hid (V.heap[w.heap.size+1]?=some (.cells H 27 (0,0))):=e2
 have k0:V.cell? ⟨w.heap.size,0,none⟩=some (.int .i64 win):=by rw[cell_of_row _ _ _ _ _ _ e1];rfl
 have k1:V.cell? ⟨w.heap.size,1,none⟩=some (.int .i64 phys):=by rw[cell_of_row _ _ _ _ _ _ e1];rfl
 have k2:V.cell? ⟨w.heap.size,2,none⟩=some (.int .i64 wide):=by rw[cell_of_row _ _ _ _ _ _ e1];rfl
 have HB:Hid (Below w.heap.size w V):=hb
 have hqV:w.heap.size+1<V.heap.size:=by omega
 clear e1 e2 hb hsz
 obtain⟨h,hh⟩:∃h,h=w.heap.size+1:=⟨_,rfl⟩
 obtain⟨q,hq⟩:∃q,q=w.heap.size:=⟨_,rfl⟩
 rw[←hh]at HQ hqV⊢
 rw[←hq]at k0 k1 k2⊢
 have HQW:Hid (q=w.heap.size∧h=w.heap.size+1):=⟨hq,hh⟩
 clear hq hh
 go_wp2_with(refine wpList_load_row rfl 27 _ rfl _ rfl 27 _ (0,0) _ HQ.out Tryz.underlying27 rfl HH.out ?_)
 refine(CW _).mono ?_
 rintro e V1 ⟨rfl,hk1⟩
 have B1:Hid (Below w.heap.size w V1):=HB.out.trans (hk1.mono HB.out.size)
 have Q1:Hid (V1.heap[h]?=some (.cells H 27 (0,0))):=(hk1.block h hqV).trans HQ.out
 have j0:V1.cell? ⟨q,0,none⟩=some (.int .i64 win):=keepC hk1 k0
 have j1:V1.cell? ⟨q,1,none⟩=some (.int .i64 phys):=keepC hk1 k1
 have j2:V1.cell? ⟨q,2,none⟩=some (.int .i64 wide):=keepC hk1 k2
 have hqq:q<V1.heap.size:=by have:=HQW.out;have:=hk1.size;omega
 clear hk1 HB HQ k0 k1 k2 CW hqV
 have hne:(cd != 0)=true:=by simpa using CODE
 clear CODE
 go_wp2_with fail
 go_ret
 exact⟨rfl,B1.out⟩
theorem coreGoes_yes (win phys wide:Int) (H:Array Value) (hm:Bool) (HH:Hid ((Tryz.prog.info? 27).map (·.size)=some H.size)) (CM:Hid (∀W,Calls Tryz.prog 16 #[.agg H] W fun e w'=>e=.returned (.bool hm)∧Below W.heap.size W w')) (mp:Option Addr) (n mc:Nat) (sp:Option Addr) (sn sc:Nat) (cyc:Int) (hn:n≤140737488355328) (hsn:sn≤140737488355328) (w:World) (CQ:Hid (∀W,Calls Tryz.prog 13 #[.agg H] W fun e w'=>e=.returned (.bool hm)∧Below W.heap.size W w')) (r:Cr) (CODE:wrongN (mayC win phys wide) hm n sn cyc=0)
  (CR:Hid (∀W,Below w.heap.size w W→Calls Tryz.prog 5 #[.agg #[.int .i64 win,.int .i64 phys,.int .i64 wide],.agg H,.slice mp n mc,.slice sp sn sc,.int .i64 cyc] W fun e w'=>(∃Y p c,e=.returned (.tuple #[.agg Y,.int .i64 0])∧Y.size=40∧Y.all (·.oneCell')=true∧Y[0]?=some (.slice p r.coms.length c)∧Y[34]?=some (.int .i64 r.st)∧Y[37]?=some (.int .i64 r.cyc))∧Below W.heap.size W w'))
  (hwd:1≤wide∧wide≤4) (c0:0≤r.cyc) (c1:r.cyc≤cyc) (c6:cyc≤6000) (cs:r.st=0→r.cyc=cyc) (cl:(r.cyc).tdiv 60≤(r.coms.length:Int)) (cu:(r.coms.length:Int)≤r.cyc*wide):
  Calls Tryz.prog 4 #[.agg #[.int .i64 win,.int .i64 phys,.int .i64 wide],.agg H,.slice mp n mc,.slice sp sn sc,.int .i64 cyc] w fun e w'=>e=.returned (.bool true)∧Below w.heap.size w w':=by
 have HWP:Hid (0≤r.cyc*wide∧r.cyc*wide≤24000):=⟨Int.mul_nonneg c0 (by omega),by
  have:=Int.mul_le_mul (show r.cyc≤6000 by omega) hwd.2 (by omega) (by omega)
  omega⟩
 obtain⟨len,hlen⟩:∃len,len=r.coms.length:=⟨_,rfl⟩
 obtain⟨X,hX⟩:∃X,X=r.st:=⟨_,rfl⟩
 obtain⟨C,hC⟩:∃C,C=r.cyc:=⟨_,rfl⟩
 rw[←hlen]at CR cl cu
 rw[←hX]at CR cs
 rw[←hC]at CR cs cl cu c0 c1 HWP
 clear hlen hX hC
 have CW:=fun W=>lwrong_any win phys wide H hm HH CQ mp n mc sp sn sc cyc hn hsn W
 obtain⟨cd,hcd⟩:∃c,c=wrongN (mayC win phys wide) hm n sn cyc:=⟨_,rfl⟩
 rw[←hcd]at CW CODE
 clear hcd
 go_enter Tryz.func4,Tryz.ntmps4
 go_upto_region 1 with fail
 refine Wi.two_boxes (Φ:=fun W=>Code.wp _ _ _ _ W) ?_
 intro V e1 e2 hb hsz
 have HQ:Hid (V.heap[w.heap.size+1]?=some (.cells H 27 (0,0))):=e2
 have k0:V.cell? ⟨w.heap.size,0,none⟩=some (.int .i64 win):=by rw[cell_of_row _ _ _ _ _ _ e1];rfl
 have k1:V.cell? ⟨w.heap.size,1,none⟩=some (.int .i64 phys):=by rw[cell_of_row _ _ _ _ _ _ e1];rfl
 have k2:V.cell? ⟨w.heap.size,2,none⟩=some (.int .i64 wide):=by rw[cell_of_row _ _ _ _ _ _ e1];rfl
 have HB:Hid (Below w.heap.size w V):=hb
 have hqV:w.heap.size+1<V.heap.size:=by omega
 clear e1 e2 hb hsz
 obtain⟨h,hh⟩:∃h,h=w.heap.size+1:=⟨_,rfl⟩
 obtain⟨q,hq⟩:∃q,q=w.heap.size:=⟨_,rfl⟩
 rw[←hh]at HQ hqV⊢
 rw[←hq]at k0 k1 k2⊢
 have HQW:Hid (q=w.heap.size∧h=w.heap.size+1):=⟨hq,hh⟩
 clear hq hh
 go_wp2_with(refine wpList_load_row rfl 27 _ rfl _ rfl 27 _ (0,0) _ HQ.out Tryz.underlying27 rfl HH.out ?_)
 refine(CW _).mono ?_
 rintro e V1 ⟨rfl,hk1⟩
 have B1:Hid (Below w.heap.size w V1):=HB.out.trans (hk1.mono HB.out.size)
 have Q1:Hid (V1.heap[h]?=some (.cells H 27 (0,0))):=(hk1.block h hqV).trans HQ.out
 have j0:V1.cell? ⟨q,0,none⟩=some (.int .i64 win):=keepC hk1 k0
 have j1:V1.cell? ⟨q,1,none⟩=some (.int .i64 phys):=keepC hk1 k1
 have j2:V1.cell? ⟨q,2,none⟩=some (.int .i64 wide):=keepC hk1 k2
 have hqq:q<V1.heap.size:=by have:=HQW.out;have:=hk1.size;omega
 clear hk1 HB HQ k0 k1 k2 CW hqV
 subst CODE
 go_wp2_with(refine wpList_load_row rfl 27 _ rfl _ rfl 27 _ (0,0) _ Q1.out Tryz.underlying27 rfl HH.out ?_)
 refine(CR.out _ B1.out).mono ?_
 rintro e V2 ⟨⟨Y,p,c,rfl,hYs,hYo,y0,y34,y37⟩,hk2⟩
 have B2:Hid (Below w.heap.size w V2):=B1.out.trans (hk2.mono B1.out.size)
 have i2:V2.cell? ⟨q,2,none⟩=some (.int .i64 wide):=keepC hk2 j2
 have hq2:q<V2.heap.size:=by have:=hk2.size;omega
 have HYI:Hid ((Tryz.prog.info? 32).map (·.size)=some Y.size∧40=Y.size∧Y.all (·.oneCell')=true):=⟨by rw[hYs];exact size_shown,hYs.symm,hYo⟩
 clear hk2 CR B1 Q1 j0 j1 j2 hYs hYo hqq
 go_upto_region 4 with(refine wpList_store_row rfl 32 _ _ rfl _ _ rfl rfl 32 _ (heap_alloc_new _ _) HYI.out.1 HYI.out.2.1 HYI.out.2.2 ?_;rw[World.setRow_alloc_new])
 refine one_boxC (Φ:=fun W=>Code.wp _ _ _ _ W) ?_
 intro V3 eY hb3
 have B3:Hid (Below w.heap.size w V3):=B2.out.trans (hb3.mono B2.out.size)
 have i3:V3.cell? ⟨q,2,none⟩=some (.int .i64 wide):=keepC hb3 i2
 have x0:V3.cell? ⟨V2.heap.size,0,none⟩=some (.slice p len c):=by rw[cell_of_row _ _ _ _ _ _ eY];exact y0
 have x34:V3.cell? ⟨V2.heap.size,34,none⟩=some (.int .i64 X):=by rw[cell_of_row _ _ _ _ _ _ eY];exact y34
 have x37:V3.cell? ⟨V2.heap.size,37,none⟩=some (.int .i64 C):=by rw[cell_of_row _ _ _ _ _ _ eY];exact y37
 obtain⟨g,hg⟩:∃g,g=V2.heap.size:=⟨_,rfl⟩
 rw[←hg]at x0 x34 x37⊢
 clear eY hb3 i2 hq2 HYI y0 y34 y37 B2 hg CQ CM HH
 have hlen:len≤24000:=by have:=HWP.out;omega
 have hw1:IntKind.i64.wrap (C*wide)=C*wide:=wrapW _ (by have:=HWP.out;omega) (by have:=HWP.out;omega)
 have hw2:IntKind.i64.wrap (C.tdiv 60)=C.tdiv 60:=wrapW _ (by rw[Int.tdiv_eq_ediv_of_nonneg c0];omega) (by rw[Int.tdiv_eq_ediv_of_nonneg c0];omega)
 clear HWP
 by_cases hlt:C<cyc
 ·have hX:(X==0)=false:=by
   have:¬X=0:=fun h=>by have:=cs h;omega
   simpa using this
  clear cs
  go_wp2_with fail
  go_ret
  exact⟨by simp[cl,cu],B3.out⟩
 ·clear cs
  go_wp2_with fail
  go_ret
  exact⟨by simp[cl,cu],B3.out⟩
end Go.Proofs.YtpiohehijkpghabGreatDoor.Co
namespace Go.Proofs.YtpiohehijkpghabGreatDoor
open Go.RowKit
open Hy
set_option linter.unusedVariables false
def dAt (d:DataW Unit) (i:Nat):DataW Unit:=match d with
 |.agg l=>l.getD i .nil
 |_=>.nil
def dInt (d:DataW Unit):Int:=match d with
 |.lit (.int _ z)=>z
 |_=>0
section
variable {enc:TypeId×Value→Unit} {w:World} {base:Nat} {sp:Nat→Bool} {held:Bool} {fuel:Nat} {cs:List Value} {d:DataW Unit} {p:List MemPlace}
theorem arr_at {t e:TypeId} {n:Nat} (ht:Tryz.prog.underlying t=some (.array n e)) (h:DataW.trod enc Tryz.prog w base sp held fuel t cs=some (d,p)) (i:Nat) (hi:i<n):
  ∃m q,DataW.trod enc Tryz.prog w base sp held m e ((cs.drop (i*Tryz.prog.cellsOf e)).take (Tryz.prog.cellsOf e))=some (dAt d i,q):=by
 obtain⟨xs,m,_,hx,_,hn,hall⟩:=DataW.trod_array ht h
 have hd:d=.agg (xs.map (·.1)):=congrArg Prod.fst hx
 have hlt:i<xs.length:=by omega
 refine⟨m,xs[i].2,?_⟩
 rw[hall i hi,List.getElem?_eq_getElem hlt,hd]
 simp[dAt,hlt]
theorem str_at {t:TypeId} {fs:Array Field} (ht:Tryz.prog.underlying t=some (.struct fs)) (h:DataW.trod enc Tryz.prog w base sp held fuel t cs=some (d,p)) (i:Nat) (f:Field) (hi:fs[i]?=some f):
  ∃m q,DataW.trod enc Tryz.prog w base sp held m f.type ((cs.drop f.offset).take (Tryz.prog.cellsOf f.type))=some (dAt d i,q):=by
 obtain⟨xs,m,_,hx,_,hn,hall⟩:=DataW.trod_struct ht h
 have hd:d=.agg (xs.map (·.1)):=congrArg Prod.fst hx
 have hlt:i<xs.length:=by
  have:=(Array.getElem?_eq_some_iff.1 hi).1
  omega
 refine⟨m,xs[i].2,?_⟩
 rw[hall i f hi,List.getElem?_eq_getElem hlt,hd]
 simp[dAt,hlt]
theorem int_at {o:Nat} (h:DataW.trod enc Tryz.prog w base sp held fuel 24 ((cs.drop o).take 1)=some (d,p)):cs[o]?=some (.int .u32 (dInt d)):=by
 obtain⟨z,hc,hx,_⟩:=DataW.trod_int Tryz.underlying24 h
 have hd:d=.lit (.int .u32 z):=congrArg Prod.fst hx
 have:=congrArg (·[0]?) hc
 simp[List.getElem?_drop]at this
 rw[this,hd]
 rfl
theorem part_get {l:List Value} {o n j:Nat} (hj:j<n):((l.drop o).take n)[j]?=l[o+j]?:=by
 simp[List.getElem?_drop,hj]
theorem c40:Tryz.prog.cellsOf 204=17:=by kernel_rfl
theorem c38:Tryz.prog.cellsOf 202=12:=by kernel_rfl
theorem c37:Tryz.prog.cellsOf 201=3:=by kernel_rfl
theorem c22:Tryz.prog.cellsOf 24=1:=by kernel_rfl
theorem plain_at (h:DataW.trod enc Tryz.prog w base sp held fuel 205 cs=some (d,p)) (f:Nat) (hf:f<9) (j:Nat) (hj:j<5):
  cs[f*17+j]?=some (.int .u32 (dInt (dAt (dAt d f) j))):=by
 obtain⟨m,q,h1⟩:=arr_at Tryz.underlying205 h f hf
 rw[c40]at h1
 have key:∀fl:Field,fl.type=24→fl.offset=j→(match Tryz.prog.underlying 204 with|some (.struct fs)=>fs[j]?|_=>none)=some fl→cs[f*17+j]?=some (.int .u32 (dInt (dAt (dAt d f) j))):=by
  intro fl t1 t2 t3
  rw[Tryz.underlying204]at t3
  obtain⟨m2,q2,h2⟩:=str_at Tryz.underlying204 h1 j fl t3
  rw[t1,t2,c22]at h2
  have:=int_at h2
  rwa [part_get (by omega)]at this
 rcases(by omega:j=0∨j=1∨j=2∨j=3∨j=4)with rfl|rfl|rfl|rfl|rfl
 all_goals(refine key _ ?_ ?_ (by rw[Tryz.underlying204];rfl)<;>rfl)
theorem deep_at (h:DataW.trod enc Tryz.prog w base sp held fuel 205 cs=some (d,p)) (f:Nat) (hf:f<9) (k:Nat) (hk:k<4) (l:Nat) (hl:l<3):
  cs[f*17+(5+(k*3+l))]?=some (.int .u32 (dInt (dAt (dAt (dAt (dAt d f) 5) k) l))):=by
 obtain⟨m,q,h1⟩:=arr_at Tryz.underlying205 h f hf
 rw[c40]at h1
 obtain⟨m2,q2,h2⟩:=str_at Tryz.underlying204 h1 5 _ rfl
 have h2':DataW.trod enc Tryz.prog w base sp held m2 202 ((((cs.drop (f*17)).take 17).drop 5).take 12)=some (dAt (dAt d f) 5,q2):=by rw[←c38];exact h2
 obtain⟨m3,q3,h3⟩:=arr_at Tryz.underlying202 h2' k hk
 rw[c37]at h3
 have key:∀fl:Field,fl.type=24→fl.offset=l→(match Tryz.prog.underlying 201 with|some (.struct fs)=>fs[l]?|_=>none)=some fl→cs[f*17+(5+(k*3+l))]?=some (.int .u32 (dInt (dAt (dAt (dAt (dAt d f) 5) k) l))):=by
  intro fl t1 t2 t3
  rw[Tryz.underlying201]at t3
  obtain⟨m4,q4,h4⟩:=str_at Tryz.underlying201 h3 l fl t3
  rw[t1,t2,c22]at h4
  have:=int_at h4
  rwa [part_get (by omega),part_get (by omega),part_get (by omega)]at this
 rcases(by omega:l=0∨l=1∨l=2)with rfl|rfl|rfl
 all_goals(refine key _ ?_ ?_ (by rw[Tryz.underlying201];rfl)<;>rfl)
end
abbrev forms0:DataW Unit:=Rows.laid_humpyard_decode_forms
theorem plain_val:∀f,f<9→∀j,j<5→dInt (dAt (dAt forms0 f) j)=ftab.getD (f*17+j) 0:=by decide
theorem deep_val:∀f,f<9→∀k,k<4→∀l,l<3→dInt (dAt (dAt (dAt (dAt forms0 f) 5) k) l)=ftab.getD (f*17+(5+(k*3+l))) 0:=by decide
theorem gTab:Tryz.prog.globalNamed "humpyard/decode.forms" =some 1:=by kernel_rfl
theorem gTabType:(Tryz.prog.globals[1]?).map (·.type)=some 205:=by kernel_rfl
theorem tab_of_laid {W:World} (h:laidMet Tryz.prog [("humpyard/decode.forms",forms0)] W):Tab W:=by
 obtain⟨ps,⟨g',t',cs,fuel,p,q,hg',ht',hvar,hd,_,_⟩,_⟩:=h
 obtain rfl:=Option.some.inj (gTab.symm.trans hg')
 obtain rfl:=Option.some.inj (gTabType.symm.trans ht')
 intro i hi
 rw[World.var?_cell gTab hvar i]
 have hr:i%17<17:=Nat.mod_lt _ (by omega)
 have hm:i=i/17*17+i%17:=by omega
 have hf:i/17<9:=by omega
 by_cases h5:i%17<5
 ·have h1:=plain_at hd (i/17) hf (i%17) h5
  rw[plain_val _ hf _ h5,←hm]at h1
  simpa using h1
 ·have e:5+((i%17-5)/3*3+(i%17-5)%3)=i%17:=by omega
  have h1:=deep_at hd (i/17) hf ((i%17-5)/3) (by omega) ((i%17-5)%3) (by omega)
  rw[deep_val _ hf _ (by omega) _ (by omega),e,←hm]at h1
  simpa using h1
end Go.Proofs.YtpiohehijkpghabGreatDoor
namespace Go.Proofs.YtpiohehijkpghabGreatDoor
open Go.ChangeShapes Go.WideShapes Go.ChangeAt Go.RowKit
open Hy
set_option linter.unusedVariables false
theorem hcs_sizeT (R:Nat→Int) (pc st ca:Int):(hcs R pc st ca).size=35:=rfl
theorem hcs_regT (R:Nat→Int) (pc st ca:Int) (j:Nat) (hj:j<32):(hcs R pc st ca)[j]?=some (.int .u32 (R j)):=
 match j,hj with
 |0,_=>rfl
 |1,_=>rfl
 |2,_=>rfl
 |3,_=>rfl
 |4,_=>rfl
 |5,_=>rfl
 |6,_=>rfl
 |7,_=>rfl
 |8,_=>rfl
 |9,_=>rfl
 |10,_=>rfl
 |11,_=>rfl
 |12,_=>rfl
 |13,_=>rfl
 |14,_=>rfl
 |15,_=>rfl
 |16,_=>rfl
 |17,_=>rfl
 |18,_=>rfl
 |19,_=>rfl
 |20,_=>rfl
 |21,_=>rfl
 |22,_=>rfl
 |23,_=>rfl
 |24,_=>rfl
 |25,_=>rfl
 |26,_=>rfl
 |27,_=>rfl
 |28,_=>rfl
 |29,_=>rfl
 |30,_=>rfl
 |31,_=>rfl
 |n+32,h=>absurd h (by omega)
section
variable {H:Type} {enc:TypeId×Value→H} {w:World} {base:Nat} {sp:Nat→Bool} {held:Bool} {fuel:Nat} {cs:List Value} {d:DataW H} {p:List MemPlace}
theorem hint_at {t:TypeId} {k:IntKind} {o:Nat} (ht:Tryz.prog.underlying t=some (.int k)) (h:DataW.trod enc Tryz.prog w base sp held fuel t ((cs.drop o).take 1)=some (d,p)):∃z,cs[o]?=some (.int k z)∧(Lit.int k z).wf=true:=by
 obtain⟨z,hc,hx,hw⟩:=DataW.trod_int ht h
 have:=congrArg (·[0]?) hc
 refine⟨z,?_,hw⟩
 simpa[List.getElem?_take,List.getElem?_drop]using this
theorem hstr_at {t:TypeId} {fs:Array Field} (ht:Tryz.prog.underlying t=some (.struct fs)) (h:DataW.trod enc Tryz.prog w base sp held fuel t cs=some (d,p)) (i:Nat) (f:Field) (hi:fs[i]?=some f):
  ∃m d' q,DataW.trod enc Tryz.prog w base sp held m f.type ((cs.drop f.offset).take (Tryz.prog.cellsOf f.type))=some (d',q):=by
 obtain⟨xs,m,_,hx,_,hn,hall⟩:=DataW.trod_struct ht h
 have hlt:i<fs.size:=(Array.getElem?_eq_some_iff.1 hi).1
 obtain⟨x,hxx⟩:∃x,xs[i]?=some x:=⟨xs[i]'(by rw[hn];simpa using hlt),List.getElem?_eq_getElem _⟩
 exact⟨m,x.1,x.2,hall i f hi|>.trans (by rw[hxx])⟩
theorem harr_at {t e:TypeId} {n:Nat} (ht:Tryz.prog.underlying t=some (.array n e)) (h:DataW.trod enc Tryz.prog w base sp held fuel t cs=some (d,p)) (i:Nat) (hi:i<n):
  ∃m d' q,DataW.trod enc Tryz.prog w base sp held m e ((cs.drop (i*Tryz.prog.cellsOf e)).take (Tryz.prog.cellsOf e))=some (d',q):=by
 obtain⟨xs,m,_,hx,_,hn,hall⟩:=DataW.trod_array ht h
 obtain⟨x,hxx⟩:∃x,xs[i]?=some x:=⟨xs[i]'(by omega),List.getElem?_eq_getElem _⟩
 exact⟨m,x.1,x.2,hall i hi|>.trans (by rw[hxx])⟩
theorem k22:Tryz.prog.cellsOf 24=1:=by kernel_rfl
theorem k3:Tryz.prog.cellsOf 3=1:=by kernel_rfl
theorem k32:Tryz.prog.cellsOf 25=32:=by kernel_rfl
theorem hart_cells {v:Array Value} (hsz:v.size=35) (h:DataW.trod enc Tryz.prog w base sp held fuel 27 v.toList=some (d,p)):
  ∃(R:Nat→Int) (pc st ca:Int),v=hcs R pc st ca∧(∀i,i<32→0≤R i∧R i≤4294967295)∧0≤pc∧pc≤4294967295:=by
 obtain⟨m0,d0,q0,e0⟩:=hstr_at Tryz.underlying27 h 0 _ rfl
 obtain⟨m1,d1,q1,e1⟩:=hstr_at Tryz.underlying27 h 1 _ rfl
 obtain⟨m2,d2,q2,e2⟩:=hstr_at Tryz.underlying27 h 2 _ rfl
 obtain⟨m3,d3,q3,e3⟩:=hstr_at Tryz.underlying27 h 3 _ rfl
 have e0':DataW.trod enc Tryz.prog w base sp held m0 25 ((v.toList.drop 0).take 32)=some (d0,q0):=by rw[←k32];exact e0
 have e1':DataW.trod enc Tryz.prog w base sp held m1 24 ((v.toList.drop 32).take 1)=some (d1,q1):=by rw[←k22];exact e1
 have e2':DataW.trod enc Tryz.prog w base sp held m2 3 ((v.toList.drop 33).take 1)=some (d2,q2):=by rw[←k3];exact e2
 have e3':DataW.trod enc Tryz.prog w base sp held m3 3 ((v.toList.drop 34).take 1)=some (d3,q3):=by rw[←k3];exact e3
 obtain⟨pc,c1,w1⟩:=hint_at Tryz.underlying24 e1'
 obtain⟨st,c2,_⟩:=hint_at Tryz.underlying3 e2'
 obtain⟨ca,c3,_⟩:=hint_at Tryz.underlying3 e3'
 have hr:∀i,i<32→∃z,v[i]?=some (.int .u32 z)∧(Lit.int .u32 z).wf=true:=fun i hi=>by
  obtain⟨m,d',q,e⟩:=harr_at Tryz.underlying25 e0' i hi
  rw[k22,Nat.mul_one]at e
  obtain⟨z,hz,hw⟩:=hint_at Tryz.underlying24 e
  refine⟨z,?_,hw⟩
  rw[←hz]
  simp[hi]
 have key:∀i,∃z,i<32→v[i]?=some (.int .u32 z)∧(Lit.int .u32 z).wf=true:=fun i=>by
  by_cases hi:i<32
  ·obtain⟨z,hz⟩:=hr i hi
   exact⟨z,fun _=>hz⟩
  ·exact⟨0,fun h=>absurd h hi⟩
 obtain⟨R,hR⟩:∃R:Nat→Int,∀i,i<32→v[i]?=some (.int .u32 (R i))∧(Lit.int .u32 (R i)).wf=true:=⟨fun i=>(key i).choose,fun i=>(key i).choose_spec⟩
 refine⟨R,pc,st,ca,?_,fun i hi=>bounds_u32 (hR i hi).2,(bounds_u32 w1).1,(bounds_u32 w1).2⟩
 apply Array.ext_getElem?
 intro i
 by_cases hi:i<32
 ·rw[(hR i hi).1,hcs_regT R pc st ca i hi]
 ·by_cases h2:i<35
  ·rcases(by omega:i=32∨i=33∨i=34)with rfl|rfl|rfl
   ·have:v[32]?=some (.int .u32 pc):=by simpa using c1
    rw[this];rfl
   ·have:v[33]?=some (.int .i64 st):=by simpa using c2
    rw[this];rfl
   ·have:v[34]?=some (.int .i64 ca):=by simpa using c3
    rw[this];rfl
  ·rw[Array.getElem?_eq_none (by omega),Array.getElem?_eq_none (by rw[hcs_sizeT];omega)]
end
abbrev imm0:DataW Unit:=Rows.laid_humpyard_hart_immediate
theorem gImmG:Tryz.prog.globalNamed "humpyard/hart.immediate" =some 0:=by kernel_rfl
theorem gImmT:(Tryz.prog.globals[0]?).map (·.type)=some 195:=by kernel_rfl
theorem imm_val:∀i,i<49→dInt (dAt imm0 i)=itab.getD i 0:=by decide
theorem tabs_of_laid {W:World} (h:laidMet Tryz.prog [("humpyard/decode.forms",forms0),("humpyard/hart.immediate",imm0)] W):Tab W∧Tab2 W:=by
 obtain⟨ps,⟨g,t,cs,fuel,p,q,hg,ht,hvar,hd,hrest,hps⟩,hnd,hcell⟩:=h
 constructor
 ·refine tab_of_laid ⟨MemPlace.row ⟨g,0,none⟩ cs.size++p++[],⟨g,t,cs,fuel,p,[],hg,ht,hvar,hd,rfl,rfl⟩,?_,fun b off hb=>hcell b off ?_⟩
  ·rw[hps]at hnd
   rw[List.append_nil]
   exact(List.nodup_append.1 hnd).1
  ·rw[hps]
   rw[List.append_nil]at hb
   exact List.mem_append_left _ hb
 ·obtain⟨g2,t2,cs2,fuel2,p2,q2,hg2,ht2,hvar2,hd2,_,_⟩:=hrest
  obtain rfl:=Option.some.inj (gImmG.symm.trans hg2)
  obtain rfl:=Option.some.inj (gImmT.symm.trans ht2)
  intro i hi
  rw[World.var?_cell gImmG hvar2 i]
  obtain⟨m,q,h1⟩:=arr_at Tryz.underlying195 hd2 i hi
  rw[k3,Nat.mul_one]at h1
  obtain⟨z,hc,hx,_⟩:=DataW.trod_int Tryz.underlying3 h1
  have hz:dInt (dAt imm0 i)=z:=by
   have:=congrArg Prod.fst hx
   simp only at this
   rw[this];rfl
  have:=congrArg (·[0]?) hc
  rw[←imm_val i hi,hz]
  simpa[List.getElem?_take,List.getElem?_drop]using this
end Go.Proofs.YtpiohehijkpghabGreatDoor
