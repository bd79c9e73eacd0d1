/- From the row's list to the table's cells: the variable holds the forms as the program's text lays them. -/
import Derived.OpenShut
import Derived.ProofKit
import Derived.Lib.LaidTab
import Derived.Deep.DeepHandedRow
import Derived.Test.YtpiohehijkpghacGreatDoorG42
import Derived.Test.YtpiohehijkpghacGreatDoorG01
import Derived.Test.YtpiohehijkpghacGreatDoorG18
import Derived.Test.YtpiohehijkpghacGreatDoorG10
set_option maxRecDepth 100000
set_option maxHeartbeats 4000000
namespace Go.Proofs.YtpiohehijkpghacGreatDoor.Co
open Go.RowKit
open Hy
open Wi Od Re.Hy
open Gu.Hy (Tb tcs)
set_option linter.unusedVariables false
set_option linter.unusedSimpArgs false
theorem three_boxes {Φ:World→Prop} {w:World} {A B C:Obj} (h:∀W:World,W.heap[w.heap.size]?=some A→W.heap[w.heap.size+1]?=some B→W.heap[w.heap.size+2]?=some C→Below w.heap.size w W→w.heap.size+3≤W.heap.size→Φ W):Φ (((w.alloc A).alloc B).alloc C):=by
 refine h _ ?_ ?_ ?_ ((((Below.refl _ _).alloc (Nat.le_refl _) _).alloc (by simp) _).alloc (by simp;omega) _) (by simp)
 ·rw[(((Below.refl ((w.alloc A).alloc B).heap.size ((w.alloc A).alloc B)).alloc (Nat.le_refl _) C)).block w.heap.size (by simp;omega)]
  exact heap_alloc2_old _ _ _
 ·rw[(((Below.refl ((w.alloc A).alloc B).heap.size ((w.alloc A).alloc B)).alloc (Nat.le_refl _) C)).block (w.heap.size+1) (by simp)]
  exact heap_alloc2_new _ _ _
 ·have:=heap_alloc_new ((w.alloc A).alloc B) C
  simpa using this
def zsh (i:Nat):Value:=if i=0 then .slice none 0 0 else if i<34 then .int .u32 0 else if i<36 then .int .i64 0 else if i=36 then .slice none 0 0 else .int .i64 0
theorem built_zsh:Tryz.prog.built 32 []=some (rowOf zsh 40):=by kernel_rfl
theorem size_shown:(Tryz.prog.info? 32).map (·.size)=some 40:=by kernel_rfl
theorem zsh_one (i:Nat):(zsh i).oneCell'=true:=by
 unfold zsh
 split
 ·rfl
 ·split
  ·rfl
  ·split
   ·rfl
   ·split<;>rfl
theorem zsh_no8:∀(j:Nat) (x:Int),(rowOf zsh 40)[j]?≠some (.int .u8 x:Value):=fun j x h=>by
 have hj:j<40:=by have:=(Array.getElem?_eq_some_iff.1 h).1;rw[rowOf_size]at this;exact this
 rw[rowOf_get _ hj]at h
 have h:=Option.some.inj h
 unfold zsh at h
 split at h
 ·cases h
 ·split at h
  ·cases h
  ·split at h
   ·cases h
   ·split at h<;>cases h
theorem set_other {w:World} {g k:Nat} {Y:Array Value} (h:k≠g):(w.setRow g Y).heap[k]?=w.heap[k]?:=setRow_other w g k _ h
def shw (s:Cr) (L:Sls) (i:Nat):Value:=kat s L (3+i)
theorem St.shown {N:Nat} {w:World} {b:Nat} {s:Cr} {L:Sls} (S:St N w b s L):w.rangeAt b 3 (rowOf (shw s L) 40).toList:=range_of_row S.row (by omega) (fun j _=>rfl)
theorem us_one {w:World} {e size:Nat} {v:Value} {n:Nat} {xs:List Value} (h:Us w e size v n xs):v.oneCell'=true:=by
 obtain⟨p,c,rfl⟩:=h.slice
 rfl
theorem St.shown_ones {N:Nat} {w:World} {b:Nat} {s:Cr} {L:Sls} (S:St N w b s L):(rowOf (shw s L) 40).all (·.oneCell')=true:=row_ones _ _ fun i hi=>by
 show(kat s L (3+i)).oneCell'=true
 by_cases h0:i=0
 ·subst h0
  exact us_one S.its.ic
 ·by_cases h1:i<36
  ·have e:kat s L (3+i)=hat s.R s.pc s.st s.ca (i-1):=by rw[show 3+i=4+(i-1) by omega];exact at_hart s L (i-1) (by omega)
   rw[e]
   exact hat_one _ _ _ _ _
  ·rcases(by omega:i=36∨i=37∨i=38∨i=39)with rfl|rfl|rfl|rfl
   ·obtain⟨p,c,e,_⟩:=S.its.im
    show L.m.oneCell'=true
    rw[e];rfl
   ·rfl
   ·rfl
   ·rfl
theorem wpList_build0 {P:Program} {ops:Array Oper} {rest:List Oper} {o:Oper} {a:Act} {w:World} {Q:Exit→Act→World→Prop} (hg:o.guard=none) (t:TypeId) (ho:o.op=.build t #[]) (cells:Array Value)
  (hb:P.built t []=some cells)
  (h:wpList P ops Q rest (a.put o.dst (.agg cells)) w):wpList P ops Q (o::rest) a w:=
 wpList_build_to hg t _ ho cells (by simp[hb]) h
theorem below_to {w V W:World} {b:Nat} {L L':Sls} (h:Below w.heap.size w V) (T:To b V L W L') (hb:∀g,own b L g→w.heap.size≤g):Below w.heap.size w W:=
 ⟨T.os.trans h.os,T.tape.trans h.tape,T.output.trans h.output,Nat.le_trans h.size T.size,fun k hk=>(T.block k (Nat.lt_of_lt_of_le hk h.size) (fun ho=>by have:=hb k ho;omega)).trans (h.block k hk)⟩
theorem runN_stop {M:Mc} {k:Nat} {s:Cr} (h:¬s.st=0):runN M k s=s:=by
 cases k with
 |zero=>rfl
 |succ k=>unfold runN;rw[if_neg h]
theorem cRun_wrong (win phys wide:Int) (H:Array Value) (hm:Bool) (HH:Hid ((Tryz.prog.info? 27).map (·.size)=some H.size)) (CM:Hid (∀W,Calls Tryz.prog 25 #[.agg H] W fun e w'=>e=.returned (.bool hm)∧Below W.heap.size W w')) (mp:Option Addr) (n mc:Nat) (sp:Option Addr) (sn sc:Nat) (cyc:Int) (hn:n≤140737488355328) (hsn:sn≤140737488355328) (w:World) (CODE:wrongN (mayC win phys wide) hm n sn cyc≠0):
  Calls Tryz.prog 6 #[.agg #[.int .i64 win,.int .i64 phys,.int .i64 wide],.agg H,.slice mp n mc,.slice sp sn sc,.int .i64 cyc] w fun e w'=>e=.returned (.tuple #[.agg (rowOf zsh 40),.int .i64 (wrongN (mayC win phys wide) hm n sn cyc)])∧Below w.heap.size w w':=by
 obtain⟨cd,hcd⟩:∃c,c=wrongN (mayC win phys wide) hm n sn cyc:=⟨_,rfl⟩
 rw[←hcd]
 have HCD:Hid (cd=wrongN (mayC win phys wide) hm n sn cyc):=hcd
 clear hcd
 have CW:=fun W=>cwrong_any win phys wide H hm HH CM mp n mc sp sn sc cyc hn hsn W
 obtain⟨code,hcode⟩:∃c,c=wrongN (mayC win phys wide) hm n sn cyc:=⟨_,rfl⟩
 rw[←hcode]at CW CODE HCD
 clear hcode
 obtain⟨Z,hZ⟩:∃Z,Z=rowOf zsh 40:=⟨_,rfl⟩
 have HZ:Hid (Tryz.prog.built 32 []=some Z):=by rw[hZ];exact built_zsh
 have HZI:Hid ((Tryz.prog.info? 32).map (·.size)=some Z.size∧40=Z.size∧Z.all (·.oneCell')=true):=by rw[hZ];exact⟨by rw[rowOf_size];exact size_shown,(rowOf_size _ _).symm,row_ones _ _ fun i _=>zsh_one i⟩
 have HZZ:Hid (Z=rowOf zsh 40):=hZ
 clear hZ
 go_enter Tryz.func6,Tryz.ntmps6
 go_upto_region 1 with fail
 refine three_boxes (Φ:=fun W=>Code.wp _ _ _ _ W) ?_
 intro V e1 e2 e3 hb hsz
 have HQ:Hid (V.heap[w.heap.size+1]?=some (.cells H 27 (0,0))):=e2
 have HR0:Hid (∃cur,V.heap[w.heap.size+2]?=some (.cells cur 32 (0,0))∧cur.size=40∧∀(j:Nat) (x:Int),cur[j]?≠some (.int .u8 x:Value)):=⟨rowOf zsh 40,e3,rowOf_size _ _,zsh_no8⟩
 have k0:V.cell? ⟨w.heap.size,0,none⟩=some (.int .i64 win):=by rw[cell_of_row _ _ _ _ _ _ e1];rfl
 have k1:V.cell? ⟨w.heap.size,1,none⟩=some (.int .i64 phys):=by rw[cell_of_row _ _ _ _ _ _ e1];rfl
 have k2:V.cell? ⟨w.heap.size,2,none⟩=some (.int .i64 wide):=by rw[cell_of_row _ _ _ _ _ _ e1];rfl
 have HB:Hid (Below w.heap.size w V):=hb
 have hqV:w.heap.size+2<V.heap.size:=by omega
 clear e1 e2 e3 hb hsz
 obtain⟨g,hg⟩:∃g,g=w.heap.size+2:=⟨_,rfl⟩
 obtain⟨h,hh⟩:∃h,h=w.heap.size+1:=⟨_,rfl⟩
 obtain⟨q,hq⟩:∃q,q=w.heap.size:=⟨_,rfl⟩
 rw[←hg]at HR0 hqV⊢
 rw[←hh]at HQ⊢
 rw[←hq]at k0 k1 k2⊢
 have HQW:Hid (q=w.heap.size∧h=w.heap.size+1∧g=w.heap.size+2):=⟨hq,hh,hg⟩
 clear hq hh hg
 go_wp2_with(refine wpList_load_row rfl 27 _ rfl _ rfl 27 _ (0,0) _ HQ.out Tryz.underlying27 rfl HH.out ?_)
 refine(CW _).mono ?_
 rintro e V1 ⟨rfl,hk1⟩
 have B1:Hid (Below w.heap.size w V1):=HB.out.trans (hk1.mono HB.out.size)
 have Q1:Hid (V1.heap[h]?=some (.cells H 27 (0,0))):=(hk1.block h (by have:=HQW.out;omega)).trans HQ.out
 obtain⟨cur,hcur,hcs,hc8⟩:=HR0.out
 have HC8:Hid (∀(j:Nat) (x:Int),cur[j]?≠some (.int .u8 x:Value)):=hc8
 clear hc8
 have R1:Hid (V1.heap[g]?=some (.cells cur 32 (0,0))):=(hk1.block g hqV).trans hcur
 have HCS:Hid (40=cur.size):=hcs.symm
 have hc:=HCD.out
 subst hc
 have hne:(cd != 0)=true:=by simpa using CODE
 clear hk1 HB HQ HR0 hcur hcs CW k0 k1 k2 CM HCD
 go_wp2_with(first|(refine wpList_build0 rfl 32 rfl Z HZ.out ?_)|(refine wpList_store_row rfl 32 _ _ rfl _ _ rfl rfl 32 _ R1.out HZI.out.1 (HCS.out.symm.trans HZI.out.2.1) HZI.out.2.2 ?_))
 refine bodyPost_ret (v:=.tuple #[.agg Z,.int .i64 cd]) (res_row2 Tryz.results6 _ _ _ 32 _ (0,0) _ _ rfl rfl (set_row R1.out) Tryz.underlying32 rfl HZI.out.1) rfl ⟨by rw[HZZ.out],below_setRow B1.out _ (by have:=HQW.out;omega)⟩
theorem cRun_ok (win phys wide:Int) (H:Array Value) (hm:Bool) (HH:Hid ((Tryz.prog.info? 27).map (·.size)=some H.size)) (CM:Hid (∀W,Calls Tryz.prog 25 #[.agg H] W fun e w'=>e=.returned (.bool hm)∧Below W.heap.size W w')) (mp:Option Addr) (n mc:Nat) (sp:Option Addr) (sn sc:Nat) (cyc:Int) (hn:n≤140737488355328) (hsn:sn≤140737488355328) (w:World) (R:Nat→Int) (pc st ca:Int) (hHr:H=rowOf (hat R pc st ca) 35) (CODE:wrongN (mayC win phys wide) hm n sn cyc=0) (tb:Tab w) (tb2:Tab2 w) (hR:∀i,i<32→U32 (R i)) (hpc:U32 pc) (f:Nat→Int) (hM:LC w mp n mc 1 (bcs f n)) (hf:∀i,i<n→0≤f i∧f i≤255) (scr:List Int) (hscr:scr.length=sn) (hS:LC w sp sn sc 1 (ics scr)):
  Calls Tryz.prog 6 #[.agg #[.int .i64 win,.int .i64 phys,.int .i64 wide],.agg H,.slice mp n mc,.slice sp sn sc,.int .i64 cyc] w fun e w'=>(∃L:Sls,e=.returned (.tuple #[.agg (rowOf (shw (runN mach cyc.toNat (begin win phys wide n R pc st ca f scr)) L) 40),.int .i64 0])∧Us w' 68 11 L.c (runN mach cyc.toNat (begin win phys wide n R pc st ca f scr)).coms.length (flat cml (runN mach cyc.toNat (begin win phys wide n R pc st ca f scr)).coms)∧(∃p c,L.m=.slice p (runN mach cyc.toNat (begin win phys wide n R pc st ca f scr)).n c∧Bys w' p (runN mach cyc.toNat (begin win phys wide n R pc st ca f scr)).n c (runN mach cyc.toNat (begin win phys wide n R pc st ca f scr)).f)∧Gd mach ⟨R,pc,st,ca,f⟩ (runN mach cyc.toNat (begin win phys wide n R pc st ca f scr)))∧Below w.heap.size w w':=by
 have hC:=CODE
 unfold wrongN at hC
 have hw1:mayC win phys wide=true∧hm=true∧n≤4096:=by
  by_cases h:mayC win phys wide=false∨hm=false∨4096<n
  ·rw[if_pos h]at hC;omega
  ·refine⟨?_,?_,by omega⟩
   ·cases hx:mayC win phys wide with
    |true=>rfl
    |false=>exact absurd (.inl hx) h
   ·cases hx:hm with
    |true=>rfl
    |false=>exact absurd (.inr (.inl hx)) h
 rw[if_neg (by rw[hw1.1,hw1.2.1];simp;omega)]at hC
 have hsn3:¬3000<sn:=fun h=>by rw[if_pos h]at hC;omega
 rw[if_neg hsn3]at hC
 have hcy:0≤cyc∧cyc≤6000:=Classical.byContradiction fun h=>by rw[if_pos h]at hC;omega
 have hmy:(1≤win∧win≤32)∧(33≤phys∧phys≤96)∧(1≤wide∧wide≤4):=by
  have:=hw1.1
  unfold mayC at this
  simp at this
  omega
 have hn4:=hw1.2.2
 have G0:Hid (Gd mach ⟨R,pc,st,ca,f⟩ (begin win phys wide n R pc st ca f scr)):=gd_begin mach_ok win phys wide n R pc st ca f scr hmy.1.1 hmy.1.2 hmy.2.1.1 hmy.2.1.2 hmy.2.2.1 hmy.2.2.2 hn4 hf hR hpc
 obtain⟨cy,hcyN⟩:∃cy:Nat,cyc=(cy:Int):=Int.eq_ofNat_of_zero_le hcy.1
 subst hcyN
 have hcy6:cy≤6000:=by omega
 have ecy:((cy:Nat):Int).toNat=cy:=Int.toNat_natCast cy
 rw[ecy]
 obtain⟨s0,hs0⟩:∃s0,s0=begin win phys wide n R pc st ca f scr:=⟨_,rfl⟩
 obtain⟨r,hr⟩:∃r,r=runN mach cy s0:=⟨_,rfl⟩
 have CBg:Hid (∀W,Below w.heap.size w W→Calls Tryz.prog 12 #[.agg #[.int .i64 win,.int .i64 phys,.int .i64 wide],.agg H,.slice mp n mc,.slice sp sn sc] W fun e w'=>(∃b L,e=.returned (.pointer (some ⟨b,0,none⟩))∧St w.heap.size w' b s0 L∧∀g,own b L g→W.heap.size≤g)∧Below W.heap.size W w'):=fun W hW=>by
  rw[hHr,hs0,←hscr]
  rw[←hscr]at hS
  exact cbegin_any hW.size tb.size tb2.size (tb.below hW tb.size) (tb2.below hW tb2.size) win phys wide hmy.2.1.1 hmy.2.1.2 R pc st ca mp n mc f (hM.below (Nat.le_refl _) hW) hn4 hf sp sc scr (hS.below (Nat.le_refl _) hW)
 rw[←hs0]at G0⊢
 rw[←hr]
 have HRR:Hid (runN mach cy s0=r):=hr.symm
 have hcyc0:Hid (s0.cyc=0):=by rw[hs0];rfl
 clear hC hw1 hsn3 hcy hmy hs0 hr ecy hHr tb tb2 hM hS hf hR hpc hscr
 have CW:=fun W=>cwrong_any win phys wide H hm HH CM mp n mc sp sn sc (cy:Int) hn hsn W
 obtain⟨code,hcode⟩:∃c,c=wrongN (mayC win phys wide) hm n sn (cy:Int):=⟨_,rfl⟩
 rw[←hcode]at CW CODE
 clear hcode
 obtain⟨Z,hZ⟩:∃Z,Z=rowOf zsh 40:=⟨_,rfl⟩
 have HZ:Hid (Tryz.prog.built 32 []=some Z):=by rw[hZ];exact built_zsh
 have HZI:Hid ((Tryz.prog.info? 32).map (·.size)=some Z.size∧40=Z.size∧Z.all (·.oneCell')=true):=by rw[hZ];exact⟨by rw[rowOf_size];exact size_shown,(rowOf_size _ _).symm,row_ones _ _ fun i _=>zsh_one i⟩
 have HZZ:Hid (Z=rowOf zsh 40):=hZ
 clear hZ
 go_enter Tryz.func6,Tryz.ntmps6
 go_upto_region 1 with fail
 refine three_boxes (Φ:=fun W=>Code.wp _ _ _ _ W) ?_
 intro V e1 e2 e3 hb hsz
 have HQ:Hid (V.heap[w.heap.size+1]?=some (.cells H 27 (0,0))):=e2
 have HR0:Hid (∃cur,V.heap[w.heap.size+2]?=some (.cells cur 32 (0,0))∧cur.size=40∧∀(j:Nat) (x:Int),cur[j]?≠some (.int .u8 x:Value)):=⟨rowOf zsh 40,e3,rowOf_size _ _,zsh_no8⟩
 have k0:V.cell? ⟨w.heap.size,0,none⟩=some (.int .i64 win):=by rw[cell_of_row _ _ _ _ _ _ e1];rfl
 have k1:V.cell? ⟨w.heap.size,1,none⟩=some (.int .i64 phys):=by rw[cell_of_row _ _ _ _ _ _ e1];rfl
 have k2:V.cell? ⟨w.heap.size,2,none⟩=some (.int .i64 wide):=by rw[cell_of_row _ _ _ _ _ _ e1];rfl
 have HB:Hid (Below w.heap.size w V):=hb
 have hqV:w.heap.size+2<V.heap.size:=by omega
 clear e1 e2 e3 hb hsz
 obtain⟨g,hg⟩:∃g,g=w.heap.size+2:=⟨_,rfl⟩
 obtain⟨h,hh⟩:∃h,h=w.heap.size+1:=⟨_,rfl⟩
 obtain⟨q,hq⟩:∃q,q=w.heap.size:=⟨_,rfl⟩
 rw[←hg]at HR0 hqV⊢
 rw[←hh]at HQ⊢
 rw[←hq]at k0 k1 k2⊢
 have HQW:Hid (q=w.heap.size∧h=w.heap.size+1∧g=w.heap.size+2):=⟨hq,hh,hg⟩
 clear hq hh hg
 go_wp2_with(refine wpList_load_row rfl 27 _ rfl _ rfl 27 _ (0,0) _ HQ.out Tryz.underlying27 rfl HH.out ?_)
 refine(CW _).mono ?_
 rintro e V1 ⟨rfl,hk1⟩
 have B1:Hid (Below w.heap.size w V1):=HB.out.trans (hk1.mono HB.out.size)
 have Q1:Hid (V1.heap[h]?=some (.cells H 27 (0,0))):=(hk1.block h (by have:=HQW.out;omega)).trans HQ.out
 obtain⟨cur,hcur,hcs,hc8⟩:=HR0.out
 have HC8:Hid (∀(j:Nat) (x:Int),cur[j]?≠some (.int .u8 x:Value)):=hc8
 clear hc8
 have R1:Hid (V1.heap[g]?=some (.cells cur 32 (0,0))):=(hk1.block g hqV).trans hcur
 have HCS:Hid (40=cur.size):=hcs.symm
 subst CODE
 have k0':V1.cell? ⟨q,0,none⟩=some (.int .i64 win):=keepC hk1 k0
 have k1':V1.cell? ⟨q,1,none⟩=some (.int .i64 phys):=keepC hk1 k1
 have k2':V1.cell? ⟨q,2,none⟩=some (.int .i64 wide):=keepC hk1 k2
 clear hk1 HB HQ HR0 hcur hcs CW CM k0 k1 k2
 go_wp2_with(refine wpList_load_row rfl 27 _ rfl _ rfl 27 _ (0,0) _ Q1.out Tryz.underlying27 rfl HH.out ?_)
 refine(CBg.out _ B1.out).mono ?_
 rintro e V2 ⟨⟨b,L,rfl,u1,hbV⟩,hk2⟩
 have S2:Hid (St w.heap.size V2 b s0 L):=u1
 have B2:Hid (Below w.heap.size w V2):=B1.out.trans (hk2.mono B1.out.size)
 have R2:Hid (V2.heap[g]?=some (.cells cur 32 (0,0))):=(hk2.block g (Array.getElem?_eq_some_iff.1 R1.out).1).trans R1.out
 have hgL:¬own b L g:=fun ho=>by have:=hbV g ho;have:=(Array.getElem?_eq_some_iff.1 R1.out).1;omega
 have HGL:Hid (¬own b L g):=hgL
 clear u1 hk2 hgL CBg B1 Q1 R1 k0' k1' k2' hbV
 go_wp2_with fail
 go_loopw [30] (fun i wr=>∃k:Nat,k≤cy∧i=.int .i64 (k:Int)∧Hid (∃s' L',St w.heap.size wr b s' L'∧To b V2 L wr L'∧Gd mach ⟨R,pc,st,ca,f⟩ s'∧s'.cyc≤(k:Int)∧runN mach (cy-k) s'=r))
  (fun i _=>cy-(intOf i).toNat)
 case atStart=>exact⟨0,by omega,rfl,s0,L,S2.out,To.refl b V2 L,G0.out,by rw[hcyc0.out];exact Int.le_refl _,HRR.out⟩
 case round=>
  obtain⟨k,hk,rfl,s',L',S3,T3,G3,c3,R3⟩:=hrel
  have k37:wr.cell? ⟨b,37,none⟩=some (.int .i64 s'.st):=(cell_at S3.row (by omega)).trans rfl
  have HS3:Hid (St w.heap.size wr b s' L'):=S3
  have HT3:Hid (To b V2 L wr L'):=T3
  have HG3:Hid (Gd mach ⟨R,pc,st,ca,f⟩ s'∧s'.cyc≤(k:Int)∧runN mach (cy-k) s'=r):=⟨G3,c3,R3⟩
  clear S3 T3 G3 c3 R3 G0 HRR hcyc0
  by_cases hlt:k<cy
  ·by_cases h0:s'.st=0
   ·have k37':wr.cell? ⟨b,37,none⟩=some (.int .i64 0):=by rw[k37,h0]
    have CY:Hid (Calls Tryz.prog 13 #[.pointer (some ⟨b,0,none⟩)] wr fun e w'=>e=.returned (.tuple #[])∧∃L'',St w.heap.size w' b (cycle mach s') L''∧To b wr L' w' L''):=ccycle_any HS3.out HG3.out.1 h0 (by have:=HG3.out.2.1;omega)
    have HG4:Hid (Gd mach ⟨R,pc,st,ca,f⟩ (cycle mach s')∧(cycle mach s').cyc≤((k+1:Nat):Int)∧runN mach (cy-(k+1)) (cycle mach s')=r):=by
     have h6:s'.cyc<6000:=by have:=HG3.out.2.1;omega
     refine⟨gd_cycle mach_ok mach_mr HG3.out.1 h0 h6,?_,?_⟩
     ·rw[(cycle_good mach_ok HG3.out.1.good h0 h6).2.1]
      have:=HG3.out.2.1
      push_cast
      omega
     ·have:=HG3.out.2.2
      obtain⟨j,hj⟩:∃j,cy-k=j+1:=⟨cy-k-1,by omega⟩
      rw[hj,runN,if_pos h0]at this
      rw[show cy-(k+1)=j by omega]
      exact this
    clear HG3 k37 h0
    go_wp2_with fail
    refine CY.out.mono ?_
    rintro e V4 ⟨rfl,L4,u4,t4⟩
    have S4:Hid (St w.heap.size V4 b (cycle mach s') L4):=u4
    have T4:Hid (To b V2 L V4 L4):=HT3.out.trans t4
    clear u4 t4 HS3 HT3 CY k37'
    go_wp2_with fail
    exact⟨⟨k+1,by omega,by go_num,_,L4,S4.out,T4.out,HG4.out.1,HG4.out.2.1,HG4.out.2.2⟩,by simp[intOf];omega⟩
   ·have hst:((s'.st:Int) != 0)=true:=by simpa using h0
    have HRS:Hid (s'=r):=by show _=_;rw[←HG3.out.2.2,runN_stop h0]
    have HGX:Hid (Gd mach ⟨R,pc,st,ca,f⟩ s'):=HG3.out.1
    clear HG3 h0
    have e:=HRS.out
    subst e
    have B3:Hid (Below w.heap.size w wr):=below_to B2.out HT3.out (fun g hg=>S2.out.its.base g hg)
    have R3:Hid (wr.heap[g]?=some (.cells cur 32 (0,0))):=(HT3.out.block g (Array.getElem?_eq_some_iff.1 R2.out).1 HGL.out).trans R2.out
    obtain⟨Y,hY⟩:∃Y,Y=(rowOf (shw s' L') 40).toList.toArray:=⟨_,rfl⟩
    have HY:Hid (Y=(rowOf (shw s' L') 40).toList.toArray):=hY
    have HYI:Hid ((Tryz.prog.info? 32).map (·.size)=some Y.size∧40=Y.size∧Y.all (·.oneCell')=true):=by rw[hY];refine⟨?_,?_,HS3.out.shown_ones⟩<;>rw[Array.toArray_toList,rowOf_size];exact size_shown
    have HSL:Hid ((Tryz.prog.info? 32).map (·.size)=some (rowOf (shw s' L') 40).toList.length):=by show _=_;rw[Array.length_toList,rowOf_size];exact size_shown
    have HGO:Hid (¬own b L' g):=fun ho=>not_own HT3.out.fresh HGL.out (Array.getElem?_eq_some_iff.1 R2.out).1 ho
    have HGD:Hid (Gd mach ⟨R,pc,st,ca,f⟩ s'):=HGX.out
    clear hY HRS
    go_wp2_with(first|(refine wpList_load_mid rfl 32 _ rfl b 3 rfl (rowOf (shw s' L') 40).toList _ HS3.out.shown Tryz.underlying32 rfl HSL.out ?_;rw[←HY.out])|(refine wpList_store_row rfl 32 _ _ rfl _ _ rfl rfl 32 _ R3.out HYI.out.1 (HCS.out.symm.trans HYI.out.2.1) HYI.out.2.2 ?_))
    refine bodyPost_ret (v:=.tuple #[.agg Y,.int .i64 0]) (res_row2 Tryz.results6 _ _ _ 32 _ (0,0) _ _ rfl rfl (set_row R3.out) Tryz.underlying32 rfl HYI.out.1) rfl ⟨⟨L',by rw[HY.out],?_,?_,HGD.out⟩,below_setRow B3.out _ (by have:=HQW.out;omega)⟩
    ·exact HS3.out.its.ic.move fun x hx=>set_other (fun e=>HGO.out (.inr (.inl (by rw[←e];exact hx))))
    ·obtain⟨pm,cm,em,hm'⟩:=HS3.out.its.im
     refine⟨pm,cm,em,bys_move hm' fun h0 x hx=>set_other (fun e=>?_)⟩
     obtain⟨g',o',e',hl⟩:=hm'.hm h0
     rw[hx]at e'
     cases e'
     have hcl:=hl 0 h0
     rw[show g'=g from e,cell_of_row _ _ _ _ _ _ R3.out]at hcl
     exact HC8.out _ _ hcl
  ·have HRS:Hid (s'=r):=by
    show _=_
    have:=HG3.out.2.2
    rw[show cy-k=0 by omega]at this
    exact this
   have HGX:Hid (Gd mach ⟨R,pc,st,ca,f⟩ s'):=HG3.out.1
   clear HG3
   have e:=HRS.out
   subst e
   have B3:Hid (Below w.heap.size w wr):=below_to B2.out HT3.out (fun g hg=>S2.out.its.base g hg)
   have R3:Hid (wr.heap[g]?=some (.cells cur 32 (0,0))):=(HT3.out.block g (Array.getElem?_eq_some_iff.1 R2.out).1 HGL.out).trans R2.out
   obtain⟨Y,hY⟩:∃Y,Y=(rowOf (shw s' L') 40).toList.toArray:=⟨_,rfl⟩
   have HY:Hid (Y=(rowOf (shw s' L') 40).toList.toArray):=hY
   have HYI:Hid ((Tryz.prog.info? 32).map (·.size)=some Y.size∧40=Y.size∧Y.all (·.oneCell')=true):=by rw[hY];refine⟨?_,?_,HS3.out.shown_ones⟩<;>rw[Array.toArray_toList,rowOf_size];exact size_shown
   have HSL:Hid ((Tryz.prog.info? 32).map (·.size)=some (rowOf (shw s' L') 40).toList.length):=by show _=_;rw[Array.length_toList,rowOf_size];exact size_shown
   have HGO:Hid (¬own b L' g):=fun ho=>not_own HT3.out.fresh HGL.out (Array.getElem?_eq_some_iff.1 R2.out).1 ho
   have HGD:Hid (Gd mach ⟨R,pc,st,ca,f⟩ s'):=HGX.out
   clear hY HRS
   go_wp2_with(first|(refine wpList_load_mid rfl 32 _ rfl b 3 rfl (rowOf (shw s' L') 40).toList _ HS3.out.shown Tryz.underlying32 rfl HSL.out ?_;rw[←HY.out])|(refine wpList_store_row rfl 32 _ _ rfl _ _ rfl rfl 32 _ R3.out HYI.out.1 (HCS.out.symm.trans HYI.out.2.1) HYI.out.2.2 ?_))
   refine bodyPost_ret (v:=.tuple #[.agg Y,.int .i64 0]) (res_row2 Tryz.results6 _ _ _ 32 _ (0,0) _ _ rfl rfl (set_row R3.out) Tryz.underlying32 rfl HYI.out.1) rfl ⟨⟨L',by rw[HY.out],?_,?_,HGD.out⟩,below_setRow B3.out _ (by have:=HQW.out;omega)⟩
   ·exact HS3.out.its.ic.move fun x hx=>set_other (fun e=>HGO.out (.inr (.inl (by rw[←e];exact hx))))
   ·obtain⟨pm,cm,em,hm'⟩:=HS3.out.its.im
    refine⟨pm,cm,em,bys_move hm' fun h0 x hx=>set_other (fun e=>?_)⟩
    obtain⟨g',o',e',hl⟩:=hm'.hm h0
    rw[hx]at e'
    cases e'
    have hcl:=hl 0 h0
    rw[show g'=g from e,cell_of_row _ _ _ _ _ _ R3.out]at hcl
    exact HC8.out _ _ hcl
theorem eqlCm (c:Cm):∀w,(binOp .neq 68 (.agg (cml c).toArray) (.agg (cml c).toArray)).run Tryz.prog w=.ok (.bool false) w:=by
 intro w
 unfold cml
 go_simp
theorem vSame_0 (p1 p2:Option Addr) (c1 c2:Nat) (w:World):Calls Tryz.prog 7 #[.slice p1 0 c1,.slice p2 0 c2] w fun e w'=>e=.returned (.bool true)∧Below w.heap.size w w':=by
 go_enter Tryz.func7,Tryz.ntmps7
 go_wp2
 go_loopw [5] (fun ct wr=>ct=.int .i64 0∧wr=w) (fun _ _=>0)
 case atStart=>exact⟨rfl,rfl⟩
 case round=>
  obtain⟨rfl,rfl⟩:=hrel
  go_wp2
  go_ret
  exact⟨rfl,Below.refl _ _⟩
theorem vSame_c (C:Nat→List Value) (g1 o1 g2 o2 m c1 c2:Nat) (hm:m≤4000) (hC:Hid (∀i,(C i).length=11)) (hq:∀j w,(binOp .neq 68 (.agg (C j).toArray) (.agg (C j).toArray)).run Tryz.prog w=.ok (.bool false) w) (w:World) (r1:Hid (∀j,j<m→w.rangeAt g1 (o1+j*11) (C j))) (r2:Hid (∀j,j<m→w.rangeAt g2 (o2+j*11) (C j))):
  Calls Tryz.prog 7 #[.slice (some ⟨g1,o1,none⟩) m c1,.slice (some ⟨g2,o2,none⟩) m c2] w fun e w'=>e=.returned (.bool true)∧Below w.heap.size w w':=by
 go_enter Tryz.func7,Tryz.ntmps7
 go_wp2
 go_loopw [5] (fun ct wr=>∃i:Nat,i≤m∧ct=.int .i64 i∧Hid (wr.heap=w.heap∧Below w.heap.size w wr)) (fun ct _=>m-(intOf ct).toNat)
 case atStart=>exact⟨0,by omega,rfl,rfl,Below.refl _ _⟩
 case round=>
  obtain⟨i,him,rfl,hrel⟩:=hrel
  by_cases hlt:i<m
  ·have hI:Hid ((Tryz.prog.info? 68).map (·.size)=some (C i).length):=size_commit.trans (congrArg some (hC.out i).symm)
   have hq:=hq i
   go_upto_region 6 with fail
   refine wp_region_held_drew (S:=fun w'=>w'.heap=w.heap) (by kernel_rfl) hrel.out.1 (fun hH=>?_)
   refine tI 0 (.slice (some ⟨g1,o1,none⟩) m c1) rfl hH ?_;try go_simp
   refine tI 1 (.int .i64 i) rfl hH ?_;try go_simp
   refine tI 2 (.pointer (some ⟨g1,o1+i*11,none⟩)) rfl hH ?_;try go_simp
   refine tH 3 (.agg (C i).toArray) rfl (yieldsIf_load_mid (by rfl) 68 _ rfl g1 (o1+i*11) rfl (C i) _ (fun w' hSw j v hv=>(World.cell?_of_block (w:=w) (a:=⟨g1,o1+i*11+j,none⟩) (by rw[hSw])).trans (r1.out i hlt j v hv)) Tryz.underlying68 rfl hI.out) hH ?_;try go_simp
   refine tI 4 (.slice (some ⟨g2,o2,none⟩) m c2) rfl hH ?_;try go_simp
   refine tI 5 (.int .i64 i) rfl hH ?_;try go_simp
   refine tI 6 (.pointer (some ⟨g2,o2+i*11,none⟩)) rfl hH ?_;try go_simp
   refine tH 7 (.agg (C i).toArray) rfl (yieldsIf_load_mid (by rfl) 68 _ rfl g2 (o2+i*11) rfl (C i) _ (fun w' hSw j v hv=>(World.cell?_of_block (w:=w) (a:=⟨g2,o2+i*11+j,none⟩) (by rw[hSw])).trans (r2.out i hlt j v hv)) Tryz.underlying68 rfl hI.out) hH ?_;try go_simp
   refine tI 8 (.bool false) rfl hH ?_;try go_simp
   refine wpAnyH_done (by kernel_rfl) ?_ _
   try go_simp
   go_wp2_with fail
   go_roundw
   case rel=>exact⟨i+1,by omega,by go_num,hrel.out.1,hrel.out.2.drew⟩
   case measure=>simp[intOf];omega
  ·obtain rfl:i=m:=by omega
   go_wp2_with fail
   go_ret
   exact⟨rfl,hrel.out.2⟩
theorem lc_rng {w:World} {p:Option Addr} {n c:Nat} {l:List Cm} (h:LC w p n c 11 (flat cml l)) (hl:l.length=n) (h0:0<n):∃g o,p=some ⟨g,o,none⟩∧∀j,j<n→w.rangeAt g (o+j*11) (cml (l.getD j zcm)):=by
 obtain⟨g,o,rfl,_,hc⟩:=h.sure h0
 refine⟨g,o,rfl,fun j hj i u hu=>?_⟩
 have hx:l[j]?=some (l.getD j zcm):=by rw[List.getD_eq_getElem?_getD,List.getElem?_eq_getElem (by omega)];rfl
 have:=hc _ _ (flat_at cml_len hx hu)
 rw[show o+j*11+i=o+(j*11+i) by omega]
 exact this
theorem sameU {w:World} {p1 p2:Option Addr} {n c1 c2:Nat} {l:List Cm} (hl:l.length=n) (hn:n≤4000) (h1:LC w p1 n c1 11 (flat cml l)) (h2:LC w p2 n c2 11 (flat cml l)):
  Calls Tryz.prog 7 #[.slice p1 n c1,.slice p2 n c2] w fun e w'=>e=.returned (.bool true)∧Below w.heap.size w w':=by
 by_cases h0:n=0
 ·subst h0
  exact vSame_0 p1 p2 c1 c2 w
 ·obtain⟨g1,o1,rfl,r1⟩:=lc_rng h1 hl (by omega)
  obtain⟨g2,o2,rfl,r2⟩:=lc_rng h2 hl (by omega)
  exact vSame_c (fun j=>cml (l.getD j zcm)) g1 o1 g2 o2 n c1 c2 hn (fun _=>cml_len _) (fun j w=>eqlCm _ w) w r1 r2
theorem lc_first {w:World} {a:Option Addr} {n c:Nat} {l:List Cm} (h:LC w a n c 11 (flat cml l)) (hl:l.length=n) (k:Nat) (hk:k≤n):LC w a k c 11 (flat cml (l.take k)):=by
 refine⟨by rw[flat_len cml_len];simp;omega,by have:=h.le;omega,h.top,fun h'=>⟨by have:=(h.nil h').1;omega,(h.nil h').2⟩,flat_one cml_one _,fun x hx h0=>?_⟩
 obtain⟨b,o,e,hb,hc⟩:=h.ad x hx (by omega)
 refine⟨b,o,e,hb,fun j u hj=>hc j u ?_⟩
 rw[flat_take cml_len l k (by omega)]at hj
 have hlt:=(List.getElem?_eq_some_iff.1 hj).1
 rw[List.getElem?_take_of_lt (by simp at hlt;omega)]at hj
 exact hj
theorem alike {M:Mc} {h0:Hs} {r s:Cr} (hr:Ref M h0 r) (hs:Ref M h0 s) (hn:r.n=s.n) (k:Nat) (k1:k≤r.coms.length) (k2:k≤s.coms.length):r.coms.take k=s.coms.take k:=by
 rw[hr.coms,hs.coms,hn]
 apply List.ext_getElem?
 intro i
 by_cases hi:i<k
 ·rw[List.getElem?_take_of_lt hi,List.getElem?_take_of_lt hi]
  simp[show i<r.coms.length by omega,show i<s.coms.length by omega]
 ·rw[List.getElem?_eq_none (by simp;omega),List.getElem?_eq_none (by simp;omega)]
theorem some_com {M:Mc} {h0:Hs} {r:Cr} (hG:Good M h0 r) (n:Int) (hn:200≤n) (h:h0.st=0) (hc:r.st=0→r.cyc=n):0<r.coms.length:=by
 refine Classical.byContradiction fun hz=>?_
 have hz:r.coms.length=0:=by omega
 have hi:=hG.ref.is
 rw[hz]at hi
 have hst:r.st=h0.st:=congrArg Hs.st hi
 have:=hc (hst.trans h)
 rcases hG.goes with g|g<;>omega
theorem wpList_load_rowW {P:Program} {ops:Array Oper} {rest:List Oper} {o:Oper} {a:Act} {w:World} {Q:Exit→Act→World→Prop} (hw:Region.wanted o (yielded ops a.tmps)=true) (ty:TypeId) (x:Operand) (ho:o.op=.load ty x)
  (g:Nat) (hx:a.eval x=.pointer (some ⟨g,0,none⟩)) (t:TypeId) (cs:Array Value) (fr:Nat×Nat) (d:TypeDesc) (hg:w.heap[g]?=some (.cells cs t fr))
  (hu:P.underlying ty=some d) (hd:(match d with|.struct _|.array _ _=>true|_=>false)=true) (hi:(P.info? ty).map (·.size)=some cs.size)
  (h:wpList P ops Q rest (a.put o.dst (.agg cs)) w):wpList P ops Q (o::rest) a w:=by
 unfold wpList
 rw[if_pos hw]
 exact Or.inl (wp_load_row ty x ho g hx t cs fr d hg hu hd hi h)
theorem wrapW (n:Int) (h0:0≤n) (h1:n≤1000000):IntKind.i64.wrap n=n:=by
 simp[IntKind.wrap,IntKind.bits,IntKind.signed]
 try omega
theorem one_boxC {Φ:World→Prop} {w:World} {A:Obj} (h:∀W:World,W.heap[w.heap.size]?=some A→Below w.heap.size w W→Φ W):Φ (w.alloc A):=h _ (heap_alloc_new _ _) ((Below.refl _ _).alloc (Nat.le_refl _) _)
theorem goes_facts (win phys wide:Int) (n:Nat) (R:Nat→Int) (pc st ca:Int) (f:Nat→Int) (scr:List Int) (cyc:Int) (hc0:0≤cyc) (hc1:cyc≤6000) (hw:1≤win) (hp:33≤phys) (hp2:phys≤96) (hwi:1≤wide):
  0≤(runN mach cyc.toNat (begin win phys wide n R pc st ca f scr)).cyc∧(runN mach cyc.toNat (begin win phys wide n R pc st ca f scr)).cyc≤cyc∧((runN mach cyc.toNat (begin win phys wide n R pc st ca f scr)).st=0→(runN mach cyc.toNat (begin win phys wide n R pc st ca f scr)).cyc=cyc)∧(runN mach cyc.toNat (begin win phys wide n R pc st ca f scr)).wide=wide∧((runN mach cyc.toNat (begin win phys wide n R pc st ca f scr)).cyc).tdiv 60≤((runN mach cyc.toNat (begin win phys wide n R pc st ca f scr)).coms.length:Int)∧((runN mach cyc.toNat (begin win phys wide n R pc st ca f scr)).coms.length:Int)≤(runN mach cyc.toNat (begin win phys wide n R pc st ca f scr)).cyc*wide:=by
 have G0:=begin_good (M:=mach) win phys wide n R pc st ca f scr hw hp hp2 hwi
 have h0:(begin win phys wide n R pc st ca f scr).cyc=0:=rfl
 have h1:(begin win phys wide n R pc st ca f scr).wide=wide:=rfl
 have hk:((cyc.toNat:Nat):Int)=cyc:=Int.toNat_of_nonneg hc0
 obtain⟨G,a,b,c,_⟩:=runN_good mach_ok cyc.toNat _ G0 (by rw[h0];omega)
 obtain⟨r,hr⟩:∃r,r=runN mach cyc.toNat (begin win phys wide n R pc st ca f scr):=⟨_,rfl⟩
 rw[←hr]at G a b c⊢
 rw[h0]at a b
 rw[h1]at c
 have hm:=G.many
 rw[c]at hm
 have hcy:=G.cyc
 refine⟨hcy,by omega,fun h=>by have:=b h;omega,c,?_,hm⟩
 rw[Int.tdiv_eq_ediv_of_nonneg hcy]
 rcases G.goes with h|h<;>omega
end Go.Proofs.YtpiohehijkpghacGreatDoor.Co
namespace Go.Proofs.YtpiohehijkpghacGreatDoor
open Go.RowKit
open Hy
set_option linter.unusedVariables false
def dAt (d:DataW Unit) (i:Nat):DataW Unit:=match d with
 |.agg l=>l.getD i .nil
 |_=>.nil
def dInt (d:DataW Unit):Int:=match d with
 |.lit (.int _ z)=>z
 |_=>0
section
variable {enc:TypeId×Value→Unit} {w:World} {base:Nat} {sp:Nat→Bool} {held:Bool} {fuel:Nat} {cs:List Value} {d:DataW Unit} {p:List MemPlace}
theorem arr_at {t e:TypeId} {n:Nat} (ht:Tryz.prog.underlying t=some (.array n e)) (h:DataW.trod enc Tryz.prog w base sp held fuel t cs=some (d,p)) (i:Nat) (hi:i<n):
  ∃m q,DataW.trod enc Tryz.prog w base sp held m e ((cs.drop (i*Tryz.prog.cellsOf e)).take (Tryz.prog.cellsOf e))=some (dAt d i,q):=by
 obtain⟨xs,m,_,hx,_,hn,hall⟩:=DataW.trod_array ht h
 have hd:d=.agg (xs.map (·.1)):=congrArg Prod.fst hx
 have hlt:i<xs.length:=by omega
 refine⟨m,xs[i].2,?_⟩
 rw[hall i hi,List.getElem?_eq_getElem hlt,hd]
 simp[dAt,hlt]
theorem str_at {t:TypeId} {fs:Array Field} (ht:Tryz.prog.underlying t=some (.struct fs)) (h:DataW.trod enc Tryz.prog w base sp held fuel t cs=some (d,p)) (i:Nat) (f:Field) (hi:fs[i]?=some f):
  ∃m q,DataW.trod enc Tryz.prog w base sp held m f.type ((cs.drop f.offset).take (Tryz.prog.cellsOf f.type))=some (dAt d i,q):=by
 obtain⟨xs,m,_,hx,_,hn,hall⟩:=DataW.trod_struct ht h
 have hd:d=.agg (xs.map (·.1)):=congrArg Prod.fst hx
 have hlt:i<xs.length:=by
  have:=(Array.getElem?_eq_some_iff.1 hi).1
  omega
 refine⟨m,xs[i].2,?_⟩
 rw[hall i f hi,List.getElem?_eq_getElem hlt,hd]
 simp[dAt,hlt]
theorem int_at {o:Nat} (h:DataW.trod enc Tryz.prog w base sp held fuel 24 ((cs.drop o).take 1)=some (d,p)):cs[o]?=some (.int .u32 (dInt d)):=by
 obtain⟨z,hc,hx,_⟩:=DataW.trod_int Tryz.underlying24 h
 have hd:d=.lit (.int .u32 z):=congrArg Prod.fst hx
 have:=congrArg (·[0]?) hc
 simp[List.getElem?_drop]at this
 rw[this,hd]
 rfl
theorem part_get {l:List Value} {o n j:Nat} (hj:j<n):((l.drop o).take n)[j]?=l[o+j]?:=by
 simp[List.getElem?_drop,hj]
theorem c40:Tryz.prog.cellsOf 113=17:=by kernel_rfl
theorem c38:Tryz.prog.cellsOf 111=12:=by kernel_rfl
theorem c37:Tryz.prog.cellsOf 110=3:=by kernel_rfl
theorem c22:Tryz.prog.cellsOf 24=1:=by kernel_rfl
theorem plain_at (h:DataW.trod enc Tryz.prog w base sp held fuel 114 cs=some (d,p)) (f:Nat) (hf:f<9) (j:Nat) (hj:j<5):
  cs[f*17+j]?=some (.int .u32 (dInt (dAt (dAt d f) j))):=by
 obtain⟨m,q,h1⟩:=arr_at Tryz.underlying114 h f hf
 rw[c40]at h1
 have key:∀fl:Field,fl.type=24→fl.offset=j→(match Tryz.prog.underlying 113 with|some (.struct fs)=>fs[j]?|_=>none)=some fl→cs[f*17+j]?=some (.int .u32 (dInt (dAt (dAt d f) j))):=by
  intro fl t1 t2 t3
  rw[Tryz.underlying113]at t3
  obtain⟨m2,q2,h2⟩:=str_at Tryz.underlying113 h1 j fl t3
  rw[t1,t2,c22]at h2
  have:=int_at h2
  rwa [part_get (by omega)]at this
 rcases(by omega:j=0∨j=1∨j=2∨j=3∨j=4)with rfl|rfl|rfl|rfl|rfl
 all_goals(refine key _ ?_ ?_ (by rw[Tryz.underlying113];rfl)<;>rfl)
theorem deep_at (h:DataW.trod enc Tryz.prog w base sp held fuel 114 cs=some (d,p)) (f:Nat) (hf:f<9) (k:Nat) (hk:k<4) (l:Nat) (hl:l<3):
  cs[f*17+(5+(k*3+l))]?=some (.int .u32 (dInt (dAt (dAt (dAt (dAt d f) 5) k) l))):=by
 obtain⟨m,q,h1⟩:=arr_at Tryz.underlying114 h f hf
 rw[c40]at h1
 obtain⟨m2,q2,h2⟩:=str_at Tryz.underlying113 h1 5 _ rfl
 have h2':DataW.trod enc Tryz.prog w base sp held m2 111 ((((cs.drop (f*17)).take 17).drop 5).take 12)=some (dAt (dAt d f) 5,q2):=by rw[←c38];exact h2
 obtain⟨m3,q3,h3⟩:=arr_at Tryz.underlying111 h2' k hk
 rw[c37]at h3
 have key:∀fl:Field,fl.type=24→fl.offset=l→(match Tryz.prog.underlying 110 with|some (.struct fs)=>fs[l]?|_=>none)=some fl→cs[f*17+(5+(k*3+l))]?=some (.int .u32 (dInt (dAt (dAt (dAt (dAt d f) 5) k) l))):=by
  intro fl t1 t2 t3
  rw[Tryz.underlying110]at t3
  obtain⟨m4,q4,h4⟩:=str_at Tryz.underlying110 h3 l fl t3
  rw[t1,t2,c22]at h4
  have:=int_at h4
  rwa [part_get (by omega),part_get (by omega),part_get (by omega)]at this
 rcases(by omega:l=0∨l=1∨l=2)with rfl|rfl|rfl
 all_goals(refine key _ ?_ ?_ (by rw[Tryz.underlying110];rfl)<;>rfl)
end
abbrev forms0:DataW Unit:=Rows.laid_humpyard_decode_forms
theorem plain_val:∀f,f<9→∀j,j<5→dInt (dAt (dAt forms0 f) j)=ftab.getD (f*17+j) 0:=by decide
theorem deep_val:∀f,f<9→∀k,k<4→∀l,l<3→dInt (dAt (dAt (dAt (dAt forms0 f) 5) k) l)=ftab.getD (f*17+(5+(k*3+l))) 0:=by decide
theorem gTab:Tryz.prog.globalNamed "humpyard/decode.forms" =some 0:=by kernel_rfl
theorem gTabType:(Tryz.prog.globals[0]?).map (·.type)=some 114:=by kernel_rfl
theorem tab_of_laid {W:World} (h:laidMet Tryz.prog [("humpyard/decode.forms",forms0)] W):Tab W:=by
 obtain⟨ps,⟨g',t',cs,fuel,p,q,hg',ht',hvar,hd,_,_⟩,_⟩:=h
 obtain rfl:=Option.some.inj (gTab.symm.trans hg')
 obtain rfl:=Option.some.inj (gTabType.symm.trans ht')
 intro i hi
 rw[World.var?_cell gTab hvar i]
 have hr:i%17<17:=Nat.mod_lt _ (by omega)
 have hm:i=i/17*17+i%17:=by omega
 have hf:i/17<9:=by omega
 by_cases h5:i%17<5
 ·have h1:=plain_at hd (i/17) hf (i%17) h5
  rw[plain_val _ hf _ h5,←hm]at h1
  simpa using h1
 ·have e:5+((i%17-5)/3*3+(i%17-5)%3)=i%17:=by omega
  have h1:=deep_at hd (i/17) hf ((i%17-5)/3) (by omega) ((i%17-5)%3) (by omega)
  rw[deep_val _ hf _ (by omega) _ (by omega),e,←hm]at h1
  simpa using h1
end Go.Proofs.YtpiohehijkpghacGreatDoor
