/- A core ahead of its first cycle: its cells. -/
import Derived.Test.YtpiohehijkpghacGreatDoorG28
import Derived.Test.YtpiohehijkpghacGreatDoorG40
import Derived.Test.YtpiohehijkpghacGreatDoorG24
set_option maxRecDepth 100000
set_option maxHeartbeats 2000000
namespace Go.Proofs.YtpiohehijkpghacGreatDoor.Co
open Go.RowKit
open Hy
open Wi Od Re.Hy
open Gu.Hy (Tb tcs)
set_option linter.unusedVariables false
set_option linter.unusedSimpArgs false
theorem tak_ok {K:Int} {s:Cr} {m:Nat→Int} (A:Al mach K s m) (hK:K≤9000000):TakOk s:=by
 have h1:=A.rg.len
 have h2:=A.len
 have h3:=A.rg.lenA
 have h4:=A.rg.tak
 exact⟨push_first A.inv,slo_low A.inv,by omega,by omega,A.rg.ask,by omega,A.rg.fro,A.tak,by omega,A.nms mach_ok,A.rg.tb⟩
theorem takN_no {M:Mc} {j:Nat} {s:Cr} (h:s.opn=false):takN M j s=s:=by
 cases j with
 |zero=>rfl
 |succ j=>unfold takN;rw[h];rfl
theorem takN_last {M:Mc} {j:Nat} {s:Cr} (h:s.opn=true) (h2:(tak1 M s).2=false):takN M (j+1) s=(tak1 M s).1:=by
 rw[takN,if_pos h,h2]
 rfl
theorem takN_on {M:Mc} {j:Nat} {s:Cr} (h:s.opn=true) (h2:(tak1 M s).2=true):takN M (j+1) s=takN M j (tak1 M s).1:=by
 rw[takN,if_pos h,h2]
 rfl
theorem ctake_any {N:Nat} {w:World} {b:Nat} {s:Cr} {L:Sls} (S:St N w b s L) {K:Int} {m:Nat→Int} (A:Al mach K s m) (hK:K≤8000000):
  Calls Tryz.prog 32 #[.pointer (some ⟨b,0,none⟩)] w fun e w'=>e=.returned (.tuple #[])∧∃L',St N w' b (takN mach s.wide.toNat s) L'∧To b w L w' L':=by
 have hw:=A.rg.wide
 have hw1:=A.wid
 obtain⟨n,hn⟩:∃n:Nat,s.wide=(n:Int):=Int.eq_ofNat_of_zero_le (by omega)
 have k2:w.cell? ⟨b,2,none⟩=some (.int .i64 (n:Int)):=(cell_at S.row (by omega)).trans (congrArg some (by rw[←hn];rfl))
 have en:s.wide.toNat=n:=by omega
 have hn4:n≤4:=by omega
 rw[en]
 have HS:Hid (St N w b s L):=S
 have HA:Hid (Al mach K s m):=A
 obtain⟨r,hr⟩:∃r,r=takN mach n s:=⟨_,rfl⟩
 rw[←hr]
 have HR:Hid (takN mach n s=r):=hr.symm
 clear S A hw hw1 en hn hr
 go_enter Tryz.func32,Tryz.ntmps32
 go_wp2_with fail
 go_loopw [7] (fun i wr=>∃k:Nat,k≤n∧i=.int .i64 (k:Int)∧Hid (∃s' L',St N wr b s' L'∧To b w L wr L'∧Al mach (K+3*k) s' m∧takN mach (n-k) s'=r))
  (fun i _=>n-(intOf i).toNat)
 case atStart=>exact⟨0,by omega,rfl,s,L,HS.out,To.refl b w L,HA.out.mono (by omega),HR.out⟩
 case round=>
  obtain⟨k,hk,rfl,s',L',S1,T1,A1,R1⟩:=hrel
  clear HS HA HR k2
  have T2:Hid (To b w L wr L'):=T1
  have A2:Hid (Al mach (K+3*k) s' m):=A1
  have R2:Hid (takN mach (n-k) s'=r):=R1
  by_cases hlt:k<n
  ·have c338:wr.cell? ⟨b,338,none⟩=some (.bool s'.opn):=(cell_at S1.row (by omega)).trans rfl
   cases ho:s'.opn with
   |false=>
    rw[ho]at c338
    have e:=takN_no (M:=mach) (j:=n-k) ho
    rw[R1]at e
    subst e
    have S2:Hid (St N wr b r L'):=S1
    clear S1 T1 A1 R1 ho A2 R2
    go_wp2_with fail
    refine bodyPost_ret (results_none rfl _ _ _) rfl ⟨rfl,L',S2.out,T2.out⟩
   |true=>
    rw[ho]at c338
    have C:Hid (Calls Tryz.prog 64 #[.pointer (some ⟨b,0,none⟩)] wr fun e w'=>e=.returned (.bool (tak1 mach s').2)∧∃L'',St N w' b (tak1 mach s').1 L''∧To b wr L' w' L''):=ctakeOne_any S1 (tak_ok A1 (by omega))
    have A3:Hid (Al mach (K+3*k+3) (tak1 mach s').1 m):=A1.take mach_ok mach_mr ho
    obtain⟨j,hj⟩:∃j,n-k=j+1:=⟨n-k-1,by omega⟩
    rw[hj]at R1
    cases h2:(tak1 mach s').2 with
    |false=>
     have R3:Hid ((tak1 mach s').1=r):=(takN_last ho h2).symm.trans R1
     rw[h2]at C
     clear S1 T1 A1 R1 A2 R2 h2 ho
     go_wp2_with fail
     refine C.out.mono ?_
     rintro e V ⟨rfl,L2,u1,u2⟩
     rw[R3.out]at u1
     have S3:Hid (St N V b r L2):=u1
     have T3:Hid (To b w L V L2):=T2.out.trans u2
     clear u1 u2 C
     go_wp2_with fail
     refine bodyPost_ret (results_none rfl _ _ _) rfl ⟨rfl,L2,S3.out,T3.out⟩
    |true=>
     have R3:Hid (takN mach j (tak1 mach s').1=r):=(takN_on ho h2).symm.trans R1
     rw[h2]at C
     have hj2:n-(k+1)=j:=by omega
     have HJ:Hid (n-(k+1)=j):=hj2
     clear S1 T1 A1 R1 A2 R2 h2 ho hj hj2
     go_wp2_with fail
     refine C.out.mono ?_
     rintro e V ⟨rfl,L2,u1,u2⟩
     have S3:Hid (St N V b (tak1 mach s').1 L2):=u1
     have T3:Hid (To b w L V L2):=T2.out.trans u2
     clear u1 u2 C
     go_wp2_with fail
     exact⟨⟨k+1,by omega,by go_num,_,L2,S3.out,T3.out,A3.out.mono (by push_cast;omega),by rw[HJ.out];exact R3.out⟩,by simp[intOf];omega⟩
  ·have hkn:k=n:=by omega
   subst hkn
   have e:takN mach (k-k) s'=s':=by rw[Nat.sub_self];rfl
   rw[R1]at e
   subst e
   have S2:Hid (St N wr b r L'):=S1
   clear S1 T1 A1 R1 A2 R2
   go_wp2_with fail
   refine bodyPost_end (results_none rfl _ _ _) rfl ⟨rfl,L',S2.out,T2.out⟩
theorem ccycle_any {N:Nat} {w:World} {b:Nat} {s:Cr} {L:Sls} (S:St N w b s L) {h0:Hs} (G:Gd mach h0 s) (hs:s.st=0) (hc6:s.cyc<6000):
  Calls Tryz.prog 13 #[.pointer (some ⟨b,0,none⟩)] w fun e w'=>e=.returned (.tuple #[])∧∃L',St N w' b (cycle mach s) L'∧To b w L w' L':=by
 obtain⟨m,A⟩:=G.al hs
 have y0:=G.good.cyc
 have hmost:=G.good.most
 have hKb:116*s.cyc≤696000:=by omega
 have A1:=al_cyc A (s.cyc+1)
 obtain⟨r,hr⟩:∃r,r=cycle mach s:=⟨_,rfl⟩
 rw[←hr]
 obtain⟨s1,hs1⟩:∃s1:Cr,s1={s with cyc:=s.cyc+1}:=⟨_,rfl⟩
 obtain⟨s2,hs2⟩:∃s2,s2=commit mach s1:=⟨_,rfl⟩
 have HR:Hid (r=if s2.st=0 then takN mach s.wide.toNat (start mach (load s2))else s2):=by show _=_;rw[hr,hs2,hs1];rfl
 rw[←hs1]at A1
 have HA2:Hid (s2.st=0→∃m',Al mach (116*s.cyc) s2 m'):=fun h=>by
  rw[hs2]at h⊢
  exact al_commit mach_ok mach_mr (h0:=h0) A1 (by rw[hs1];exact hs) (by rw[hs1];exact ref_cyc G.good.ref _) h
 have hwid:s2.wide=s.wide:=by rw[hs2,(commit_bck mach s1).2.2.1,hs1]
 have HC1:Hid (∀W L',St N W b s1 L'→Calls Tryz.prog 29 #[.pointer (some ⟨b,0,none⟩)] W fun e w'=>e=.returned (.tuple #[])∧∃L'',St N w' b s2 L''∧To b W L' w' L''):=fun W L' SW=>by
  rw[hs2]
  exact ccommit_any SW A1 (by omega) (by rw[hs1];show s.coms.length≤2000;omega) (by rw[hs1];show 0≤s.cyc+1;omega) (by rw[hs1];show s.cyc+1≤6000;omega)
 have k40:w.cell? ⟨b,40,none⟩=some (.int .i64 s.cyc):=(cell_at S.row (by omega)).trans rfl
 have f40:=S.frozen 40
 obtain⟨u1,t1⟩:=S.setCyc (s.cyc+1)
 rw[←hs1]at u1
 have S1:Hid (St N (w.setCell ⟨b,40,none⟩ (.int .i64 (s.cyc+1))) b s1 L):=u1
 have T1:Hid (To b w L (w.setCell ⟨b,40,none⟩ (.int .i64 (s.cyc+1))) L):=t1
 have HW:Hid (s2.wide=s.wide):=hwid
 clear hr hs1 hs2 A A1 S G hs u1 t1 hmost hwid
 go_enter Tryz.func13,Tryz.ntmps13
 go_wp2_with fail
 refine(HC1.out _ _ S1.out).mono ?_
 rintro e V2 ⟨rfl,L2,u2,t2⟩
 have S2:Hid (St N V2 b s2 L2):=u2
 have T2:Hid (To b w L V2 L2):=T1.out.trans t2
 clear u2 t2 S1 T1 HC1 k40 f40
 have k37:V2.cell? ⟨b,37,none⟩=some (.int .i64 s2.st):=(cell_at S2.out.row (by omega)).trans rfl
 by_cases h:s2.st=0
 ·obtain⟨m',A2⟩:=HA2.out h
  have hr:=HR.out
  rw[if_pos h,←HW.out]at hr
  have A3:=A2.load mach_ok
  have A4:=A3.start mach_ok mach_mr
  have hw3:(start mach (load s2)).wide=s2.wide:=by
   have e1:=(load_inv mach_ok A2.inv).2.1.wide
   have e2:=(start_inv mach_ok A3.inv A3.wid).2.1.wide
   rw[e2,e1]
  have HC2:Hid (∀W L',St N W b s2 L'→Calls Tryz.prog 30 #[.pointer (some ⟨b,0,none⟩)] W fun e w'=>e=.returned (.tuple #[])∧∃L'',St N w' b (load s2) L''∧To b W L' w' L''):=fun W L' SW=>cload_any SW A2 (by omega)
  have HC3:Hid (∀W L',St N W b (load s2) L'→Calls Tryz.prog 31 #[.pointer (some ⟨b,0,none⟩)] W fun e w'=>e=.returned (.tuple #[])∧∃L'',St N w' b (start mach (load s2)) L''∧To b W L' w' L''):=fun W L' SW=>cstart_any SW A3 (by omega)
  have HC4:Hid (∀W L',St N W b (start mach (load s2)) L'→Calls Tryz.prog 32 #[.pointer (some ⟨b,0,none⟩)] W fun e w'=>e=.returned (.tuple #[])∧∃L'',St N w' b r L''∧To b W L' w' L''):=fun W L' SW=>by
   rw[hr,←hw3]
   exact ctake_any SW A4 (by omega)
  have k37':V2.cell? ⟨b,37,none⟩=some (.int .i64 0):=by rw[k37,h]
  clear A2 A3 A4 hr hw3 HR HA2 h k37 HW
  go_wp2_with fail
  refine(HC2.out _ _ S2.out).mono ?_
  rintro e V3 ⟨rfl,L3,u3,t3⟩
  have S3:Hid (St N V3 b (load s2) L3):=u3
  have T3:Hid (To b w L V3 L3):=T2.out.trans t3
  clear u3 t3 S2 T2 HC2 k37'
  go_wp2_with fail
  refine(HC3.out _ _ S3.out).mono ?_
  rintro e V4 ⟨rfl,L4,u4,t4⟩
  have S4:Hid (St N V4 b (start mach (load s2)) L4):=u4
  have T4:Hid (To b w L V4 L4):=T3.out.trans t4
  clear u4 t4 S3 T3 HC3
  go_wp2_with fail
  refine(HC4.out _ _ S4.out).mono ?_
  rintro e V5 ⟨rfl,L5,u5,t5⟩
  have S5:Hid (St N V5 b r L5):=u5
  have T5:Hid (To b w L V5 L5):=T4.out.trans t5
  clear u5 t5 S4 T4 HC4
  go_wp2_with fail
  refine bodyPost_end (results_none rfl _ _ _) rfl ⟨rfl,L5,S5.out,T5.out⟩
 ·have hr:=HR.out
  rw[if_neg h]at hr
  have HR2:Hid (r=s2):=hr
  have h':(s2.st==0)=false:=by simpa using h
  clear hr HR HA2 HW
  go_wp2_with fail
  refine bodyPost_end (results_none rfl _ _ _) rfl ⟨rfl,L2,by rw[HR2.out];exact S2.out,T2.out⟩
theorem infoB:(Tryz.prog.info? 5).map (fun i=>(i.zero,i.size,i.bytes))=some (some (.int .u8 0),1,1):=by kernel_rfl
theorem bGrow_nil (N:Nat) (h0:0<N) (hN:N*1≤140737488355328) (w:World):
  Calls Tryz.prog 48 #[.slice none 0 0,.int .i64 N] w fun e w'=>(∃v',e=.returned v'∧w'.ownsRow w.heap.size 5 1 v' 0 [])∧Below w.heap.size w w':=by
 obtain⟨i0,hi,hz0,hz1,hz2⟩:=info_parts infoB
 go_enter Tryz.func48,Tryz.ntmps48
 go_wp2
 all_goals have e8:Tryz.t5.bytes=1:=rfl
 all_goals have e9:Builtin.nextslicecap N 0*Tryz.t5.bytes≤281474976710656:=growslice_fits h0 (by rw[e8];omega)
 all_goals try(exfalso;first|omega|(simp only[e8]at*;omega))
 go_ret
 have hge:=grownCap_ge w N 0 5
 have hle:=grownCap_le_maxLen w N 0 5 (by unfold maxLen;omega)
 refine⟨⟨_,rfl,World.ownsRow_made w _ _ (Nat.le_refl _) hle ?_⟩,(((Below.refl _ _).alloc (Nat.le_refl _) _).drew)⟩
 simp only[Array.size_append,size_zeroCells]
 show N*1+(grownCap w N 0 5-N)*1=grownCap w N 0 5*1
 omega
theorem bGrow_zero (w:World):
  Calls Tryz.prog 48 #[.slice none 0 0,.int .i64 0] w fun e w'=>(∃v',e=.returned v'∧w'.ownsRow w.heap.size 5 1 v' 0 [])∧Below w.heap.size w w':=by
 go_enter Tryz.func48,Tryz.ntmps48
 go_wp2
 go_ret
 exact⟨⟨_,rfl,World.ownsRow_nil _ _ _ _⟩,Below.refl _ _⟩
theorem bGrow_any (N:Nat) (hN:N*1≤140737488355328) (w:World):
  Calls Tryz.prog 48 #[.slice none 0 0,.int .i64 N] w fun e w'=>(∃v',e=.returned v'∧w'.ownsRow w.heap.size 5 1 v' 0 [])∧Below w.heap.size w w':=by
 by_cases h:0<N
 ·exact bGrow_nil N h hN w
 ·obtain rfl:N=0:=by omega
  exact bGrow_zero w
theorem bConcat_one (q:Nat) (a1:Option Addr) (n1 c1:Nat) (cs1:List Value) (hn:n1*1≤140737488355328) (w:World)
  (hq:q<w.heap.size) (k0:w.cell? ⟨q,0,none⟩=some (.slice a1 n1 c1)) (hL1:Hid (LC w a1 n1 c1 1 cs1)):
  Calls Tryz.prog 27 #[.slice (some ⟨q,0,none⟩) 1 1] w fun e w'=>(∃v',e=.returned v'∧w'.ownsRow w.heap.size 5 1 v' n1 cs1)∧Below w.heap.size w w':=by
 obtain⟨i0,hi,hz0,hz1,hz2⟩:=info_parts infoB
 have C:=fun w=>bGrow_any n1 hn w
 go_enter Tryz.func27,Tryz.ntmps27
 go_wp2_with fail
 refine wp_loop_rounds 2 ?_
 rw[rounds_succ]
 go_wp2_with fail
 rw[rounds_succ]
 go_wp2_with fail
 refine(C _).mono ?_
 rintro e W1 ⟨⟨v,rfl,hown⟩,hk⟩
 have j0:W1.cell? ⟨q,0,none⟩=some (.slice a1 n1 c1):=(hk.cell (p:=⟨q,0,none⟩) hq).trans k0
 have HO:Hid (W1.ownsRow w.heap.size 5 1 v 0 []):=hown
 have HK:Hid (Below w.heap.size w W1):=hk
 clear hown hk k0 C
 go_wp2_with fail
 refine wp_loop_rounds 2 ?_
 rw[rounds_succ]
 go_wp2_with(at_builtin;refine wpList_append_lc _ rfl _ _ 28 rfl w.heap.size 5 i0 _ 1 1 Tryz.underlying28 hi hz0 hz1 hz2 rfl (by decide) _ 0 [] rfl HO.out _ n1 c1 cs1 rfl (hL1.out.below (Nat.le_refl _) HK.out) (by unfold maxLen;omega) (by omega) HK.out.size ?_;intro v1 w1 hown1 hgrow1)
 have HO1:Hid (w1.ownsRow w.heap.size 5 1 v1 n1 cs1):=by show World.ownsRow _ _ _ _ _ _ _;simpa using hown1
 have HK1:Hid (Below w.heap.size w w1):=HK.out.grown hgrow1 HK.out.size (fun k hk=>(HO.out.lt k hk).1)
 clear hown1 hgrow1 HO HK j0
 rw[rounds_succ]
 go_wp2_with fail
 go_ret
 exact⟨⟨_,rfl,HO1.out⟩,HK1.out⟩
def bcs (f:Nat→Int) (n:Nat):List Value:=(List.range n).map fun i=>.int .u8 (f i)
theorem bcs_get {f:Nat→Int} {n i:Nat} (h:i<n):(bcs f n)[i]?=some (.int .u8 (f i)):=by simp[bcs,h]
theorem bys_of_own {w:World} {B n:Nat} {v:Value} {f:Nat→Int} (h:w.ownsRow B 5 1 v n (bcs f n)) (hn:n≤4096) (hf:∀i,i<n→0≤f i∧f i≤255):∃a c,v=.slice a n c∧Bys w a n c f∧∀x,a=some x→B≤x.block:=by
 rcases h.2 with⟨e,h0⟩|⟨g,cap,cur,e,hB,hr,hc,_,_,ht⟩
 ·subst h0
  exact⟨none,0,e,⟨hn,Nat.le_refl _,fun h=>absurd h (by omega),hf⟩,fun x hx=>by cases hx⟩
 ·refine⟨some ⟨g,0,none⟩,cap,e,⟨hn,hc,fun _=>⟨g,0,rfl,fun i hi=>?_⟩,hf⟩,fun x hx=>by have:=Option.some.inj hx;subst this;exact hB⟩
  rw[Nat.zero_add,cell_of_row _ _ _ _ _ _ hr,←Array.getElem?_toList]
  have:(cur.toList.take (n*1))[i]?=some (.int .u8 (f i)):=by rw[ht];exact bcs_get hi
  rw[List.getElem?_take_of_lt (by omega)]at this
  exact this
def built0 (win phys wide pc:Int) (sc:Value) (i:Nat):Value:=
 if i=0 then .int .i64 win else if i=1 then .int .i64 phys else if i=2 then .int .i64 wide else if i=3 then .slice none 0 0
 else if i<37 then .int .u32 0 else if i<39 then .int .i64 0 else if i=39 then .slice none 0 0 else if i<43 then .int .i64 0
 else if i<75 then(if i%2=1 then .int .i64 0 else .int .u32 0)
 else if i<107 then(if i%4=2 then .int .i64 0 else .int .u32 0)
 else if i<140 then .int .i64 0 else if i=140 then .slice none 0 0
 else if i<237 then .int .u32 0 else if i<333 then .bool false
 else if i<336 then .slice none 0 0 else if i=336 then sc else if i=337 then .int .u32 pc else .bool true
theorem built_core (win phys wide pc:Int) (p:Option Addr) (n c:Nat):Tryz.prog.built 66 [(0,.agg #[.int .i64 win,.int .i64 phys,.int .i64 wide]),(9,.slice p n c),(10,.int .u32 pc),(11,.bool true)]=some (rowOf (built0 win phys wide pc (.slice p n c)) 339):=by kernel_rfl
def bg (win phys wide:Int) (n:Nat) (R:Nat→Int) (pc st ca:Int) (f:Nat→Int) (scr:List Int) (k:Nat):Cr:=
 {begin win phys wide n R pc st ca f scr with wd:=fun x=>if x<(k:Int)then R x.toNat else 0,th:=fun x=>decide (x<(k:Int))}
theorem bg_all (win phys wide:Int) (n:Nat) (R:Nat→Int) (pc st ca:Int) (f:Nat→Int) (scr:List Int):bg win phys wide n R pc st ca f scr 32=begin win phys wide n R pc st ca f scr:=by
 have e:((32:Nat):Int)=32:=rfl
 unfold bg begin
 rw[e]
theorem bg_wd (win phys wide:Int) (n:Nat) (R:Nat→Int) (pc st ca:Int) (f:Nat→Int) (scr:List Int) (k:Nat):{bg win phys wide n R pc st ca f scr k with wd:=upI (bg win phys wide n R pc st ca f scr k).wd (k:Int) (R k),th:=upB (bg win phys wide n R pc st ca f scr k).th (k:Int) true}=bg win phys wide n R pc st ca f scr (k+1):=by
 have e1:upI (bg win phys wide n R pc st ca f scr k).wd (k:Int) (R k)=(bg win phys wide n R pc st ca f scr (k+1)).wd:=by
  funext y
  show(if y=(k:Int)then R k else if y<(k:Int)then R y.toNat else 0)=if y<((k+1:Nat):Int)then R y.toNat else 0
  by_cases e:y=(k:Int)
  ·subst e
   rw[if_pos rfl,if_pos (by omega),Int.toNat_natCast]
  ·rw[if_neg e]
   by_cases h:y<(k:Int)
   ·rw[if_pos h,if_pos (by omega)]
   ·rw[if_neg h,if_neg (by omega)]
 have e2:upB (bg win phys wide n R pc st ca f scr k).th (k:Int) true=(bg win phys wide n R pc st ca f scr (k+1)).th:=by
  funext y
  show(if y=(k:Int)then true else decide (y<(k:Int)))=decide (y<((k+1:Nat):Int))
  by_cases e:y=(k:Int)
  ·subst e
   rw[if_pos rfl,decide_eq_true (by omega)]
  ·rw[if_neg e]
   by_cases h:y<(k:Int)
   ·rw[decide_eq_true h,decide_eq_true (by omega)]
   ·rw[decide_eq_false h,decide_eq_false (by omega)]
 rw[e1,e2]
 rfl
def bgL (m f r:Value):Sls:=⟨.slice none 0 0,m,f,.slice none 0 0,.slice none 0 0,.slice none 0 0,r⟩
theorem kat_bg (win phys wide:Int) (n:Nat) (R:Nat→Int) (pc st ca:Int) (f:Nat→Int) (scr:List Int) (m v r:Value):∀j,j<339→ups (upf (ups (built0 win phys wide pc r) 4 35 (hat R pc st ca)) 39 m) 107 34 (mat phys (fun i=>(i:Int)) v) j=kat (bg win phys wide n R pc st ca f scr 0) (bgL m v r) j:=fun j hj=>by
 unfold ups upf kat
 dsimp only
 by_cases h1:107≤j∧j<107+34
 ·rw[if_pos h1,if_neg (by omega),if_neg (by omega),if_neg (by omega),if_neg (by omega),if_pos (by omega)]
  rfl
 ·rw[if_neg h1]
  by_cases h2:j=39
  ·subst h2
   rfl
  ·rw[if_neg h2]
   by_cases h3:4≤j∧j<4+35
   ·rw[if_pos h3,if_neg (by omega),if_pos (by omega)]
    rfl
   ·rw[if_neg h3]
    unfold built0
    by_cases h4:j<4
    ·rcases(by omega:j=0∨j=1∨j=2∨j=3)with rfl|rfl|rfl|rfl<;>rfl
    ·have n0:¬j=0:=by omega
     have n1:¬j=1:=by omega
     have n2:¬j=2:=by omega
     have n3:¬j=3:=by omega
     have n37:¬j<37:=by omega
     have n39:¬j<39:=by omega
     simp only[n0,n1,n2,n3,n37,n39,h2,h4,if_false]
     by_cases h5:j<43
     ·rcases(by omega:j=40∨j=41∨j=42)with rfl|rfl|rfl<;>rfl
     ·simp only[h5,if_false]
      by_cases h6:j<107
      ·simp only[h6,if_true]
       unfold tat
       by_cases h7:j<75
       ·rw[if_pos h7,if_pos (show j-43<32 by omega)]
        by_cases h8:j%2=1
        ·rw[if_pos h8,if_pos (by omega)];rfl
        ·rw[if_neg h8,if_neg (by omega)];rfl
       ·rw[if_neg h7,if_neg (show¬j-43<32 by omega)]
        by_cases h8:j%4=2
        ·rw[if_pos h8,if_neg (show¬(j-43)%4=0 by omega),if_neg (show¬(j-43)%4=1 by omega),if_neg (show¬(j-43)%4=2 by omega)];rfl
        ·rw[if_neg h8]
         rcases(by omega:(j-43)%4=0∨(j-43)%4=1∨(j-43)%4=2)with h9|h9|h9
         ·rw[if_pos h9];rfl
         ·rw[if_neg (by omega),if_pos h9];rfl
         ·rw[if_neg (by omega),if_neg (by omega),if_pos h9];rfl
      ·have m1:¬j<140:=by omega
       have m2:¬j=140:=by omega
       have m3:¬j<141:=by omega
       have m4:¬j<75:=by omega
       simp only[h6,m1,m2,m3,m4,if_false]
       by_cases h7:j<237
       ·simp only[h7,if_true]
        show _=Value.int .u32 (if((j-141:Nat):Int)<((0:Nat):Int)then R ((j-141:Nat):Int).toNat else 0)
        rw[if_neg (by omega)]
       ·simp only[h7,if_false]
        by_cases h8:j<333
        ·simp only[h8,if_true]
         show _=Value.bool (decide (((j-237:Nat):Int)<((0:Nat):Int)))
         rw[decide_eq_false (by omega)]
        ·rcases(by omega:j=333∨j=334∨j=335∨j=336∨j=337∨j=338)with rfl|rfl|rfl|rfl|rfl|rfl<;>rfl
end Go.Proofs.YtpiohehijkpghacGreatDoor.Co
