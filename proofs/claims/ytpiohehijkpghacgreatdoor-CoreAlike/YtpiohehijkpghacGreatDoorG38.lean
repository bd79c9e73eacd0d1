/- A core that starts: the program. -/
import Derived.Test.YtpiohehijkpghacGreatDoorG37
set_option maxRecDepth 20000
set_option maxHeartbeats 4000000
namespace Go.Proofs.YtpiohehijkpghacGreatDoor.Co
open Go.RowKit
open Hy
open Wi Od Re.Hy
open Gu.Hy (Tb tcs)
set_option linter.unusedVariables false
set_option linter.unusedSimpArgs false
theorem drop_at' {l:List Int} {k:Nat} {x:Int} (h:l[k]?=some x):l.drop k=x::l.drop (k+1):=by
 have hk:=(List.getElem?_eq_some_iff.1 h).1
 rw[List.drop_eq_getElem_cons hk]
 rw[List.getElem?_eq_getElem hk]at h
 rw[Option.some.inj h]
theorem lodS_none {s:Cr} {q:Int} (h:s.under.find? (fun p=>decide (p.seq=q))=none):lodS s q=s:=by unfold lodS;rw[h]
theorem lodS_late {s:Cr} {l1 l2:List Dg} {o:Dg} (hu:s.under=l1++o::l2) (hr:Rise s.under) (h:0<o.late):lodS s o.seq={s with under:=s.under.set l1.length {o with late:=o.late-1}}:=by
 have hf:s.under.find? (fun p=>decide (p.seq=o.seq))=some o:=by have h2:=hr;rw[hu]at h2⊢;exact find_at h2
 unfold lodS
 rw[hf]
 simp only[]
 rw[if_pos h,(put_set hu hr (fun o=>{o with late:=o.late-1})).1]
theorem lodS_one {s:Cr} {l1 l2:List Dg} {o:Dg} (hu:s.under=l1++o::l2) (hr:Rise s.under) (h:¬0<o.late):lodS s o.seq=lod1 s o:=by
 have hf:s.under.find? (fun p=>decide (p.seq=o.seq))=some o:=by have h2:=hr;rw[hu]at h2⊢;exact find_at h2
 unfold lodS
 rw[hf]
 simp only[]
 rw[if_neg h]
theorem keep_lc {b:Nat} {w w':World} {L L':Sls} {a:Option Addr} {n c size:Nat} {cs:List Value} (h:LC w a n c size cs) (f:0<n→∀x,a=some x→¬own b L x.block) (T:To b w L w' L'):LC w' a n c size cs∧(0<n→∀x,a=some x→¬own b L' x.block):=
 ⟨lc_move h T.size fun h0 x hx=>by
  obtain⟨g,o,e,hlt,_⟩:=h.ad x hx h0
  subst e
  exact T.block g hlt (f h0 _ hx),fun h0=>far_not h T h0 (f h0)⟩
theorem cload_any {N:Nat} {w:World} {b:Nat} {s:Cr} {L:Sls} (S:St N w b s L) {m:Nat→Int} {K:Int} (A:Al mach K s m) (hK:K≤6000000):
  Calls Tryz.prog 30 #[.pointer (some ⟨b,0,none⟩)] w fun e w'=>e=.returned (.tuple #[])∧∃L',St N w' b (load s) L'∧To b w L w' L':=by
 have hln:=A.len
 obtain⟨qs,hqs⟩:∃qs,qs=(s.under.filter fun o=>decide (o.st=1)).map (·.seq):=⟨_,rfl⟩
 have C0:Hid (Calls Tryz.prog 56 #[.pointer (some ⟨b,0,none⟩),.func (.func 57) #[] #[]] w fun e w'=>(∃v,e=.returned v∧w'.ownsRow w.heap.size 3 1 v qs.length (ics qs))∧Below w.heap.size w w'):=by
  rw[hqs]
  exact call_0 57 (fun o=>decide (o.st=1)) eg_loadq S (by omega) (fun W o _ _=>cloadq_any o W)
 have I0:Hid (LoadI mach K qs s m):=by rw[hqs];exact LoadI.begin A
 obtain⟨r,hr⟩:∃r,r=load s:=⟨_,rfl⟩
 have HR:Hid (qs.foldl lodS s=r):=by show _=_;rw[hr,hqs];rfl
 rw[←hr]
 have hql:qs.length≤32:=by rw[hqs,List.length_map];exact Nat.le_trans (List.length_filter_le _ _) hln
 have HS:Hid (St N w b s L):=S
 clear hqs hr A S hln
 go_enter Tryz.func30,Tryz.ntmps30
 go_wp2_with fail
 refine C0.out.mono ?_
 rintro e V1 ⟨⟨v1,rfl,hown⟩,hk1⟩
 obtain⟨a,c,rfl,hl,hf⟩:=Wi.lc_of_own hown (ics_one qs)
 have S1:Hid (St N V1 b s L):=HS.out.below hk1
 have T1:Hid (To b w L V1 L):=to_below L hk1
 have HL:Hid (LC V1 a qs.length c 1 (ics qs)):=hl
 have HF:Hid (∀x,a=some x→¬own b L x.block):=far_own HS.out (Nat.le_refl _) hf
 clear hown hl hf hk1 C0 HS
 go_wp2_with fail
 go_loopw [8] (fun i wr=>∃k:Nat,k≤qs.length∧i=.int .i64 (k:Int)∧Hid (∃s' L',St N wr b s' L'∧To b w L wr L'∧LoadI mach (K+3*k) (qs.drop k) s' m∧(qs.drop k).foldl lodS s'=r∧LC wr a qs.length c 1 (ics qs)∧(0<qs.length→∀x,a=some x→¬own b L' x.block)))
  (fun i _=>qs.length-(intOf i).toNat)
 case atStart=>exact⟨0,by omega,rfl,s,L,S1.out,T1.out,by have:=I0.out;exact⟨this.al.mono (by omega),this.nod,this.are⟩,HR.out,HL.out,fun _=>HF.out⟩
 case round=>
  obtain⟨k,hk,rfl,s',L',S2,T2,I2,R2,LC2,F2⟩:=hrel
  clear S1 T1 HL HF I0 HR
  by_cases hlt:k<qs.length
  ·obtain⟨q,hq⟩:∃q,qs[k]?=some q:=⟨_,List.getElem?_eq_getElem hlt⟩
   have hdr:=drop_at' hq
   rw[hdr]at I2 R2
   rw[List.foldl_cons]at R2
   obtain⟨ga,oa,ea,hga,hca⟩:=LC2.sure (by omega)
   subst ea
   have cs:wr.cell? ⟨ga,oa+k,none⟩=some (.int .i64 q):=hca k _ (ics_get hq)
   have HS2:Hid (St N wr b s' L'):=S2
   have HT2:Hid (To b w L wr L'):=T2
   have HI3:Hid (LoadI mach (K+3*k+3) (qs.drop (k+1)) (lodS s' q) m):=I2.step mach_ok
   have HR2:Hid ((qs.drop (k+1)).foldl lodS (lodS s' q)=r):=R2
   have HLC:Hid (LC wr (some ⟨ga,oa,none⟩) qs.length c 1 (ics qs)∧(0<qs.length→∀x,(some ⟨ga,oa,none⟩:Option Addr)=some x→¬own b L' x.block)):=⟨LC2,F2⟩
   have hln:=I2.al.len
   have hrise:=I2.al.inv.rise
   have hK3:K+3*(k:Int)≤6000100:=by omega
   clear hca hga hdr R2 LC2 F2 T2 hq
   cases hfd:s'.under.find? (fun p=>decide (p.seq=q))with
   |none=>
    have e:=lodS_none hfd
    rw[e]at HI3 HR2
    have CF:Hid (Calls Tryz.prog 58 #[.pointer (some ⟨b,0,none⟩),.int .i64 q] wr fun e w'=>e=.returned (.int .i64 (-1))∧Below wr.heap.size wr w'):=by
     have:=cfind_any S2 q s'.under.length (find_not hfd) (by omega)
     rw[if_neg (by omega)]at this
     exact this
    clear e hfd S2 I2 hrise hln
    go_wp2_with fail
    refine CF.out.mono ?_
    rintro e V2 ⟨rfl,hk2⟩
    have t2:=to_below (b:=b) L' hk2
    have S3:Hid (St N V2 b s' L'):=HS2.out.below hk2
    have T3:Hid (To b w L V2 L'):=HT2.out.trans t2
    have L3:Hid (LC V2 (some ⟨ga,oa,none⟩) qs.length c 1 (ics qs)∧(0<qs.length→∀x,(some ⟨ga,oa,none⟩:Option Addr)=some x→¬own b L' x.block)):=keep_lc HLC.out.1 HLC.out.2 t2
    clear hk2 t2 CF HS2 HT2 HLC cs
    go_wp2_with fail
    exact⟨⟨k+1,by omega,by go_num,s',L',S3.out,T3.out,⟨HI3.out.al.mono (by push_cast;omega),HI3.out.nod,HI3.out.are⟩,HR2.out,L3.out.1,L3.out.2⟩,by simp[intOf];omega⟩
   |some o=>
    obtain⟨l1,l2,hu,hoq⟩:=find_some hfd
    subst hoq
    have ho1:=I2.are o.seq (List.mem_cons_self ..) o (by rw[hu];simp) rfl
    have hlat:=I2.al.inv.lat o (by rw[hu];simp)
    obtain⟨j,hj⟩:∃j,j=l1.length:=⟨_,rfl⟩
    have hjo:s'.under[j]?=some o:=by rw[hu,hj];simp
    have hjl:j<s'.under.length:=(List.getElem?_eq_some_iff.1 hjo).1
    have CF:Hid (Calls Tryz.prog 58 #[.pointer (some ⟨b,0,none⟩),.int .i64 o.seq] wr fun e w'=>e=.returned (.int .i64 (j:Int))∧Below wr.heap.size wr w'):=by
     have:=cfind_any S2 o.seq j (by rw[hj];exact find_first hu hrise) (by omega)
     rw[if_pos hjl]at this
     exact this
    have HLA:Hid (0<o.late→lodS s' o.seq={s' with under:=s'.under.set j {o with late:=o.late-1}}):=fun h=>by rw[hj];exact lodS_late hu hrise h
    have HC1:Hid (¬0<o.late→∀W,St N W b s' L'→Calls Tryz.prog 59 #[.pointer (some ⟨b,0,none⟩),.int .i64 (j:Int)] W fun e w'=>e=.returned (.tuple #[])∧∃L'',St N w' b (lodS s' o.seq) L''∧To b W L' w' L''):=fun h W SW=>by
     rw[hj,lodS_one hu hrise h]
     exact cloadOne_any SW I2.al (by omega) hu ho1
    clear hfd hu hj I2 hrise S2 ho1
    go_wp2_with fail
    refine CF.out.mono ?_
    rintro e V2 ⟨rfl,hk2⟩
    have t2:=to_below (b:=b) L' hk2
    have S3:Hid (St N V2 b s' L'):=HS2.out.below hk2
    have T3:Hid (To b w L V2 L'):=HT2.out.trans t2
    have L3:Hid (LC V2 (some ⟨ga,oa,none⟩) qs.length c 1 (ics qs)∧(0<qs.length→∀x,(some ⟨ga,oa,none⟩:Option Addr)=some x→¬own b L' x.block)):=keep_lc HLC.out.1 HLC.out.2 t2
    clear hk2 t2 CF HS2 HT2 HLC cs
    obtain⟨ug,uo,uc,euv,huc,_,hug,hucs,_⟩:=S3.out.its.iu.at (by omega)
    obtain⟨un,hun⟩:∃un,un=s'.under.length:=⟨_,rfl⟩
    have HEU:Hid (L'.u=.slice (some ⟨ug,uo,none⟩) un uc):=by rw[hun];exact euv
    have k334:V2.cell? ⟨b,334,none⟩=some (.slice (some ⟨ug,uo,none⟩) un uc):=(cell_at S3.out.row (by omega)).trans (congrArg some HEU.out)
    have c15:V2.cell? ⟨ug,uo+j*28+15,none⟩=some (.int .i64 o.late):=by
     rw[Nat.add_assoc]
     exact hucs _ _ (flat_at dgl_len hjo rfl)
    have hjo':Hid (s'.under[j]?=some o):=hjo
    rw[←hun]at hjl huc hln
    have j0:0≤(j:Int):=by omega
    have j1:(j:Int)<(un:Int):=by omega
    have hju:¬((j:Int)<0):=by omega
    clear hucs hug euv hun hjo
    by_cases hl:0<o.late
    ·have e:=HLA.out hl
     rw[e]at HI3 HR2
     obtain⟨g',o',cap',ev',hth,s4,t4⟩:=S3.out.putU (y:={o with late:=o.late-1}) (j:=15) (news:=[.int .i64 (o.late-1)]) hjo'.out (by show 15+1≤28;omega) rfl (by intro u hu;simp at hu;subst hu;rfl)
     obtain⟨rfl,rfl⟩:ug=g'∧uo=o':=by rw[HEU.out]at ev';injection ev' with h1 _ _;injection h1 with h1;injection h1 with h1 h2;exact⟨h1,h2⟩
     rw[←Nat.add_assoc]at hth s4 t4
     have f15:V2.frozen? ⟨ug,uo+j*28+15,none⟩=false:=(hth 0 (by show 0<1;omega)).2
     have S4:Hid (St N (V2.setCell ⟨ug,uo+j*28+15,none⟩ (.int .i64 (o.late-1))) b {s' with under:=s'.under.set j {o with late:=o.late-1}} L'):=s4
     have T4:Hid (To b w L (V2.setCell ⟨ug,uo+j*28+15,none⟩ (.int .i64 (o.late-1))) L'):=T3.out.trans t4
     have L4:Hid (LC (V2.setCell ⟨ug,uo+j*28+15,none⟩ (.int .i64 (o.late-1))) (some ⟨ga,oa,none⟩) qs.length c 1 (ics qs)∧(0<qs.length→∀x,(some ⟨ga,oa,none⟩:Option Addr)=some x→¬own b L' x.block)):=keep_lc L3.out.1 L3.out.2 t4
     clear hth s4 t4 ev' e HLA HC1 S3 T3 L3
     go_wp2_with fail
     exact⟨⟨k+1,by omega,by go_num,_,L',S4.out,T4.out,⟨HI3.out.al.mono (by push_cast;omega),HI3.out.nod,HI3.out.are⟩,HR2.out,L4.out.1,L4.out.2⟩,by simp[intOf];omega⟩
    ·have HC2:Hid _:=HC1.out (by omega)
     clear HLA HC1
     go_wp2_with fail
     refine(HC2.out _ S3.out).mono ?_
     rintro e V4 ⟨rfl,L4,u1,u2⟩
     have S4:Hid (St N V4 b (lodS s' o.seq) L4):=u1
     have T4:Hid (To b w L V4 L4):=T3.out.trans u2
     have LL4:Hid (LC V4 (some ⟨ga,oa,none⟩) qs.length c 1 (ics qs)∧(0<qs.length→∀x,(some ⟨ga,oa,none⟩:Option Addr)=some x→¬own b L4 x.block)):=keep_lc L3.out.1 L3.out.2 u2
     clear u1 u2 S3 T3 L3 HC2 k334 c15
     go_wp2_with fail
     exact⟨⟨k+1,by omega,by go_num,_,L4,S4.out,T4.out,⟨HI3.out.al.mono (by push_cast;omega),HI3.out.nod,HI3.out.are⟩,HR2.out,LL4.out.1,LL4.out.2⟩,by simp[intOf];omega⟩
  ·have hkl:k=qs.length:=by omega
   have e:qs.drop k=[]:=List.drop_eq_nil_of_le (by omega)
   rw[e]at R2
   have hr:s'=r:=R2
   subst hr
   have HS2:Hid (St N wr b s' L'):=S2
   have HT2:Hid (To b w L wr L'):=T2
   clear S2 T2 I2 LC2 F2 R2 e hkl
   go_wp2_with fail
   refine bodyPost_end (results_none rfl _ _ _) rfl ⟨rfl,L',HS2.out,HT2.out⟩
theorem set_tail (x0:Int) (y:List Int) (k:Nat) (v:Int):(ics (x0::y)).set (1+k) (.int .i64 v)=ics (x0::y.set k v):=by
 rw[ics_set,show 1+k=k+1 by omega]
 rfl
theorem iReverse_tail (g cap n B:Nat) (x0:Int) (x:List Int) (hn:0<n) (hn2:n≤1000000) (hx:Hid (x.length=n)) (w:World) (hO:Hid (w.ownsRow B 3 1 (.slice (some ⟨g,0,none⟩) (n+1) cap) (n+1) (ics (x0::x)))):
  Calls Tryz.prog 62 #[.slice (some ⟨g,1,none⟩) n (cap-1)] w fun e w'=>e=.returned (.tuple #[])∧Hid (w'.ownsRow B 3 1 (.slice (some ⟨g,0,none⟩) (n+1) cap) (n+1) (ics (x0::x.reverse)))∧w.grownBy w' (some g):=by
 go_enter Tryz.func62,Tryz.ntmps62
 go_wp2_with fail
 go_loopw [2,3] (fun i j wr=>∃(k jj:Nat) (y:List Int),k+jj+1=n∧i=.int .i64 k∧j=.int .i64 jj∧Hid (wr.ownsRow B 3 1 (.slice (some ⟨g,0,none⟩) (n+1) cap) (n+1) (ics (x0::y)))∧Hid (Rv x y k)∧Hid (w.grownBy wr (some g)))
  (fun i j _=>(intOf j).toNat+1-(intOf i).toNat)
 case atStart=>exact⟨0,n-1,x,by omega,rfl,by go_num,hO,rv_zero x,World.grownBy.refl _ _⟩
 case round=>
  obtain⟨k,j,y,hkj,rfl,rfl,HO,HR,HG⟩:=hrel
  by_cases hlt:k<j
  ·have hl:Hid (y.length=n):=HR.out.len.trans hx.out
   obtain⟨p,hp⟩:∃p,y[k]?=some p:=⟨_,List.getElem?_eq_getElem (by rw[hl.out];omega)⟩
   obtain⟨q,hq⟩:∃q,y[j]?=some q:=⟨_,List.getElem?_eq_getElem (by rw[hl.out];omega)⟩
   have c0:wr.cell? ⟨g,1+k,none⟩=some (.int .i64 p):=(HO.out.cellAt (1+k) (by omega)).trans (ics_get (by rw[show 1+k=k+1 by omega];exact hp))
   have c1:wr.cell? ⟨g,1+j,none⟩=some (.int .i64 q):=(HO.out.cellAt (1+j) (by omega)).trans (ics_get (by rw[show 1+j=j+1 by omega];exact hq))
   have f0:wr.frozen? ⟨g,1+k,none⟩=false:=HO.out.frozenAt _
   have f1:wr.frozen? ⟨g,1+j,none⟩=false:=HO.out.frozenAt _
   have hkn:k<n:=by omega
   have hjn:j<n:=by omega
   have Hp:Hid (y[k]?=some p):=hp
   have Hq:Hid (y[j]?=some q):=hq
   clear hp hq
   go_wp2_with fail
   go_region
   go_wp2_with fail
   have s1:=HO.out.stored (1+k) (.int .i64 q)
   have s2:=s1.1.stored (1+j) (.int .i64 p)
   rw[set_tail,set_tail]at s2
   exact⟨⟨k+1,j-1,_,by omega,by go_num,by go_num,s2.1.drew,HR.out.step (by rw[hx.out];exact hkj) hlt Hp.out Hq.out,grown_dr (grown_trans (grown_trans HG.out s1.2) s2.2)⟩,by simp[intOf];omega⟩
  ·go_wp2_with fail
   go_end0
   rw[HR.out.all (by rw[hx.out];exact hkj) (by omega)]at HO
   exact⟨rfl,HO,HG.out⟩
end Go.Proofs.YtpiohehijkpghacGreatDoor.Co
