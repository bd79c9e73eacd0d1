/- A core that commits: the program. -/
import Derived.Test.YtpiohehijkpghabGreatDoorS45
import Derived.Test.YtpiohehijkpghabGreatDoorS43
import Derived.Test.YtpiohehijkpghabGreatDoorS42
import Derived.Test.YtpiohehijkpghabGreatDoorS09
set_option maxRecDepth 20000
set_option maxHeartbeats 8000000
set_option linter.unusedSimpArgs false
set_option linter.unusedVariables false
open Go.Proofs.Tryz
namespace Go.Proofs.YtpiohehijkpghabGreatDoor.Co
open Go.RowKit
open Hy
open Wi Od Re.Hy
open Gu.Hy (Tb tcs)
theorem zcO(M:Mc):∀(l:List Dg) (s:Cr),(l.foldl (com1 M) s).coms.length=s.coms.length+l.length
 |[],s=>rfl
 |o::l,s=>by
  have:=zcO M l (com1 M s o)
  rw[List.foldl_cons,this]
  show(s.coms++[o.c]).length+l.length=_
  simp
  omega
theorem zpk{K:Int}{s:Cr}{m:Nat->Int}(A:Al mach K s m)(hc:s.coms.length<=2000){k:Nat}(hk:k<s.under.length)(hd:∀o∈s.under.take (k+1),o.st=2):∃o,s.under[k]?=some o/\ComOk ((s.under.take k).foldl (com1 mach) s) o:=by
 obtain⟨m',o,l,I',hu,ho,h2⟩:=zio zR k s m A.inv hk hd
 refine⟨o,ho,?_⟩
 have hdr:=A.rg.und o (List.mem_of_getElem? ho)
 have hrg:=zbz jx (s.under.take k) A.rg (fun o ho=>A.rg.und o (List.mem_of_mem_take ho))
 have hrd:=zen zR I'.ch o (by rw[hu];exact List.mem_cons_self ..)
 have hnm:Dis (comN mach k s).phys (comN mach k s).regs (comN mach k s).free:=zcE zR I'
 have hph:((s.under.take k).foldl (com1 mach) s).phys=s.phys:=by
  have key:∀(l:List Dg) (s:Cr),(l.foldl (com1 mach) s).phys=s.phys:=by
   intro l
   induction l with
   |nil=>intro s;rfl
   |cons o l ih=>intro s;exact ih (com1 mach s o)
  exact key _ s
 refine⟨hdr.pc,hdr.c,hrg.tb,?_,⟨by rw[hph];exact A.low,by rw[hph];exact A.rg.phys,hnm⟩,fun h0=>?_,fun hm=>?_⟩
 ·rw[zcO,List.length_take]
  have:=A.len
  omega
 ·have hd:=I'.dis
  have hreg:=I'.reg
  have hol:Olds m' (comN mach k s).under:=vp I'.ch
  rw[hu]at hd hreg hol
  obtain⟨g1,g2,g3,g4⟩:=zj6 hd hrd h0 (hol.1 h0)
  rw[hreg]at g4
  exact⟨g1,g2,g3,g4⟩
 ·exact zmF zR zmI I' hu h2 hm
theorem zeP{Φ P:World->Nat->Option Addr->Nat->Option Addr->Nat->Prop}(x:∀W p a1 c1 a2 c2,P W p a1 c1 a2 c2->Φ W p a1 c1 a2 c2)(W:World)(p:Nat)(a1:Option Addr)(c1:Nat)(a2:Option Addr)(c2:Nat)(h:P W p a1 c1 a2 c2):Φ W p a1 c1 a2 c2:=x W p a1 c1 a2 c2 h
theorem xW{N:Nat}{wr:World}{b:Nat}{u:Cr}{L':Sls}(S:St N wr b u L'){a1:Option Addr}{c1:Nat}{ss:List Sl}(hl:LC wr a1 ss.length c1 2 (scs ss))(f1:0<ss.length->∀x,a1=some x->¬own b L' x.block){v:Value}{ul:List Dg}(hU:Us wr 97 28 v ul.length (flat dgl ul))(hv:∀g,v.ownBlock=some g->L'.u.ownBlock=some g):
  St N (((wr.setCell ⟨b,333,none⟩ (.slice a1 ss.length c1)).setCell ⟨b,334,none⟩ v).drew) b {u with slots:=ss,under:=ul} {L' with s:=.slice a1 ss.length c1,u:=v}/\To b wr L' (((wr.setCell ⟨b,333,none⟩ (.slice a1 ss.length c1)).setCell ⟨b,334,none⟩ v).drew) {L' with s:=.slice a1 ss.length c1,u:=v}:=by
 obtain⟨s2,t2⟩:=S.setSlots0 hl f1
 have hU2:Us (wr.setCell ⟨b,333,none⟩ (.slice a1 ss.length c1)) 97 28 v ul.length (flat dgl ul):=hU.move fun g hg=>(qd wr b 333 _).block g (S.its.lt (.inr (.inl (hv g hg)))) (fun e=>(S.apart.2.1 g (hv g hg)).2.2 (Option.some.inj e))
 obtain⟨s3,t3⟩:=s2.newU ul hU2 (World.grownBy.refl _ _) (fun g hg=>.inl (hv g hg))
 exact⟨s3.dr,(t2.trans t3).dr⟩
structure CmI(N:Nat)(w:World)(b:Nat)(L:Sls)(s:Cr)(F:Nat->Cr)(p:Nat)(a1:Option Addr)(c1:Nat)(ss:List Sl)(a2:Option Addr)(c2:Nat)(qs:List Int)(wr:World)(k:Nat)(L':Sls):Prop where
 st:St N wr b (F k) L'
 tt:To b w L wr L'
 cell:wr.cell? ⟨p,0,none⟩=some (.slice a2 qs.length c2)
 np:¬own b L' p
 l1:LC wr a1 ss.length c1 2 (scs ss)
 f1:0<ss.length->∀x,a1=some x->¬own b L' x.block
 l2:LC wr a2 qs.length c2 1 (ics qs)
 f2:0<qs.length->∀x,a2=some x->¬own b L' x.block
theorem CmI.move{N:Nat}{w:World}{b:Nat}{L:Sls}{s:Cr}{F:Nat->Cr}{p:Nat}{a1:Option Addr}{c1:Nat}{ss:List Sl}{a2:Option Addr}{c2:Nat}{qs:List Int}{wr W:World}{k j:Nat}{L' L2:Sls}(h:CmI N w b L s F p a1 c1 ss a2 c2 qs wr k L')(T:To b wr L' W L2)(S:St N W b (F j) L2):CmI N w b L s F p a1 c1 ss a2 c2 qs W j L2:=by
 obtain⟨x1,x2⟩:=qo h.l1 h.f1 T
 obtain⟨y1,y2⟩:=qo h.l2 h.f2 T
 exact⟨S,h.tt.trans T,qY h.cell T h.np,qn T.fresh h.np (World.block_lt_of_cell? _ _ h.cell),x1,x2,y1,y2⟩
structure Pop1(w:World)(ss:List Sl)(qs:List Int)(W:World)(p:Nat)(a1:Option Addr)(c1:Nat)(a2:Option Addr)(c2:Nat):Prop where
 below:Below w.heap.size w W
 far:w.heap.size<=p
 cell:W.cell? ⟨p,0,none⟩=some (.slice a2 qs.length c2)
 l1:LC W a1 ss.length c1 2 (scs ss)
 f1:FarC w.heap.size a1
 l2:LC W a2 qs.length c2 1 (ics qs)
 f2:FarC w.heap.size a2
theorem zf5{w V:World}{p:Nat}{v:Value}(h:Below w.heap.size w V)(hp:w.heap.size<=p):Below w.heap.size w (V.setCell ⟨p,0,none⟩ v):=by
 have hg:=qd V p 0 v
 exact⟨hg.os.trans h.os,hg.tape.trans h.tape,hg.output.trans h.output,Nat.le_trans h.size hg.size,fun g hgl=>(hg.block g (by have:=h.size;omega) (fun e=>by have:=Option.some.inj e;omega)).trans (h.block g hgl)⟩
theorem zk0{V:World}{p:Nat}{v:Value}{a:Option Addr}{n c size:Nat}{cs:List Value}(h:LC V a n c size cs)(hp:∀x,a=some x->0<n->x.block≠p):LC (V.setCell ⟨p,0,none⟩ v) a n c size cs:=
 qK h (qd V p 0 v).size fun h0 x hx=>(qd V p 0 v).block _ (by
  obtain⟨g,o,e,hlt,_⟩:=h.ad x hx h0
  subst e
  exact hlt) (fun e=>hp x hx h0 (Option.some.inj e))
theorem zkn{w V:World}{ss:List Sl}{qs:List Int}{a1 a2:Option Addr}{c1 c2:Nat}{t:TypeId}(hb:Below w.heap.size w V)(h1:LC V a1 ss.length c1 2 (scs ss))(f1:FarC w.heap.size a1)(h2:LC V a2 qs.length c2 1 (ics qs))(f2:FarC w.heap.size a2):
  Pop1 w ss qs (V.alloc (.cells #[.slice a2 qs.length c2] t)) V.heap.size a1 c1 a2 c2:=by
 have k0:Below V.heap.size V (V.alloc (.cells #[.slice a2 qs.length c2] t)):=(Below.refl _ _).alloc (Nat.le_refl _) _
 refine⟨hb.trans (k0.mono hb.size),hb.size,?_,h1.below (Nat.le_refl _) k0,f1,h2.below (Nat.le_refl _) k0,f2⟩
 rw[cell_of_row _ _ _ _ _ _ (heap_alloc_new V _)]
 rfl
theorem vL{w U V:World}{ss:List Sl}{qs:List Int}{a1 a2:Option Addr}{c1 c2:Nat}{t:TypeId}{z:Value}(hu:Below w.heap.size w U){B:Nat}(hB:U.heap.size<B)(hb:Below (U.alloc (.cells #[z] t)).heap.size (U.alloc (.cells #[z] t)) V)(h1:LC V a1 ss.length c1 2 (scs ss))(f1:FarC B a1)(h2:LC V a2 qs.length c2 1 (ics qs))(f2:FarC B a2):
  Pop1 w ss qs (V.setCell ⟨U.heap.size,0,none⟩ (.slice a2 qs.length c2)) U.heap.size a1 c1 a2 c2:=by
 have k0:Below U.heap.size U (U.alloc (.cells #[z] t)):=(Below.refl _ _).alloc (Nat.le_refl _) _
 have k1:Below w.heap.size w (U.alloc (.cells #[z] t)):=hu.trans (k0.mono hu.size)
 have k2:Below w.heap.size w V:=k1.trans (hb.mono k1.size)
 have hrow:V.heap[U.heap.size]?=some (.cells #[z] t (0,0)):=(hb.block _ (by simp)).trans (heap_alloc_new U _)
 have hs:=hu.size
 refine⟨zf5 k2 hs,hs,?_,zk0 h1 (fun x hx _ e=>by have:=f1 x hx;omega),fun x hx=>by have:=f1 x hx;omega,zk0 h2 (fun x hx _ e=>by have:=f2 x hx;omega),fun x hx=>by have:=f2 x hx;omega⟩
 rw[cell_of_row _ _ _ _ _ _ (heap_put hrow)]
 rfl
theorem zdQ{N:Nat}{w:World}{b:Nat}{s:Cr}{L:Sls}(S:St N w b s L){m:Nat->Int}{K:Int}(A:Al mach K s m)(hK:K<=9000000)(hc:s.coms.length<=2000)(y0:0<=s.cyc)(y1:s.cyc<=6000):
  Calls prog 20 #[.pointer (some ⟨b,0,none⟩)] w fun e w'=>e=.returned (.tuple #[])/\∃L',St N w' b (commit mach s) L'/\To b w L w' L':=by
 have hmf:∀(fn:Fn) (first cap:Array Value) (w:World),(Instr.makeFunc fn first cap).run prog w=.ok (.func fn first cap) w:=fun _ _ _ _=>rfl
 obtain⟨lf,hlf⟩:∃lf,lf=left s:=⟨_,rfl⟩
 obtain⟨mi,hmi⟩:∃mi,mi=min s.wide lf:=⟨_,rfl⟩
 obtain⟨mm,hmm⟩:∃mm,mm=qW s.slots mi.toNat:=⟨_,rfl⟩
 obtain⟨r,hr⟩:∃r,r=commit mach s:=⟨_,rfl⟩
 have hgo:=yI s.slots mi.toNat
 rw[<-hmm]at hgo
 have hsl:s.slots.length=s.under.length:=by rw[A.inv.slo,List.length_map]
 have hmu:mm<=s.under.length:=by omega
 have hd:∀o∈s.under.take mm,o.st=2:=by
  rw[hmm,A.inv.slo]
  exact xA s.under _
 have HD:Hid (∀k,k<mm->∃o,s.under[k]?=some o/\ComOk ((s.under.take k).foldl (com1 mach) s) o):=fun k hk=>zpk A hc (by omega) (fun o ho=>hd o (by
  have:s.under.take (k+1)=(s.under.take mm).take (k+1):=by rw[List.take_take,Nat.min_eq_left (by omega)]
  rw[this]at ho
  exact List.mem_of_mem_take ho))
 obtain⟨ss,hss⟩:∃ss,ss=s.slots.drop mm:=⟨_,rfl⟩
 obtain⟨qs,hqs⟩:∃qs,qs=jG s.slots mm:=⟨_,rfl⟩
 have HQL:Hid (qs.length=mm):=by show _=_;rw[hqs];exact xj rfl hgo.2
 have HR:Hid (r={(s.under.take mm).foldl (com1 mach) s with slots:=ss,under:=s.under.drop mm,asked:=s.asked.filter fun q=>!decide (q.seq∈qs)}):=by
  show _=_
  rw[hr,hss,hqs,hmm,hmi,hlf]
  rfl
 rw[<-hr]
 have hln:=A.len
 have hlA:=A.rg.lenA
 have CLf:Hid (∀W,Below w.heap.size w W->Calls prog 38 #[.pointer (some ⟨b,0,none⟩)] W fun e w'=>e=.returned (.int .i64 lf)/\Below W.heap.size W w'):=fun W hW=>by rw[hlf];exact zhQ (S.below hW) (by omega) y0 y1
 obtain⟨a0,c0,ea,hl0⟩:=S.its.isl
 have k333:w.cell? ⟨b,333,none⟩=some (.slice a0 s.slots.length c0):=(zb S.row (by omega)).trans (congrArg some ea)
 have k2:w.cell? ⟨b,2,none⟩=some (.int .i64 s.wide):=(zb S.row (by omega)).trans rfl
 have CP:Hid (∀W,Below w.heap.size w W->Calls prog 37 #[.slice a0 s.slots.length c0,.int .i64 mi] W fun e w'=>(∃a1 c1 a2 c2,e=.returned (.tuple #[.slice a1 ss.length c1,.slice a2 qs.length c2])/\LC w' a1 ss.length c1 2 (scs ss)/\FarC W.heap.size a1/\LC w' a2 qs.length c2 1 (ics qs)/\FarC W.heap.size a2)/\Below W.heap.size W w'):=fun W hW=>by
  have:=cPop S mi mm (by rw[hmm];exact zim s.slots mi) (by omega) W hW
  rw[ea,<-hss,<-hqs]at this
  exact this
 have HMI:Hid (min s.wide lf=mi):=hmi.symm
 have hmin:min s.wide lf=mi:=hmi.symm
 have HS:Hid (St N w b s L):=S
 have hlAn:s.asked.length<=100000000:=by omega
 clear hlf hmi hmm hr hgo hsl hd hss hqs A S ea hl0 hlA HMI y0 y1
 go_enter func20,ntmps20
 go_upto_region 0 with fail
 apply keyed
 ·intro key
  refine zx (S:=fun w'=>w'.cell? ⟨b,333,none⟩=some (.slice a0 s.slots.length c0)/\w'.cell? ⟨b,2,none⟩=some (.int .i64 s.wide)) [18] (by kernel_rfl) (⟨k333,k2⟩) (fun hH=>?_)
  refine tU 0 (.pointer (some ⟨b,0,none⟩)) rfl hH ?_;try go_simp
  refine tU 1 (.pointer (some ⟨b,0,none⟩)) rfl hH ?_;try go_simp
  refine tU 2 (.pointer (some ⟨b,333,none⟩)) rfl hH ?_;try go_simp
  refine tS 3 (.slice a0 s.slots.length c0) rfl (Or.inl ⟨by rfl,by intro wz hSw;have hc:=hSw.1;go_simp⟩) hH ?_;try go_simp
  refine tU 4 (.pointer (some ⟨b,0,none⟩)) rfl hH ?_;try go_simp
  refine tU 5 (.pointer (some ⟨b,0,none⟩)) rfl hH ?_;try go_simp
  refine tU 6 (.pointer (some ⟨b,0,none⟩)) rfl hH ?_;try go_simp
  refine tU 7 (.pointer (some ⟨b,2,none⟩)) rfl hH ?_;try go_simp
  refine tS 8 (.int .i64 s.wide) rfl (Or.inl ⟨by rfl,by intro wz hSw;have hc:=hSw.2;go_simp⟩) hH ?_;try go_simp
  refine tU 9 (.pointer (some ⟨b,0,none⟩)) rfl hH ?_;try go_simp
  refine rZ [10,16] ?_
  refine(zu.cons rfl (fun K hK=>?_) (zu.cons rfl (fun K hK=>?_) zu.nil))
  ·go_simp
   refine(CLf.out _ ((Below.refl _ _).drew)).mono ?_
   rintro e V1 ⟨rfl,hk1⟩
   have HK1:Hid (Below w.heap.size w V1):=zi hk1 (Nat.le_refl _)
   go_wp2_with fail
   refine hK.out _ _ (⟨zn hk1 (hH.1),zn hk1 (hH.2)⟩) (fun hN=>?_)
   clear hK K hH
   have hH:=hN
   clear hN
   try go_simp
   refine rZ [11,16] ?_
   refine(zu.cons rfl (fun K hK=>?_) (zu.cons rfl (fun K hK=>?_) zu.nil))
   ·go_simp
    refine hK.out _ _ (hH) (fun hN=>?_)
    clear hK K hH
    have hH:=hN
    clear hN
    try go_simp
    refine rZ [12,16] ?_
    refine(zu.cons rfl (fun K hK=>?_) (zu.cons rfl (fun K hK=>?_) zu.nil))
    ·go_simp
     refine(CP.out _ HK1.out).mono ?_
     rintro e V2 ⟨⟨a1,c1,a2,c2,rfl,h1,f1,h2,f2⟩,hk2⟩
     go_wp2_with fail
     refine hK.out _ _ (⟨zn hk2 (hH.1),zn hk2 (hH.2)⟩) (fun hN=>?_)
     clear hK K hH
     have hH:=hN
     clear hN
     try go_simp
     refine tU 13 (.tuple #[.slice a1 ss.length c1,.slice a2 qs.length c2]) rfl hH ?_;try go_simp
     refine tU 14 (.slice a1 ss.length c1) rfl hH ?_;try go_simp
     refine tU 15 (.slice a2 qs.length c2) rfl hH ?_;try go_simp
     refine zC 16 rfl (fun K hK=>?_)
     go_simp
     refine hK.out _ _ (⟨qS _ (hH.1),qS _ (hH.2)⟩) (fun hN=>?_)
     clear hK K hH
     have hH:=hN
     clear hN
     try go_simp
     refine tU 17 (.slice a1 ss.length c1) rfl hH ?_;try go_simp
     refine zL 18 rfl (fun K hK=>?_)
     have cS:(V2.alloc (.cells #[.slice none 0 0] 29)).cell? ⟨V2.heap.size,0,none⟩=some (.slice none 0 0):=by rw[cell_of_row _ _ _ _ _ _ (heap_alloc_new V2 _)];rfl
     have fS:(V2.alloc (.cells #[.slice none 0 0] 29)).frozen? ⟨V2.heap.size,0,none⟩=false:=frozen_of_row _ _ _ _ _ (heap_alloc_new V2 _)
     go_simp
     refine hK.out _ _ ?_
     clear hK K
     try go_simp
     refine zJ (by kernel_rfl) ?_ _
     have PP:Pop1 w ss qs (V2.alloc (.cells #[.slice a2 qs.length c2] 29)) V2.heap.size a1 c1 a2 c2:=zkn (HK1.out.trans (hk2.mono HK1.out.size)) h1 (fun x hx=>by have:=f1 x hx;have:=HK1.out.size;omega) h2 (fun x hx=>by have:=f2 x hx;have:=HK1.out.size;omega)
     obtain⟨W9,hW9⟩:∃W9,W9=V2.alloc (.cells #[.slice a2 qs.length c2] 29):=⟨_,rfl⟩
     rw[<-hW9]at PP⊢
     obtain⟨p,hp⟩:∃p,p=V2.heap.size:=⟨_,rfl⟩
     rw[<-hp]at PP⊢
     exact zeP (P:=fun W p a1 c1 a2 c2=>Pop1 w ss qs W p a1 c1 a2 c2) key W9 p a1 c1 a2 c2 PP
    ·go_simp
     refine hK.out _ _ (⟨qS _ (hH.1),qS _ (hH.2)⟩) (fun hN=>?_)
     clear hK K hH
     have hH:=hN
     clear hN
     try go_simp
     refine zC 12 rfl (fun K hK=>?_)
     go_simp
     refine(CP.out _ (HK1.out.alloc HK1.out.size _)).mono ?_
     rintro e V2 ⟨⟨a1,c1,a2,c2,rfl,h1,f1,h2,f2⟩,hk2⟩
     go_wp2_with fail
     refine hK.out _ _ (⟨zn hk2 (hH.1),zn hk2 (hH.2)⟩) (fun hN=>?_)
     clear hK K hH
     have hH:=hN
     clear hN
     try go_simp
     refine tU 13 (.tuple #[.slice a1 ss.length c1,.slice a2 qs.length c2]) rfl hH ?_;try go_simp
     refine tU 14 (.slice a1 ss.length c1) rfl hH ?_;try go_simp
     refine tU 15 (.slice a2 qs.length c2) rfl hH ?_;try go_simp
     refine tU 17 (.slice a1 ss.length c1) rfl hH ?_;try go_simp
     refine zL 18 rfl (fun K hK=>?_)
     have hrow:V2.heap[V1.heap.size]?=some (.cells #[.slice none 0 0] 29 (0,0)):=(hk2.block _ (by simp)).trans (heap_alloc_new V1 _)
     have cS:V2.cell? ⟨V1.heap.size,0,none⟩=some (.slice none 0 0):=by rw[cell_of_row _ _ _ _ _ _ hrow];rfl
     have fS:V2.frozen? ⟨V1.heap.size,0,none⟩=false:=frozen_of_row _ _ _ _ _ hrow
     go_simp
     refine hK.out _ _ ?_
     clear hK K
     try go_simp
     refine zJ (by kernel_rfl) ?_ _
     have PP:Pop1 w ss qs (V2.setCell ⟨V1.heap.size,0,none⟩ (.slice a2 qs.length c2)) V1.heap.size a1 c1 a2 c2:=vL (z:=.slice none 0 0) (t:=29) HK1.out (B:=V1.heap.size+1) (by omega) hk2 h1 (fun x hx=>by have:=f1 x hx;simpa using this) h2 (fun x hx=>by have:=f2 x hx;simpa using this)
     obtain⟨W9,hW9⟩:∃W9,W9=V2.setCell ⟨V1.heap.size,0,none⟩ (.slice a2 qs.length c2):=⟨_,rfl⟩
     rw[<-hW9]at PP⊢
     obtain⟨p,hp⟩:∃p,p=V1.heap.size:=⟨_,rfl⟩
     rw[<-hp]at PP⊢
     exact zeP (P:=fun W p a1 c1 a2 c2=>Pop1 w ss qs W p a1 c1 a2 c2) key W9 p a1 c1 a2 c2 PP
   ·go_simp
    refine hK.out _ _ (⟨qS _ (hH.1),qS _ (hH.2)⟩) (fun hN=>?_)
    clear hK K hH
    have hH:=hN
    clear hN
    try go_simp
    refine zC 11 rfl (fun K hK=>?_)
    go_simp
    refine hK.out _ _ (hH) (fun hN=>?_)
    clear hK K hH
    have hH:=hN
    clear hN
    try go_simp
    refine zC 12 rfl (fun K hK=>?_)
    go_simp
    refine(CP.out _ (HK1.out.alloc HK1.out.size _)).mono ?_
    rintro e V2 ⟨⟨a1,c1,a2,c2,rfl,h1,f1,h2,f2⟩,hk2⟩
    go_wp2_with fail
    refine hK.out _ _ (⟨zn hk2 (hH.1),zn hk2 (hH.2)⟩) (fun hN=>?_)
    clear hK K hH
    have hH:=hN
    clear hN
    try go_simp
    refine tU 13 (.tuple #[.slice a1 ss.length c1,.slice a2 qs.length c2]) rfl hH ?_;try go_simp
    refine tU 14 (.slice a1 ss.length c1) rfl hH ?_;try go_simp
    refine tU 15 (.slice a2 qs.length c2) rfl hH ?_;try go_simp
    refine tU 17 (.slice a1 ss.length c1) rfl hH ?_;try go_simp
    refine zL 18 rfl (fun K hK=>?_)
    have hrow:V2.heap[V1.heap.size]?=some (.cells #[.slice none 0 0] 29 (0,0)):=(hk2.block _ (by simp)).trans (heap_alloc_new V1 _)
    have cS:V2.cell? ⟨V1.heap.size,0,none⟩=some (.slice none 0 0):=by rw[cell_of_row _ _ _ _ _ _ hrow];rfl
    have fS:V2.frozen? ⟨V1.heap.size,0,none⟩=false:=frozen_of_row _ _ _ _ _ hrow
    go_simp
    refine hK.out _ _ ?_
    clear hK K
    try go_simp
    refine zJ (by kernel_rfl) ?_ _
    have PP:Pop1 w ss qs (V2.setCell ⟨V1.heap.size,0,none⟩ (.slice a2 qs.length c2)) V1.heap.size a1 c1 a2 c2:=vL (z:=.slice none 0 0) (t:=29) HK1.out (B:=V1.heap.size+1) (by omega) hk2 h1 (fun x hx=>by have:=f1 x hx;simpa using this) h2 (fun x hx=>by have:=f2 x hx;simpa using this)
    obtain⟨W9,hW9⟩:∃W9,W9=V2.setCell ⟨V1.heap.size,0,none⟩ (.slice a2 qs.length c2):=⟨_,rfl⟩
    rw[<-hW9]at PP⊢
    obtain⟨p,hp⟩:∃p,p=V1.heap.size:=⟨_,rfl⟩
    rw[<-hp]at PP⊢
    exact zeP (P:=fun W p a1 c1 a2 c2=>Pop1 w ss qs W p a1 c1 a2 c2) key W9 p a1 c1 a2 c2 PP
  ·go_simp
   refine hK.out _ _ (⟨qS _ (hH.1),qS _ (hH.2)⟩) (fun hN=>?_)
   clear hK K hH
   have hH:=hN
   clear hN
   try go_simp
   refine zC 10 rfl (fun K hK=>?_)
   go_simp
   refine(CLf.out _ (((Below.refl _ _).drew).alloc (Nat.le_refl _) _)).mono ?_
   rintro e V1 ⟨rfl,hk1⟩
   go_wp2_with fail
   refine hK.out _ _ (⟨zn hk1 (hH.1),zn hk1 (hH.2)⟩) (fun hN=>?_)
   clear hK K hH
   have hH:=hN
   clear hN
   try go_simp
   refine zC 11 rfl (fun K hK=>?_)
   go_simp
   refine hK.out _ _ (hH) (fun hN=>?_)
   clear hK K hH
   have hH:=hN
   clear hN
   try go_simp
   refine zC 12 rfl (fun K hK=>?_)
   go_simp
   refine(CP.out _ ((((Below.refl _ _).drew).alloc (Nat.le_refl _) _).trans (hk1.mono (by simp)))).mono ?_
   rintro e V2 ⟨⟨a1,c1,a2,c2,rfl,h1,f1,h2,f2⟩,hk2⟩
   go_wp2_with fail
   refine hK.out _ _ (⟨zn hk2 (hH.1),zn hk2 (hH.2)⟩) (fun hN=>?_)
   clear hK K hH
   have hH:=hN
   clear hN
   try go_simp
   refine tU 13 (.tuple #[.slice a1 ss.length c1,.slice a2 qs.length c2]) rfl hH ?_;try go_simp
   refine tU 14 (.slice a1 ss.length c1) rfl hH ?_;try go_simp
   refine tU 15 (.slice a2 qs.length c2) rfl hH ?_;try go_simp
   refine tU 17 (.slice a1 ss.length c1) rfl hH ?_;try go_simp
   refine zL 18 rfl (fun K hK=>?_)
   have hrow1:V1.heap[w.heap.size]?=some (.cells #[.slice none 0 0] 29 (0,0)):=(hk1.block _ (by simp)).trans (heap_alloc_new w.drew _)
   have hlt1:w.heap.size<V1.heap.size:=(Array.getElem?_eq_some_iff.1 hrow1).1
   have hrow:V2.heap[w.heap.size]?=some (.cells #[.slice none 0 0] 29 (0,0)):=(hk2.block _ hlt1).trans hrow1
   have cS:V2.cell? ⟨w.heap.size,0,none⟩=some (.slice none 0 0):=by rw[cell_of_row _ _ _ _ _ _ hrow];rfl
   have fS:V2.frozen? ⟨w.heap.size,0,none⟩=false:=frozen_of_row _ _ _ _ _ hrow
   go_simp
   refine hK.out _ _ ?_
   clear hK K
   try go_simp
   refine zJ (by kernel_rfl) ?_ _
   have PP:Pop1 w ss qs (V2.setCell ⟨w.heap.size,0,none⟩ (.slice a2 qs.length c2)) w.heap.size a1 c1 a2 c2:=vL (U:=w.drew) (z:=.slice none 0 0) (t:=29) ((Below.refl _ _).drew) (B:=w.heap.size+1) (by show w.heap.size<_;omega) (hk1.trans (hk2.mono hk1.size)) h1 (fun x hx=>by have:=f1 x hx;have:=hk1.size;simp at this;omega) h2 (fun x hx=>by have:=f2 x hx;have:=hk1.size;simp at this;omega)
   obtain⟨W9,hW9⟩:∃W9,W9=V2.setCell ⟨w.heap.size,0,none⟩ (.slice a2 qs.length c2):=⟨_,rfl⟩
   rw[<-hW9]at PP⊢
   obtain⟨p,hp⟩:∃p,p=w.heap.size:=⟨_,rfl⟩
   have PP2:Pop1 w ss qs W9 p a1 c1 a2 c2:=by rw[hp];exact PP
   clear PP
   have PP:=PP2
   rw[<-hp]
   exact zeP (P:=fun W p a1 c1 a2 c2=>Pop1 w ss qs W p a1 c1 a2 c2) key W9 p a1 c1 a2 c2 PP
 ·intro V p a1 c1 a2 c2 hP
  have S1:Hid (St N V b s L):=HS.out.below hP.below
  have T1:Hid (To b w L V L):=ze L hP.below
  have hpn:¬own b L p:=fun h=>by have:=qR HS.out h;have:=hP.far;omega
  have HCI:Hid (CmI N w b L s (fun k=>(s.under.take k).foldl (com1 mach) s) p a1 c1 ss a2 c2 qs V 0 L):=⟨S1.out,T1.out,hP.cell,hpn,hP.l1,fun _=>qX HS.out (Nat.le_refl _) hP.f1,hP.l2,fun _=>qX HS.out (Nat.le_refl _) hP.f2⟩
  have cp:=hP.cell
  clear hP hpn S1 T1 HS CLf CP k333 k2 hmin
  go_wp2_with fail
  go_loopw [23] (fun i wr=>∃k:Nat,k<=qs.length/\i=.int .i64 (k:Int)/\Hid (∃L',CmI N w b L s (fun k=>(s.under.take k).foldl (com1 mach) s) p a1 c1 ss a2 c2 qs wr k L'))
   (fun i _=>qs.length-(intOf i).toNat)
  case atStart=>exact⟨0,by omega,rfl,L,HCI.out⟩
  case round=>
   obtain⟨k,hk,rfl,L',I1⟩:=hrel
   clear HCI cp
   by_cases hlt:k<qs.length
   ·obtain⟨o,ho,hok⟩:=HD.out k (by rw[<-HQL.out];exact hlt)
    obtain⟨u,hu⟩:∃u,u=(s.under.take k).foldl (com1 mach) s:=⟨_,rfl⟩
    have hst:St N wr b u L':=by rw[hu];exact I1.st
    have hun:u.under=s.under:=by rw[hu];exact(jw mach _ s).1
    have CO:Hid (Calls prog 39 #[.pointer (some ⟨b,0,none⟩),dgv o] wr fun e w'=>e=.returned (.tuple #[])/\∃L'',St N w' b (com1 mach u o) L''/\To b wr L' w' L''):=zae hst o (by rw[hu];exact hok)
    have HN:Hid (com1 mach u o=(s.under.take (k+1)).foldl (com1 mach) s):=by
     show _=_
     rw[hu,List.take_add_one,ho,List.foldl_append]
     rfl
    have HI1:Hid (CmI N w b L s (fun k=>(s.under.take k).foldl (com1 mach) s) p a1 c1 ss a2 c2 qs wr k L'):=I1
    have hkl:k<s.under.length:=(List.getElem?_eq_some_iff.1 ho).1
    obtain⟨ug,uo,uc,euv,huc,_,hug,hucs,_⟩:=hst.its.iu.at (by rw[hun];omega)
    rw[hun]at euv huc
    obtain⟨un,hunl⟩:∃un,un=s.under.length:=⟨_,rfl⟩
    rw[<-hunl]at euv huc hkl
    have k334:wr.cell? ⟨b,334,none⟩=some (.slice (some ⟨ug,uo,none⟩) un uc):=(zb hst.row (by omega)).trans (congrArg some euv)
    have HRg:Hid (wr.rangeAt ug (uo+k*28) (dgl o)):=by
     intro i v hv
     rw[Nat.add_assoc]
     exact hucs _ _ (qJ zP (by rw[hun];exact ho) hv)
    have k0:0<=(k:Int):=by omega
    have k1:(k:Int)<(un:Int):=by omega
    have hun32:un<=32:=by omega
    clear I1 hok hst hu hun euv hug hucs ho hunl
    go_wp2_with(refine wpList_load_mid rfl 97 _ rfl ug (uo+k*28) rfl (dgl o) _ HRg.out underlying97 rfl (zN o) ?_)
    refine CO.out.mono ?_
    rintro e V2 ⟨rfl,L2,u1,u2⟩
    rw[HN.out]at u1
    have I2:Hid (CmI N w b L s (fun k=>(s.under.take k).foldl (com1 mach) s) p a1 c1 ss a2 c2 qs V2 (k+1) L2):=HI1.out.move u2 u1
    clear u1 u2 CO HN HI1 HRg k334
    go_wp2_with fail
    exact⟨⟨k+1,by omega,by go_num,L2,I2.out⟩,by simp[intOf];omega⟩
   ·have hkq:k=qs.length:=by omega
    obtain⟨u,hu⟩:∃u,u=(s.under.take k).foldl (com1 mach) s:=⟨_,rfl⟩
    have S1:Hid (St N wr b u L'):=by rw[hu];exact I1.st
    obtain⟨f1,f2,f3⟩:=jw mach (s.under.take k) s
    rw[<-hu]at f1 f2 f3
    have HR2:Hid (r={u with slots:=ss,under:=s.under.drop k,asked:=s.asked.filter fun q=>!decide (q.seq∈qs)}):=by show _=_;rw[HR.out,hu,hkq,HQL.out]
    have HUF:Hid (u.under=s.under/\u.asked=s.asked):=⟨f1,f2⟩
    have HI1:Hid (CmI N w b L s (fun k=>(s.under.take k).foldl (com1 mach) s) p a1 c1 ss a2 c2 qs wr k L'):=I1
    have hkm:k<=s.under.length:=by rw[hkq,HQL.out];exact hmu
    have hk32:k<=32:=by omega
    have hqk:qs.length=k:=hkq.symm
    have HQK:Hid (qs.length=k):=hqk
    have cp:wr.cell? ⟨p,0,none⟩=some (.slice a2 qs.length c2):=I1.cell
    clear hqk
    clear hu f1 f2 f3 I1 HR hkq HD hmu
    obtain⟨ul,hul⟩:∃ul,ul=s.under.drop k:=⟨_,rfl⟩
    have HUL:Hid (ul=s.under.drop k):=hul
    have hull:ul.length=s.under.length-k:=by rw[hul,List.length_drop]
    have HFL:Hid (flat dgl ul=(flat dgl s.under).drop (k*28)):=by show _=_;rw[hul];exact zcv zP _ _
    rw[<-hul]at HR2
    clear hul
    have HSU:Hid (Us wr 97 28 L'.u s.under.length (flat dgl s.under)):=by have:=S1.out.its.iu;rw[HUF.out.1]at this;exact this
    have k334:wr.cell? ⟨b,334,none⟩=some L'.u:=(zb S1.out.row (by omega)).trans rfl
    have k333:wr.cell? ⟨b,333,none⟩=some L'.s:=(zb S1.out.row (by omega)).trans rfl
    have f333:=S1.out.frozen 333
    have f334:=S1.out.frozen 334
    have hbp:b≠p:=fun e=>HI1.out.np (.inl e.symm)
    rcases HSU.out.is with⟨ev,h0⟩|⟨ug,uo,uc,cur,ev,hcur,huc,hucm,_⟩
    ·have hk0:k=0:=by omega
     have V6:Hid (Us wr 97 28 (.slice none 0 0) ul.length (flat dgl ul)):=by
      have:=HSU.out
      have e1:s.under=[]:=List.eq_nil_of_length_eq_zero h0
      rw[ev,e1]at this
      rw[HUL.out,e1,hk0]
      exact this
     rw[ev]at k334
     clear hull h0
     have kz:(k:Int)=0:=by omega
     go_upto_region 6 with fail
     refine zx (S:=fun w'=>w'.cell? ⟨b,334,none⟩=some (.slice none 0 0)/\w'.cell? ⟨p,0,none⟩=some (.slice a2 qs.length c2)) [15] (by kernel_rfl) (⟨k334,cp⟩) (fun hH=>?_)
     refine tU 0 (.pointer (some ⟨b,0,none⟩)) rfl hH ?_;try go_simp
     refine tU 1 (.pointer (some ⟨b,0,none⟩)) rfl hH ?_;try go_simp
     refine tU 2 (.slice a1 ss.length c1) rfl hH ?_;try go_simp
     refine tU 3 (.pointer (some ⟨b,0,none⟩)) rfl hH ?_;try go_simp
     refine tU 4 (.pointer (some ⟨b,0,none⟩)) rfl hH ?_;try go_simp
     refine tU 5 (.pointer (some ⟨b,334,none⟩)) rfl hH ?_;try go_simp
     refine tS 6 (.slice none 0 0) rfl (Or.inl ⟨by rfl,by intro wz hSw;have hc:=hSw.1;go_simp⟩) hH ?_;try go_simp
     refine tS 7 (.slice a2 qs.length c2) rfl (Or.inl ⟨by rfl,by intro wz hSw;have hc:=hSw.2;go_simp⟩) hH ?_;try go_simp
     refine tU 8 (.int .i64 (qs.length:Int)) rfl hH ?_;try go_simp
     refine tX 9 (.slice none 0 0) rfl (Or.inl ⟨by rfl,by intro wz hSw;clear hSw;have hqk:=HQK.out;go_simp⟩) hH ?_;try go_simp
     refine tU 10 (.pointer (some ⟨b,0,none⟩)) rfl hH ?_;try go_simp
     refine tU 11 (.pointer (some ⟨b,333,none⟩)) rfl hH ?_;try go_simp
     refine zC 12 rfl (fun K hK=>?_)
     go_simp
     refine hK.out _ _ (⟨zj1 hH.1 (by simp),vz hH.2 hbp⟩) (fun hN=>?_)
     clear hK K hH
     have hH:=hN
     clear hN
     try go_simp
     refine tU 13 (.pointer (some ⟨b,0,none⟩)) rfl hH ?_;try go_simp
     refine tU 14 (.pointer (some ⟨b,334,none⟩)) rfl hH ?_;try go_simp
     refine zL 15 rfl (fun K hK=>?_)
     go_simp
     refine hK.out _ _ ?_
     clear hK K
     try go_simp
     refine zJ (by kernel_rfl) ?_ _
     have hvb:∀g,(Value.slice none 0 0).ownBlock=some g->L'.u.ownBlock=some g:=fun g hg=>by cases hg
     obtain⟨s2,t2⟩:=xW S1.out HI1.out.l1 HI1.out.f1 V6.out hvb
     have S2:Hid (St N (((wr.setCell ⟨b,333,none⟩ (.slice a1 ss.length c1)).setCell ⟨b,334,none⟩ (.slice none 0 0)).drew) b {u with slots:=ss,under:=ul} {L' with s:=.slice a1 ss.length c1,u:=.slice none 0 0}):=s2
     have T2:Hid (To b w L (((wr.setCell ⟨b,333,none⟩ (.slice a1 ss.length c1)).setCell ⟨b,334,none⟩ (.slice none 0 0)).drew) {L' with s:=.slice a1 ss.length c1,u:=.slice none 0 0}):=HI1.out.tt.trans t2
     have cp2:=qY HI1.out.cell t2 HI1.out.np
     have np2:Hid (¬own b {L' with s:=.slice a1 ss.length c1,u:=.slice none 0 0} p):=qn t2.fresh HI1.out.np (World.block_lt_of_cell? _ _ HI1.out.cell)
     have L22:Hid _:=qo HI1.out.l2 HI1.out.f2 t2
     clear s2 t2 hH cp k333 k334 f333 f334 HI1 V6 S1 HSU HFL hvb HQK kz hk0
     generalize ((wr.setCell ⟨b,333,none⟩ (.slice a1 ss.length c1)).setCell ⟨b,334,none⟩ (.slice none 0 0)).drew=V2 at*
     generalize ({L' with s:=.slice a1 ss.length c1,u:=.slice none 0 0}:Sls)=L2 at*
     obtain⟨u2,hu2⟩:∃u2:Cr,u2={u with slots:=ss,under:=ul}:=⟨_,rfl⟩
     rw[<-hu2]at S2
     have hua:u2.asked=s.asked:=by rw[hu2];exact HUF.out.2
     obtain⟨al,hal⟩:∃l,l=u2.asked.filter (fun q=>!decide (q.seq∈qs)):=⟨_,rfl⟩
     have HR3:Hid (r={u2 with asked:=al}):=by show _=_;rw[HR2.out,hal,hua,hu2]
     have HLA:Hid (u2.asked.length<=100000000):=by rw[hua];exact hlAn
     clear hu2 hua HUF HR2
     have k335:V2.cell? ⟨b,335,none⟩=some L2.a:=(zb S2.out.row (by omega)).trans rfl
     have hq32:qs.length<=32:=by have:=HQL.out;omega
     have CD:Hid (Calls prog 40 #[L2.a,.func (.func 41) #[] #[.pointer (some ⟨p,0,none⟩)]] V2 fun e w'=>∃v',e=.returned v'/\Us w' 100 7 v' al.length (flat cel al)/\V2.grownBy w' L2.a.ownBlock/\v'.ownBlock=L2.a.ownBlock):=by
      rw[hal]
      exact xd 41 p (fun q=>decide (q.seq∈qs)) yq (fun W=>W.cell? ⟨p,0,none⟩=some (.slice a2 qs.length c2)/\LC W a2 qs.length c2 1 (ics qs)) S2.out.its.ia HLA.out
       (fun W W' h hs hb=>⟨(World.cell?_of_block (w:=W) (a:=⟨p,0,none⟩) (hb p (World.block_lt_of_cell? _ _ h.1) (fun e=>np2.out (.inr (.inr (.inr e)))))).trans h.1,qK h.2 hs fun h0 x hx=>by
        obtain⟨g,o,e,hlt,_⟩:=h.2.ad x hx h0
        subst e
        exact hb g hlt (fun e=>L22.out.2 h0 _ hx (.inr (.inr (.inr e))))⟩) (fun W o h=>xo p a2 qs.length c2 (by omega) qs W o h.1 h.2) ⟨cp2,L22.out.1⟩
     clear hal
     go_wp2_with fail
     refine CD.out.mono ?_
     rintro e V5 ⟨v5,rfl,hU5,hG5,hO5⟩
     obtain⟨p5,d5,rfl⟩:=hU5.slice
     have k335b:V5.cell? ⟨b,335,none⟩=some L2.a:=(World.cell?_of_block (w:=V2) (a:=⟨b,335,none⟩) (hG5.block b S2.out.lt (fun h=>(S2.out.apart.2.2 b h.symm).2.2 rfl))).trans k335
     have f335:V5.frozen? ⟨b,335,none⟩=false:=frozen_of_row _ _ _ _ _ ((hG5.block b S2.out.lt (fun h=>(S2.out.apart.2.2 b h.symm).2.2 rfl)).trans S2.out.row)
     have hH5:Hid ((Us V5 100 7 (.slice p5 al.length d5) al.length (flat cel al))/\V2.grownBy V5 L2.a.ownBlock/\(Value.slice p5 al.length d5).ownBlock=L2.a.ownBlock):=⟨hU5,hG5,hO5⟩
     clear hU5 hG5 hO5 CD k335 cp2
     go_wp2_with fail
     obtain⟨s6,t6⟩:=S2.out.newA _ hH5.out.1 hH5.out.2.1 (fun g hg=>.inl (by rw[<-hH5.out.2.2];exact hg))
     rw[<-HR3.out]at s6
     refine bodyPost_end (results_none rfl _ _ _) rfl ⟨rfl,_,s6,T2.out.trans t6⟩
    ·rw[ev]at k334
     by_cases hkc:k<uc
     ·have hne:¬uc=k:=by omega
      have V6:Hid (Us wr 97 28 (.slice (some ⟨ug,uo+k*28,none⟩) (s.under.length-k) (uc-k)) ul.length (flat dgl ul)):=by
       have:=HSU.out
       rw[ev]at this
       rw[HFL.out,hull]
       exact this.drop k hkm hkc
      have hk1:(k:Int)<=(s.under.length:Int):=by omega
      go_upto_region 6 with fail
      refine zx (S:=fun w'=>w'.cell? ⟨b,334,none⟩=some (.slice (some ⟨ug,uo,none⟩) s.under.length uc)/\w'.cell? ⟨p,0,none⟩=some (.slice a2 qs.length c2)) [15] (by kernel_rfl) (⟨k334,cp⟩) (fun hH=>?_)
      refine tU 0 (.pointer (some ⟨b,0,none⟩)) rfl hH ?_;try go_simp
      refine tU 1 (.pointer (some ⟨b,0,none⟩)) rfl hH ?_;try go_simp
      refine tU 2 (.slice a1 ss.length c1) rfl hH ?_;try go_simp
      refine tU 3 (.pointer (some ⟨b,0,none⟩)) rfl hH ?_;try go_simp
      refine tU 4 (.pointer (some ⟨b,0,none⟩)) rfl hH ?_;try go_simp
      refine tU 5 (.pointer (some ⟨b,334,none⟩)) rfl hH ?_;try go_simp
      refine tS 6 (.slice (some ⟨ug,uo,none⟩) s.under.length uc) rfl (Or.inl ⟨by rfl,by intro wz hSw;have hc:=hSw.1;go_simp⟩) hH ?_;try go_simp
      refine tS 7 (.slice a2 qs.length c2) rfl (Or.inl ⟨by rfl,by intro wz hSw;have hc:=hSw.2;go_simp⟩) hH ?_;try go_simp
      refine tU 8 (.int .i64 (qs.length:Int)) rfl hH ?_;try go_simp
      refine tX 9 (.slice (some ⟨ug,uo+k*28,none⟩) (s.under.length-k) (uc-k)) rfl (Or.inl ⟨by rfl,by intro wz hSw;clear hSw;have hqk:=HQK.out;go_simp⟩) hH ?_;try go_simp
      refine tU 10 (.pointer (some ⟨b,0,none⟩)) rfl hH ?_;try go_simp
      refine tU 11 (.pointer (some ⟨b,333,none⟩)) rfl hH ?_;try go_simp
      refine zC 12 rfl (fun K hK=>?_)
      go_simp
      refine hK.out _ _ (⟨zj1 hH.1 (by simp),vz hH.2 hbp⟩) (fun hN=>?_)
      clear hK K hH
      have hH:=hN
      clear hN
      try go_simp
      refine tU 13 (.pointer (some ⟨b,0,none⟩)) rfl hH ?_;try go_simp
      refine tU 14 (.pointer (some ⟨b,334,none⟩)) rfl hH ?_;try go_simp
      refine zL 15 rfl (fun K hK=>?_)
      go_simp
      refine hK.out _ _ ?_
      clear hK K
      try go_simp
      refine zJ (by kernel_rfl) ?_ _
      have hvb:∀g,(Value.slice (some ⟨ug,uo+k*28,none⟩) (s.under.length-k) (uc-k)).ownBlock=some g->L'.u.ownBlock=some g:=fun g hg=>by rw[ev];exact hg
      obtain⟨s2,t2⟩:=xW S1.out HI1.out.l1 HI1.out.f1 V6.out hvb
      have S2:Hid (St N (((wr.setCell ⟨b,333,none⟩ (.slice a1 ss.length c1)).setCell ⟨b,334,none⟩ (.slice (some ⟨ug,uo+k*28,none⟩) (s.under.length-k) (uc-k))).drew) b {u with slots:=ss,under:=ul} {L' with s:=.slice a1 ss.length c1,u:=.slice (some ⟨ug,uo+k*28,none⟩) (s.under.length-k) (uc-k)}):=s2
      have T2:Hid (To b w L (((wr.setCell ⟨b,333,none⟩ (.slice a1 ss.length c1)).setCell ⟨b,334,none⟩ (.slice (some ⟨ug,uo+k*28,none⟩) (s.under.length-k) (uc-k))).drew) {L' with s:=.slice a1 ss.length c1,u:=.slice (some ⟨ug,uo+k*28,none⟩) (s.under.length-k) (uc-k)}):=HI1.out.tt.trans t2
      have cp2:=qY HI1.out.cell t2 HI1.out.np
      have np2:Hid (¬own b {L' with s:=.slice a1 ss.length c1,u:=.slice (some ⟨ug,uo+k*28,none⟩) (s.under.length-k) (uc-k)} p):=qn t2.fresh HI1.out.np (World.block_lt_of_cell? _ _ HI1.out.cell)
      have L22:Hid _:=qo HI1.out.l2 HI1.out.f2 t2
      clear s2 t2 hH cp k333 k334 f333 f334 HI1 V6 S1 HSU HFL hvb HQK
      generalize ((wr.setCell ⟨b,333,none⟩ (.slice a1 ss.length c1)).setCell ⟨b,334,none⟩ (.slice (some ⟨ug,uo+k*28,none⟩) (s.under.length-k) (uc-k))).drew=V2 at*
      generalize ({L' with s:=.slice a1 ss.length c1,u:=.slice (some ⟨ug,uo+k*28,none⟩) (s.under.length-k) (uc-k)}:Sls)=L2 at*
      obtain⟨u2,hu2⟩:∃u2:Cr,u2={u with slots:=ss,under:=ul}:=⟨_,rfl⟩
      rw[<-hu2]at S2
      have hua:u2.asked=s.asked:=by rw[hu2];exact HUF.out.2
      obtain⟨al,hal⟩:∃l,l=u2.asked.filter (fun q=>!decide (q.seq∈qs)):=⟨_,rfl⟩
      have HR3:Hid (r={u2 with asked:=al}):=by show _=_;rw[HR2.out,hal,hua,hu2]
      have HLA:Hid (u2.asked.length<=100000000):=by rw[hua];exact hlAn
      clear hu2 hua HUF HR2
      have k335:V2.cell? ⟨b,335,none⟩=some L2.a:=(zb S2.out.row (by omega)).trans rfl
      have hq32:qs.length<=32:=by have:=HQL.out;omega
      have CD:Hid (Calls prog 40 #[L2.a,.func (.func 41) #[] #[.pointer (some ⟨p,0,none⟩)]] V2 fun e w'=>∃v',e=.returned v'/\Us w' 100 7 v' al.length (flat cel al)/\V2.grownBy w' L2.a.ownBlock/\v'.ownBlock=L2.a.ownBlock):=by
       rw[hal]
       exact xd 41 p (fun q=>decide (q.seq∈qs)) yq (fun W=>W.cell? ⟨p,0,none⟩=some (.slice a2 qs.length c2)/\LC W a2 qs.length c2 1 (ics qs)) S2.out.its.ia HLA.out
        (fun W W' h hs hb=>⟨(World.cell?_of_block (w:=W) (a:=⟨p,0,none⟩) (hb p (World.block_lt_of_cell? _ _ h.1) (fun e=>np2.out (.inr (.inr (.inr e)))))).trans h.1,qK h.2 hs fun h0 x hx=>by
         obtain⟨g,o,e,hlt,_⟩:=h.2.ad x hx h0
         subst e
         exact hb g hlt (fun e=>L22.out.2 h0 _ hx (.inr (.inr (.inr e))))⟩) (fun W o h=>xo p a2 qs.length c2 (by omega) qs W o h.1 h.2) ⟨cp2,L22.out.1⟩
      clear hal
      go_wp2_with fail
      refine CD.out.mono ?_
      rintro e V5 ⟨v5,rfl,hU5,hG5,hO5⟩
      obtain⟨p5,d5,rfl⟩:=hU5.slice
      have k335b:V5.cell? ⟨b,335,none⟩=some L2.a:=(World.cell?_of_block (w:=V2) (a:=⟨b,335,none⟩) (hG5.block b S2.out.lt (fun h=>(S2.out.apart.2.2 b h.symm).2.2 rfl))).trans k335
      have f335:V5.frozen? ⟨b,335,none⟩=false:=frozen_of_row _ _ _ _ _ ((hG5.block b S2.out.lt (fun h=>(S2.out.apart.2.2 b h.symm).2.2 rfl)).trans S2.out.row)
      have hH5:Hid ((Us V5 100 7 (.slice p5 al.length d5) al.length (flat cel al))/\V2.grownBy V5 L2.a.ownBlock/\(Value.slice p5 al.length d5).ownBlock=L2.a.ownBlock):=⟨hU5,hG5,hO5⟩
      clear hU5 hG5 hO5 CD k335 cp2
      go_wp2_with fail
      obtain⟨s6,t6⟩:=S2.out.newA _ hH5.out.1 hH5.out.2.1 (fun g hg=>.inl (by rw[<-hH5.out.2.2];exact hg))
      rw[<-HR3.out]at s6
      refine bodyPost_end (results_none rfl _ _ _) rfl ⟨rfl,_,s6,T2.out.trans t6⟩
     ·have hkc2:uc<=s.under.length:=by omega
      have hkc3:uc=k:=by omega
      have hlk:s.under.length-k=0:=by omega
      have V6:Hid (Us wr 97 28 (.slice (some ⟨ug,uo,none⟩) 0 0) ul.length (flat dgl ul)):=by
       have:=HSU.out
       rw[ev]at this
       have h1:s.under.length=k:=by omega
       rw[HFL.out,hull,h1,Nat.sub_self]
       have e2:(flat dgl s.under).drop (k*28)=[]:=List.drop_eq_nil_of_le (by rw[kE zP,h1];exact Nat.le_refl _)
       rw[e2]
       exact this.empty
      have hk1:(k:Int)<=(s.under.length:Int):=by omega
      have HKC:Hid (uc=k):=hkc3
      clear hkc3
      go_upto_region 6 with fail
      refine zx (S:=fun w'=>w'.cell? ⟨b,334,none⟩=some (.slice (some ⟨ug,uo,none⟩) s.under.length uc)/\w'.cell? ⟨p,0,none⟩=some (.slice a2 qs.length c2)) [15] (by kernel_rfl) (⟨k334,cp⟩) (fun hH=>?_)
      refine tU 0 (.pointer (some ⟨b,0,none⟩)) rfl hH ?_;try go_simp
      refine tU 1 (.pointer (some ⟨b,0,none⟩)) rfl hH ?_;try go_simp
      refine tU 2 (.slice a1 ss.length c1) rfl hH ?_;try go_simp
      refine tU 3 (.pointer (some ⟨b,0,none⟩)) rfl hH ?_;try go_simp
      refine tU 4 (.pointer (some ⟨b,0,none⟩)) rfl hH ?_;try go_simp
      refine tU 5 (.pointer (some ⟨b,334,none⟩)) rfl hH ?_;try go_simp
      refine tS 6 (.slice (some ⟨ug,uo,none⟩) s.under.length uc) rfl (Or.inl ⟨by rfl,by intro wz hSw;have hc:=hSw.1;go_simp⟩) hH ?_;try go_simp
      refine tS 7 (.slice a2 qs.length c2) rfl (Or.inl ⟨by rfl,by intro wz hSw;have hc:=hSw.2;go_simp⟩) hH ?_;try go_simp
      refine tU 8 (.int .i64 (qs.length:Int)) rfl hH ?_;try go_simp
      refine tX 9 (.slice (some ⟨ug,uo,none⟩) 0 0) rfl (Or.inl ⟨by rfl,by intro wz hSw;clear hSw;have hqk:=HQK.out;have hkc3:=HKC.out;go_simp⟩) hH ?_;try go_simp
      refine tU 10 (.pointer (some ⟨b,0,none⟩)) rfl hH ?_;try go_simp
      refine tU 11 (.pointer (some ⟨b,333,none⟩)) rfl hH ?_;try go_simp
      refine zC 12 rfl (fun K hK=>?_)
      go_simp
      refine hK.out _ _ (⟨zj1 hH.1 (by simp),vz hH.2 hbp⟩) (fun hN=>?_)
      clear hK K hH
      have hH:=hN
      clear hN
      try go_simp
      refine tU 13 (.pointer (some ⟨b,0,none⟩)) rfl hH ?_;try go_simp
      refine tU 14 (.pointer (some ⟨b,334,none⟩)) rfl hH ?_;try go_simp
      refine zL 15 rfl (fun K hK=>?_)
      go_simp
      refine hK.out _ _ ?_
      clear hK K
      try go_simp
      refine zJ (by kernel_rfl) ?_ _
      have hvb:∀g,(Value.slice (some ⟨ug,uo,none⟩) 0 0).ownBlock=some g->L'.u.ownBlock=some g:=fun g hg=>by rw[ev];exact hg
      obtain⟨s2,t2⟩:=xW S1.out HI1.out.l1 HI1.out.f1 V6.out hvb
      have S2:Hid (St N (((wr.setCell ⟨b,333,none⟩ (.slice a1 ss.length c1)).setCell ⟨b,334,none⟩ (.slice (some ⟨ug,uo,none⟩) 0 0)).drew) b {u with slots:=ss,under:=ul} {L' with s:=.slice a1 ss.length c1,u:=.slice (some ⟨ug,uo,none⟩) 0 0}):=s2
      have T2:Hid (To b w L (((wr.setCell ⟨b,333,none⟩ (.slice a1 ss.length c1)).setCell ⟨b,334,none⟩ (.slice (some ⟨ug,uo,none⟩) 0 0)).drew) {L' with s:=.slice a1 ss.length c1,u:=.slice (some ⟨ug,uo,none⟩) 0 0}):=HI1.out.tt.trans t2
      have cp2:=qY HI1.out.cell t2 HI1.out.np
      have np2:Hid (¬own b {L' with s:=.slice a1 ss.length c1,u:=.slice (some ⟨ug,uo,none⟩) 0 0} p):=qn t2.fresh HI1.out.np (World.block_lt_of_cell? _ _ HI1.out.cell)
      have L22:Hid _:=qo HI1.out.l2 HI1.out.f2 t2
      clear s2 t2 hH cp k333 k334 f333 f334 HI1 V6 S1 HSU HFL hvb HQK
      generalize ((wr.setCell ⟨b,333,none⟩ (.slice a1 ss.length c1)).setCell ⟨b,334,none⟩ (.slice (some ⟨ug,uo,none⟩) 0 0)).drew=V2 at*
      generalize ({L' with s:=.slice a1 ss.length c1,u:=.slice (some ⟨ug,uo,none⟩) 0 0}:Sls)=L2 at*
      obtain⟨u2,hu2⟩:∃u2:Cr,u2={u with slots:=ss,under:=ul}:=⟨_,rfl⟩
      rw[<-hu2]at S2
      have hua:u2.asked=s.asked:=by rw[hu2];exact HUF.out.2
      obtain⟨al,hal⟩:∃l,l=u2.asked.filter (fun q=>!decide (q.seq∈qs)):=⟨_,rfl⟩
      have HR3:Hid (r={u2 with asked:=al}):=by show _=_;rw[HR2.out,hal,hua,hu2]
      have HLA:Hid (u2.asked.length<=100000000):=by rw[hua];exact hlAn
      clear hu2 hua HUF HR2
      have k335:V2.cell? ⟨b,335,none⟩=some L2.a:=(zb S2.out.row (by omega)).trans rfl
      have hq32:qs.length<=32:=by have:=HQL.out;omega
      have CD:Hid (Calls prog 40 #[L2.a,.func (.func 41) #[] #[.pointer (some ⟨p,0,none⟩)]] V2 fun e w'=>∃v',e=.returned v'/\Us w' 100 7 v' al.length (flat cel al)/\V2.grownBy w' L2.a.ownBlock/\v'.ownBlock=L2.a.ownBlock):=by
       rw[hal]
       exact xd 41 p (fun q=>decide (q.seq∈qs)) yq (fun W=>W.cell? ⟨p,0,none⟩=some (.slice a2 qs.length c2)/\LC W a2 qs.length c2 1 (ics qs)) S2.out.its.ia HLA.out
        (fun W W' h hs hb=>⟨(World.cell?_of_block (w:=W) (a:=⟨p,0,none⟩) (hb p (World.block_lt_of_cell? _ _ h.1) (fun e=>np2.out (.inr (.inr (.inr e)))))).trans h.1,qK h.2 hs fun h0 x hx=>by
         obtain⟨g,o,e,hlt,_⟩:=h.2.ad x hx h0
         subst e
         exact hb g hlt (fun e=>L22.out.2 h0 _ hx (.inr (.inr (.inr e))))⟩) (fun W o h=>xo p a2 qs.length c2 (by omega) qs W o h.1 h.2) ⟨cp2,L22.out.1⟩
      clear hal
      go_wp2_with fail
      refine CD.out.mono ?_
      rintro e V5 ⟨v5,rfl,hU5,hG5,hO5⟩
      obtain⟨p5,d5,rfl⟩:=hU5.slice
      have k335b:V5.cell? ⟨b,335,none⟩=some L2.a:=(World.cell?_of_block (w:=V2) (a:=⟨b,335,none⟩) (hG5.block b S2.out.lt (fun h=>(S2.out.apart.2.2 b h.symm).2.2 rfl))).trans k335
      have f335:V5.frozen? ⟨b,335,none⟩=false:=frozen_of_row _ _ _ _ _ ((hG5.block b S2.out.lt (fun h=>(S2.out.apart.2.2 b h.symm).2.2 rfl)).trans S2.out.row)
      have hH5:Hid ((Us V5 100 7 (.slice p5 al.length d5) al.length (flat cel al))/\V2.grownBy V5 L2.a.ownBlock/\(Value.slice p5 al.length d5).ownBlock=L2.a.ownBlock):=⟨hU5,hG5,hO5⟩
      clear hU5 hG5 hO5 CD k335 cp2
      go_wp2_with fail
      obtain⟨s6,t6⟩:=S2.out.newA _ hH5.out.1 hH5.out.2.1 (fun g hg=>.inl (by rw[<-hH5.out.2.2];exact hg))
      rw[<-HR3.out]at s6
      refine bodyPost_end (results_none rfl _ _ _) rfl ⟨rfl,_,s6,T2.out.trans t6⟩
end Go.Proofs.YtpiohehijkpghabGreatDoor.Co
