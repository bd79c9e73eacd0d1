/- A core ahead of its first cycle: its cells. -/
import Derived.Test.YtpiohehijkpghacGreatDoorD28
open Go renaming results_none->Ad,frozen_of_row->Ae,cell_of_row->Ag,bodyPost_end->Ai,rounds_succ->Am
open Go.RowKit.Below renaming refl->Af
open Go.Value renaming slice->Aj
open Go.World renaming block_lt_of_cell?->Aa,cell?_of_block->WZ
open Go.World.grownBy renaming refl->Ao
open List renaming mem_of_mem_take->Ak
open Nat renaming le_refl->Ab,sub_self->An
open Option.some renaming inj->Ah
set_option maxHeartbeats 8000000
set_option maxRecDepth 100000
set_option linter.unusedSimpArgs false
set_option linter.unusedVariables false
open Go.Proofs.Tryz
namespace Go.Proofs.YtpiohehijkpghacGreatDoor.Co
open Go.RowKit
open Hy
open Wi Od Re.Hy
open Gu.Hy (Tb tcs)
theorem zcr(M:Mc):∀(l:List Dg) (s:Cr),(l.foldl (com1 M) s).coms.length=s.coms.length+l.length
 |[],s=>rfl
 |o::l,s=>by
  have:=zcr M l (com1 M s o)
  rw[List.foldl_cons,this]
  show(s.coms++[o.c]).length+l.length=_
  simp
  omega
theorem zos{K:Int}{s:Cr}{m:Nat->Int}(A:Al mach K s m)(hc:s.coms.length<=2000){k:Nat}(hk:k<s.under.length)(hd:∀o∈s.under.take (k+1),o.st=2):∃o,s.under[k]?=some o/\ComOk ((s.under.take k).foldl (com1 mach) s) o:=by
 obtain⟨m',o,l,I',hu,ho,h2⟩:=zhP zM k s m A.inv hk hd
 refine⟨o,ho,?_⟩
 have hdr:=A.rg.und o (List.mem_of_getElem? ho)
 have hrg:=zbg jE (s.under.take k) A.rg (fun o ho=>A.rg.und o (Ak ho))
 have hrd:=zd8 zM I'.ch o (by rw[hu];exact List.mem_cons_self ..)
 have hnm:Dis (comN mach k s).phys (comN mach k s).regs (comN mach k s).free:=zcg zM I'
 have hph:((s.under.take k).foldl (com1 mach) s).phys=s.phys:=by
  have key:∀(l:List Dg) (s:Cr),(l.foldl (com1 mach) s).phys=s.phys:=by
   intro l
   induction l with
   |nil=>intro s;rfl
   |cons o l ih=>intro s;exact ih (com1 mach s o)
  exact key _ s
 refine⟨hdr.pc,hdr.c,hrg.tb,?_,⟨by rw[hph];exact A.low,by rw[hph];exact A.rg.phys,hnm⟩,fun h0=>?_,fun hm=>?_⟩
 ·rw[zcr,List.length_take]
  have:=A.len
  omega
 ·have hd:=I'.dis
  have hreg:=I'.reg
  have hol:Olds m' (comN mach k s).under:=vr I'.ch
  rw[hu]at hd hreg hol
  obtain⟨g1,g2,g3,g4⟩:=zjC hd hrd h0 (hol.1 h0)
  rw[hreg]at g4
  exact⟨g1,g2,g3,g4⟩
 ·exact zme zM zmh I' hu h2 hm
theorem zeG{Φ P:World->Nat->Option Addr->Nat->Option Addr->Nat->Prop}(x:∀W p a1 c1 a2 c2,P W p a1 c1 a2 c2->Φ W p a1 c1 a2 c2)(W:World)(p:Nat)(a1:Option Addr)(c1:Nat)(a2:Option Addr)(c2:Nat)(h:P W p a1 c1 a2 c2):Φ W p a1 c1 a2 c2:=x W p a1 c1 a2 c2 h
theorem xT{N:Nat}{wr:World}{b:Nat}{u:Cr}{L':Sls}(S:St N wr b u L'){a1:Option Addr}{c1:Nat}{ss:List Sl}(hl:LC wr a1 ss.length c1 2 (scs ss))(f1:0<ss.length->∀x,a1=some x->¬own b L' x.block){v:Value}{ul:List Dg}(hU:Us wr 132 28 v ul.length (flat dgl ul))(hv:∀g,v.ownBlock=some g->L'.u.ownBlock=some g):
  St N (((wr.setCell ⟨b,333,none⟩ (.slice a1 ss.length c1)).setCell ⟨b,334,none⟩ v).drew) b {u with slots:=ss,under:=ul} {L' with s:=.slice a1 ss.length c1,u:=v}/\To b wr L' (((wr.setCell ⟨b,333,none⟩ (.slice a1 ss.length c1)).setCell ⟨b,334,none⟩ v).drew) {L' with s:=.slice a1 ss.length c1,u:=v}:=by
 obtain⟨s2,t2⟩:=S.setSlots0 hl f1
 have hU2:Us (wr.setCell ⟨b,333,none⟩ (.slice a1 ss.length c1)) 132 28 v ul.length (flat dgl ul):=hU.move fun g hg=>(zZ wr b 333 _).block g (S.its.lt (.inr (.inl (hv g hg)))) (fun e=>(S.apart.2.1 g (hv g hg)).2.2 (Ah e))
 obtain⟨s3,t3⟩:=s2.newU ul hU2 (Ao _ _) (fun g hg=>.inl (hv g hg))
 exact⟨s3.dr,(t2.trans t3).dr⟩
structure CmI(N:Nat)(w:World)(b:Nat)(L:Sls)(s:Cr)(F:Nat->Cr)(p:Nat)(a1:Option Addr)(c1:Nat)(ss:List Sl)(a2:Option Addr)(c2:Nat)(qs:List Int)(wr:World)(k:Nat)(L':Sls):Prop where
 st:St N wr b (F k) L'
 tt:To b w L wr L'
 cell:wr.cell? ⟨p,0,none⟩=some (.slice a2 qs.length c2)
 np:¬own b L' p
 l1:LC wr a1 ss.length c1 2 (scs ss)
 f1:0<ss.length->∀x,a1=some x->¬own b L' x.block
 l2:LC wr a2 qs.length c2 1 (ics qs)
 f2:0<qs.length->∀x,a2=some x->¬own b L' x.block
theorem CmI.move{N:Nat}{w:World}{b:Nat}{L:Sls}{s:Cr}{F:Nat->Cr}{p:Nat}{a1:Option Addr}{c1:Nat}{ss:List Sl}{a2:Option Addr}{c2:Nat}{qs:List Int}{wr W:World}{k j:Nat}{L' L2:Sls}(h:CmI N w b L s F p a1 c1 ss a2 c2 qs wr k L')(T:To b wr L' W L2)(S:St N W b (F j) L2):CmI N w b L s F p a1 c1 ss a2 c2 qs W j L2:=by
 obtain⟨x1,x2⟩:=qy h.l1 h.f1 T
 obtain⟨y1,y2⟩:=qy h.l2 h.f2 T
 exact⟨S,h.tt.trans T,jt h.cell T h.np,qm T.fresh h.np (Aa _ _ h.cell),x1,x2,y1,y2⟩
structure Pop1(w:World)(ss:List Sl)(qs:List Int)(W:World)(p:Nat)(a1:Option Addr)(c1:Nat)(a2:Option Addr)(c2:Nat):Prop where
 below:Below w.heap.size w W
 far:w.heap.size<=p
 cell:W.cell? ⟨p,0,none⟩=some (.slice a2 qs.length c2)
 l1:LC W a1 ss.length c1 2 (scs ss)
 f1:FarC w.heap.size a1
 l2:LC W a2 qs.length c2 1 (ics qs)
 f2:FarC w.heap.size a2
theorem zfH{w V:World}{p:Nat}{v:Value}(h:Below w.heap.size w V)(hp:w.heap.size<=p):Below w.heap.size w (V.setCell ⟨p,0,none⟩ v):=by
 have hg:=zZ V p 0 v
 exact⟨hg.os.trans h.os,hg.tape.trans h.tape,hg.output.trans h.output,Nat.le_trans h.size hg.size,fun g hgl=>(hg.block g (by have:=h.size;omega) (fun e=>by have:=Ah e;omega)).trans (h.block g hgl)⟩
theorem zkB{V:World}{p:Nat}{v:Value}{a:Option Addr}{n c size:Nat}{cs:List Value}(h:LC V a n c size cs)(hp:∀x,a=some x->0<n->x.block≠p):LC (V.setCell ⟨p,0,none⟩ v) a n c size cs:=
 qH h (zZ V p 0 v).size fun h0 x hx=>(zZ V p 0 v).block _ (by
  obtain⟨g,o,e,hlt,_⟩:=h.ad x hx h0
  subst e
  exact hlt) (fun e=>hp x hx h0 (Ah e))
theorem zjT{w V:World}{ss:List Sl}{qs:List Int}{a1 a2:Option Addr}{c1 c2:Nat}{t:TypeId}(hb:Below w.heap.size w V)(h1:LC V a1 ss.length c1 2 (scs ss))(f1:FarC w.heap.size a1)(h2:LC V a2 qs.length c2 1 (ics qs))(f2:FarC w.heap.size a2):
  Pop1 w ss qs (V.alloc (.cells #[.slice a2 qs.length c2] t)) V.heap.size a1 c1 a2 c2:=by
 have k0:Below V.heap.size V (V.alloc (.cells #[.slice a2 qs.length c2] t)):=(Af _ _).alloc (Ab _) _
 refine⟨hb.trans (k0.mono hb.size),hb.size,?_,h1.below (Ab _) k0,f1,h2.below (Ab _) k0,f2⟩
 rw[Ag _ _ _ _ _ _ (heap_alloc_new V _)]
 rfl
theorem vU{w U V:World}{ss:List Sl}{qs:List Int}{a1 a2:Option Addr}{c1 c2:Nat}{t:TypeId}{z:Value}(hu:Below w.heap.size w U){B:Nat}(hB:U.heap.size<B)(hb:Below (U.alloc (.cells #[z] t)).heap.size (U.alloc (.cells #[z] t)) V)(h1:LC V a1 ss.length c1 2 (scs ss))(f1:FarC B a1)(h2:LC V a2 qs.length c2 1 (ics qs))(f2:FarC B a2):
  Pop1 w ss qs (V.setCell ⟨U.heap.size,0,none⟩ (.slice a2 qs.length c2)) U.heap.size a1 c1 a2 c2:=by
 have k0:Below U.heap.size U (U.alloc (.cells #[z] t)):=(Af _ _).alloc (Ab _) _
 have k1:Below w.heap.size w (U.alloc (.cells #[z] t)):=hu.trans (k0.mono hu.size)
 have k2:Below w.heap.size w V:=k1.trans (hb.mono k1.size)
 have hrow:V.heap[U.heap.size]?=some (.cells #[z] t (0,0)):=(hb.block _ (by simp)).trans (heap_alloc_new U _)
 have hs:=hu.size
 refine⟨zfH k2 hs,hs,?_,zkB h1 (fun x hx _ e=>by have:=f1 x hx;omega),fun x hx=>by have:=f1 x hx;omega,zkB h2 (fun x hx _ e=>by have:=f2 x hx;omega),fun x hx=>by have:=f2 x hx;omega⟩
 rw[Ag _ _ _ _ _ _ (heap_put hrow)]
 rfl
theorem zdy{N:Nat}{w:World}{b:Nat}{s:Cr}{L:Sls}(S:St N w b s L){m:Nat->Int}{K:Int}(A:Al mach K s m)(hK:K<=9000000)(hc:s.coms.length<=2000)(y0:0<=s.cyc)(y1:s.cyc<=6000):
  Calls prog 29 #[.pointer (some ⟨b,0,none⟩)] w fun e w'=>e=.returned (.tuple #[])/\∃L',St N w' b (commit mach s) L'/\To b w L w' L':=by
 have hmf:∀(fn:Fn) (first cap:Array Value) (w:World),(Instr.makeFunc fn first cap).run prog w=.ok (.func fn first cap) w:=fun _ _ _ _=>rfl
 obtain⟨lf,hlf⟩:∃lf,lf=left s:=⟨_,rfl⟩
 obtain⟨mi,hmi⟩:∃mi,mi=min s.wide lf:=⟨_,rfl⟩
 obtain⟨mm,hmm⟩:∃mm,mm=qT s.slots mi.toNat:=⟨_,rfl⟩
 obtain⟨r,hr⟩:∃r,r=commit mach s:=⟨_,rfl⟩
 have hgo:=yD s.slots mi.toNat
 rw[<-hmm]at hgo
 have hsl:s.slots.length=s.under.length:=by rw[A.inv.slo,List.length_map]
 have hmu:mm<=s.under.length:=by omega
 have hd:∀o∈s.under.take mm,o.st=2:=by
  rw[hmm,A.inv.slo]
  exact xv s.under _
 have HD:Hid (∀k,k<mm->∃o,s.under[k]?=some o/\ComOk ((s.under.take k).foldl (com1 mach) s) o):=fun k hk=>zos A hc (by omega) (fun o ho=>hd o (by
  have:s.under.take (k+1)=(s.under.take mm).take (k+1):=by rw[List.take_take,Nat.min_eq_left (by omega)]
  rw[this]at ho
  exact Ak ho))
 obtain⟨ss,hss⟩:∃ss,ss=s.slots.drop mm:=⟨_,rfl⟩
 obtain⟨qs,hqs⟩:∃qs,qs=jS s.slots mm:=⟨_,rfl⟩
 have HQL:Hid (qs.length=mm):=by show _=_;rw[hqs];exact kj rfl hgo.2
 have HR:Hid (r={(s.under.take mm).foldl (com1 mach) s with slots:=ss,under:=s.under.drop mm,asked:=s.asked.filter fun q=>!decide (q.seq∈qs)}):=by
  show _=_
  rw[hr,hss,hqs,hmm,hmi,hlf]
  rfl
 rw[<-hr]
 have hln:=A.len
 have hlA:=A.rg.lenA
 have CLf:Hid (∀W,Below w.heap.size w W->Calls prog 51 #[.pointer (some ⟨b,0,none⟩)] W fun e w'=>e=.returned (.int .i64 lf)/\Below W.heap.size W w'):=fun W hW=>by rw[hlf];exact zha (S.below hW) (by omega) y0 y1
 obtain⟨a0,c0,ea,hl0⟩:=S.its.isl
 have k333:w.cell? ⟨b,333,none⟩=some (.slice a0 s.slots.length c0):=(zd S.row (by omega)).trans (congrArg some ea)
 have k2:w.cell? ⟨b,2,none⟩=some (.int .i64 s.wide):=(zd S.row (by omega)).trans rfl
 have CP:Hid (∀W,Below w.heap.size w W->Calls prog 50 #[.slice a0 s.slots.length c0,.int .i64 mi] W fun e w'=>(∃a1 c1 a2 c2,e=.returned (.tuple #[.slice a1 ss.length c1,.slice a2 qs.length c2])/\LC w' a1 ss.length c1 2 (scs ss)/\FarC W.heap.size a1/\LC w' a2 qs.length c2 1 (ics qs)/\FarC W.heap.size a2)/\Below W.heap.size W w'):=fun W hW=>by
  have:=cPop S mi mm (by rw[hmm];exact zhO s.slots mi) (by omega) W hW
  rw[ea,<-hss,<-hqs]at this
  exact this
 have HMI:Hid (min s.wide lf=mi):=hmi.symm
 have hmin:min s.wide lf=mi:=hmi.symm
 have HS:Hid (St N w b s L):=S
 have hlAn:s.asked.length<=100000000:=by omega
 clear hlf hmi hmm hr hgo hsl hd hss hqs A S ea hl0 hlA HMI y0 y1
 go_enter func29,ntmps29
 go_upto_region 0 with fail
 apply keyed
 ·intro key
  refine zq (S:=fun w'=>w'.cell? ⟨b,333,none⟩=some (.slice a0 s.slots.length c0)/\w'.cell? ⟨b,2,none⟩=some (.int .i64 s.wide)) [18] (by kernel_rfl) (⟨k333,k2⟩) (fun hH=>?_)
  refine tU 0 (.pointer (some ⟨b,0,none⟩)) ?_;go_simp
  refine tU 1 (.pointer (some ⟨b,0,none⟩)) ?_;go_simp
  refine tU 2 (.pointer (some ⟨b,333,none⟩)) ?_;go_simp
  refine tA 3 (.slice a0 s.slots.length c0) ?_;go_simp
  refine tU 4 (.pointer (some ⟨b,0,none⟩)) ?_;go_simp
  refine tU 5 (.pointer (some ⟨b,0,none⟩)) ?_;go_simp
  refine tU 6 (.pointer (some ⟨b,0,none⟩)) ?_;go_simp
  refine tU 7 (.pointer (some ⟨b,2,none⟩)) ?_;go_simp
  refine tB 8 (.int .i64 s.wide) ?_;go_simp
  refine tU 9 (.pointer (some ⟨b,0,none⟩)) ?_;go_simp
  refine rZ [10,16] ?_
  refine(zi.cons rfl (fun K hK=>?_) (zi.cons rfl (fun K hK=>?_) zi.nil))
  ·go_simp
   refine(CLf.out _ ((Af _ _).drew)).mono ?_
   rintro e V1 ⟨rfl,hk1⟩
   have HK1:Hid (Below w.heap.size w V1):=zg hk1 (Ab _)
   go_wp2_with fail
   refine hK.out _ _ (⟨zn hk1 (hH.1),zn hk1 (hH.2)⟩) (fun hN=>?_)
   clear hK K hH
   have hH:=hN
   clear hN
   try go_simp
   refine rZ [11,16] ?_
   refine(zi.cons rfl (fun K hK=>?_) (zi.cons rfl (fun K hK=>?_) zi.nil))
   ·go_simp
    refine hK.out _ _ (hH) (fun hN=>?_)
    clear hK K hH
    have hH:=hN
    clear hN
    try go_simp
    refine rZ [12,16] ?_
    refine(zi.cons rfl (fun K hK=>?_) (zi.cons rfl (fun K hK=>?_) zi.nil))
    ·go_simp
     refine(CP.out _ HK1.out).mono ?_
     rintro e V2 ⟨⟨a1,c1,a2,c2,rfl,h1,f1,h2,f2⟩,hk2⟩
     go_wp2_with fail
     refine hK.out _ _ (⟨zn hk2 (hH.1),zn hk2 (hH.2)⟩) (fun hN=>?_)
     clear hK K hH
     have hH:=hN
     clear hN
     try go_simp
     refine tU 13 (.tuple #[.slice a1 ss.length c1,.slice a2 qs.length c2]) ?_;go_simp
     refine tU 14 (.slice a1 ss.length c1) ?_;go_simp
     refine tU 15 (.slice a2 qs.length c2) ?_;go_simp
     refine zC 16 rfl (fun K hK=>?_)
     go_simp
     refine hK.out _ _ (⟨jD _ (hH.1),jD _ (hH.2)⟩) (fun hN=>?_)
     clear hK K hH
     have hH:=hN
     clear hN
     try go_simp
     refine tU 17 (.slice a1 ss.length c1) ?_;go_simp
     refine zL 18 rfl (fun K hK=>?_)
     have cS:(V2.alloc (.cells #[.slice none 0 0] 29)).cell? ⟨V2.heap.size,0,none⟩=some (.slice none 0 0):=by rw[Ag _ _ _ _ _ _ (heap_alloc_new V2 _)];rfl
     have fS:(V2.alloc (.cells #[.slice none 0 0] 29)).frozen? ⟨V2.heap.size,0,none⟩=false:=Ae _ _ _ _ _ (heap_alloc_new V2 _)
     go_simp
     refine hK.out _ _ ?_
     clear hK K
     try go_simp
     refine zE (by kernel_rfl) ?_ _
     have PP:Pop1 w ss qs (V2.alloc (.cells #[.slice a2 qs.length c2] 29)) V2.heap.size a1 c1 a2 c2:=zjT (HK1.out.trans (hk2.mono HK1.out.size)) h1 (fun x hx=>by have:=f1 x hx;have:=HK1.out.size;omega) h2 (fun x hx=>by have:=f2 x hx;have:=HK1.out.size;omega)
     obtain⟨W9,hW9⟩:∃W9,W9=V2.alloc (.cells #[.slice a2 qs.length c2] 29):=⟨_,rfl⟩
     rw[<-hW9]at PP⊢
     obtain⟨p,hp⟩:∃p,p=V2.heap.size:=⟨_,rfl⟩
     rw[<-hp]at PP⊢
     exact zeG (P:=fun W p a1 c1 a2 c2=>Pop1 w ss qs W p a1 c1 a2 c2) key W9 p a1 c1 a2 c2 PP
    ·go_simp
     refine hK.out _ _ (⟨jD _ (hH.1),jD _ (hH.2)⟩) (fun hN=>?_)
     clear hK K hH
     have hH:=hN
     clear hN
     try go_simp
     refine zC 12 rfl (fun K hK=>?_)
     go_simp
     refine(CP.out _ (HK1.out.alloc HK1.out.size _)).mono ?_
     rintro e V2 ⟨⟨a1,c1,a2,c2,rfl,h1,f1,h2,f2⟩,hk2⟩
     go_wp2_with fail
     refine hK.out _ _ (⟨zn hk2 (hH.1),zn hk2 (hH.2)⟩) (fun hN=>?_)
     clear hK K hH
     have hH:=hN
     clear hN
     try go_simp
     refine tU 13 (.tuple #[.slice a1 ss.length c1,.slice a2 qs.length c2]) ?_;go_simp
     refine tU 14 (.slice a1 ss.length c1) ?_;go_simp
     refine tU 15 (.slice a2 qs.length c2) ?_;go_simp
     refine tU 17 (.slice a1 ss.length c1) ?_;go_simp
     refine zL 18 rfl (fun K hK=>?_)
     have hrow:V2.heap[V1.heap.size]?=some (.cells #[.slice none 0 0] 29 (0,0)):=(hk2.block _ (by simp)).trans (heap_alloc_new V1 _)
     have cS:V2.cell? ⟨V1.heap.size,0,none⟩=some (.slice none 0 0):=by rw[Ag _ _ _ _ _ _ hrow];rfl
     have fS:V2.frozen? ⟨V1.heap.size,0,none⟩=false:=Ae _ _ _ _ _ hrow
     go_simp
     refine hK.out _ _ ?_
     clear hK K
     try go_simp
     refine zE (by kernel_rfl) ?_ _
     have PP:Pop1 w ss qs (V2.setCell ⟨V1.heap.size,0,none⟩ (.slice a2 qs.length c2)) V1.heap.size a1 c1 a2 c2:=vU (z:=.slice none 0 0) (t:=29) HK1.out (B:=V1.heap.size+1) (by omega) hk2 h1 (fun x hx=>by have:=f1 x hx;simpa using this) h2 (fun x hx=>by have:=f2 x hx;simpa using this)
     obtain⟨W9,hW9⟩:∃W9,W9=V2.setCell ⟨V1.heap.size,0,none⟩ (.slice a2 qs.length c2):=⟨_,rfl⟩
     rw[<-hW9]at PP⊢
     obtain⟨p,hp⟩:∃p,p=V1.heap.size:=⟨_,rfl⟩
     rw[<-hp]at PP⊢
     exact zeG (P:=fun W p a1 c1 a2 c2=>Pop1 w ss qs W p a1 c1 a2 c2) key W9 p a1 c1 a2 c2 PP
   ·go_simp
    refine hK.out _ _ (⟨jD _ (hH.1),jD _ (hH.2)⟩) (fun hN=>?_)
    clear hK K hH
    have hH:=hN
    clear hN
    try go_simp
    refine zC 11 rfl (fun K hK=>?_)
    go_simp
    refine hK.out _ _ (hH) (fun hN=>?_)
    clear hK K hH
    have hH:=hN
    clear hN
    try go_simp
    refine zC 12 rfl (fun K hK=>?_)
    go_simp
    refine(CP.out _ (HK1.out.alloc HK1.out.size _)).mono ?_
    rintro e V2 ⟨⟨a1,c1,a2,c2,rfl,h1,f1,h2,f2⟩,hk2⟩
    go_wp2_with fail
    refine hK.out _ _ (⟨zn hk2 (hH.1),zn hk2 (hH.2)⟩) (fun hN=>?_)
    clear hK K hH
    have hH:=hN
    clear hN
    try go_simp
    refine tU 13 (.tuple #[.slice a1 ss.length c1,.slice a2 qs.length c2]) ?_;go_simp
    refine tU 14 (.slice a1 ss.length c1) ?_;go_simp
    refine tU 15 (.slice a2 qs.length c2) ?_;go_simp
    refine tU 17 (.slice a1 ss.length c1) ?_;go_simp
    refine zL 18 rfl (fun K hK=>?_)
    have hrow:V2.heap[V1.heap.size]?=some (.cells #[.slice none 0 0] 29 (0,0)):=(hk2.block _ (by simp)).trans (heap_alloc_new V1 _)
    have cS:V2.cell? ⟨V1.heap.size,0,none⟩=some (.slice none 0 0):=by rw[Ag _ _ _ _ _ _ hrow];rfl
    have fS:V2.frozen? ⟨V1.heap.size,0,none⟩=false:=Ae _ _ _ _ _ hrow
    go_simp
    refine hK.out _ _ ?_
    clear hK K
    try go_simp
    refine zE (by kernel_rfl) ?_ _
    have PP:Pop1 w ss qs (V2.setCell ⟨V1.heap.size,0,none⟩ (.slice a2 qs.length c2)) V1.heap.size a1 c1 a2 c2:=vU (z:=.slice none 0 0) (t:=29) HK1.out (B:=V1.heap.size+1) (by omega) hk2 h1 (fun x hx=>by have:=f1 x hx;simpa using this) h2 (fun x hx=>by have:=f2 x hx;simpa using this)
    obtain⟨W9,hW9⟩:∃W9,W9=V2.setCell ⟨V1.heap.size,0,none⟩ (.slice a2 qs.length c2):=⟨_,rfl⟩
    rw[<-hW9]at PP⊢
    obtain⟨p,hp⟩:∃p,p=V1.heap.size:=⟨_,rfl⟩
    rw[<-hp]at PP⊢
    exact zeG (P:=fun W p a1 c1 a2 c2=>Pop1 w ss qs W p a1 c1 a2 c2) key W9 p a1 c1 a2 c2 PP
  ·go_simp
   refine hK.out _ _ (⟨jD _ (hH.1),jD _ (hH.2)⟩) (fun hN=>?_)
   clear hK K hH
   have hH:=hN
   clear hN
   try go_simp
   refine zC 10 rfl (fun K hK=>?_)
   go_simp
   refine(CLf.out _ (((Af _ _).drew).alloc (Ab _) _)).mono ?_
   rintro e V1 ⟨rfl,hk1⟩
   go_wp2_with fail
   refine hK.out _ _ (⟨zn hk1 (hH.1),zn hk1 (hH.2)⟩) (fun hN=>?_)
   clear hK K hH
   have hH:=hN
   clear hN
   try go_simp
   refine zC 11 rfl (fun K hK=>?_)
   go_simp
   refine hK.out _ _ (hH) (fun hN=>?_)
   clear hK K hH
   have hH:=hN
   clear hN
   try go_simp
   refine zC 12 rfl (fun K hK=>?_)
   go_simp
   refine(CP.out _ ((((Af _ _).drew).alloc (Ab _) _).trans (hk1.mono (by simp)))).mono ?_
   rintro e V2 ⟨⟨a1,c1,a2,c2,rfl,h1,f1,h2,f2⟩,hk2⟩
   go_wp2_with fail
   refine hK.out _ _ (⟨zn hk2 (hH.1),zn hk2 (hH.2)⟩) (fun hN=>?_)
   clear hK K hH
   have hH:=hN
   clear hN
   try go_simp
   refine tU 13 (.tuple #[.slice a1 ss.length c1,.slice a2 qs.length c2]) ?_;go_simp
   refine tU 14 (.slice a1 ss.length c1) ?_;go_simp
   refine tU 15 (.slice a2 qs.length c2) ?_;go_simp
   refine tU 17 (.slice a1 ss.length c1) ?_;go_simp
   refine zL 18 rfl (fun K hK=>?_)
   have hrow1:V1.heap[w.heap.size]?=some (.cells #[.slice none 0 0] 29 (0,0)):=(hk1.block _ (by simp)).trans (heap_alloc_new w.drew _)
   have hlt1:w.heap.size<V1.heap.size:=(Array.getElem?_eq_some_iff.1 hrow1).1
   have hrow:V2.heap[w.heap.size]?=some (.cells #[.slice none 0 0] 29 (0,0)):=(hk2.block _ hlt1).trans hrow1
   have cS:V2.cell? ⟨w.heap.size,0,none⟩=some (.slice none 0 0):=by rw[Ag _ _ _ _ _ _ hrow];rfl
   have fS:V2.frozen? ⟨w.heap.size,0,none⟩=false:=Ae _ _ _ _ _ hrow
   go_simp
   refine hK.out _ _ ?_
   clear hK K
   try go_simp
   refine zE (by kernel_rfl) ?_ _
   have PP:Pop1 w ss qs (V2.setCell ⟨w.heap.size,0,none⟩ (.slice a2 qs.length c2)) w.heap.size a1 c1 a2 c2:=vU (U:=w.drew) (z:=.slice none 0 0) (t:=29) ((Af _ _).drew) (B:=w.heap.size+1) (by show w.heap.size<_;omega) (hk1.trans (hk2.mono hk1.size)) h1 (fun x hx=>by have:=f1 x hx;have:=hk1.size;simp at this;omega) h2 (fun x hx=>by have:=f2 x hx;have:=hk1.size;simp at this;omega)
   obtain⟨W9,hW9⟩:∃W9,W9=V2.setCell ⟨w.heap.size,0,none⟩ (.slice a2 qs.length c2):=⟨_,rfl⟩
   rw[<-hW9]at PP⊢
   obtain⟨p,hp⟩:∃p,p=w.heap.size:=⟨_,rfl⟩
   have PP2:Pop1 w ss qs W9 p a1 c1 a2 c2:=by rw[hp];exact PP
   clear PP
   have PP:=PP2
   rw[<-hp]
   exact zeG (P:=fun W p a1 c1 a2 c2=>Pop1 w ss qs W p a1 c1 a2 c2) key W9 p a1 c1 a2 c2 PP
 ·intro V p a1 c1 a2 c2 hP
  have S1:Hid (St N V b s L):=HS.out.below hP.below
  have T1:Hid (To b w L V L):=ze L hP.below
  have hpn:¬own b L p:=fun h=>by have:=qN HS.out h;have:=hP.far;omega
  have HCI:Hid (CmI N w b L s (fun k=>(s.under.take k).foldl (com1 mach) s) p a1 c1 ss a2 c2 qs V 0 L):=⟨S1.out,T1.out,hP.cell,hpn,hP.l1,fun _=>qV HS.out (Ab _) hP.f1,hP.l2,fun _=>qV HS.out (Ab _) hP.f2⟩
  have cp:=hP.cell
  clear hP hpn S1 T1 HS CLf CP k333 k2 hmin
  go_wp2_with fail
  go_loopw [23] (fun i wr=>∃k:Nat,k<=qs.length/\i=.int .i64 (k:Int)/\Hid (∃L',CmI N w b L s (fun k=>(s.under.take k).foldl (com1 mach) s) p a1 c1 ss a2 c2 qs wr k L'))
   (fun i _=>qs.length-(intOf i).toNat)
  case atStart=>exact⟨0,by omega,rfl,L,HCI.out⟩
  case round=>
   obtain⟨k,hk,rfl,L',I1⟩:=hrel
   clear HCI cp
   by_cases hlt:k<qs.length
   ·obtain⟨o,ho,hok⟩:=HD.out k (by rw[<-HQL.out];exact hlt)
    obtain⟨u,hu⟩:∃u,u=(s.under.take k).foldl (com1 mach) s:=⟨_,rfl⟩
    have hst:St N wr b u L':=by rw[hu];exact I1.st
    have hun:u.under=s.under:=by rw[hu];exact(js mach _ s).1
    have CO:Hid (Calls prog 52 #[.pointer (some ⟨b,0,none⟩),dgv o] wr fun e w'=>e=.returned (.tuple #[])/\∃L'',St N w' b (com1 mach u o) L''/\To b wr L' w' L''):=zaf hst o (by rw[hu];exact hok)
    have HN:Hid (com1 mach u o=(s.under.take (k+1)).foldl (com1 mach) s):=by
     show _=_
     rw[hu,List.take_add_one,ho,List.foldl_append]
     rfl
    have HI1:Hid (CmI N w b L s (fun k=>(s.under.take k).foldl (com1 mach) s) p a1 c1 ss a2 c2 qs wr k L'):=I1
    have hkl:k<s.under.length:=(List.getElem?_eq_some_iff.1 ho).1
    obtain⟨ug,uo,uc,euv,huc,_,hug,hucs,_⟩:=hst.its.iu.at (by rw[hun];omega)
    rw[hun]at euv huc
    obtain⟨un,hunl⟩:∃un,un=s.under.length:=⟨_,rfl⟩
    rw[<-hunl]at euv huc hkl
    have k334:wr.cell? ⟨b,334,none⟩=some (.slice (some ⟨ug,uo,none⟩) un uc):=(zd hst.row (by omega)).trans (congrArg some euv)
    have HRg:Hid (wr.rangeAt ug (uo+k*28) (dgl o)):=by
     intro i v hv
     rw[Nat.add_assoc]
     exact hucs _ _ (qF zF (by rw[hun];exact ho) hv)
    have k0:0<=(k:Int):=by omega
    have k1:(k:Int)<(un:Int):=by omega
    have hun32:un<=32:=by omega
    clear I1 hok hst hu hun euv hug hucs ho hunl
    go_wp2_with(refine wpList_load_mid rfl 132 _ rfl ug (uo+k*28) rfl (dgl o) _ HRg.out underlying132 rfl (zK o) ?_)
    refine CO.out.mono ?_
    rintro e V2 ⟨rfl,L2,u1,u2⟩
    rw[HN.out]at u1
    have I2:Hid (CmI N w b L s (fun k=>(s.under.take k).foldl (com1 mach) s) p a1 c1 ss a2 c2 qs V2 (k+1) L2):=HI1.out.move u2 u1
    clear u1 u2 CO HN HI1 HRg k334
    go_wp2_with fail
    exact⟨⟨k+1,by omega,by go_num,L2,I2.out⟩,by simp[intOf];omega⟩
   ·have hkq:k=qs.length:=by omega
    obtain⟨u,hu⟩:∃u,u=(s.under.take k).foldl (com1 mach) s:=⟨_,rfl⟩
    have S1:Hid (St N wr b u L'):=by rw[hu];exact I1.st
    obtain⟨f1,f2,f3⟩:=js mach (s.under.take k) s
    rw[<-hu]at f1 f2 f3
    have HR2:Hid (r={u with slots:=ss,under:=s.under.drop k,asked:=s.asked.filter fun q=>!decide (q.seq∈qs)}):=by show _=_;rw[HR.out,hu,hkq,HQL.out]
    have HUF:Hid (u.under=s.under/\u.asked=s.asked):=⟨f1,f2⟩
    have HI1:Hid (CmI N w b L s (fun k=>(s.under.take k).foldl (com1 mach) s) p a1 c1 ss a2 c2 qs wr k L'):=I1
    have hkm:k<=s.under.length:=by rw[hkq,HQL.out];exact hmu
    have hk32:k<=32:=by omega
    have hqk:qs.length=k:=hkq.symm
    have HQK:Hid (qs.length=k):=hqk
    have cp:wr.cell? ⟨p,0,none⟩=some (.slice a2 qs.length c2):=I1.cell
    clear hqk
    clear hu f1 f2 f3 I1 HR hkq HD hmu
    obtain⟨ul,hul⟩:∃ul,ul=s.under.drop k:=⟨_,rfl⟩
    have HUL:Hid (ul=s.under.drop k):=hul
    have hull:ul.length=s.under.length-k:=by rw[hul,List.length_drop]
    have HFL:Hid (flat dgl ul=(flat dgl s.under).drop (k*28)):=by show _=_;rw[hul];exact zb6 zF _ _
    rw[<-hul]at HR2
    clear hul
    have HSU:Hid (Us wr 132 28 L'.u s.under.length (flat dgl s.under)):=by have:=S1.out.its.iu;rw[HUF.out.1]at this;exact this
    have k334:wr.cell? ⟨b,334,none⟩=some L'.u:=(zd S1.out.row (by omega)).trans rfl
    have k333:wr.cell? ⟨b,333,none⟩=some L'.s:=(zd S1.out.row (by omega)).trans rfl
    have f333:=S1.out.frozen 333
    have f334:=S1.out.frozen 334
    have hbp:b≠p:=fun e=>HI1.out.np (.inl e.symm)
    rcases HSU.out.is with⟨ev,h0⟩|⟨ug,uo,uc,cur,ev,hcur,huc,hucm,_⟩
    ·have hk0:k=0:=by omega
     have V6:Hid (Us wr 132 28 (.slice none 0 0) ul.length (flat dgl ul)):=by
      have:=HSU.out
      have e1:s.under=[]:=List.eq_nil_of_length_eq_zero h0
      rw[ev,e1]at this
      rw[HUL.out,e1,hk0]
      exact this
     rw[ev]at k334
     clear hull h0
     have kz:(k:Int)=0:=by omega
     go_upto_region 6 with fail
     refine zq (S:=fun w'=>w'.cell? ⟨b,334,none⟩=some (.slice none 0 0)/\w'.cell? ⟨p,0,none⟩=some (.slice a2 qs.length c2)) [15] (by kernel_rfl) (⟨k334,cp⟩) (fun hH=>?_)
     refine tU 0 (.pointer (some ⟨b,0,none⟩)) ?_;go_simp
     refine tU 1 (.pointer (some ⟨b,0,none⟩)) ?_;go_simp
     refine tU 2 (.slice a1 ss.length c1) ?_;go_simp
     refine tU 3 (.pointer (some ⟨b,0,none⟩)) ?_;go_simp
     refine tU 4 (.pointer (some ⟨b,0,none⟩)) ?_;go_simp
     refine tU 5 (.pointer (some ⟨b,334,none⟩)) ?_;go_simp
     refine tA 6 (.slice none 0 0) ?_;go_simp
     refine tB 7 (.slice a2 qs.length c2) ?_;go_simp
     refine tU 8 (.int .i64 (qs.length:Int)) ?_;go_simp
     refine tX 9 (.slice none 0 0) rfl (Or.inl ⟨by rfl,by intro wz hSw;clear hSw;have hqk:=HQK.out;go_simp⟩) hH ?_;go_simp
     refine tU 10 (.pointer (some ⟨b,0,none⟩)) ?_;go_simp
     refine tU 11 (.pointer (some ⟨b,333,none⟩)) ?_;go_simp
     refine zC 12 rfl (fun K hK=>?_)
     go_simp
     refine hK.out _ _ (⟨zjw hH.1 (by simp),vJ hH.2 hbp⟩) (fun hN=>?_)
     clear hK K hH
     have hH:=hN
     clear hN
     try go_simp
     refine tU 13 (.pointer (some ⟨b,0,none⟩)) ?_;go_simp
     refine tU 14 (.pointer (some ⟨b,334,none⟩)) ?_;go_simp
     refine zL 15 rfl (fun K hK=>?_)
     go_simp
     refine hK.out _ _ ?_
     clear hK K
     try go_simp
     refine zE (by kernel_rfl) ?_ _
     have hvb:∀g,(Aj none 0 0).ownBlock=some g->L'.u.ownBlock=some g:=fun g hg=>by cases hg
     obtain⟨s2,t2⟩:=xT S1.out HI1.out.l1 HI1.out.f1 V6.out hvb
     have S2:Hid (St N (((wr.setCell ⟨b,333,none⟩ (.slice a1 ss.length c1)).setCell ⟨b,334,none⟩ (.slice none 0 0)).drew) b {u with slots:=ss,under:=ul} {L' with s:=.slice a1 ss.length c1,u:=.slice none 0 0}):=s2
     have T2:Hid (To b w L (((wr.setCell ⟨b,333,none⟩ (.slice a1 ss.length c1)).setCell ⟨b,334,none⟩ (.slice none 0 0)).drew) {L' with s:=.slice a1 ss.length c1,u:=.slice none 0 0}):=HI1.out.tt.trans t2
     have cp2:=jt HI1.out.cell t2 HI1.out.np
     have np2:Hid (¬own b {L' with s:=.slice a1 ss.length c1,u:=.slice none 0 0} p):=qm t2.fresh HI1.out.np (Aa _ _ HI1.out.cell)
     have L22:Hid _:=qy HI1.out.l2 HI1.out.f2 t2
     clear s2 t2 hH cp k333 k334 f333 f334 HI1 V6 S1 HSU HFL hvb HQK kz hk0
     generalize ((wr.setCell ⟨b,333,none⟩ (.slice a1 ss.length c1)).setCell ⟨b,334,none⟩ (.slice none 0 0)).drew=V2 at*
     generalize ({L' with s:=.slice a1 ss.length c1,u:=.slice none 0 0}:Sls)=L2 at*
     obtain⟨u2,hu2⟩:∃u2:Cr,u2={u with slots:=ss,under:=ul}:=⟨_,rfl⟩
     rw[<-hu2]at S2
     have hua:u2.asked=s.asked:=by rw[hu2];exact HUF.out.2
     obtain⟨al,hal⟩:∃l,l=u2.asked.filter (fun q=>!decide (q.seq∈qs)):=⟨_,rfl⟩
     have HR3:Hid (r={u2 with asked:=al}):=by show _=_;rw[HR2.out,hal,hua,hu2]
     have HLA:Hid (u2.asked.length<=100000000):=by rw[hua];exact hlAn
     clear hu2 hua HUF HR2
     have k335:V2.cell? ⟨b,335,none⟩=some L2.a:=(zd S2.out.row (by omega)).trans rfl
     have hq32:qs.length<=32:=by have:=HQL.out;omega
     have CD:Hid (Calls prog 53 #[L2.a,.func (.func 54) #[] #[.pointer (some ⟨p,0,none⟩)]] V2 fun e w'=>∃v',e=.returned v'/\Us w' 135 7 v' al.length (flat cel al)/\V2.grownBy w' L2.a.ownBlock/\v'.ownBlock=L2.a.ownBlock):=by
      rw[hal]
      exact xR 54 p (fun q=>decide (q.seq∈qs)) zaz (fun W=>W.cell? ⟨p,0,none⟩=some (.slice a2 qs.length c2)/\LC W a2 qs.length c2 1 (ics qs)) S2.out.its.ia HLA.out
       (fun W W' h hs hb=>⟨(WZ (w:=W) (a:=⟨p,0,none⟩) (hb p (Aa _ _ h.1) (fun e=>np2.out (.inr (.inr (.inr e)))))).trans h.1,qH h.2 hs fun h0 x hx=>by
        obtain⟨g,o,e,hlt,_⟩:=h.2.ad x hx h0
        subst e
        exact hb g hlt (fun e=>L22.out.2 h0 _ hx (.inr (.inr (.inr e))))⟩) (fun W o h=>ym p a2 qs.length c2 (by omega) qs W o h.1 h.2) ⟨cp2,L22.out.1⟩
     clear hal
     go_wp2_with fail
     refine CD.out.mono ?_
     rintro e V5 ⟨v5,rfl,hU5,hG5,hO5⟩
     obtain⟨p5,d5,rfl⟩:=hU5.slice
     have k335b:V5.cell? ⟨b,335,none⟩=some L2.a:=(WZ (w:=V2) (a:=⟨b,335,none⟩) (hG5.block b S2.out.lt (fun h=>(S2.out.apart.2.2 b h.symm).2.2 rfl))).trans k335
     have f335:V5.frozen? ⟨b,335,none⟩=false:=Ae _ _ _ _ _ ((hG5.block b S2.out.lt (fun h=>(S2.out.apart.2.2 b h.symm).2.2 rfl)).trans S2.out.row)
     have hH5:Hid ((Us V5 135 7 (.slice p5 al.length d5) al.length (flat cel al))/\V2.grownBy V5 L2.a.ownBlock/\(Aj p5 al.length d5).ownBlock=L2.a.ownBlock):=⟨hU5,hG5,hO5⟩
     clear hU5 hG5 hO5 CD k335 cp2
     go_wp2_with fail
     obtain⟨s6,t6⟩:=S2.out.newA _ hH5.out.1 hH5.out.2.1 (fun g hg=>.inl (by rw[<-hH5.out.2.2];exact hg))
     rw[<-HR3.out]at s6
     refine Ai (Ad rfl _ _ _) rfl ⟨rfl,_,s6,T2.out.trans t6⟩
    ·rw[ev]at k334
     by_cases hkc:k<uc
     case' pos=>
      have hne:¬uc=k:=by omega
      have V6:Hid (Us wr 132 28 (.slice (some ⟨ug,uo+k*28,none⟩) (s.under.length-k) (uc-k)) ul.length (flat dgl ul)):=by
       have:=HSU.out
       rw[ev]at this
       rw[HFL.out,hull]
       exact this.drop k hkm hkc
      have hk1:(k:Int)<=(s.under.length:Int):=by omega
      go_upto_region 6 with fail
      refine zq (S:=fun w'=>w'.cell? ⟨b,334,none⟩=some (.slice (some ⟨ug,uo,none⟩) s.under.length uc)/\w'.cell? ⟨p,0,none⟩=some (.slice a2 qs.length c2)) [15] (by kernel_rfl) (⟨k334,cp⟩) (fun hH=>?_)
      refine tU 0 (.pointer (some ⟨b,0,none⟩)) ?_;go_simp
      refine tU 1 (.pointer (some ⟨b,0,none⟩)) ?_;go_simp
      refine tU 2 (.slice a1 ss.length c1) ?_;go_simp
      refine tU 3 (.pointer (some ⟨b,0,none⟩)) ?_;go_simp
      refine tU 4 (.pointer (some ⟨b,0,none⟩)) ?_;go_simp
      refine tU 5 (.pointer (some ⟨b,334,none⟩)) ?_;go_simp
      refine tA 6 (.slice (some ⟨ug,uo,none⟩) s.under.length uc) ?_;go_simp
      refine tB 7 (.slice a2 qs.length c2) ?_;go_simp
      refine tU 8 (.int .i64 (qs.length:Int)) ?_;go_simp
      refine tX 9 (.slice (some ⟨ug,uo+k*28,none⟩) (s.under.length-k) (uc-k)) rfl (Or.inl ⟨by rfl,by intro wz hSw;clear hSw;have hqk:=HQK.out;go_simp⟩) hH ?_;go_simp
      refine tU 10 (.pointer (some ⟨b,0,none⟩)) ?_;go_simp
      refine tU 11 (.pointer (some ⟨b,333,none⟩)) ?_;go_simp
      refine zC 12 rfl (fun K hK=>?_)
      go_simp
      refine hK.out _ _ (⟨zjw hH.1 (by simp),vJ hH.2 hbp⟩) (fun hN=>?_)
      clear hK K hH
      have hH:=hN
      clear hN
      try go_simp
      refine tU 13 (.pointer (some ⟨b,0,none⟩)) ?_;go_simp
      refine tU 14 (.pointer (some ⟨b,334,none⟩)) ?_;go_simp
      refine zL 15 rfl (fun K hK=>?_)
      go_simp
      refine hK.out _ _ ?_
      clear hK K
      try go_simp
      refine zE (by kernel_rfl) ?_ _
      have hvb:∀g,(Aj (some ⟨ug,uo+k*28,none⟩) (s.under.length-k) (uc-k)).ownBlock=some g->L'.u.ownBlock=some g:=fun g hg=>by rw[ev];exact hg
      obtain⟨s2,t2⟩:=xT S1.out HI1.out.l1 HI1.out.f1 V6.out hvb
      have S2:Hid (St N (((wr.setCell ⟨b,333,none⟩ (.slice a1 ss.length c1)).setCell ⟨b,334,none⟩ (.slice (some ⟨ug,uo+k*28,none⟩) (s.under.length-k) (uc-k))).drew) b {u with slots:=ss,under:=ul} {L' with s:=.slice a1 ss.length c1,u:=.slice (some ⟨ug,uo+k*28,none⟩) (s.under.length-k) (uc-k)}):=s2
      have T2:Hid (To b w L (((wr.setCell ⟨b,333,none⟩ (.slice a1 ss.length c1)).setCell ⟨b,334,none⟩ (.slice (some ⟨ug,uo+k*28,none⟩) (s.under.length-k) (uc-k))).drew) {L' with s:=.slice a1 ss.length c1,u:=.slice (some ⟨ug,uo+k*28,none⟩) (s.under.length-k) (uc-k)}):=HI1.out.tt.trans t2
      have cp2:=jt HI1.out.cell t2 HI1.out.np
      have np2:Hid (¬own b {L' with s:=.slice a1 ss.length c1,u:=.slice (some ⟨ug,uo+k*28,none⟩) (s.under.length-k) (uc-k)} p):=qm t2.fresh HI1.out.np (Aa _ _ HI1.out.cell)
      have L22:Hid _:=qy HI1.out.l2 HI1.out.f2 t2
      clear s2 t2 hH cp k333 k334 f333 f334 HI1 V6 S1 HSU HFL hvb HQK
      generalize ((wr.setCell ⟨b,333,none⟩ (.slice a1 ss.length c1)).setCell ⟨b,334,none⟩ (.slice (some ⟨ug,uo+k*28,none⟩) (s.under.length-k) (uc-k))).drew=V2 at*
      generalize ({L' with s:=.slice a1 ss.length c1,u:=.slice (some ⟨ug,uo+k*28,none⟩) (s.under.length-k) (uc-k)}:Sls)=L2 at*
     case' neg=>
      have hkc2:uc<=s.under.length:=by omega
      have hkc3:uc=k:=by omega
      have hlk:s.under.length-k=0:=by omega
      have V6:Hid (Us wr 132 28 (.slice (some ⟨ug,uo,none⟩) 0 0) ul.length (flat dgl ul)):=by
       have:=HSU.out
       rw[ev]at this
       have h1:s.under.length=k:=by omega
       rw[HFL.out,hull,h1,An]
       have e2:(flat dgl s.under).drop (k*28)=[]:=List.drop_eq_nil_of_le (by rw[ks zF,h1];exact Ab _)
       rw[e2]
       exact this.empty
      have hk1:(k:Int)<=(s.under.length:Int):=by omega
      have HKC:Hid (uc=k):=hkc3
      clear hkc3
      go_upto_region 6 with fail
      refine zq (S:=fun w'=>w'.cell? ⟨b,334,none⟩=some (.slice (some ⟨ug,uo,none⟩) s.under.length uc)/\w'.cell? ⟨p,0,none⟩=some (.slice a2 qs.length c2)) [15] (by kernel_rfl) (⟨k334,cp⟩) (fun hH=>?_)
      refine tU 0 (.pointer (some ⟨b,0,none⟩)) ?_;go_simp
      refine tU 1 (.pointer (some ⟨b,0,none⟩)) ?_;go_simp
      refine tU 2 (.slice a1 ss.length c1) ?_;go_simp
      refine tU 3 (.pointer (some ⟨b,0,none⟩)) ?_;go_simp
      refine tU 4 (.pointer (some ⟨b,0,none⟩)) ?_;go_simp
      refine tU 5 (.pointer (some ⟨b,334,none⟩)) ?_;go_simp
      refine tA 6 (.slice (some ⟨ug,uo,none⟩) s.under.length uc) ?_;go_simp
      refine tB 7 (.slice a2 qs.length c2) ?_;go_simp
      refine tU 8 (.int .i64 (qs.length:Int)) ?_;go_simp
      refine tX 9 (.slice (some ⟨ug,uo,none⟩) 0 0) rfl (Or.inl ⟨by rfl,by intro wz hSw;clear hSw;have hqk:=HQK.out;have hkc3:=HKC.out;go_simp⟩) hH ?_;go_simp
      refine tU 10 (.pointer (some ⟨b,0,none⟩)) ?_;go_simp
      refine tU 11 (.pointer (some ⟨b,333,none⟩)) ?_;go_simp
      refine zC 12 rfl (fun K hK=>?_)
      go_simp
      refine hK.out _ _ (⟨zjw hH.1 (by simp),vJ hH.2 hbp⟩) (fun hN=>?_)
      clear hK K hH
      have hH:=hN
      clear hN
      try go_simp
      refine tU 13 (.pointer (some ⟨b,0,none⟩)) ?_;go_simp
      refine tU 14 (.pointer (some ⟨b,334,none⟩)) ?_;go_simp
      refine zL 15 rfl (fun K hK=>?_)
      go_simp
      refine hK.out _ _ ?_
      clear hK K
      try go_simp
      refine zE (by kernel_rfl) ?_ _
      have hvb:∀g,(Aj (some ⟨ug,uo,none⟩) 0 0).ownBlock=some g->L'.u.ownBlock=some g:=fun g hg=>by rw[ev];exact hg
      obtain⟨s2,t2⟩:=xT S1.out HI1.out.l1 HI1.out.f1 V6.out hvb
      have S2:Hid (St N (((wr.setCell ⟨b,333,none⟩ (.slice a1 ss.length c1)).setCell ⟨b,334,none⟩ (.slice (some ⟨ug,uo,none⟩) 0 0)).drew) b {u with slots:=ss,under:=ul} {L' with s:=.slice a1 ss.length c1,u:=.slice (some ⟨ug,uo,none⟩) 0 0}):=s2
      have T2:Hid (To b w L (((wr.setCell ⟨b,333,none⟩ (.slice a1 ss.length c1)).setCell ⟨b,334,none⟩ (.slice (some ⟨ug,uo,none⟩) 0 0)).drew) {L' with s:=.slice a1 ss.length c1,u:=.slice (some ⟨ug,uo,none⟩) 0 0}):=HI1.out.tt.trans t2
      have cp2:=jt HI1.out.cell t2 HI1.out.np
      have np2:Hid (¬own b {L' with s:=.slice a1 ss.length c1,u:=.slice (some ⟨ug,uo,none⟩) 0 0} p):=qm t2.fresh HI1.out.np (Aa _ _ HI1.out.cell)
      have L22:Hid _:=qy HI1.out.l2 HI1.out.f2 t2
      clear s2 t2 hH cp k333 k334 f333 f334 HI1 V6 S1 HSU HFL hvb HQK
      generalize ((wr.setCell ⟨b,333,none⟩ (.slice a1 ss.length c1)).setCell ⟨b,334,none⟩ (.slice (some ⟨ug,uo,none⟩) 0 0)).drew=V2 at*
      generalize ({L' with s:=.slice a1 ss.length c1,u:=.slice (some ⟨ug,uo,none⟩) 0 0}:Sls)=L2 at*
     all_goals
      obtain⟨u2,hu2⟩:∃u2:Cr,u2={u with slots:=ss,under:=ul}:=⟨_,rfl⟩
      rw[<-hu2]at S2
      have hua:u2.asked=s.asked:=by rw[hu2];exact HUF.out.2
      obtain⟨al,hal⟩:∃l,l=u2.asked.filter (fun q=>!decide (q.seq∈qs)):=⟨_,rfl⟩
      have HR3:Hid (r={u2 with asked:=al}):=by show _=_;rw[HR2.out,hal,hua,hu2]
      have HLA:Hid (u2.asked.length<=100000000):=by rw[hua];exact hlAn
      clear hu2 hua HUF HR2
      have k335:V2.cell? ⟨b,335,none⟩=some L2.a:=(zd S2.out.row (by omega)).trans rfl
      have hq32:qs.length<=32:=by have:=HQL.out;omega
      have CD:Hid (Calls prog 53 #[L2.a,.func (.func 54) #[] #[.pointer (some ⟨p,0,none⟩)]] V2 fun e w'=>∃v',e=.returned v'/\Us w' 135 7 v' al.length (flat cel al)/\V2.grownBy w' L2.a.ownBlock/\v'.ownBlock=L2.a.ownBlock):=by
       rw[hal]
       exact xR 54 p (fun q=>decide (q.seq∈qs)) zaz (fun W=>W.cell? ⟨p,0,none⟩=some (.slice a2 qs.length c2)/\LC W a2 qs.length c2 1 (ics qs)) S2.out.its.ia HLA.out
        (fun W W' h hs hb=>⟨(WZ (w:=W) (a:=⟨p,0,none⟩) (hb p (Aa _ _ h.1) (fun e=>np2.out (.inr (.inr (.inr e)))))).trans h.1,qH h.2 hs fun h0 x hx=>by
         obtain⟨g,o,e,hlt,_⟩:=h.2.ad x hx h0
         subst e
         exact hb g hlt (fun e=>L22.out.2 h0 _ hx (.inr (.inr (.inr e))))⟩) (fun W o h=>ym p a2 qs.length c2 (by omega) qs W o h.1 h.2) ⟨cp2,L22.out.1⟩
      clear hal
      go_wp2_with fail
      refine CD.out.mono ?_
      rintro e V5 ⟨v5,rfl,hU5,hG5,hO5⟩
      obtain⟨p5,d5,rfl⟩:=hU5.slice
      have k335b:V5.cell? ⟨b,335,none⟩=some L2.a:=(WZ (w:=V2) (a:=⟨b,335,none⟩) (hG5.block b S2.out.lt (fun h=>(S2.out.apart.2.2 b h.symm).2.2 rfl))).trans k335
      have f335:V5.frozen? ⟨b,335,none⟩=false:=Ae _ _ _ _ _ ((hG5.block b S2.out.lt (fun h=>(S2.out.apart.2.2 b h.symm).2.2 rfl)).trans S2.out.row)
      have hH5:Hid ((Us V5 135 7 (.slice p5 al.length d5) al.length (flat cel al))/\V2.grownBy V5 L2.a.ownBlock/\(Aj p5 al.length d5).ownBlock=L2.a.ownBlock):=⟨hU5,hG5,hO5⟩
      clear hU5 hG5 hO5 CD k335 cp2
      go_wp2_with fail
      obtain⟨s6,t6⟩:=S2.out.newA _ hH5.out.1 hH5.out.2.1 (fun g hg=>.inl (by rw[<-hH5.out.2.2];exact hg))
      rw[<-HR3.out]at s6
      refine Ai (Ad rfl _ _ _) rfl ⟨rfl,_,s6,T2.out.trans t6⟩
theorem zot{K:Int}{s:Cr}{m:Nat->Int}(A:Al mach K s m)(hK:K<=9000000):TakOk s:=by
 have h1:=A.rg.len
 have h2:=A.len
 have h3:=A.rg.lenA
 have h4:=A.rg.tak
 exact⟨zfw A.inv,zmd A.inv,by omega,by omega,A.rg.ask,by omega,A.rg.fro,A.tak,by omega,A.nms zM,A.rg.tb⟩
theorem zmv{M:Mc}{j:Nat}{s:Cr}(h:s.opn=false):takN M j s=s:=by
 cases j with
 |zero=>rfl
 |succ j=>unfold takN;rw[h];rfl
theorem zh5{M:Mc}{j:Nat}{s:Cr}(h:s.opn=true)(h2:(tak1 M s).2=false):takN M (j+1) s=(tak1 M s).1:=by
 rw[takN,if_pos h,h2]
 rfl
theorem zmw{M:Mc}{j:Nat}{s:Cr}(h:s.opn=true)(h2:(tak1 M s).2=true):takN M (j+1) s=takN M j (tak1 M s).1:=by
 rw[takN,if_pos h,h2]
 rfl
theorem zh6{N:Nat}{w:World}{b:Nat}{s:Cr}{L:Sls}(S:St N w b s L){K:Int}{m:Nat->Int}(A:Al mach K s m)(hK:K<=8000000):
  Calls prog 32 #[.pointer (some ⟨b,0,none⟩)] w fun e w'=>e=.returned (.tuple #[])/\∃L',St N w' b (takN mach s.wide.toNat s) L'/\To b w L w' L':=by
 have hw:=A.rg.wide
 have hw1:=A.wid
 obtain⟨n,hn⟩:∃n:Nat,s.wide=(n:Int):=Int.eq_ofNat_of_zero_le (by omega)
 have k2:w.cell? ⟨b,2,none⟩=some (.int .i64 (n:Int)):=(zd S.row (by omega)).trans (congrArg some (by rw[<-hn];rfl))
 have en:s.wide.toNat=n:=by omega
 have hn4:n<=4:=by omega
 rw[en]
 have HS:Hid (St N w b s L):=S
 have HA:Hid (Al mach K s m):=A
 obtain⟨r,hr⟩:∃r,r=takN mach n s:=⟨_,rfl⟩
 rw[<-hr]
 have HR:Hid (takN mach n s=r):=hr.symm
 clear S A hw hw1 en hn hr
 go_enter func32,ntmps32
 go_wp2_with fail
 go_loopw [7] (fun i wr=>∃k:Nat,k<=n/\i=.int .i64 (k:Int)/\Hid (∃s' L',St N wr b s' L'/\To b w L wr L'/\Al mach (K+3*k) s' m/\takN mach (n-k) s'=r))
  (fun i _=>n-(intOf i).toNat)
 case atStart=>exact⟨0,by omega,rfl,s,L,HS.out,To.refl b w L,HA.out.mono (by omega),HR.out⟩
 case round=>
  obtain⟨k,hk,rfl,s',L',S1,T1,A1,R1⟩:=hrel
  clear HS HA HR k2
  have T2:Hid (To b w L wr L'):=T1
  have A2:Hid (Al mach (K+3*k) s' m):=A1
  have R2:Hid (takN mach (n-k) s'=r):=R1
  by_cases hlt:k<n
  ·have c338:wr.cell? ⟨b,338,none⟩=some (.bool s'.opn):=(zd S1.row (by omega)).trans rfl
   cases ho:s'.opn with
   |false=>
    rw[ho]at c338
    have e:=zmv (M:=mach) (j:=n-k) ho
    rw[R1]at e
    subst e
    have S2:Hid (St N wr b r L'):=S1
    clear S1 T1 A1 R1 ho A2 R2
    go_wp2_with fail
    refine bodyPost_ret (Ad rfl _ _ _) rfl ⟨rfl,L',S2.out,T2.out⟩
   |true=>
    rw[ho]at c338
    have C:Hid (Calls prog 64 #[.pointer (some ⟨b,0,none⟩)] wr fun e w'=>e=.returned (.bool (tak1 mach s').2)/\∃L'',St N w' b (tak1 mach s').1 L''/\To b wr L' w' L''):=zcj S1 (zot A1 (by omega))
    have A3:Hid (Al mach (K+3*k+3) (tak1 mach s').1 m):=A1.take zM jE ho
    obtain⟨j,hj⟩:∃j,n-k=j+1:=⟨n-k-1,by omega⟩
    rw[hj]at R1
    cases h2:(tak1 mach s').2 with
    |false=>
     have R3:Hid ((tak1 mach s').1=r):=(zh5 ho h2).symm.trans R1
     rw[h2]at C
     clear S1 T1 A1 R1 A2 R2 h2 ho
     go_wp2_with fail
     refine C.out.mono ?_
     rintro e V ⟨rfl,L2,u1,u2⟩
     rw[R3.out]at u1
     have S3:Hid (St N V b r L2):=u1
     have T3:Hid (To b w L V L2):=T2.out.trans u2
     clear u1 u2 C
     go_wp2_with fail
     refine bodyPost_ret (Ad rfl _ _ _) rfl ⟨rfl,L2,S3.out,T3.out⟩
    |true=>
     have R3:Hid (takN mach j (tak1 mach s').1=r):=(zmw ho h2).symm.trans R1
     rw[h2]at C
     have hj2:n-(k+1)=j:=by omega
     have HJ:Hid (n-(k+1)=j):=hj2
     clear S1 T1 A1 R1 A2 R2 h2 ho hj hj2
     go_wp2_with fail
     refine C.out.mono ?_
     rintro e V ⟨rfl,L2,u1,u2⟩
     have S3:Hid (St N V b (tak1 mach s').1 L2):=u1
     have T3:Hid (To b w L V L2):=T2.out.trans u2
     clear u1 u2 C
     go_wp2_with fail
     exact⟨⟨k+1,by omega,by go_num,_,L2,S3.out,T3.out,A3.out.mono (by push_cast;omega),by rw[HJ.out];exact R3.out⟩,by simp[intOf];omega⟩
  ·have hkn:k=n:=by omega
   subst hkn
   have e:takN mach (k-k) s'=s':=by rw[An];rfl
   rw[R1]at e
   subst e
   have S2:Hid (St N wr b r L'):=S1
   clear S1 T1 A1 R1 A2 R2
   go_wp2_with fail
   refine Ai (Ad rfl _ _ _) rfl ⟨rfl,L',S2.out,T2.out⟩
theorem zfI{N:Nat}{w:World}{b:Nat}{s:Cr}{L:Sls}(S:St N w b s L){h0:Hs}(G:Gd mach h0 s)(hs:s.st=0)(hc6:s.cyc<6000):
  Calls prog 13 #[.pointer (some ⟨b,0,none⟩)] w fun e w'=>e=.returned (.tuple #[])/\∃L',St N w' b (cycle mach s) L'/\To b w L w' L':=by
 obtain⟨m,A⟩:=G.al hs
 have y0:=G.good.cyc
 have hmost:=G.good.most
 have hKb:116*s.cyc<=696000:=by omega
 have A1:=zkx A (s.cyc+1)
 obtain⟨r,hr⟩:∃r,r=cycle mach s:=⟨_,rfl⟩
 rw[<-hr]
 obtain⟨s1,hs1⟩:∃s1:Cr,s1={s with cyc:=s.cyc+1}:=⟨_,rfl⟩
 obtain⟨s2,hs2⟩:∃s2,s2=commit mach s1:=⟨_,rfl⟩
 have HR:Hid (r=if s2.st=0 then takN mach s.wide.toNat (start mach (load s2))else s2):=by show _=_;rw[hr,hs2,hs1];rfl
 rw[<-hs1]at A1
 have HA2:Hid (s2.st=0->∃m',Al mach (116*s.cyc) s2 m'):=fun h=>by
  rw[hs2]at h⊢
  exact zch zM jE (h0:=h0) A1 (by rw[hs1];exact hs) (by rw[hs1];exact zhQ G.good.ref _) h
 have hwid:s2.wide=s.wide:=by rw[hs2,(zay mach s1).2.2.1,hs1]
 have HC1:Hid (∀W L',St N W b s1 L'->Calls prog 29 #[.pointer (some ⟨b,0,none⟩)] W fun e w'=>e=.returned (.tuple #[])/\∃L'',St N w' b s2 L''/\To b W L' w' L''):=fun W L' SW=>by
  rw[hs2]
  exact zdy SW A1 (by omega) (by rw[hs1];show s.coms.length<=2000;omega) (by rw[hs1];show 0<=s.cyc+1;omega) (by rw[hs1];show s.cyc+1<=6000;omega)
 have k40:w.cell? ⟨b,40,none⟩=some (.int .i64 s.cyc):=(zd S.row (by omega)).trans rfl
 have f40:=S.frozen 40
 obtain⟨u1,t1⟩:=S.setCyc (s.cyc+1)
 rw[<-hs1]at u1
 have S1:Hid (St N (w.setCell ⟨b,40,none⟩ (.int .i64 (s.cyc+1))) b s1 L):=u1
 have T1:Hid (To b w L (w.setCell ⟨b,40,none⟩ (.int .i64 (s.cyc+1))) L):=t1
 have HW:Hid (s2.wide=s.wide):=hwid
 clear hr hs1 hs2 A A1 S G hs u1 t1 hmost hwid
 go_enter func13,ntmps13
 go_wp2_with fail
 refine(HC1.out _ _ S1.out).mono ?_
 rintro e V2 ⟨rfl,L2,u2,t2⟩
 have S2:Hid (St N V2 b s2 L2):=u2
 have T2:Hid (To b w L V2 L2):=T1.out.trans t2
 clear u2 t2 S1 T1 HC1 k40 f40
 have k37:V2.cell? ⟨b,37,none⟩=some (.int .i64 s2.st):=(zd S2.out.row (by omega)).trans rfl
 by_cases h:s2.st=0
 ·obtain⟨m',A2⟩:=HA2.out h
  have hr:=HR.out
  rw[if_pos h,<-HW.out]at hr
  have A3:=A2.load zM
  have A4:=A3.start zM jE
  have hw3:(start mach (load s2)).wide=s2.wide:=by
   have e1:=(zea zM A2.inv).2.1.wide
   have e2:=(zbU zM A3.inv A3.wid).2.1.wide
   rw[e2,e1]
  have HC2:Hid (∀W L',St N W b s2 L'->Calls prog 30 #[.pointer (some ⟨b,0,none⟩)] W fun e w'=>e=.returned (.tuple #[])/\∃L'',St N w' b (load s2) L''/\To b W L' w' L''):=fun W L' SW=>zh4 SW A2 (by omega)
  have HC3:Hid (∀W L',St N W b (load s2) L'->Calls prog 31 #[.pointer (some ⟨b,0,none⟩)] W fun e w'=>e=.returned (.tuple #[])/\∃L'',St N w' b (start mach (load s2)) L''/\To b W L' w' L''):=fun W L' SW=>zfE SW A3 (by omega)
  have HC4:Hid (∀W L',St N W b (start mach (load s2)) L'->Calls prog 32 #[.pointer (some ⟨b,0,none⟩)] W fun e w'=>e=.returned (.tuple #[])/\∃L'',St N w' b r L''/\To b W L' w' L''):=fun W L' SW=>by
   rw[hr,<-hw3]
   exact zh6 SW A4 (by omega)
  have k37':V2.cell? ⟨b,37,none⟩=some (.int .i64 0):=by rw[k37,h]
  clear A2 A3 A4 hr hw3 HR HA2 h k37 HW
  go_wp2_with fail
  refine(HC2.out _ _ S2.out).mono ?_
  rintro e V3 ⟨rfl,L3,u3,t3⟩
  have S3:Hid (St N V3 b (load s2) L3):=u3
  have T3:Hid (To b w L V3 L3):=T2.out.trans t3
  clear u3 t3 S2 T2 HC2 k37'
  go_wp2_with fail
  refine(HC3.out _ _ S3.out).mono ?_
  rintro e V4 ⟨rfl,L4,u4,t4⟩
  have S4:Hid (St N V4 b (start mach (load s2)) L4):=u4
  have T4:Hid (To b w L V4 L4):=T3.out.trans t4
  clear u4 t4 S3 T3 HC3
  go_wp2_with fail
  refine(HC4.out _ _ S4.out).mono ?_
  rintro e V5 ⟨rfl,L5,u5,t5⟩
  have S5:Hid (St N V5 b r L5):=u5
  have T5:Hid (To b w L V5 L5):=T4.out.trans t5
  clear u5 t5 S4 T4 HC4
  go_wp2_with fail
  refine Ai (Ad rfl _ _ _) rfl ⟨rfl,L5,S5.out,T5.out⟩
 ·have hr:=HR.out
  rw[if_neg h]at hr
  have HR2:Hid (r=s2):=hr
  have h':(s2.st==0)=false:=by simpa using h
  clear hr HR HA2 HW
  go_wp2_with fail
  refine Ai (Ad rfl _ _ _) rfl ⟨rfl,L2,by rw[HR2.out];exact S2.out,T2.out⟩
theorem zou:(prog.info? 5).map (fun i=>(i.zero,i.size,i.bytes))=some (some (.int .u8 0),1,1):=by kernel_rfl
theorem zh7(N:Nat)(h0:0<N)(hN:N*1<=140737488355328)(w:World):
  Calls prog 48 #[.slice none 0 0,.int .i64 N] w fun e w'=>(∃v',e=.returned v'/\w'.ownsRow w.heap.size 5 1 v' 0 [])/\Below w.heap.size w w':=by
 obtain⟨i0,hi,hz0,hz1,hz2⟩:=info_parts zou
 go_enter func48,ntmps48
 go_wp2
 all_goals have e8:t5.bytes=1:=rfl
 all_goals have e9:Builtin.nextslicecap N 0*t5.bytes<=281474976710656:=growslice_fits h0 (by rw[e8];omega)
 all_goals try(exfalso;first|omega|(simp only[e8]at*;omega))
 go_ret
 have hge:=grownCap_ge w N 0 5
 have hle:=grownCap_le_maxLen w N 0 5 (by unfold maxLen;omega)
 refine⟨⟨_,rfl,World.ownsRow_made w _ _ (Ab _) hle ?_⟩,(((Af _ _).alloc (Ab _) _).drew)⟩
 simp only[Array.size_append,size_zeroCells]
 show N*1+(grownCap w N 0 5-N)*1=grownCap w N 0 5*1
 omega
theorem zfJ(w:World):
  Calls prog 48 #[.slice none 0 0,.int .i64 0] w fun e w'=>(∃v',e=.returned v'/\w'.ownsRow w.heap.size 5 1 v' 0 [])/\Below w.heap.size w w':=by
 go_enter func48,ntmps48
 go_wp2
 go_ret
 exact⟨⟨_,rfl,World.ownsRow_nil _ _ _ _⟩,Af _ _⟩
theorem zh8(N:Nat)(hN:N*1<=140737488355328)(w:World):
  Calls prog 48 #[.slice none 0 0,.int .i64 N] w fun e w'=>(∃v',e=.returned v'/\w'.ownsRow w.heap.size 5 1 v' 0 [])/\Below w.heap.size w w':=by
 by_cases h:0<N
 ·exact zh7 N h hN w
 ·obtain rfl:N=0:=by omega
  exact zfJ w
theorem zdz(q:Nat)(a1:Option Addr)(n1 c1:Nat)(cs1:List Value)(hn:n1*1<=140737488355328)(w:World)
  (hq:q<w.heap.size) (k0:w.cell? ⟨q,0,none⟩=some (.slice a1 n1 c1)) (hL1:Hid (LC w a1 n1 c1 1 cs1)):
  Calls prog 27 #[.slice (some ⟨q,0,none⟩) 1 1] w fun e w'=>(∃v',e=.returned v'/\w'.ownsRow w.heap.size 5 1 v' n1 cs1)/\Below w.heap.size w w':=by
 obtain⟨i0,hi,hz0,hz1,hz2⟩:=info_parts zou
 have C:=fun w=>zh8 n1 hn w
 go_enter func27,ntmps27
 go_wp2_with fail
 refine wp_loop_rounds 2 ?_
 rw[Am]
 go_wp2_with fail
 rw[Am]
 go_wp2_with fail
 refine(C _).mono ?_
 rintro e W1 ⟨⟨v,rfl,hown⟩,hk⟩
 have j0:W1.cell? ⟨q,0,none⟩=some (.slice a1 n1 c1):=(hk.cell (p:=⟨q,0,none⟩) hq).trans k0
 have HO:Hid (W1.ownsRow w.heap.size 5 1 v 0 []):=hown
 have HK:Hid (Below w.heap.size w W1):=hk
 clear hown hk k0 C
 go_wp2_with fail
 refine wp_loop_rounds 2 ?_
 rw[Am]
 go_wp2_with(at_builtin;refine zv _ rfl _ _ 28 rfl w.heap.size 5 i0 _ 1 1 underlying28 hi hz0 hz1 hz2 rfl (by decide) _ 0 [] rfl HO.out _ n1 c1 cs1 rfl (hL1.out.below (Ab _) HK.out) (by unfold maxLen;omega) (by omega) HK.out.size ?_;intro v1 w1 hown1 hgrow1)
 have HO1:Hid (w1.ownsRow w.heap.size 5 1 v1 n1 cs1):=by show World.ownsRow _ _ _ _ _ _ _;simpa using hown1
 have HK1:Hid (Below w.heap.size w w1):=HK.out.grown hgrow1 HK.out.size (fun k hk=>(HO.out.lt k hk).1)
 clear hown1 hgrow1 HO HK j0
 rw[Am]
 go_wp2_with fail
 go_ret
 exact⟨⟨_,rfl,HO1.out⟩,HK1.out⟩
def bcs(f:Nat->Int)(n:Nat):List Value:=(List.range n).map fun i=>.int .u8 (f i)
theorem zh9{f:Nat->Int}{n i:Nat}(h:i<n):(bcs f n)[i]?=some (.int .u8 (f i)):=by simp[bcs,h]
theorem zaA{w:World}{B n:Nat}{v:Value}{f:Nat->Int}(h:w.ownsRow B 5 1 v n (bcs f n))(hn:n<=4096)(hf:∀i,i<n->0<=f i/\f i<=255):∃a c,v=.slice a n c/\Bys w a n c f/\∀x,a=some x->B<=x.block:=by
 rcases h.2 with⟨e,h0⟩|⟨g,cap,cur,e,hB,hr,hc,_,_,ht⟩
 ·subst h0
  exact⟨none,0,e,⟨hn,Ab _,fun h=>absurd h (by omega),hf⟩,fun x hx=>by cases hx⟩
 ·refine⟨some ⟨g,0,none⟩,cap,e,⟨hn,hc,fun _=>⟨g,0,rfl,fun i hi=>?_⟩,hf⟩,fun x hx=>by have:=Ah hx;subst this;exact hB⟩
  rw[Nat.zero_add,Ag _ _ _ _ _ _ hr,<-Array.getElem?_toList]
  have:(cur.toList.take (n*1))[i]?=some (.int .u8 (f i)):=by rw[ht];exact zh9 hi
  rw[List.getElem?_take_of_lt (by omega)]at this
  exact this
def xI(win phys wide pc:Int)(sc:Value)(i:Nat):Value:=
 if i=0 then .int .i64 win else if i=1 then .int .i64 phys else if i=2 then .int .i64 wide else if i=3 then .slice none 0 0
 else if i<37 then .int .u32 0 else if i<39 then .int .i64 0 else if i=39 then .slice none 0 0 else if i<43 then .int .i64 0
 else if i<75 then(if i%2=1 then .int .i64 0 else .int .u32 0)
 else if i<107 then(if i%4=2 then .int .i64 0 else .int .u32 0)
 else if i<140 then .int .i64 0 else if i=140 then .slice none 0 0
 else if i<237 then .int .u32 0 else if i<333 then .bool false
 else if i<336 then .slice none 0 0 else if i=336 then sc else if i=337 then .int .u32 pc else .bool true
theorem zfK(win phys wide pc:Int)(p:Option Addr)(n c:Nat):prog.built 66 [(0,.agg #[.int .i64 win,.int .i64 phys,.int .i64 wide]),(9,.slice p n c),(10,.int .u32 pc),(11,.bool true)]=some (rowOf (xI win phys wide pc (.slice p n c)) 339):=by kernel_rfl
def bg(win phys wide:Int)(n:Nat)(R:Nat->Int)(pc st ca:Int)(f:Nat->Int)(scr:List Int)(k:Nat):Cr:=
 {begin win phys wide n R pc st ca f scr with wd:=fun x=>if x<(k:Int)then R x.toNat else 0,th:=fun x=>decide (x<(k:Int))}
theorem zov(win phys wide:Int)(n:Nat)(R:Nat->Int)(pc st ca:Int)(f:Nat->Int)(scr:List Int):bg win phys wide n R pc st ca f scr 32=begin win phys wide n R pc st ca f scr:=by
 have e:((32:Nat):Int)=32:=rfl
 unfold bg begin
 rw[e]
theorem zpx(win phys wide:Int)(n:Nat)(R:Nat->Int)(pc st ca:Int)(f:Nat->Int)(scr:List Int)(k:Nat):{bg win phys wide n R pc st ca f scr k with wd:=upI (bg win phys wide n R pc st ca f scr k).wd (k:Int) (R k),th:=upB (bg win phys wide n R pc st ca f scr k).th (k:Int) true}=bg win phys wide n R pc st ca f scr (k+1):=by
 have e1:upI (bg win phys wide n R pc st ca f scr k).wd (k:Int) (R k)=(bg win phys wide n R pc st ca f scr (k+1)).wd:=by
  funext y
  show(if y=(k:Int)then R k else if y<(k:Int)then R y.toNat else 0)=if y<((k+1:Nat):Int)then R y.toNat else 0
  by_cases e:y=(k:Int)
  ·subst e
   rw[if_pos rfl,if_pos (by omega),Int.toNat_natCast]
  ·rw[if_neg e]
   by_cases h:y<(k:Int)
   ·rw[if_pos h,if_pos (by omega)]
   ·rw[if_neg h,if_neg (by omega)]
 have e2:upB (bg win phys wide n R pc st ca f scr k).th (k:Int) true=(bg win phys wide n R pc st ca f scr (k+1)).th:=by
  funext y
  show(if y=(k:Int)then true else decide (y<(k:Int)))=decide (y<((k+1:Nat):Int))
  by_cases e:y=(k:Int)
  ·subst e
   rw[if_pos rfl,decide_eq_true (by omega)]
  ·rw[if_neg e]
   by_cases h:y<(k:Int)
   ·rw[decide_eq_true h,decide_eq_true (by omega)]
   ·rw[decide_eq_false h,decide_eq_false (by omega)]
 rw[e1,e2]
 rfl
def bgL(m f r:Value):Sls:=⟨.slice none 0 0,m,f,.slice none 0 0,.slice none 0 0,.slice none 0 0,r⟩
theorem zow(win phys wide:Int)(n:Nat)(R:Nat->Int)(pc st ca:Int)(f:Nat->Int)(scr:List Int)(m v r:Value):∀j,j<339->ups (upf (ups (xI win phys wide pc r) 4 35 (hat R pc st ca)) 39 m) 107 34 (mat phys (fun i=>(i:Int)) v) j=kat (bg win phys wide n R pc st ca f scr 0) (bgL m v r) j:=fun j hj=>by
 unfold ups upf kat
 dsimp only
 by_cases h1:107<=j/\j<107+34
 ·rw[if_pos h1,if_neg (by omega),if_neg (by omega),if_neg (by omega),if_neg (by omega),if_pos (by omega)]
  rfl
 ·rw[if_neg h1]
  by_cases h2:j=39
  ·subst h2
   rfl
  ·rw[if_neg h2]
   by_cases h3:4<=j/\j<4+35
   ·rw[if_pos h3,if_neg (by omega),if_pos (by omega)]
    rfl
   ·rw[if_neg h3]
    unfold xI
    by_cases h4:j<4
    ·rcases(by omega:j=0\/j=1\/j=2\/j=3)with rfl|rfl|rfl|rfl<;>rfl
    ·have n0:¬j=0:=by omega
     have n1:¬j=1:=by omega
     have n2:¬j=2:=by omega
     have n3:¬j=3:=by omega
     have n37:¬j<37:=by omega
     have n39:¬j<39:=by omega
     simp only[n0,n1,n2,n3,n37,n39,h2,h4,if_false]
     by_cases h5:j<43
     ·rcases(by omega:j=40\/j=41\/j=42)with rfl|rfl|rfl<;>rfl
     ·simp only[h5,if_false]
      by_cases h6:j<107
      ·simp only[h6,if_true]
       unfold tat
       by_cases h7:j<75
       ·rw[if_pos h7,if_pos (show j-43<32 by omega)]
        by_cases h8:j%2=1
        ·rw[if_pos h8,if_pos (by omega)];rfl
        ·rw[if_neg h8,if_neg (by omega)];rfl
       ·rw[if_neg h7,if_neg (show¬j-43<32 by omega)]
        by_cases h8:j%4=2
        ·rw[if_pos h8,if_neg (show¬(j-43)%4=0 by omega),if_neg (show¬(j-43)%4=1 by omega),if_neg (show¬(j-43)%4=2 by omega)];rfl
        ·rw[if_neg h8]
         rcases(by omega:(j-43)%4=0\/(j-43)%4=1\/(j-43)%4=2)with h9|h9|h9
         ·rw[if_pos h9];rfl
         ·rw[if_neg (by omega),if_pos h9];rfl
         ·rw[if_neg (by omega),if_neg (by omega),if_pos h9];rfl
      ·have m1:¬j<140:=by omega
       have m2:¬j=140:=by omega
       have m3:¬j<141:=by omega
       have m4:¬j<75:=by omega
       simp only[h6,m1,m2,m3,m4,if_false]
       by_cases h7:j<237
       ·simp only[h7,if_true]
        show _=Value.int .u32 (if((j-141:Nat):Int)<((0:Nat):Int)then R ((j-141:Nat):Int).toNat else 0)
        rw[if_neg (by omega)]
       ·simp only[h7,if_false]
        by_cases h8:j<333
        ·simp only[h8,if_true]
         show _=Value.bool (decide (((j-237:Nat):Int)<((0:Nat):Int)))
         rw[decide_eq_false (by omega)]
        ·rcases(by omega:j=333\/j=334\/j=335\/j=336\/j=337\/j=338)with rfl|rfl|rfl|rfl|rfl|rfl<;>rfl
end Go.Proofs.YtpiohehijkpghacGreatDoor.Co
