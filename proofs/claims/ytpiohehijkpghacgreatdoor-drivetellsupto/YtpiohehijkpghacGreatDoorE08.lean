/- What the joined texts lack. -/
import Derived.Lib.LaidTab
import Derived.Deep.DeepHandedRow
import Derived.Test.YtpiohehijkpghacGreatDoorE07
open Array renaming getElem?_eq_some_iff->Aa,length_toList->Ag,getElem?_toList->Aj,toArray_toList->AE
open Go renaming cell_of_row->WZ,frozen_of_row->Ai,results_none->Ak,wpList_load_mid->Ao,wpList_load_row->Ap,bodyPost_end->Aq,bodyPost_ret->Ar,wpList_store_row->Ax,rounds_succ->AD,info_parts->AQ
open Go.Code renaming wp->AP
open Go.DataW renaming trod->Am
open Go.Instr renaming index->AL
open Go.Lib renaming run_eql_slice_nil->AB
open Go.RowKit.Below renaming refl->Ae
open Go.Value renaming slice->An,int->Aw
open Go.World renaming block_lt_of_cell?->Af,cell?_of_block->Ah,ownsRow_made->AF,var?_cell->AN
open Go.World.grownBy renaming refl->AT
open Int renaming eq_ofNat_of_zero_le->Av,toNat_natCast->AI
open List renaming getElem?_drop->WY,getElem?_eq_some_iff->WX,getElem?_eq_getElem->Au,length_map->AA,mem_of_mem_take->AC,range->AG,length_range->AJ,append_nil->AO
open Nat renaming le_refl->Ab,le_trans->Ay,zero_add->Az,lt_of_lt_of_le->AH,lt_succ_self->AK,zero_le->AM,sub_self->AS
open Option.some renaming inj->Ad
open Prod renaming fst->AR
set_option maxHeartbeats 8000000
set_option maxRecDepth 100000
set_option linter.unusedSimpArgs false
set_option linter.unusedVariables false
open Go.Proofs.Tryz
namespace Go.Proofs.YtpiohehijkpghacGreatDoor.Co
open Go.RowKit
open Hy
open Wi Od Re.Hy
open Gu.Hy (Tb tcs)
theorem zcJ(M:Mc):∀(l:List Dg) (s:Cr),(l.foldl (com1 M) s).coms.length=s.coms.length+l.length
 |[],s=>rfl
 |o::l,s=>by
  have:=zcJ M l (com1 M s o)
  rw[List.foldl_cons,this]
  show(s.coms++[o.c]).length+l.length=_
  simp
  omega
theorem zoZ{K:Int}{s:Cr}{m:Nat->Int}(A:Al mach K s m)(hc:s.coms.length<=2000){k:Nat}(hk:k<s.under.length)(hd:∀o∈s.under.take (k+1),o.st=2):∃o,s.under[k]?=some o/\ComOk ((s.under.take k).foldl (com1 mach) s) o:=by
 obtain⟨m',o,l,I',hu,ho,h2⟩:=zie zN k s m A.inv hk hd
 refine⟨o,ho,?_⟩
 have hdr:=A.rg.und o (List.mem_of_getElem? ho)
 have hrg:=zbt jH (s.under.take k) A.rg (λo ho=>A.rg.und o (AC ho))
 have hrd:=zeu zN I'.ch o (by rw[hu];exact List.mem_cons_self ..)
 have hnm:Dis (comN mach k s).phys (comN mach k s).regs (comN mach k s).free:=zcz zN I'
 have hph:((s.under.take k).foldl (com1 mach) s).phys=s.phys:=by
  have key:∀(l:List Dg) (s:Cr),(l.foldl (com1 mach) s).phys=s.phys:=by
   intro l
   induction l with
   |nil=>intro s;rfl
   |cons o l ih=>intro s;exact ih (com1 mach s o)
  exact key _ s
 refine⟨hdr.pc,hdr.c,hrg.tb,?_,⟨by rw[hph];exact A.low,by rw[hph];exact A.rg.phys,hnm⟩,λh0=>?_,λhm=>?_⟩
 ·rw[zcJ,List.length_take]
  have:=A.len
  omega
 ·have hd:=I'.dis
  have hreg:=I'.reg
  have hol:Olds m' (comN mach k s).under:=vE I'.ch
  rw[hu]at hd hreg hol
  obtain⟨g1,g2,g3,g4⟩:=zj6 hd hrd h0 (hol.1 h0)
  rw[hreg]at g4
  exact⟨g1,g2,g3,g4⟩
 ·exact zmM zN zmP I' hu h2 hm
theorem ze2{Φ P:World->Nat->Option Addr->Nat->Option Addr->Nat->Prop}(x:∀W p a1 c1 a2 c2,P W p a1 c1 a2 c2->Φ W p a1 c1 a2 c2)(W:World)(p:Nat)(a1:Option Addr)(c1:Nat)(a2:Option Addr)(c2:Nat)(h:P W p a1 c1 a2 c2):Φ W p a1 c1 a2 c2:=x W p a1 c1 a2 c2 h
theorem xZ{N:Nat}{wr:World}{b:Nat}{u:Cr}{L':Sls}(S:St N wr b u L'){a1:Option Addr}{c1:Nat}{ss:List Sl}(hl:LC wr a1 ss.length c1 2 (scs ss))(f1:0<ss.length->∀x,a1=some x->¬own b L' x.block){v:Value}{ul:List Dg}(hU:Us wr 132 28 v ul.length (flat dgl ul))(hv:∀g,v.ownBlock=some g->L'.u.ownBlock=some g):
  St N (((wr.setCell ⟨b,333,none⟩ (.slice a1 ss.length c1)).setCell ⟨b,334,none⟩ v).drew) b {u with slots:=ss,under:=ul} {L' with s:=.slice a1 ss.length c1,u:=v}/\To b wr L' (((wr.setCell ⟨b,333,none⟩ (.slice a1 ss.length c1)).setCell ⟨b,334,none⟩ v).drew) {L' with s:=.slice a1 ss.length c1,u:=v}:=by
 obtain⟨s2,t2⟩:=S.setSlots0 hl f1
 have hU2:Us (wr.setCell ⟨b,333,none⟩ (.slice a1 ss.length c1)) 132 28 v ul.length (flat dgl ul):=hU.move λg hg=>(qc wr b 333 _).block g (S.its.lt (.inr (.inl (hv g hg)))) (λe=>(S.apart.2.1 g (hv g hg)).2.2 (Ad e))
 obtain⟨s3,t3⟩:=s2.newU ul hU2 (AT _ _) (λg hg=>.inl (hv g hg))
 exact⟨s3.dr,(t2.trans t3).dr⟩
structure CmI(N:Nat)(w:World)(b:Nat)(L:Sls)(s:Cr)(F:Nat->Cr)(p:Nat)(a1:Option Addr)(c1:Nat)(ss:List Sl)(a2:Option Addr)(c2:Nat)(qs:List Int)(wr:World)(k:Nat)(L':Sls):Prop where
 st:St N wr b (F k) L'
 tt:To b w L wr L'
 cell:wr.cell? ⟨p,0,none⟩=some (.slice a2 qs.length c2)
 np:¬own b L' p
 l1:LC wr a1 ss.length c1 2 (scs ss)
 f1:0<ss.length->∀x,a1=some x->¬own b L' x.block
 l2:LC wr a2 qs.length c2 1 (ics qs)
 f2:0<qs.length->∀x,a2=some x->¬own b L' x.block
theorem CmI.move{N:Nat}{w:World}{b:Nat}{L:Sls}{s:Cr}{F:Nat->Cr}{p:Nat}{a1:Option Addr}{c1:Nat}{ss:List Sl}{a2:Option Addr}{c2:Nat}{qs:List Int}{wr W:World}{k j:Nat}{L' L2:Sls}(h:CmI N w b L s F p a1 c1 ss a2 c2 qs wr k L')(T:To b wr L' W L2)(S:St N W b (F j) L2):CmI N w b L s F p a1 c1 ss a2 c2 qs W j L2:=by
 obtain⟨x1,x2⟩:=qC h.l1 h.f1 T
 obtain⟨y1,y2⟩:=qC h.l2 h.f2 T
 exact⟨S,h.tt.trans T,jy h.cell T h.np,qp T.fresh h.np (Af _ _ h.cell),x1,x2,y1,y2⟩
structure Pop1(w:World)(ss:List Sl)(qs:List Int)(W:World)(p:Nat)(a1:Option Addr)(c1:Nat)(a2:Option Addr)(c2:Nat):Prop where
 below:Below w.heap.size w W
 far:w.heap.size<=p
 cell:W.cell? ⟨p,0,none⟩=some (.slice a2 qs.length c2)
 l1:LC W a1 ss.length c1 2 (scs ss)
 f1:FarC w.heap.size a1
 l2:LC W a2 qs.length c2 1 (ics qs)
 f2:FarC w.heap.size a2
theorem zf4{w V:World}{p:Nat}{v:Value}(h:Below w.heap.size w V)(hp:w.heap.size<=p):Below w.heap.size w (V.setCell ⟨p,0,none⟩ v):=by
 have hg:=qc V p 0 v
 exact⟨hg.os.trans h.os,hg.tape.trans h.tape,hg.output.trans h.output,Ay h.size hg.size,λg hgl=>(hg.block g (by have:=h.size;omega) (λe=>by have:=Ad e;omega)).trans (h.block g hgl)⟩
theorem zk9{V:World}{p:Nat}{v:Value}{a:Option Addr}{n c size:Nat}{cs:List Value}(h:LC V a n c size cs)(hp:∀x,a=some x->0<n->x.block≠p):LC (V.setCell ⟨p,0,none⟩ v) a n c size cs:=
 qM h (qc V p 0 v).size λh0 x hx=>(qc V p 0 v).block _ (by
  obtain⟨g,o,e,hlt,_⟩:=h.ad x hx h0
  subst e
  exact hlt) (λe=>hp x hx h0 (Ad e))
theorem zkn{w V:World}{ss:List Sl}{qs:List Int}{a1 a2:Option Addr}{c1 c2:Nat}{t:TypeId}(hb:Below w.heap.size w V)(h1:LC V a1 ss.length c1 2 (scs ss))(f1:FarC w.heap.size a1)(h2:LC V a2 qs.length c2 1 (ics qs))(f2:FarC w.heap.size a2):
  Pop1 w ss qs (V.alloc (.cells #[.slice a2 qs.length c2] t)) V.heap.size a1 c1 a2 c2:=by
 have k0:Below V.heap.size V (V.alloc (.cells #[.slice a2 qs.length c2] t)):=(Ae _ _).alloc (Ab _) _
 refine⟨hb.trans (k0.mono hb.size),hb.size,?_,h1.below (Ab _) k0,f1,h2.below (Ab _) k0,f2⟩
 rw[WZ _ _ _ _ _ _ (heap_alloc_new V _)]
 rfl
theorem zaf{w U V:World}{ss:List Sl}{qs:List Int}{a1 a2:Option Addr}{c1 c2:Nat}{t:TypeId}{z:Value}(hu:Below w.heap.size w U){B:Nat}(hB:U.heap.size<B)(hb:Below (U.alloc (.cells #[z] t)).heap.size (U.alloc (.cells #[z] t)) V)(h1:LC V a1 ss.length c1 2 (scs ss))(f1:FarC B a1)(h2:LC V a2 qs.length c2 1 (ics qs))(f2:FarC B a2):
  Pop1 w ss qs (V.setCell ⟨U.heap.size,0,none⟩ (.slice a2 qs.length c2)) U.heap.size a1 c1 a2 c2:=by
 have k0:Below U.heap.size U (U.alloc (.cells #[z] t)):=(Ae _ _).alloc (Ab _) _
 have k1:Below w.heap.size w (U.alloc (.cells #[z] t)):=hu.trans (k0.mono hu.size)
 have k2:Below w.heap.size w V:=k1.trans (hb.mono k1.size)
 have hrow:V.heap[U.heap.size]?=some (.cells #[z] t (0,0)):=(hb.block _ (by simp)).trans (heap_alloc_new U _)
 have hs:=hu.size
 refine⟨zf4 k2 hs,hs,?_,zk9 h1 (λx hx _ e=>by have:=f1 x hx;omega),λx hx=>by have:=f1 x hx;omega,zk9 h2 (λx hx _ e=>by have:=f2 x hx;omega),λx hx=>by have:=f2 x hx;omega⟩
 rw[WZ _ _ _ _ _ _ (heap_put hrow)]
 rfl
theorem zdR{N:Nat}{w:World}{b:Nat}{s:Cr}{L:Sls}(S:St N w b s L){m:Nat->Int}{K:Int}(A:Al mach K s m)(hK:K<=9000000)(hc:s.coms.length<=2000)(y0:0<=s.cyc)(y1:s.cyc<=6000):
  Calls prog 29 #[.pointer (some ⟨b,0,none⟩)] w λe w'=>e=.returned (.tuple #[])/\∃L',St N w' b (commit mach s) L'/\To b w L w' L':=by
 have hmf:∀(fn:Fn) (first cap:Array Value) (w:World),(Instr.makeFunc fn first cap).run prog w=.ok (.func fn first cap) w:=λ_ _ _ _=>rfl
 obtain⟨lf,hlf⟩:∃lf,lf=left s:=⟨_,rfl⟩
 obtain⟨mi,hmi⟩:∃mi,mi=min s.wide lf:=⟨_,rfl⟩
 obtain⟨mm,hmm⟩:∃mm,mm=qY s.slots mi.toNat:=⟨_,rfl⟩
 obtain⟨r,hr⟩:∃r,r=commit mach s:=⟨_,rfl⟩
 have hgo:=yR s.slots mi.toNat
 rw[<-hmm]at hgo
 have hsl:s.slots.length=s.under.length:=by rw[A.inv.slo,AA]
 have hmu:mm<=s.under.length:=by omega
 have hd:∀o∈s.under.take mm,o.st=2:=by
  rw[hmm,A.inv.slo]
  exact xA s.under _
 have HD:Hid (∀k,k<mm->∃o,s.under[k]?=some o/\ComOk ((s.under.take k).foldl (com1 mach) s) o):=λk hk=>zoZ A hc (by omega) (λo ho=>hd o (by
  have:s.under.take (k+1)=(s.under.take mm).take (k+1):=by rw[List.take_take,Nat.min_eq_left (by omega)]
  rw[this]at ho
  exact AC ho))
 obtain⟨ss,hss⟩:∃ss,ss=s.slots.drop mm:=⟨_,rfl⟩
 obtain⟨qs,hqs⟩:∃qs,qs=jW s.slots mm:=⟨_,rfl⟩
 have HQL:Hid (qs.length=mm):=by show _=_;rw[hqs];exact kv rfl hgo.2
 have HR:Hid (r={(s.under.take mm).foldl (com1 mach) s with slots:=ss,under:=s.under.drop mm,asked:=s.asked.filter λq=>!decide (q.seq∈qs)}):=by
  show _=_
  rw[hr,hss,hqs,hmm,hmi,hlf]
  rfl
 rw[<-hr]
 have hln:=A.len
 have hlA:=A.rg.lenA
 have CLf:Hid (∀W,Below w.heap.size w W->Calls prog 51 #[.pointer (some ⟨b,0,none⟩)] W λe w'=>e=.returned (.int .i64 lf)/\Below W.heap.size W w'):=λW hW=>by rw[hlf];exact zhz (S.below hW) (by omega) y0 y1
 obtain⟨a0,c0,ea,hl0⟩:=S.its.isl
 have k333:w.cell? ⟨b,333,none⟩=some (.slice a0 s.slots.length c0):=(zd S.row (by omega)).trans (congrArg some ea)
 have k2:w.cell? ⟨b,2,none⟩=some (.int .i64 s.wide):=(zd S.row (by omega)).trans rfl
 have CP:Hid (∀W,Below w.heap.size w W->Calls prog 50 #[.slice a0 s.slots.length c0,.int .i64 mi] W λe w'=>(∃a1 c1 a2 c2,e=.returned (.tuple #[.slice a1 ss.length c1,.slice a2 qs.length c2])/\LC w' a1 ss.length c1 2 (scs ss)/\FarC W.heap.size a1/\LC w' a2 qs.length c2 1 (ics qs)/\FarC W.heap.size a2)/\Below W.heap.size W w'):=λW hW=>by
  have:=cPop S mi mm (by rw[hmm];exact zid s.slots mi) (by omega) W hW
  rw[ea,<-hss,<-hqs]at this
  exact this
 have HMI:Hid (min s.wide lf=mi):=hmi.symm
 have hmin:min s.wide lf=mi:=hmi.symm
 have HS:Hid (St N w b s L):=S
 have hlAn:s.asked.length<=100000000:=by omega
 clear hlf hmi hmm hr hgo hsl hd hss hqs A S ea hl0 hlA HMI y0 y1
 go_enter func29,ntmps29
 go_upto_region 0 with fail
 apply keyed
 ·intro key
  refine zu (S:=λw'=>w'.cell? ⟨b,333,none⟩=some (.slice a0 s.slots.length c0)/\w'.cell? ⟨b,2,none⟩=some (.int .i64 s.wide)) [18] (by kernel_rfl) (⟨k333,k2⟩) (λhH=>?_)
  refine tU 0 (.pointer (some ⟨b,0,none⟩)) ?_;go_simp
  refine tU 1 (.pointer (some ⟨b,0,none⟩)) ?_;go_simp
  refine tU 2 (.pointer (some ⟨b,333,none⟩)) ?_;go_simp
  refine tA 3 (.slice a0 s.slots.length c0) ?_;go_simp
  refine tU 4 (.pointer (some ⟨b,0,none⟩)) ?_;go_simp
  refine tU 5 (.pointer (some ⟨b,0,none⟩)) ?_;go_simp
  refine tU 6 (.pointer (some ⟨b,0,none⟩)) ?_;go_simp
  refine tU 7 (.pointer (some ⟨b,2,none⟩)) ?_;go_simp
  refine tB 8 (.int .i64 s.wide) ?_;go_simp
  refine tU 9 (.pointer (some ⟨b,0,none⟩)) ?_;go_simp
  refine rZ [10,16] ?_
  refine(zj.cons rfl (λK hK=>?_) (zj.cons rfl (λK hK=>?_) zj.nil))
  ·go_simp
   refine(CLf.out _ ((Ae _ _).drew)).mono ?_
   rintro e V1 ⟨rfl,hk1⟩
   have HK1:Hid (Below w.heap.size w V1):=zg hk1 (Ab _)
   go_wp2_with fail
   refine hK.out _ _ (⟨zn hk1 (hH.1),zn hk1 (hH.2)⟩) (λhN=>?_)
   clear hK K hH
   have hH:=hN
   clear hN
   try go_simp
   refine rZ [11,16] ?_
   refine(zj.cons rfl (λK hK=>?_) (zj.cons rfl (λK hK=>?_) zj.nil))
   ·go_simp
    refine hK.out _ _ (hH) (λhN=>?_)
    clear hK K hH
    have hH:=hN
    clear hN
    try go_simp
    refine rZ [12,16] ?_
    refine(zj.cons rfl (λK hK=>?_) (zj.cons rfl (λK hK=>?_) zj.nil))
    ·go_simp
     refine(CP.out _ HK1.out).mono ?_
     rintro e V2 ⟨⟨a1,c1,a2,c2,rfl,h1,f1,h2,f2⟩,hk2⟩
     go_wp2_with fail
     refine hK.out _ _ (⟨zn hk2 (hH.1),zn hk2 (hH.2)⟩) (λhN=>?_)
     clear hK K hH
     have hH:=hN
     clear hN
     try go_simp
     refine tU 13 (.tuple #[.slice a1 ss.length c1,.slice a2 qs.length c2]) ?_;go_simp
     refine tU 14 (.slice a1 ss.length c1) ?_;go_simp
     refine tU 15 (.slice a2 qs.length c2) ?_;go_simp
     refine zC 16 rfl (λK hK=>?_)
     go_simp
     refine hK.out _ _ (⟨jG _ (hH.1),jG _ (hH.2)⟩) (λhN=>?_)
     clear hK K hH
     have hH:=hN
     clear hN
     try go_simp
     refine tU 17 (.slice a1 ss.length c1) ?_;go_simp
     refine zL 18 rfl (λK hK=>?_)
     have cS:(V2.alloc (.cells #[.slice none 0 0] 29)).cell? ⟨V2.heap.size,0,none⟩=some (.slice none 0 0):=by rw[WZ _ _ _ _ _ _ (heap_alloc_new V2 _)];rfl
     have fS:(V2.alloc (.cells #[.slice none 0 0] 29)).frozen? ⟨V2.heap.size,0,none⟩=false:=Ai _ _ _ _ _ (heap_alloc_new V2 _)
     go_simp
     refine hK.out _ _ ?_
     clear hK K
     try go_simp
     refine zG (by kernel_rfl) ?_ _
     have PP:Pop1 w ss qs (V2.alloc (.cells #[.slice a2 qs.length c2] 29)) V2.heap.size a1 c1 a2 c2:=zkn (HK1.out.trans (hk2.mono HK1.out.size)) h1 (λx hx=>by have:=f1 x hx;have:=HK1.out.size;omega) h2 (λx hx=>by have:=f2 x hx;have:=HK1.out.size;omega)
     obtain⟨W9,hW9⟩:∃W9,W9=V2.alloc (.cells #[.slice a2 qs.length c2] 29):=⟨_,rfl⟩
     rw[<-hW9]at PP⊢
     obtain⟨p,hp⟩:∃p,p=V2.heap.size:=⟨_,rfl⟩
     rw[<-hp]at PP⊢
     exact ze2 (P:=λW p a1 c1 a2 c2=>Pop1 w ss qs W p a1 c1 a2 c2) key W9 p a1 c1 a2 c2 PP
    ·go_simp
     refine hK.out _ _ (⟨jG _ (hH.1),jG _ (hH.2)⟩) (λhN=>?_)
     clear hK K hH
     have hH:=hN
     clear hN
     try go_simp
     refine zC 12 rfl (λK hK=>?_)
     go_simp
     refine(CP.out _ (HK1.out.alloc HK1.out.size _)).mono ?_
     rintro e V2 ⟨⟨a1,c1,a2,c2,rfl,h1,f1,h2,f2⟩,hk2⟩
     go_wp2_with fail
     refine hK.out _ _ (⟨zn hk2 (hH.1),zn hk2 (hH.2)⟩) (λhN=>?_)
     clear hK K hH
     have hH:=hN
     clear hN
     try go_simp
     refine tU 13 (.tuple #[.slice a1 ss.length c1,.slice a2 qs.length c2]) ?_;go_simp
     refine tU 14 (.slice a1 ss.length c1) ?_;go_simp
     refine tU 15 (.slice a2 qs.length c2) ?_;go_simp
     refine tU 17 (.slice a1 ss.length c1) ?_;go_simp
     refine zL 18 rfl (λK hK=>?_)
     have hrow:V2.heap[V1.heap.size]?=some (.cells #[.slice none 0 0] 29 (0,0)):=(hk2.block _ (by simp)).trans (heap_alloc_new V1 _)
     have cS:V2.cell? ⟨V1.heap.size,0,none⟩=some (.slice none 0 0):=by rw[WZ _ _ _ _ _ _ hrow];rfl
     have fS:V2.frozen? ⟨V1.heap.size,0,none⟩=false:=Ai _ _ _ _ _ hrow
     go_simp
     refine hK.out _ _ ?_
     clear hK K
     try go_simp
     refine zG (by kernel_rfl) ?_ _
     have PP:Pop1 w ss qs (V2.setCell ⟨V1.heap.size,0,none⟩ (.slice a2 qs.length c2)) V1.heap.size a1 c1 a2 c2:=zaf (z:=.slice none 0 0) (t:=29) HK1.out (B:=V1.heap.size+1) (by omega) hk2 h1 (λx hx=>by have:=f1 x hx;simpa using this) h2 (λx hx=>by have:=f2 x hx;simpa using this)
     obtain⟨W9,hW9⟩:∃W9,W9=V2.setCell ⟨V1.heap.size,0,none⟩ (.slice a2 qs.length c2):=⟨_,rfl⟩
     rw[<-hW9]at PP⊢
     obtain⟨p,hp⟩:∃p,p=V1.heap.size:=⟨_,rfl⟩
     rw[<-hp]at PP⊢
     exact ze2 (P:=λW p a1 c1 a2 c2=>Pop1 w ss qs W p a1 c1 a2 c2) key W9 p a1 c1 a2 c2 PP
   ·go_simp
    refine hK.out _ _ (⟨jG _ (hH.1),jG _ (hH.2)⟩) (λhN=>?_)
    clear hK K hH
    have hH:=hN
    clear hN
    try go_simp
    refine zC 11 rfl (λK hK=>?_)
    go_simp
    refine hK.out _ _ (hH) (λhN=>?_)
    clear hK K hH
    have hH:=hN
    clear hN
    try go_simp
    refine zC 12 rfl (λK hK=>?_)
    go_simp
    refine(CP.out _ (HK1.out.alloc HK1.out.size _)).mono ?_
    rintro e V2 ⟨⟨a1,c1,a2,c2,rfl,h1,f1,h2,f2⟩,hk2⟩
    go_wp2_with fail
    refine hK.out _ _ (⟨zn hk2 (hH.1),zn hk2 (hH.2)⟩) (λhN=>?_)
    clear hK K hH
    have hH:=hN
    clear hN
    try go_simp
    refine tU 13 (.tuple #[.slice a1 ss.length c1,.slice a2 qs.length c2]) ?_;go_simp
    refine tU 14 (.slice a1 ss.length c1) ?_;go_simp
    refine tU 15 (.slice a2 qs.length c2) ?_;go_simp
    refine tU 17 (.slice a1 ss.length c1) ?_;go_simp
    refine zL 18 rfl (λK hK=>?_)
    have hrow:V2.heap[V1.heap.size]?=some (.cells #[.slice none 0 0] 29 (0,0)):=(hk2.block _ (by simp)).trans (heap_alloc_new V1 _)
    have cS:V2.cell? ⟨V1.heap.size,0,none⟩=some (.slice none 0 0):=by rw[WZ _ _ _ _ _ _ hrow];rfl
    have fS:V2.frozen? ⟨V1.heap.size,0,none⟩=false:=Ai _ _ _ _ _ hrow
    go_simp
    refine hK.out _ _ ?_
    clear hK K
    try go_simp
    refine zG (by kernel_rfl) ?_ _
    have PP:Pop1 w ss qs (V2.setCell ⟨V1.heap.size,0,none⟩ (.slice a2 qs.length c2)) V1.heap.size a1 c1 a2 c2:=zaf (z:=.slice none 0 0) (t:=29) HK1.out (B:=V1.heap.size+1) (by omega) hk2 h1 (λx hx=>by have:=f1 x hx;simpa using this) h2 (λx hx=>by have:=f2 x hx;simpa using this)
    obtain⟨W9,hW9⟩:∃W9,W9=V2.setCell ⟨V1.heap.size,0,none⟩ (.slice a2 qs.length c2):=⟨_,rfl⟩
    rw[<-hW9]at PP⊢
    obtain⟨p,hp⟩:∃p,p=V1.heap.size:=⟨_,rfl⟩
    rw[<-hp]at PP⊢
    exact ze2 (P:=λW p a1 c1 a2 c2=>Pop1 w ss qs W p a1 c1 a2 c2) key W9 p a1 c1 a2 c2 PP
  ·go_simp
   refine hK.out _ _ (⟨jG _ (hH.1),jG _ (hH.2)⟩) (λhN=>?_)
   clear hK K hH
   have hH:=hN
   clear hN
   try go_simp
   refine zC 10 rfl (λK hK=>?_)
   go_simp
   refine(CLf.out _ (((Ae _ _).drew).alloc (Ab _) _)).mono ?_
   rintro e V1 ⟨rfl,hk1⟩
   go_wp2_with fail
   refine hK.out _ _ (⟨zn hk1 (hH.1),zn hk1 (hH.2)⟩) (λhN=>?_)
   clear hK K hH
   have hH:=hN
   clear hN
   try go_simp
   refine zC 11 rfl (λK hK=>?_)
   go_simp
   refine hK.out _ _ (hH) (λhN=>?_)
   clear hK K hH
   have hH:=hN
   clear hN
   try go_simp
   refine zC 12 rfl (λK hK=>?_)
   go_simp
   refine(CP.out _ ((((Ae _ _).drew).alloc (Ab _) _).trans (hk1.mono (by simp)))).mono ?_
   rintro e V2 ⟨⟨a1,c1,a2,c2,rfl,h1,f1,h2,f2⟩,hk2⟩
   go_wp2_with fail
   refine hK.out _ _ (⟨zn hk2 (hH.1),zn hk2 (hH.2)⟩) (λhN=>?_)
   clear hK K hH
   have hH:=hN
   clear hN
   try go_simp
   refine tU 13 (.tuple #[.slice a1 ss.length c1,.slice a2 qs.length c2]) ?_;go_simp
   refine tU 14 (.slice a1 ss.length c1) ?_;go_simp
   refine tU 15 (.slice a2 qs.length c2) ?_;go_simp
   refine tU 17 (.slice a1 ss.length c1) ?_;go_simp
   refine zL 18 rfl (λK hK=>?_)
   have hrow1:V1.heap[w.heap.size]?=some (.cells #[.slice none 0 0] 29 (0,0)):=(hk1.block _ (by simp)).trans (heap_alloc_new w.drew _)
   have hlt1:w.heap.size<V1.heap.size:=(Aa.1 hrow1).1
   have hrow:V2.heap[w.heap.size]?=some (.cells #[.slice none 0 0] 29 (0,0)):=(hk2.block _ hlt1).trans hrow1
   have cS:V2.cell? ⟨w.heap.size,0,none⟩=some (.slice none 0 0):=by rw[WZ _ _ _ _ _ _ hrow];rfl
   have fS:V2.frozen? ⟨w.heap.size,0,none⟩=false:=Ai _ _ _ _ _ hrow
   go_simp
   refine hK.out _ _ ?_
   clear hK K
   try go_simp
   refine zG (by kernel_rfl) ?_ _
   have PP:Pop1 w ss qs (V2.setCell ⟨w.heap.size,0,none⟩ (.slice a2 qs.length c2)) w.heap.size a1 c1 a2 c2:=zaf (U:=w.drew) (z:=.slice none 0 0) (t:=29) ((Ae _ _).drew) (B:=w.heap.size+1) (by show w.heap.size<_;omega) (hk1.trans (hk2.mono hk1.size)) h1 (λx hx=>by have:=f1 x hx;have:=hk1.size;simp at this;omega) h2 (λx hx=>by have:=f2 x hx;have:=hk1.size;simp at this;omega)
   obtain⟨W9,hW9⟩:∃W9,W9=V2.setCell ⟨w.heap.size,0,none⟩ (.slice a2 qs.length c2):=⟨_,rfl⟩
   rw[<-hW9]at PP⊢
   obtain⟨p,hp⟩:∃p,p=w.heap.size:=⟨_,rfl⟩
   have PP2:Pop1 w ss qs W9 p a1 c1 a2 c2:=by rw[hp];exact PP
   clear PP
   have PP:=PP2
   rw[<-hp]
   exact ze2 (P:=λW p a1 c1 a2 c2=>Pop1 w ss qs W p a1 c1 a2 c2) key W9 p a1 c1 a2 c2 PP
 ·intro V p a1 c1 a2 c2 hP
  have S1:Hid (St N V b s L):=HS.out.below hP.below
  have T1:Hid (To b w L V L):=zf L hP.below
  have hpn:¬own b L p:=λh=>by have:=qR HS.out h;have:=hP.far;omega
  have HCI:Hid (CmI N w b L s (λk=>(s.under.take k).foldl (com1 mach) s) p a1 c1 ss a2 c2 qs V 0 L):=⟨S1.out,T1.out,hP.cell,hpn,hP.l1,λ_=>ja HS.out (Ab _) hP.f1,hP.l2,λ_=>ja HS.out (Ab _) hP.f2⟩
  have cp:=hP.cell
  clear hP hpn S1 T1 HS CLf CP k333 k2 hmin
  go_wp2_with fail
  go_loopw [23] (λi wr=>∃k:Nat,k<=qs.length/\i=.int .i64 (k:Int)/\Hid (∃L',CmI N w b L s (λk=>(s.under.take k).foldl (com1 mach) s) p a1 c1 ss a2 c2 qs wr k L'))
   (λi _=>qs.length-(intOf i).toNat)
  case atStart=>exact⟨0,by omega,rfl,L,HCI.out⟩
  case round=>
   obtain⟨k,hk,rfl,L',I1⟩:=hrel
   clear HCI cp
   by_cases hlt:k<qs.length
   ·obtain⟨o,ho,hok⟩:=HD.out k (by rw[<-HQL.out];exact hlt)
    obtain⟨u,hu⟩:∃u,u=(s.under.take k).foldl (com1 mach) s:=⟨_,rfl⟩
    have hst:St N wr b u L':=by rw[hu];exact I1.st
    have hun:u.under=s.under:=by rw[hu];exact(jx mach _ s).1
    have CO:Hid (Calls prog 52 #[.pointer (some ⟨b,0,none⟩),dgv o] wr λe w'=>e=.returned (.tuple #[])/\∃L'',St N w' b (com1 mach u o) L''/\To b wr L' w' L''):=zar hst o (by rw[hu];exact hok)
    have HN:Hid (com1 mach u o=(s.under.take (k+1)).foldl (com1 mach) s):=by
     show _=_
     rw[hu,List.take_add_one,ho,List.foldl_append]
     rfl
    have HI1:Hid (CmI N w b L s (λk=>(s.under.take k).foldl (com1 mach) s) p a1 c1 ss a2 c2 qs wr k L'):=I1
    have hkl:k<s.under.length:=(WX.1 ho).1
    obtain⟨ug,uo,uc,euv,huc,_,hug,hucs,_⟩:=hst.its.iu.at (by rw[hun];omega)
    rw[hun]at euv huc
    obtain⟨un,hunl⟩:∃un,un=s.under.length:=⟨_,rfl⟩
    rw[<-hunl]at euv huc hkl
    have k334:wr.cell? ⟨b,334,none⟩=some (.slice (some ⟨ug,uo,none⟩) un uc):=(zd hst.row (by omega)).trans (congrArg some euv)
    have HRg:Hid (wr.rangeAt ug (uo+k*28) (dgl o)):=by
     intro i v hv
     rw[Nat.add_assoc]
     exact hucs _ _ (qK zH (by rw[hun];exact ho) hv)
    have k0:0<=(k:Int):=by omega
    have k1:(k:Int)<(un:Int):=by omega
    have hun32:un<=32:=by omega
    clear I1 hok hst hu hun euv hug hucs ho hunl
    go_wp2_with(refine Ao rfl 132 _ rfl ug (uo+k*28) rfl (dgl o) _ HRg.out underlying132 rfl (zM o) ?_)
    refine CO.out.mono ?_
    rintro e V2 ⟨rfl,L2,u1,u2⟩
    rw[HN.out]at u1
    have I2:Hid (CmI N w b L s (λk=>(s.under.take k).foldl (com1 mach) s) p a1 c1 ss a2 c2 qs V2 (k+1) L2):=HI1.out.move u2 u1
    clear u1 u2 CO HN HI1 HRg k334
    go_wp2_with fail
    exact⟨⟨k+1,by omega,by go_num,L2,I2.out⟩,by simp[intOf];omega⟩
   ·have hkq:k=qs.length:=by omega
    obtain⟨u,hu⟩:∃u,u=(s.under.take k).foldl (com1 mach) s:=⟨_,rfl⟩
    have S1:Hid (St N wr b u L'):=by rw[hu];exact I1.st
    obtain⟨f1,f2,f3⟩:=jx mach (s.under.take k) s
    rw[<-hu]at f1 f2 f3
    have HR2:Hid (r={u with slots:=ss,under:=s.under.drop k,asked:=s.asked.filter λq=>!decide (q.seq∈qs)}):=by show _=_;rw[HR.out,hu,hkq,HQL.out]
    have HUF:Hid (u.under=s.under/\u.asked=s.asked):=⟨f1,f2⟩
    have HI1:Hid (CmI N w b L s (λk=>(s.under.take k).foldl (com1 mach) s) p a1 c1 ss a2 c2 qs wr k L'):=I1
    have hkm:k<=s.under.length:=by rw[hkq,HQL.out];exact hmu
    have hk32:k<=32:=by omega
    have hqk:qs.length=k:=hkq.symm
    have HQK:Hid (qs.length=k):=hqk
    have cp:wr.cell? ⟨p,0,none⟩=some (.slice a2 qs.length c2):=I1.cell
    clear hqk
    clear hu f1 f2 f3 I1 HR hkq HD hmu
    obtain⟨ul,hul⟩:∃ul,ul=s.under.drop k:=⟨_,rfl⟩
    have HUL:Hid (ul=s.under.drop k):=hul
    have hull:ul.length=s.under.length-k:=by rw[hul,List.length_drop]
    have HFL:Hid (flat dgl ul=(flat dgl s.under).drop (k*28)):=by show _=_;rw[hul];exact zcp zH _ _
    rw[<-hul]at HR2
    clear hul
    have HSU:Hid (Us wr 132 28 L'.u s.under.length (flat dgl s.under)):=by have:=S1.out.its.iu;rw[HUF.out.1]at this;exact this
    have k334:wr.cell? ⟨b,334,none⟩=some L'.u:=(zd S1.out.row (by omega)).trans rfl
    have k333:wr.cell? ⟨b,333,none⟩=some L'.s:=(zd S1.out.row (by omega)).trans rfl
    have f333:=S1.out.frozen 333
    have f334:=S1.out.frozen 334
    have hbp:b≠p:=λe=>HI1.out.np (.inl e.symm)
    rcases HSU.out.is with⟨ev,h0⟩|⟨ug,uo,uc,cur,ev,hcur,huc,hucm,_⟩
    ·have hk0:k=0:=by omega
     have V6:Hid (Us wr 132 28 (.slice none 0 0) ul.length (flat dgl ul)):=by
      have:=HSU.out
      have e1:s.under=[]:=List.eq_nil_of_length_eq_zero h0
      rw[ev,e1]at this
      rw[HUL.out,e1,hk0]
      exact this
     rw[ev]at k334
     clear hull h0
     have kz:(k:Int)=0:=by omega
     go_upto_region 6 with fail
     refine zu (S:=λw'=>w'.cell? ⟨b,334,none⟩=some (.slice none 0 0)/\w'.cell? ⟨p,0,none⟩=some (.slice a2 qs.length c2)) [15] (by kernel_rfl) (⟨k334,cp⟩) (λhH=>?_)
     refine tU 0 (.pointer (some ⟨b,0,none⟩)) ?_;go_simp
     refine tU 1 (.pointer (some ⟨b,0,none⟩)) ?_;go_simp
     refine tU 2 (.slice a1 ss.length c1) ?_;go_simp
     refine tU 3 (.pointer (some ⟨b,0,none⟩)) ?_;go_simp
     refine tU 4 (.pointer (some ⟨b,0,none⟩)) ?_;go_simp
     refine tU 5 (.pointer (some ⟨b,334,none⟩)) ?_;go_simp
     refine tA 6 (.slice none 0 0) ?_;go_simp
     refine tB 7 (.slice a2 qs.length c2) ?_;go_simp
     refine tU 8 (.int .i64 (qs.length:Int)) ?_;go_simp
     refine tX 9 (.slice none 0 0) rfl (Or.inl ⟨by rfl,by intro wz hSw;clear hSw;have hqk:=HQK.out;go_simp⟩) hH ?_;go_simp
     refine tU 10 (.pointer (some ⟨b,0,none⟩)) ?_;go_simp
     refine tU 11 (.pointer (some ⟨b,333,none⟩)) ?_;go_simp
     refine zC 12 rfl (λK hK=>?_)
     go_simp
     refine hK.out _ _ (⟨zj0 hH.1 (by simp),vU hH.2 hbp⟩) (λhN=>?_)
     clear hK K hH
     have hH:=hN
     clear hN
     try go_simp
     refine tU 13 (.pointer (some ⟨b,0,none⟩)) ?_;go_simp
     refine tU 14 (.pointer (some ⟨b,334,none⟩)) ?_;go_simp
     refine zL 15 rfl (λK hK=>?_)
     go_simp
     refine hK.out _ _ ?_
     clear hK K
     try go_simp
     refine zG (by kernel_rfl) ?_ _
     have hvb:∀g,(An none 0 0).ownBlock=some g->L'.u.ownBlock=some g:=λg hg=>by cases hg
     obtain⟨s2,t2⟩:=xZ S1.out HI1.out.l1 HI1.out.f1 V6.out hvb
     have S2:Hid (St N (((wr.setCell ⟨b,333,none⟩ (.slice a1 ss.length c1)).setCell ⟨b,334,none⟩ (.slice none 0 0)).drew) b {u with slots:=ss,under:=ul} {L' with s:=.slice a1 ss.length c1,u:=.slice none 0 0}):=s2
     have T2:Hid (To b w L (((wr.setCell ⟨b,333,none⟩ (.slice a1 ss.length c1)).setCell ⟨b,334,none⟩ (.slice none 0 0)).drew) {L' with s:=.slice a1 ss.length c1,u:=.slice none 0 0}):=HI1.out.tt.trans t2
     have cp2:=jy HI1.out.cell t2 HI1.out.np
     have np2:Hid (¬own b {L' with s:=.slice a1 ss.length c1,u:=.slice none 0 0} p):=qp t2.fresh HI1.out.np (Af _ _ HI1.out.cell)
     have L22:Hid _:=qC HI1.out.l2 HI1.out.f2 t2
     clear s2 t2 hH cp k333 k334 f333 f334 HI1 V6 S1 HSU HFL hvb HQK kz hk0
     generalize ((wr.setCell ⟨b,333,none⟩ (.slice a1 ss.length c1)).setCell ⟨b,334,none⟩ (.slice none 0 0)).drew=V2 at*
     generalize ({L' with s:=.slice a1 ss.length c1,u:=.slice none 0 0}:Sls)=L2 at*
     obtain⟨u2,hu2⟩:∃u2:Cr,u2={u with slots:=ss,under:=ul}:=⟨_,rfl⟩
     rw[<-hu2]at S2
     have hua:u2.asked=s.asked:=by rw[hu2];exact HUF.out.2
     obtain⟨al,hal⟩:∃l,l=u2.asked.filter (λq=>!decide (q.seq∈qs)):=⟨_,rfl⟩
     have HR3:Hid (r={u2 with asked:=al}):=by show _=_;rw[HR2.out,hal,hua,hu2]
     have HLA:Hid (u2.asked.length<=100000000):=by rw[hua];exact hlAn
     clear hu2 hua HUF HR2
     have k335:V2.cell? ⟨b,335,none⟩=some L2.a:=(zd S2.out.row (by omega)).trans rfl
     have hq32:qs.length<=32:=by have:=HQL.out;omega
     have CD:Hid (Calls prog 53 #[L2.a,.func (.func 54) #[] #[.pointer (some ⟨p,0,none⟩)]] V2 λe w'=>∃v',e=.returned v'/\Us w' 135 7 v' al.length (flat cel al)/\V2.grownBy w' L2.a.ownBlock/\v'.ownBlock=L2.a.ownBlock):=by
      rw[hal]
      exact xX 54 p (λq=>decide (q.seq∈qs)) zaM (λW=>W.cell? ⟨p,0,none⟩=some (.slice a2 qs.length c2)/\LC W a2 qs.length c2 1 (ics qs)) S2.out.its.ia HLA.out
       (λW W' h hs hb=>⟨(Ah (w:=W) (a:=⟨p,0,none⟩) (hb p (Af _ _ h.1) (λe=>np2.out (.inr (.inr (.inr e)))))).trans h.1,qM h.2 hs λh0 x hx=>by
        obtain⟨g,o,e,hlt,_⟩:=h.2.ad x hx h0
        subst e
        exact hb g hlt (λe=>L22.out.2 h0 _ hx (.inr (.inr (.inr e))))⟩) (λW o h=>yy p a2 qs.length c2 (by omega) qs W o h.1 h.2) ⟨cp2,L22.out.1⟩
     clear hal
     go_wp2_with fail
     refine CD.out.mono ?_
     rintro e V5 ⟨v5,rfl,hU5,hG5,hO5⟩
     obtain⟨p5,d5,rfl⟩:=hU5.slice
     have k335b:V5.cell? ⟨b,335,none⟩=some L2.a:=(Ah (w:=V2) (a:=⟨b,335,none⟩) (hG5.block b S2.out.lt (λh=>(S2.out.apart.2.2 b h.symm).2.2 rfl))).trans k335
     have f335:V5.frozen? ⟨b,335,none⟩=false:=Ai _ _ _ _ _ ((hG5.block b S2.out.lt (λh=>(S2.out.apart.2.2 b h.symm).2.2 rfl)).trans S2.out.row)
     have hH5:Hid ((Us V5 135 7 (.slice p5 al.length d5) al.length (flat cel al))/\V2.grownBy V5 L2.a.ownBlock/\(An p5 al.length d5).ownBlock=L2.a.ownBlock):=⟨hU5,hG5,hO5⟩
     clear hU5 hG5 hO5 CD k335 cp2
     go_wp2_with fail
     obtain⟨s6,t6⟩:=S2.out.newA _ hH5.out.1 hH5.out.2.1 (λg hg=>.inl (by rw[<-hH5.out.2.2];exact hg))
     rw[<-HR3.out]at s6
     refine Aq (Ak rfl _ _ _) rfl ⟨rfl,_,s6,T2.out.trans t6⟩
    ·rw[ev]at k334
     by_cases hkc:k<uc
     case' pos=>
      have hne:¬uc=k:=by omega
      have V6:Hid (Us wr 132 28 (.slice (some ⟨ug,uo+k*28,none⟩) (s.under.length-k) (uc-k)) ul.length (flat dgl ul)):=by
       have:=HSU.out
       rw[ev]at this
       rw[HFL.out,hull]
       exact this.drop k hkm hkc
      have hk1:(k:Int)<=(s.under.length:Int):=by omega
      go_upto_region 6 with fail
      refine zu (S:=λw'=>w'.cell? ⟨b,334,none⟩=some (.slice (some ⟨ug,uo,none⟩) s.under.length uc)/\w'.cell? ⟨p,0,none⟩=some (.slice a2 qs.length c2)) [15] (by kernel_rfl) (⟨k334,cp⟩) (λhH=>?_)
      refine tU 0 (.pointer (some ⟨b,0,none⟩)) ?_;go_simp
      refine tU 1 (.pointer (some ⟨b,0,none⟩)) ?_;go_simp
      refine tU 2 (.slice a1 ss.length c1) ?_;go_simp
      refine tU 3 (.pointer (some ⟨b,0,none⟩)) ?_;go_simp
      refine tU 4 (.pointer (some ⟨b,0,none⟩)) ?_;go_simp
      refine tU 5 (.pointer (some ⟨b,334,none⟩)) ?_;go_simp
      refine tA 6 (.slice (some ⟨ug,uo,none⟩) s.under.length uc) ?_;go_simp
      refine tB 7 (.slice a2 qs.length c2) ?_;go_simp
      refine tU 8 (.int .i64 (qs.length:Int)) ?_;go_simp
      refine tX 9 (.slice (some ⟨ug,uo+k*28,none⟩) (s.under.length-k) (uc-k)) rfl (Or.inl ⟨by rfl,by intro wz hSw;clear hSw;have hqk:=HQK.out;go_simp⟩) hH ?_;go_simp
      refine tU 10 (.pointer (some ⟨b,0,none⟩)) ?_;go_simp
      refine tU 11 (.pointer (some ⟨b,333,none⟩)) ?_;go_simp
      refine zC 12 rfl (λK hK=>?_)
      go_simp
      refine hK.out _ _ (⟨zj0 hH.1 (by simp),vU hH.2 hbp⟩) (λhN=>?_)
      clear hK K hH
      have hH:=hN
      clear hN
      try go_simp
      refine tU 13 (.pointer (some ⟨b,0,none⟩)) ?_;go_simp
      refine tU 14 (.pointer (some ⟨b,334,none⟩)) ?_;go_simp
      refine zL 15 rfl (λK hK=>?_)
      go_simp
      refine hK.out _ _ ?_
      clear hK K
      try go_simp
      refine zG (by kernel_rfl) ?_ _
      have hvb:∀g,(An (some ⟨ug,uo+k*28,none⟩) (s.under.length-k) (uc-k)).ownBlock=some g->L'.u.ownBlock=some g:=λg hg=>by rw[ev];exact hg
      obtain⟨s2,t2⟩:=xZ S1.out HI1.out.l1 HI1.out.f1 V6.out hvb
      have S2:Hid (St N (((wr.setCell ⟨b,333,none⟩ (.slice a1 ss.length c1)).setCell ⟨b,334,none⟩ (.slice (some ⟨ug,uo+k*28,none⟩) (s.under.length-k) (uc-k))).drew) b {u with slots:=ss,under:=ul} {L' with s:=.slice a1 ss.length c1,u:=.slice (some ⟨ug,uo+k*28,none⟩) (s.under.length-k) (uc-k)}):=s2
      have T2:Hid (To b w L (((wr.setCell ⟨b,333,none⟩ (.slice a1 ss.length c1)).setCell ⟨b,334,none⟩ (.slice (some ⟨ug,uo+k*28,none⟩) (s.under.length-k) (uc-k))).drew) {L' with s:=.slice a1 ss.length c1,u:=.slice (some ⟨ug,uo+k*28,none⟩) (s.under.length-k) (uc-k)}):=HI1.out.tt.trans t2
      have cp2:=jy HI1.out.cell t2 HI1.out.np
      have np2:Hid (¬own b {L' with s:=.slice a1 ss.length c1,u:=.slice (some ⟨ug,uo+k*28,none⟩) (s.under.length-k) (uc-k)} p):=qp t2.fresh HI1.out.np (Af _ _ HI1.out.cell)
      have L22:Hid _:=qC HI1.out.l2 HI1.out.f2 t2
      clear s2 t2 hH cp k333 k334 f333 f334 HI1 V6 S1 HSU HFL hvb HQK
      generalize ((wr.setCell ⟨b,333,none⟩ (.slice a1 ss.length c1)).setCell ⟨b,334,none⟩ (.slice (some ⟨ug,uo+k*28,none⟩) (s.under.length-k) (uc-k))).drew=V2 at*
      generalize ({L' with s:=.slice a1 ss.length c1,u:=.slice (some ⟨ug,uo+k*28,none⟩) (s.under.length-k) (uc-k)}:Sls)=L2 at*
     case' neg=>
      have hkc2:uc<=s.under.length:=by omega
      have hkc3:uc=k:=by omega
      have hlk:s.under.length-k=0:=by omega
      have V6:Hid (Us wr 132 28 (.slice (some ⟨ug,uo,none⟩) 0 0) ul.length (flat dgl ul)):=by
       have:=HSU.out
       rw[ev]at this
       have h1:s.under.length=k:=by omega
       rw[HFL.out,hull,h1,AS]
       have e2:(flat dgl s.under).drop (k*28)=[]:=List.drop_eq_nil_of_le (by rw[kH zH,h1];exact Ab _)
       rw[e2]
       exact this.empty
      have hk1:(k:Int)<=(s.under.length:Int):=by omega
      have HKC:Hid (uc=k):=hkc3
      clear hkc3
      go_upto_region 6 with fail
      refine zu (S:=λw'=>w'.cell? ⟨b,334,none⟩=some (.slice (some ⟨ug,uo,none⟩) s.under.length uc)/\w'.cell? ⟨p,0,none⟩=some (.slice a2 qs.length c2)) [15] (by kernel_rfl) (⟨k334,cp⟩) (λhH=>?_)
      refine tU 0 (.pointer (some ⟨b,0,none⟩)) ?_;go_simp
      refine tU 1 (.pointer (some ⟨b,0,none⟩)) ?_;go_simp
      refine tU 2 (.slice a1 ss.length c1) ?_;go_simp
      refine tU 3 (.pointer (some ⟨b,0,none⟩)) ?_;go_simp
      refine tU 4 (.pointer (some ⟨b,0,none⟩)) ?_;go_simp
      refine tU 5 (.pointer (some ⟨b,334,none⟩)) ?_;go_simp
      refine tA 6 (.slice (some ⟨ug,uo,none⟩) s.under.length uc) ?_;go_simp
      refine tB 7 (.slice a2 qs.length c2) ?_;go_simp
      refine tU 8 (.int .i64 (qs.length:Int)) ?_;go_simp
      refine tX 9 (.slice (some ⟨ug,uo,none⟩) 0 0) rfl (Or.inl ⟨by rfl,by intro wz hSw;clear hSw;have hqk:=HQK.out;have hkc3:=HKC.out;go_simp⟩) hH ?_;go_simp
      refine tU 10 (.pointer (some ⟨b,0,none⟩)) ?_;go_simp
      refine tU 11 (.pointer (some ⟨b,333,none⟩)) ?_;go_simp
      refine zC 12 rfl (λK hK=>?_)
      go_simp
      refine hK.out _ _ (⟨zj0 hH.1 (by simp),vU hH.2 hbp⟩) (λhN=>?_)
      clear hK K hH
      have hH:=hN
      clear hN
      try go_simp
      refine tU 13 (.pointer (some ⟨b,0,none⟩)) ?_;go_simp
      refine tU 14 (.pointer (some ⟨b,334,none⟩)) ?_;go_simp
      refine zL 15 rfl (λK hK=>?_)
      go_simp
      refine hK.out _ _ ?_
      clear hK K
      try go_simp
      refine zG (by kernel_rfl) ?_ _
      have hvb:∀g,(An (some ⟨ug,uo,none⟩) 0 0).ownBlock=some g->L'.u.ownBlock=some g:=λg hg=>by rw[ev];exact hg
      obtain⟨s2,t2⟩:=xZ S1.out HI1.out.l1 HI1.out.f1 V6.out hvb
      have S2:Hid (St N (((wr.setCell ⟨b,333,none⟩ (.slice a1 ss.length c1)).setCell ⟨b,334,none⟩ (.slice (some ⟨ug,uo,none⟩) 0 0)).drew) b {u with slots:=ss,under:=ul} {L' with s:=.slice a1 ss.length c1,u:=.slice (some ⟨ug,uo,none⟩) 0 0}):=s2
      have T2:Hid (To b w L (((wr.setCell ⟨b,333,none⟩ (.slice a1 ss.length c1)).setCell ⟨b,334,none⟩ (.slice (some ⟨ug,uo,none⟩) 0 0)).drew) {L' with s:=.slice a1 ss.length c1,u:=.slice (some ⟨ug,uo,none⟩) 0 0}):=HI1.out.tt.trans t2
      have cp2:=jy HI1.out.cell t2 HI1.out.np
      have np2:Hid (¬own b {L' with s:=.slice a1 ss.length c1,u:=.slice (some ⟨ug,uo,none⟩) 0 0} p):=qp t2.fresh HI1.out.np (Af _ _ HI1.out.cell)
      have L22:Hid _:=qC HI1.out.l2 HI1.out.f2 t2
      clear s2 t2 hH cp k333 k334 f333 f334 HI1 V6 S1 HSU HFL hvb HQK
      generalize ((wr.setCell ⟨b,333,none⟩ (.slice a1 ss.length c1)).setCell ⟨b,334,none⟩ (.slice (some ⟨ug,uo,none⟩) 0 0)).drew=V2 at*
      generalize ({L' with s:=.slice a1 ss.length c1,u:=.slice (some ⟨ug,uo,none⟩) 0 0}:Sls)=L2 at*
     all_goals
      obtain⟨u2,hu2⟩:∃u2:Cr,u2={u with slots:=ss,under:=ul}:=⟨_,rfl⟩
      rw[<-hu2]at S2
      have hua:u2.asked=s.asked:=by rw[hu2];exact HUF.out.2
      obtain⟨al,hal⟩:∃l,l=u2.asked.filter (λq=>!decide (q.seq∈qs)):=⟨_,rfl⟩
      have HR3:Hid (r={u2 with asked:=al}):=by show _=_;rw[HR2.out,hal,hua,hu2]
      have HLA:Hid (u2.asked.length<=100000000):=by rw[hua];exact hlAn
      clear hu2 hua HUF HR2
      have k335:V2.cell? ⟨b,335,none⟩=some L2.a:=(zd S2.out.row (by omega)).trans rfl
      have hq32:qs.length<=32:=by have:=HQL.out;omega
      have CD:Hid (Calls prog 53 #[L2.a,.func (.func 54) #[] #[.pointer (some ⟨p,0,none⟩)]] V2 λe w'=>∃v',e=.returned v'/\Us w' 135 7 v' al.length (flat cel al)/\V2.grownBy w' L2.a.ownBlock/\v'.ownBlock=L2.a.ownBlock):=by
       rw[hal]
       exact xX 54 p (λq=>decide (q.seq∈qs)) zaM (λW=>W.cell? ⟨p,0,none⟩=some (.slice a2 qs.length c2)/\LC W a2 qs.length c2 1 (ics qs)) S2.out.its.ia HLA.out
        (λW W' h hs hb=>⟨(Ah (w:=W) (a:=⟨p,0,none⟩) (hb p (Af _ _ h.1) (λe=>np2.out (.inr (.inr (.inr e)))))).trans h.1,qM h.2 hs λh0 x hx=>by
         obtain⟨g,o,e,hlt,_⟩:=h.2.ad x hx h0
         subst e
         exact hb g hlt (λe=>L22.out.2 h0 _ hx (.inr (.inr (.inr e))))⟩) (λW o h=>yy p a2 qs.length c2 (by omega) qs W o h.1 h.2) ⟨cp2,L22.out.1⟩
      clear hal
      go_wp2_with fail
      refine CD.out.mono ?_
      rintro e V5 ⟨v5,rfl,hU5,hG5,hO5⟩
      obtain⟨p5,d5,rfl⟩:=hU5.slice
      have k335b:V5.cell? ⟨b,335,none⟩=some L2.a:=(Ah (w:=V2) (a:=⟨b,335,none⟩) (hG5.block b S2.out.lt (λh=>(S2.out.apart.2.2 b h.symm).2.2 rfl))).trans k335
      have f335:V5.frozen? ⟨b,335,none⟩=false:=Ai _ _ _ _ _ ((hG5.block b S2.out.lt (λh=>(S2.out.apart.2.2 b h.symm).2.2 rfl)).trans S2.out.row)
      have hH5:Hid ((Us V5 135 7 (.slice p5 al.length d5) al.length (flat cel al))/\V2.grownBy V5 L2.a.ownBlock/\(An p5 al.length d5).ownBlock=L2.a.ownBlock):=⟨hU5,hG5,hO5⟩
      clear hU5 hG5 hO5 CD k335 cp2
      go_wp2_with fail
      obtain⟨s6,t6⟩:=S2.out.newA _ hH5.out.1 hH5.out.2.1 (λg hg=>.inl (by rw[<-hH5.out.2.2];exact hg))
      rw[<-HR3.out]at s6
      refine Aq (Ak rfl _ _ _) rfl ⟨rfl,_,s6,T2.out.trans t6⟩
theorem zo0{K:Int}{s:Cr}{m:Nat->Int}(A:Al mach K s m)(hK:K<=9000000):TakOk s:=by
 have h1:=A.rg.len
 have h2:=A.len
 have h3:=A.rg.lenA
 have h4:=A.rg.tak
 exact⟨zfT A.inv,zmL A.inv,by omega,by omega,A.rg.ask,by omega,A.rg.fro,A.tak,by omega,A.nms zN,A.rg.tb⟩
theorem zm3{M:Mc}{j:Nat}{s:Cr}(h:s.opn=false):takN M j s=s:=by
 cases j with
 |zero=>rfl
 |succ j=>unfold takN;rw[h];rfl
theorem ziv{M:Mc}{j:Nat}{s:Cr}(h:s.opn=true)(h2:(tak1 M s).2=false):takN M (j+1) s=(tak1 M s).1:=by
 rw[takN,if_pos h,h2]
 rfl
theorem zm4{M:Mc}{j:Nat}{s:Cr}(h:s.opn=true)(h2:(tak1 M s).2=true):takN M (j+1) s=takN M j (tak1 M s).1:=by
 rw[takN,if_pos h,h2]
 rfl
theorem ziw{N:Nat}{w:World}{b:Nat}{s:Cr}{L:Sls}(S:St N w b s L){K:Int}{m:Nat->Int}(A:Al mach K s m)(hK:K<=8000000):
  Calls prog 32 #[.pointer (some ⟨b,0,none⟩)] w λe w'=>e=.returned (.tuple #[])/\∃L',St N w' b (takN mach s.wide.toNat s) L'/\To b w L w' L':=by
 have hw:=A.rg.wide
 have hw1:=A.wid
 obtain⟨n,hn⟩:∃n:Nat,s.wide=(n:Int):=Av (by omega)
 have k2:w.cell? ⟨b,2,none⟩=some (.int .i64 (n:Int)):=(zd S.row (by omega)).trans (congrArg some (by rw[<-hn];rfl))
 have en:s.wide.toNat=n:=by omega
 have hn4:n<=4:=by omega
 rw[en]
 have HS:Hid (St N w b s L):=S
 have HA:Hid (Al mach K s m):=A
 obtain⟨r,hr⟩:∃r,r=takN mach n s:=⟨_,rfl⟩
 rw[<-hr]
 have HR:Hid (takN mach n s=r):=hr.symm
 clear S A hw hw1 en hn hr
 go_enter func32,ntmps32
 go_wp2_with fail
 go_loopw [7] (λi wr=>∃k:Nat,k<=n/\i=.int .i64 (k:Int)/\Hid (∃s' L',St N wr b s' L'/\To b w L wr L'/\Al mach (K+3*k) s' m/\takN mach (n-k) s'=r))
  (λi _=>n-(intOf i).toNat)
 case atStart=>exact⟨0,by omega,rfl,s,L,HS.out,To.refl b w L,HA.out.mono (by omega),HR.out⟩
 case round=>
  obtain⟨k,hk,rfl,s',L',S1,T1,A1,R1⟩:=hrel
  clear HS HA HR k2
  have T2:Hid (To b w L wr L'):=T1
  have A2:Hid (Al mach (K+3*k) s' m):=A1
  have R2:Hid (takN mach (n-k) s'=r):=R1
  by_cases hlt:k<n
  ·have c338:wr.cell? ⟨b,338,none⟩=some (.bool s'.opn):=(zd S1.row (by omega)).trans rfl
   cases ho:s'.opn with
   |false=>
    rw[ho]at c338
    have e:=zm3 (M:=mach) (j:=n-k) ho
    rw[R1]at e
    subst e
    have S2:Hid (St N wr b r L'):=S1
    clear S1 T1 A1 R1 ho A2 R2
    go_wp2_with fail
    refine Ar (Ak rfl _ _ _) rfl ⟨rfl,L',S2.out,T2.out⟩
   |true=>
    rw[ho]at c338
    have C:Hid (Calls prog 64 #[.pointer (some ⟨b,0,none⟩)] wr λe w'=>e=.returned (.bool (tak1 mach s').2)/\∃L'',St N w' b (tak1 mach s').1 L''/\To b wr L' w' L''):=zcC S1 (zo0 A1 (by omega))
    have A3:Hid (Al mach (K+3*k+3) (tak1 mach s').1 m):=A1.take zN jH ho
    obtain⟨j,hj⟩:∃j,n-k=j+1:=⟨n-k-1,by omega⟩
    rw[hj]at R1
    cases h2:(tak1 mach s').2 with
    |false=>
     have R3:Hid ((tak1 mach s').1=r):=(ziv ho h2).symm.trans R1
     rw[h2]at C
     clear S1 T1 A1 R1 A2 R2 h2 ho
     go_wp2_with fail
     refine C.out.mono ?_
     rintro e V ⟨rfl,L2,u1,u2⟩
     rw[R3.out]at u1
     have S3:Hid (St N V b r L2):=u1
     have T3:Hid (To b w L V L2):=T2.out.trans u2
     clear u1 u2 C
     go_wp2_with fail
     refine Ar (Ak rfl _ _ _) rfl ⟨rfl,L2,S3.out,T3.out⟩
    |true=>
     have R3:Hid (takN mach j (tak1 mach s').1=r):=(zm4 ho h2).symm.trans R1
     rw[h2]at C
     have hj2:n-(k+1)=j:=by omega
     have HJ:Hid (n-(k+1)=j):=hj2
     clear S1 T1 A1 R1 A2 R2 h2 ho hj hj2
     go_wp2_with fail
     refine C.out.mono ?_
     rintro e V ⟨rfl,L2,u1,u2⟩
     have S3:Hid (St N V b (tak1 mach s').1 L2):=u1
     have T3:Hid (To b w L V L2):=T2.out.trans u2
     clear u1 u2 C
     go_wp2_with fail
     exact⟨⟨k+1,by omega,by go_num,_,L2,S3.out,T3.out,A3.out.mono (by push_cast;omega),by rw[HJ.out];exact R3.out⟩,by simp[intOf];omega⟩
  ·have hkn:k=n:=by omega
   subst hkn
   have e:takN mach (k-k) s'=s':=by rw[AS];rfl
   rw[R1]at e
   subst e
   have S2:Hid (St N wr b r L'):=S1
   clear S1 T1 A1 R1 A2 R2
   go_wp2_with fail
   refine Aq (Ak rfl _ _ _) rfl ⟨rfl,L',S2.out,T2.out⟩
theorem zf5{N:Nat}{w:World}{b:Nat}{s:Cr}{L:Sls}(S:St N w b s L){h0:Hs}(G:Gd mach h0 s)(hs:s.st=0)(hc6:s.cyc<6000):
  Calls prog 13 #[.pointer (some ⟨b,0,none⟩)] w λe w'=>e=.returned (.tuple #[])/\∃L',St N w' b (cycle mach s) L'/\To b w L w' L':=by
 obtain⟨m,A⟩:=G.al hs
 have y0:=G.good.cyc
 have hmost:=G.good.most
 have hKb:116*s.cyc<=696000:=by omega
 have A1:=zk5 A (s.cyc+1)
 obtain⟨r,hr⟩:∃r,r=cycle mach s:=⟨_,rfl⟩
 rw[<-hr]
 obtain⟨s1,hs1⟩:∃s1:Cr,s1={s with cyc:=s.cyc+1}:=⟨_,rfl⟩
 obtain⟨s2,hs2⟩:∃s2,s2=commit mach s1:=⟨_,rfl⟩
 have HR:Hid (r=if s2.st=0 then takN mach s.wide.toNat (start mach (load s2))else s2):=by show _=_;rw[hr,hs2,hs1];rfl
 rw[<-hs1]at A1
 have HA2:Hid (s2.st=0->∃m',Al mach (116*s.cyc) s2 m'):=λh=>by
  rw[hs2]at h⊢
  exact zcA zN jH (h0:=h0) A1 (by rw[hs1];exact hs) (by rw[hs1];exact zif G.good.ref _) h
 have hwid:s2.wide=s.wide:=by rw[hs2,(zaL mach s1).2.2.1,hs1]
 have HC1:Hid (∀W L',St N W b s1 L'->Calls prog 29 #[.pointer (some ⟨b,0,none⟩)] W λe w'=>e=.returned (.tuple #[])/\∃L'',St N w' b s2 L''/\To b W L' w' L''):=λW L' SW=>by
  rw[hs2]
  exact zdR SW A1 (by omega) (by rw[hs1];show s.coms.length<=2000;omega) (by rw[hs1];show 0<=s.cyc+1;omega) (by rw[hs1];show s.cyc+1<=6000;omega)
 have k40:w.cell? ⟨b,40,none⟩=some (.int .i64 s.cyc):=(zd S.row (by omega)).trans rfl
 have f40:=S.frozen 40
 obtain⟨u1,t1⟩:=S.setCyc (s.cyc+1)
 rw[<-hs1]at u1
 have S1:Hid (St N (w.setCell ⟨b,40,none⟩ (.int .i64 (s.cyc+1))) b s1 L):=u1
 have T1:Hid (To b w L (w.setCell ⟨b,40,none⟩ (.int .i64 (s.cyc+1))) L):=t1
 have HW:Hid (s2.wide=s.wide):=hwid
 clear hr hs1 hs2 A A1 S G hs u1 t1 hmost hwid
 go_enter func13,ntmps13
 go_wp2_with fail
 refine(HC1.out _ _ S1.out).mono ?_
 rintro e V2 ⟨rfl,L2,u2,t2⟩
 have S2:Hid (St N V2 b s2 L2):=u2
 have T2:Hid (To b w L V2 L2):=T1.out.trans t2
 clear u2 t2 S1 T1 HC1 k40 f40
 have k37:V2.cell? ⟨b,37,none⟩=some (.int .i64 s2.st):=(zd S2.out.row (by omega)).trans rfl
 by_cases h:s2.st=0
 ·obtain⟨m',A2⟩:=HA2.out h
  have hr:=HR.out
  rw[if_pos h,<-HW.out]at hr
  have A3:=A2.load zN
  have A4:=A3.start zN jH
  have hw3:(start mach (load s2)).wide=s2.wide:=by
   have e1:=(zew zN A2.inv).2.1.wide
   have e2:=(zcc zN A3.inv A3.wid).2.1.wide
   rw[e2,e1]
  have HC2:Hid (∀W L',St N W b s2 L'->Calls prog 30 #[.pointer (some ⟨b,0,none⟩)] W λe w'=>e=.returned (.tuple #[])/\∃L'',St N w' b (load s2) L''/\To b W L' w' L''):=λW L' SW=>ziu SW A2 (by omega)
  have HC3:Hid (∀W L',St N W b (load s2) L'->Calls prog 31 #[.pointer (some ⟨b,0,none⟩)] W λe w'=>e=.returned (.tuple #[])/\∃L'',St N w' b (start mach (load s2)) L''/\To b W L' w' L''):=λW L' SW=>zf1 SW A3 (by omega)
  have HC4:Hid (∀W L',St N W b (start mach (load s2)) L'->Calls prog 32 #[.pointer (some ⟨b,0,none⟩)] W λe w'=>e=.returned (.tuple #[])/\∃L'',St N w' b r L''/\To b W L' w' L''):=λW L' SW=>by
   rw[hr,<-hw3]
   exact ziw SW A4 (by omega)
  have k37':V2.cell? ⟨b,37,none⟩=some (.int .i64 0):=by rw[k37,h]
  clear A2 A3 A4 hr hw3 HR HA2 h k37 HW
  go_wp2_with fail
  refine(HC2.out _ _ S2.out).mono ?_
  rintro e V3 ⟨rfl,L3,u3,t3⟩
  have S3:Hid (St N V3 b (load s2) L3):=u3
  have T3:Hid (To b w L V3 L3):=T2.out.trans t3
  clear u3 t3 S2 T2 HC2 k37'
  go_wp2_with fail
  refine(HC3.out _ _ S3.out).mono ?_
  rintro e V4 ⟨rfl,L4,u4,t4⟩
  have S4:Hid (St N V4 b (start mach (load s2)) L4):=u4
  have T4:Hid (To b w L V4 L4):=T3.out.trans t4
  clear u4 t4 S3 T3 HC3
  go_wp2_with fail
  refine(HC4.out _ _ S4.out).mono ?_
  rintro e V5 ⟨rfl,L5,u5,t5⟩
  have S5:Hid (St N V5 b r L5):=u5
  have T5:Hid (To b w L V5 L5):=T4.out.trans t5
  clear u5 t5 S4 T4 HC4
  go_wp2_with fail
  refine Aq (Ak rfl _ _ _) rfl ⟨rfl,L5,S5.out,T5.out⟩
 ·have hr:=HR.out
  rw[if_neg h]at hr
  have HR2:Hid (r=s2):=hr
  have h':(s2.st==0)=false:=by simpa using h
  clear hr HR HA2 HW
  go_wp2_with fail
  refine Aq (Ak rfl _ _ _) rfl ⟨rfl,L2,by rw[HR2.out];exact S2.out,T2.out⟩
theorem zo1:(prog.info? 5).map (λi=>(i.zero,i.size,i.bytes))=some (some (.int .u8 0),1,1):=by kernel_rfl
theorem zix(N:Nat)(h0:0<N)(hN:N*1<=140737488355328)(w:World):
  Calls prog 48 #[.slice none 0 0,.int .i64 N] w λe w'=>(∃v',e=.returned v'/\w'.ownsRow w.heap.size 5 1 v' 0 [])/\Below w.heap.size w w':=by
 obtain⟨i0,hi,hz0,hz1,hz2⟩:=AQ zo1
 go_enter func48,ntmps48
 go_wp2
 all_goals have e8:t5.bytes=1:=rfl
 all_goals have e9:Builtin.nextslicecap N 0*t5.bytes<=281474976710656:=growslice_fits h0 (by rw[e8];omega)
 all_goals try(exfalso;first|omega|(simp only[e8]at*;omega))
 go_ret
 have hge:=grownCap_ge w N 0 5
 have hle:=grownCap_le_maxLen w N 0 5 (by unfold maxLen;omega)
 refine⟨⟨_,rfl,AF w _ _ (Ab _) hle ?_⟩,(((Ae _ _).alloc (Ab _) _).drew)⟩
 simp only[Array.size_append,size_zeroCells]
 show N*1+(grownCap w N 0 5-N)*1=grownCap w N 0 5*1
 omega
theorem zf6(w:World):
  Calls prog 48 #[.slice none 0 0,.int .i64 0] w λe w'=>(∃v',e=.returned v'/\w'.ownsRow w.heap.size 5 1 v' 0 [])/\Below w.heap.size w w':=by
 go_enter func48,ntmps48
 go_wp2
 go_ret
 exact⟨⟨_,rfl,World.ownsRow_nil _ _ _ _⟩,Ae _ _⟩
theorem ziy(N:Nat)(hN:N*1<=140737488355328)(w:World):
  Calls prog 48 #[.slice none 0 0,.int .i64 N] w λe w'=>(∃v',e=.returned v'/\w'.ownsRow w.heap.size 5 1 v' 0 [])/\Below w.heap.size w w':=by
 by_cases h:0<N
 ·exact zix N h hN w
 ·obtain rfl:N=0:=by omega
  exact zf6 w
theorem zdS(q:Nat)(a1:Option Addr)(n1 c1:Nat)(cs1:List Value)(hn:n1*1<=140737488355328)(w:World)
  (hq:q<w.heap.size) (k0:w.cell? ⟨q,0,none⟩=some (.slice a1 n1 c1)) (hL1:Hid (LC w a1 n1 c1 1 cs1)):
  Calls prog 27 #[.slice (some ⟨q,0,none⟩) 1 1] w λe w'=>(∃v',e=.returned v'/\w'.ownsRow w.heap.size 5 1 v' n1 cs1)/\Below w.heap.size w w':=by
 obtain⟨i0,hi,hz0,hz1,hz2⟩:=AQ zo1
 have C:=λw=>ziy n1 hn w
 go_enter func27,ntmps27
 go_wp2_with fail
 refine wp_loop_rounds 2 ?_
 rw[AD]
 go_wp2_with fail
 rw[AD]
 go_wp2_with fail
 refine(C _).mono ?_
 rintro e W1 ⟨⟨v,rfl,hown⟩,hk⟩
 have j0:W1.cell? ⟨q,0,none⟩=some (.slice a1 n1 c1):=(hk.cell (p:=⟨q,0,none⟩) hq).trans k0
 have HO:Hid (W1.ownsRow w.heap.size 5 1 v 0 []):=hown
 have HK:Hid (Below w.heap.size w W1):=hk
 clear hown hk k0 C
 go_wp2_with fail
 refine wp_loop_rounds 2 ?_
 rw[AD]
 go_wp2_with(at_builtin;refine zx _ rfl _ _ 28 rfl w.heap.size 5 i0 _ 1 1 underlying28 hi hz0 hz1 hz2 rfl (by decide) _ 0 [] rfl HO.out _ n1 c1 cs1 rfl (hL1.out.below (Ab _) HK.out) (by unfold maxLen;omega) (by omega) HK.out.size ?_;intro v1 w1 hown1 hgrow1)
 have HO1:Hid (w1.ownsRow w.heap.size 5 1 v1 n1 cs1):=by show World.ownsRow _ _ _ _ _ _ _;simpa using hown1
 have HK1:Hid (Below w.heap.size w w1):=HK.out.grown hgrow1 HK.out.size (λk hk=>(HO.out.lt k hk).1)
 clear hown1 hgrow1 HO HK j0
 rw[AD]
 go_wp2_with fail
 go_ret
 exact⟨⟨_,rfl,HO1.out⟩,HK1.out⟩
def bcs(f:Nat->Int)(n:Nat):List Value:=(AG n).map λi=>.int .u8 (f i)
theorem ziz{f:Nat->Int}{n i:Nat}(h:i<n):(bcs f n)[i]?=some (.int .u8 (f i)):=by simp[bcs,h]
theorem zaN{w:World}{B n:Nat}{v:Value}{f:Nat->Int}(h:w.ownsRow B 5 1 v n (bcs f n))(hn:n<=4096)(hf:∀i,i<n->0<=f i/\f i<=255):∃a c,v=.slice a n c/\Bys w a n c f/\∀x,a=some x->B<=x.block:=by
 rcases h.2 with⟨e,h0⟩|⟨g,cap,cur,e,hB,hr,hc,_,_,ht⟩
 ·subst h0
  exact⟨none,0,e,⟨hn,Ab _,λh=>absurd h (by omega),hf⟩,λx hx=>by cases hx⟩
 ·refine⟨some ⟨g,0,none⟩,cap,e,⟨hn,hc,λ_=>⟨g,0,rfl,λi hi=>?_⟩,hf⟩,λx hx=>by have:=Ad hx;subst this;exact hB⟩
  rw[Az,WZ _ _ _ _ _ _ hr,<-Aj]
  have:(cur.toList.take (n*1))[i]?=some (.int .u8 (f i)):=by rw[ht];exact ziz hi
  rw[List.getElem?_take_of_lt (by omega)]at this
  exact this
def xN(win phys wide pc:Int)(sc:Value)(i:Nat):Value:=
 if i=0 then .int .i64 win else if i=1 then .int .i64 phys else if i=2 then .int .i64 wide else if i=3 then .slice none 0 0
 else if i<37 then .int .u32 0 else if i<39 then .int .i64 0 else if i=39 then .slice none 0 0 else if i<43 then .int .i64 0
 else if i<75 then(if i%2=1 then .int .i64 0 else .int .u32 0)
 else if i<107 then(if i%4=2 then .int .i64 0 else .int .u32 0)
 else if i<140 then .int .i64 0 else if i=140 then .slice none 0 0
 else if i<237 then .int .u32 0 else if i<333 then .bool false
 else if i<336 then .slice none 0 0 else if i=336 then sc else if i=337 then .int .u32 pc else .bool true
theorem zf7(win phys wide pc:Int)(p:Option Addr)(n c:Nat):prog.built 66 [(0,.agg #[.int .i64 win,.int .i64 phys,.int .i64 wide]),(9,.slice p n c),(10,.int .u32 pc),(11,.bool true)]=some (rowOf (xN win phys wide pc (.slice p n c)) 339):=by kernel_rfl
def bg(win phys wide:Int)(n:Nat)(R:Nat->Int)(pc st ca:Int)(f:Nat->Int)(scr:List Int)(k:Nat):Cr:=
 {begin win phys wide n R pc st ca f scr with wd:=λx=>if x<(k:Int)then R x.toNat else 0,th:=λx=>decide (x<(k:Int))}
theorem zo2(win phys wide:Int)(n:Nat)(R:Nat->Int)(pc st ca:Int)(f:Nat->Int)(scr:List Int):bg win phys wide n R pc st ca f scr 32=begin win phys wide n R pc st ca f scr:=by
 have e:((32:Nat):Int)=32:=rfl
 unfold bg begin
 rw[e]
theorem zp4(win phys wide:Int)(n:Nat)(R:Nat->Int)(pc st ca:Int)(f:Nat->Int)(scr:List Int)(k:Nat):{bg win phys wide n R pc st ca f scr k with wd:=upI (bg win phys wide n R pc st ca f scr k).wd (k:Int) (R k),th:=upB (bg win phys wide n R pc st ca f scr k).th (k:Int) true}=bg win phys wide n R pc st ca f scr (k+1):=by
 have e1:upI (bg win phys wide n R pc st ca f scr k).wd (k:Int) (R k)=(bg win phys wide n R pc st ca f scr (k+1)).wd:=by
  funext y
  show(if y=(k:Int)then R k else if y<(k:Int)then R y.toNat else 0)=if y<((k+1:Nat):Int)then R y.toNat else 0
  by_cases e:y=(k:Int)
  ·subst e
   rw[if_pos rfl,if_pos (by omega),AI]
  ·rw[if_neg e]
   by_cases h:y<(k:Int)
   ·rw[if_pos h,if_pos (by omega)]
   ·rw[if_neg h,if_neg (by omega)]
 have e2:upB (bg win phys wide n R pc st ca f scr k).th (k:Int) true=(bg win phys wide n R pc st ca f scr (k+1)).th:=by
  funext y
  show(if y=(k:Int)then true else decide (y<(k:Int)))=decide (y<((k+1:Nat):Int))
  by_cases e:y=(k:Int)
  ·subst e
   rw[if_pos rfl,decide_eq_true (by omega)]
  ·rw[if_neg e]
   by_cases h:y<(k:Int)
   ·rw[decide_eq_true h,decide_eq_true (by omega)]
   ·rw[decide_eq_false h,decide_eq_false (by omega)]
 rw[e1,e2]
 rfl
def bgL(m f r:Value):Sls:=⟨.slice none 0 0,m,f,.slice none 0 0,.slice none 0 0,.slice none 0 0,r⟩
theorem zo3(win phys wide:Int)(n:Nat)(R:Nat->Int)(pc st ca:Int)(f:Nat->Int)(scr:List Int)(m v r:Value):∀j,j<339->ups (upf (ups (xN win phys wide pc r) 4 35 (hat R pc st ca)) 39 m) 107 34 (mat phys (λi=>(i:Int)) v) j=kat (bg win phys wide n R pc st ca f scr 0) (bgL m v r) j:=λj hj=>by
 unfold ups upf kat
 dsimp only
 by_cases h1:107<=j/\j<107+34
 ·rw[if_pos h1,if_neg (by omega),if_neg (by omega),if_neg (by omega),if_neg (by omega),if_pos (by omega)]
  rfl
 ·rw[if_neg h1]
  by_cases h2:j=39
  ·subst h2
   rfl
  ·rw[if_neg h2]
   by_cases h3:4<=j/\j<4+35
   ·rw[if_pos h3,if_neg (by omega),if_pos (by omega)]
    rfl
   ·rw[if_neg h3]
    unfold xN
    by_cases h4:j<4
    ·rcases(by omega:j=0\/j=1\/j=2\/j=3)with rfl|rfl|rfl|rfl<;>rfl
    ·have n0:¬j=0:=by omega
     have n1:¬j=1:=by omega
     have n2:¬j=2:=by omega
     have n3:¬j=3:=by omega
     have n37:¬j<37:=by omega
     have n39:¬j<39:=by omega
     simp only[n0,n1,n2,n3,n37,n39,h2,h4,if_false]
     by_cases h5:j<43
     ·rcases(by omega:j=40\/j=41\/j=42)with rfl|rfl|rfl<;>rfl
     ·simp only[h5,if_false]
      by_cases h6:j<107
      ·simp only[h6,if_true]
       unfold tat
       by_cases h7:j<75
       ·rw[if_pos h7,if_pos (show j-43<32 by omega)]
        by_cases h8:j%2=1
        ·rw[if_pos h8,if_pos (by omega)];rfl
        ·rw[if_neg h8,if_neg (by omega)];rfl
       ·rw[if_neg h7,if_neg (show¬j-43<32 by omega)]
        by_cases h8:j%4=2
        ·rw[if_pos h8,if_neg (show¬(j-43)%4=0 by omega),if_neg (show¬(j-43)%4=1 by omega),if_neg (show¬(j-43)%4=2 by omega)];rfl
        ·rw[if_neg h8]
         rcases(by omega:(j-43)%4=0\/(j-43)%4=1\/(j-43)%4=2)with h9|h9|h9
         ·rw[if_pos h9];rfl
         ·rw[if_neg (by omega),if_pos h9];rfl
         ·rw[if_neg (by omega),if_neg (by omega),if_pos h9];rfl
      ·have m1:¬j<140:=by omega
       have m2:¬j=140:=by omega
       have m3:¬j<141:=by omega
       have m4:¬j<75:=by omega
       simp only[h6,m1,m2,m3,m4,if_false]
       by_cases h7:j<237
       ·simp only[h7,if_true]
        show _=Aw .u32 (if((j-141:Nat):Int)<((0:Nat):Int)then R ((j-141:Nat):Int).toNat else 0)
        rw[if_neg (by omega)]
       ·simp only[h7,if_false]
        by_cases h8:j<333
        ·simp only[h8,if_true]
         show _=Value.bool (decide (((j-237:Nat):Int)<((0:Nat):Int)))
         rw[decide_eq_false (by omega)]
        ·rcases(by omega:j=333\/j=334\/j=335\/j=336\/j=337\/j=338)with rfl|rfl|rfl|rfl|rfl|rfl<;>rfl
theorem zbA{P:Program}{ops:Array Oper}{rest:List Oper}{o:Oper}{a:Act}{w:World}{Q:Exit->Act->World->Prop}(hg:o.guard=none)(t:TypeId)(i0 i1 i2 i3:Nat)(x0 x1 x2 x3:Operand)(ho:o.op=.build t #[(i0,x0),(i1,x1),(i2,x2),(i3,x3)])
  (v0 v1 v2 v3:Value) (e0:a.eval x0=v0) (e1:a.eval x1=v1) (e2:a.eval x2=v2) (e3:a.eval x3=v3) (cells:Array Value)
  (hb:P.built t [(i0,v0),(i1,v1),(i2,v2),(i3,v3)]=some cells)
  (h:wpList P ops Q rest (a.put o.dst (.agg cells)) w):wpList P ops Q (o::rest) a w:=
 qH hg t _ ho cells (by simp[e0,e1,e2,e3,hb]) h
theorem zf8:(prog.info? 25).map (·.size)=some 32:=by kernel_rfl
theorem ziA{w:World}{mp:Option Addr}{n mc:Nat}{f:Nat->Int}(hM:LC w mp n mc 1 (bcs f n))(hn:n<=4096)(hf:∀i,i<n->0<=f i/\f i<=255)(W:World)(hW:Below w.heap.size w W)(q:Nat)(hq:q<W.heap.size)(k0:W.cell? ⟨q,0,none⟩=some (.slice mp n mc)):
  Calls prog 27 #[.slice (some ⟨q,0,none⟩) 1 1] W λe w'=>(∃a c,e=.returned (.slice a n c)/\Bys w' a n c f/\FarC W.heap.size a)/\Below W.heap.size W w':=by
 refine(zdS q mp n mc (bcs f n) (by omega) W hq k0 (hM.below (Ab _) hW)).mono ?_
 rintro e w' ⟨⟨v,rfl,ho⟩,hb⟩
 obtain⟨a,c,rfl,h1,h2⟩:=zaN ho hn hf
 exact⟨⟨a,c,rfl,h1,h2⟩,hb⟩
theorem ka{B:Nat}{w V V':World}{b:Nat}(h:Below B w V)(hB:B<=V.heap.size)(g:V.grownBy V' (some b))(hb:B<=b):Below B w V':=
 ⟨g.os.trans h.os,g.tape.trans h.tape,g.output.trans h.output,Ay h.size g.size,λk hk=>(g.block k (by omega) (λe=>by have:=Ad e;omega)).trans (h.block k hk)⟩
theorem zko:(prog.info? 24).map (·.size)=some 1:=by kernel_rfl
theorem zm5(Q:Array Value)(k:Nat)(hk:k<32)(v:Value)(h:Q[k]?=some v)(w:World):(AL 25 (.agg Q) (.int .i64 (k:Int))).run prog w=.ok v w:=by
 have hsz:(sizeOf 24).run prog w=.ok 1 w:=by
  have:=zko
  cases hq:prog.info? 24 with
  |none=>rw[hq]at this;cases this
  |some i=>rw[hq]at this;simp at this;simp[sizeOf,typeInfo,hq,this]
 simp[AL,asIntOf,run_underlying underlying25,hsz,part,h,run_underlying underlying24,isAgg]
 intro h2
 omega
theorem zkp{w:World}{a:Option Addr}{P c:Nat}(h:Re.Lie w a (P-32) c (λi=>32+(i:Int))):Re.Lie w a ((AG (P-32)).map (λi:Nat=>32+(i:Int))).length c (λi=>((AG (P-32)).map (λi:Nat=>32+(i:Int))).getD i 0):=by
 rw[AA,AJ]
 refine h.congr λi hi=>?_
 rw[List.getD_eq_getElem?_getD,List.getElem?_map,List.getElem?_range hi]
 rfl
theorem zo4{P:Int}(hP:33<=P)(v:Value):rowOf (mat P (Re.rg P.toNat) v) 34=rowOf (mat P (λi=>(i:Int)) v) 34:=qo λi hi=>by
 unfold mat
 split
 ·rfl
 ·split
  ·unfold Re.rg
   rw[if_pos (by omega)]
  ·rfl
theorem zf9{N:Nat}{w:World}(hN:N<=w.heap.size)(g1:0<N)(g2:2<N)(tb:Tab w)(tb2:Tab2 w)(win phys wide:Int)(p0:33<=phys)(p1:phys<=96)(R:Nat->Int)(pc st ca:Int)(mp:Option Addr)(n mc:Nat)(f:Nat->Int)(hM:LC w mp n mc 1 (bcs f n))(hn:n<=4096)(hf:∀i,i<n->0<=f i/\f i<=255)(sp:Option Addr)(sc:Nat)(scr:List Int)(hS:LC w sp scr.length sc 1 (ics scr)):
  Calls prog 12 #[.agg #[.int .i64 win,.int .i64 phys,.int .i64 wide],.agg (rowOf (hat R pc st ca) 35),.slice mp n mc,.slice sp scr.length sc] w λe w'=>(∃b L,e=.returned (.pointer (some ⟨b,0,none⟩))/\St N w' b (begin win phys wide n R pc st ca f scr) L/\∀g,own b L g->w.heap.size<=g)/\Below w.heap.size w w':=by
 obtain⟨H,hH⟩:∃H,H=rowOf (hat R pc st ca) 35:=⟨_,rfl⟩
 rw[<-hH]
 have HH:Hid (H=rowOf (hat R pc st ca) 35):=hH
 have h32:H[32]?=some (.int .u32 pc):=by rw[hH];exact zw _ (by omega)
 have HHI:Hid (H.size=35/\(prog.info? 27).map (·.size)=some H.size/\H.all (·.oneCell')=true):=by rw[hH];exact⟨ze _ _,by rw[ze];exact zq,zcI _ _ _ _⟩
 obtain⟨X,hX⟩:∃X,X=rowOf (xN win phys wide pc (.slice sp scr.length sc)) 339:=⟨_,rfl⟩
 have HX:Hid (X=rowOf (xN win phys wide pc (.slice sp scr.length sc)) 339):=hX
 have HBX:Hid (prog.built 66 [(0,.agg #[.int .i64 win,.int .i64 phys,.int .i64 wide]),(9,.slice sp scr.length sc),(10,.int .u32 pc),(11,.bool true)]=some X):=by rw[hX];exact zf7 win phys wide pc sp scr.length sc
 have HA:Hid (N<=w.heap.size/\Tab w/\Tab2 w/\LC w mp n mc 1 (bcs f n)/\LC w sp scr.length sc 1 (ics scr)):=⟨hN,tb,tb2,hM,hS⟩
 have hs35:H.size=35:=HHI.out.1
 obtain⟨sn,hsn⟩:∃sn,sn=scr.length:=⟨_,rfl⟩
 rw[<-hsn]at HX HBX HA hS⊢
 have HSN:Hid (sn=scr.length):=hsn
 clear hH hX hN tb tb2 hM hS hsn
 go_enter func12,ntmps12
 go_upto_region 1 with fail
 refine Wi.jr (Φ:=λW=>AP _ _ _ _ W) ?_
 intro V e1 e2 hb hsz
 have HQ:Hid (V.heap[w.heap.size+1]?=some (.cells H 27 (0,0))):=e2
 have k0:V.cell? ⟨w.heap.size,0,none⟩=some (.int .i64 win):=by rw[WZ _ _ _ _ _ _ e1];rfl
 have k1:V.cell? ⟨w.heap.size,1,none⟩=some (.int .i64 phys):=by rw[WZ _ _ _ _ _ _ e1];rfl
 have k2:V.cell? ⟨w.heap.size,2,none⟩=some (.int .i64 wide):=by rw[WZ _ _ _ _ _ _ e1];rfl
 have kh:V.cell? ⟨w.heap.size+1,32,none⟩=some (.int .u32 pc):=by rw[WZ _ _ _ _ _ _ e2];exact h32
 have HB:Hid (Below w.heap.size w V):=hb
 have hqV:w.heap.size+1<V.heap.size:=by omega
 clear e1 e2 hb hsz
 obtain⟨h,hh⟩:∃h,h=w.heap.size+1:=⟨_,rfl⟩
 obtain⟨q,hq⟩:∃q,q=w.heap.size:=⟨_,rfl⟩
 rw[<-hh]at HQ kh hqV⊢
 rw[<-hq]at k0 k1 k2⊢
 have HQW:Hid (q=w.heap.size/\h=w.heap.size+1):=⟨hq,hh⟩
 clear hq hh
 go_upto_region 2 with(refine zbA rfl 66 0 9 10 11 _ _ _ _ rfl (.agg #[.int .i64 win,.int .i64 phys,.int .i64 wide]) (.slice sp sn sc) (.int .u32 pc) (.bool true) rfl rfl rfl rfl X HBX.out ?_)
 refine Wi.zh (Φ:=λW=>AP _ _ _ _ W) ?_
 intro V1 r1 hb1
 have hbw:w.heap.size+2<=V.heap.size:=by have:=HQW.out;omega
 have HB1:Hid (Below w.heap.size w V1):=HB.out.trans (hb1.mono HB.out.size)
 have R1:Hid (V1.heap[h]?=some (.cells H 27 (0,0))):=(hb1.block h hqV).trans HQ.out
 have hb1s:V.heap.size<V1.heap.size:=(Aa.1 r1).1
 rw[HX.out]at r1
 obtain⟨b,hbb⟩:∃b,b=V.heap.size:=⟨_,rfl⟩
 rw[<-hbb]at r1 hbw hb1s hqV⊢
 have ROW1:Hid (V1.heap[b]?=some (.cells (rowOf (xN win phys wide pc (.slice sp sn sc)) 339) 66 (0,0))):=r1
 have CCo:Hid (∀W q,Below w.heap.size w W->q<W.heap.size->W.cell? ⟨q,0,none⟩=some (.slice mp n mc)->Calls prog 27 #[.slice (some ⟨q,0,none⟩) 1 1] W λe w'=>(∃a c,e=.returned (.slice a n c)/\Bys w' a n c f/\FarC W.heap.size a)/\Below W.heap.size W w'):=λW q hW hq k0=>ziA HA.out.2.2.2.1 hn hf W hW q hq k0
 have hhb:h≠b:=by omega
 have RG:Hid (V1.rangeAt h 0 H.toList):=λj v hj=>by rw[WZ _ _ _ _ _ _ R1.out,Az,<-Aj];exact hj
 have HHL:Hid ((prog.info? 27).map (·.size)=some H.toList.length):=by show _=_;rw[Ag];exact HHI.out.2.1
 clear hb1 r1 hbb HB HQ HX HBX k0 k1 k2 kh h32 hs35
 refine zu (S:=λw'=>w'.rangeAt h 0 (H.toList)) [9,13] (by kernel_rfl) (RG.out) (λhH=>?_)
 refine tU 0 (.pointer (some ⟨b,0,none⟩)) ?_;go_simp
 refine tU 1 (.pointer (some ⟨b,0,none⟩)) ?_;go_simp
 refine tS 2 (.agg (H.toList).toArray) rfl (yieldsIf_load_mid (by rfl) 27 _ rfl _ _ rfl (H.toList) _ (λwz hSw=>hSw) underlying27 rfl HHL.out) hH ?_;go_simp
 refine tU 3 (.slice mp n mc) ?_;go_simp
 refine zC 4 rfl (λK hK=>?_)
 go_simp
 refine hK.out _ _ (zcw _ (hH)) (λhN=>?_)
 clear hK K hH
 have hH:=hN
 clear hN
 try go_simp
 refine zC 5 rfl (λK hK=>?_)
 go_simp
 refine(CCo.out _ V1.heap.size (HB1.out.drew.alloc HB1.out.size _) (by simp) (jR (w:=V1.drew) (cs:=[.slice mp n mc]) 0 _ rfl)).mono ?_
 rintro e V2 ⟨⟨ma,mc2,rfl,hB2,hF2⟩,hk2⟩
 have HK2:Hid (Below V1.heap.size V1 V2):=(((Ae _ V1).drew).alloc (Ab _) _).trans (hk2.mono (by simp))
 have HBY:Hid (Bys V2 ma n mc2 f/\∀x,ma=some x->V1.heap.size<=x.block):=⟨hB2,λx hx=>by have:=hF2 x hx;simp at this;omega⟩
 clear hB2 hF2
 go_wp2_with fail
 refine hK.out _ _ (xk hk2 hH) (λhN=>?_)
 clear hK K hH
 have hH:=hN
 clear hN
 try go_simp
 have ROW2:Hid (V2.heap[b]?=some (.cells (rowOf (xN win phys wide pc (.slice sp sn sc)) 339) 66 (0,0))):=(HK2.out.block b hb1s).trans ROW1.out
 have ROW3:Hid ((V2.setCells b 4 H.toList).heap[b]?=some (.cells (rowOf (ups (xN win phys wide pc (.slice sp sn sc)) 4 35 (hat R pc st ca)) 339) 66 (0,0))):=by
  have h3:=zbn H.toList (w:=V2) (o:=4) (b:=b) (n:=339) (hat R pc st ca) (λj u hj=>by
   rw[HH.out,Aj]at hj
   have hj35:j<35:=by have:=(Aa.1 hj).1;rw[ze]at this;exact this
   rw[zw _ hj35]at hj
   exact(Ad hj).symm) ROW2.out
  rw[Ag,HHI.out.1]at h3
  exact h3
 have cA:(V2.setCells b 4 H.toList).cell? ⟨b,39,none⟩=some (.slice none 0 0):=(zd ROW3.out (by omega)).trans rfl
 have fA:(V2.setCells b 4 H.toList).frozen? ⟨b,39,none⟩=false:=Ai _ _ _ _ _ ROW3.out
 refine tU 6 (.pointer (some ⟨b,0,none⟩)) ?_;go_simp
 refine tU 7 (.pointer (some ⟨b,3,none⟩)) ?_;go_simp
 refine tU 8 (.pointer (some ⟨b,4,none⟩)) ?_;go_simp
 refine zL 9 rfl (λK hK=>?_)
 rw[if_pos (by rfl)]
 refine wp_store_mid 27 _ _ rfl b 4 (H) rfl rfl (by rw[HHI.out.1];exact xi ROW2.out (by omega)) (HHI.out.2.1) (HHI.out.2.2) ?_
 refine hK.out _ _ ?_
 clear hK K
 try go_simp
 refine tV 10 (.pointer (some ⟨b,0,none⟩)) rfl (λh=>absurd h (by decide)) ?_;go_simp
 refine tV 11 (.pointer (some ⟨b,3,none⟩)) rfl (λh=>absurd h (by decide)) ?_;go_simp
 refine tV 12 (.pointer (some ⟨b,39,none⟩)) rfl (λh=>absurd h (by decide)) ?_;go_simp
 refine zL 13 rfl (λK hK=>?_)
 go_simp
 refine hK.out _ _ ?_
 clear hK K
 try go_simp
 refine zG (by kernel_rfl) ?_ _
 have HG:Hid (V2.grownBy ((V2.setCells b 4 H.toList).setCell ⟨b,39,none⟩ (.slice ma n mc2)) (some b)):=zE (zF _ _ _ _) (qc _ _ _ _)
 have ROW4:Hid (((V2.setCells b 4 H.toList).setCell ⟨b,39,none⟩ (.slice ma n mc2)).heap[b]?=some (.cells (rowOf (upf (ups (xN win phys wide pc (.slice sp sn sc)) 4 35 (hat R pc st ca)) 39 (.slice ma n mc2)) 339) 66 (0,0))):=zds ROW3.out
 generalize (V2.setCells b 4 H.toList).setCell ⟨b,39,none⟩ (.slice ma n mc2)=V4 at*
 have hHB2:=HB1.out.trans (HK2.out.mono HB1.out.size)
 have HB4:Hid (Below w.heap.size w V4):=ka hHB2 hHB2.size HG.out (by omega)
 have HBY4:Hid (Bys V4 ma n mc2 f):=xE HBY.out.1 λh0 x hx=>HG.out.block _ (by
  obtain⟨g,o,e,hl⟩:=HBY.out.1.hm h0
  rw[hx]at e
  cases e
  exact Af _ _ (hl 0 h0)) (λe=>by have:=HBY.out.2 x hx;have:=Ad e;omega)
 have R4:Hid (V4.heap[h]?=some (.cells H 27 (0,0))):=(HG.out.block h (by have:=HK2.out.size;omega) (λe=>hhb (Ad e))).trans ((HK2.out.block h (by omega)).trans R1.out)
 have hb4:b<V4.heap.size:=(Aa.1 ROW4.out).1
 have HMA:Hid (∀x,ma=some x->x.block≠b):=λx hx e=>by have:=HBY.out.2 x hx;omega
 clear hHB2 HG ROW3 ROW2 ROW1 HBY HB1 R1 RG hH cA fA HK2 HHL hb1s hqV hhb
 have k1:V4.cell? ⟨b,1,none⟩=some (.int .i64 phys):=(zd ROW4.out (by omega)).trans rfl
 have CN:Hid (Calls prog 28 #[.int .i64 phys] V4 λe w'=>(∃a' c',e=.returned (.tuple #[.agg (rowOf (mat phys (λi=>(i:Int)) (.slice a' (phys.toNat-32) c')) 34),.int .i64 0])/\Re.Lie w' a' (phys.toNat-32) c' (λi=>32+(i:Int))/\Re.Far V4.heap.size a')/\Below V4.heap.size V4 w'):=by
  refine(Re.zjp phys p0 p1 V4).mono ?_
  rintro e w' ⟨⟨a',c',h1,h2,h3⟩,h4⟩
  rw[xV,zo4 p0]at h1
  exact⟨⟨a',c',h1,h2,h3⟩,h4⟩
 go_wp2_with fail
 refine CN.out.mono ?_
 rintro e V5 ⟨⟨a',c',rfl,hL5,hF5⟩,hk5⟩
 have ROW5:Hid (V5.heap[b]?=some (.cells (rowOf (upf (ups (xN win phys wide pc (.slice sp sn sc)) 4 35 (hat R pc st ca)) 39 (.slice ma n mc2)) 339) 66 (0,0))):=(hk5.block b hb4).trans ROW4.out
 have HB5:Hid (Below w.heap.size w V5):=HB4.out.trans (hk5.mono HB4.out.size)
 have ITS:Hid (Its N V5 b (bg win phys wide n R pc st ca f scr 0) (bgL (.slice ma n mc2) (.slice a' (phys.toNat-32) c') (.slice sp sn sc))):=by
  have hown:∀g,own b (bgL (.slice ma n mc2) (.slice a' (phys.toNat-32) c') (.slice sp sn sc)) g->g=b:=λg hg=>by
   rcases hg with h|h|h|h
   ·exact h
   ·cases h
   ·cases h
   ·cases h
  have us0:∀e size,Us V5 e size (.slice none 0 0) 0 []:=λe size=>⟨by simp,λu hu=>(by cases hu),.inl ⟨rfl,rfl⟩⟩
  refine⟨us0 _ _,us0 _ _,us0 _ _,⟨ma,mc2,rfl,HBY4.out.below hk5⟩,⟨a',c',?_,zkp hL5⟩,⟨none,0,rfl,vn V5 2⟩,⟨sp,sc,?_,?_⟩,λg hg _ ho=>?_,λg hg _ ho=>?_,λg hg h0=>absurd h0 (by show¬0<0;omega),λg hg h0 ho=>?_,λg ho=>?_,?_,?_,g1,g2,Ay HA.out.1 HB5.out.size⟩
  ·show An a' (phys.toNat-32) c'=.slice a' ((AG (phys.toNat-32)).map (λi:Nat=>32+(i:Int))).length c'
   rw[AA,AJ]
  ·show An sp sn sc=.slice sp scr.length sc
   rw[HSN.out]
  ·show LC V5 sp scr.length sc 1 (ics scr)
   rw[<-HSN.out]
   exact HA.out.2.2.2.2.below (Ab _) HB5.out
  ·have e:=hown g ho
   subst e
   cases ma with
   |none=>cases hg
   |some x=>exact HMA.out x rfl (Ad hg)
  ·have e:=hown g ho
   subst e
   cases a' with
   |none=>cases hg
   |some x=>have:=hF5 x rfl;have:x.block=g:=Ad hg;omega
  ·have e:=hown g ho
   subst e
   have h0':0<sn:=by rw[HSN.out];exact h0
   cases sp with
   |none=>cases hg
   |some x=>
    obtain⟨g',o',e',hlt,_⟩:=HA.out.2.2.2.2.ad x rfl h0'
    subst e'
    have:g'=g:=Ad hg
    omega
  ·rw[hown g ho]
   have:=HA.out.1
   omega
  ·exact HA.out.2.1.below HB5.out (by have:=HA.out.1;omega)
  ·exact HA.out.2.2.1.below HB5.out (by have:=HA.out.1;omega)
 have S6:Hid (St N (V5.setCells b 107 (rowOf (mat phys (λi=>(i:Int)) (.slice a' (phys.toNat-32) c')) 34).toList) b (bg win phys wide n R pc st ca f scr 0) (bgL (.slice ma n mc2) (.slice a' (phys.toNat-32) c') (.slice sp sn sc))):=St.cells ROW5.out ITS.out 107 (λj hj=>zo3 win phys wide n R pc st ca f scr _ _ _ j hj)
 have HOW:Hid (∀g,own b (bgL (.slice ma n mc2) (.slice a' (phys.toNat-32) c') (.slice sp sn sc)) g->g=b):=λg hg=>by
  rcases hg with h|h|h|h
  ·exact h
  ·cases h
  ·cases h
  ·cases h
 have HG6:=zF V5 b 107 (rowOf (mat phys (λi=>(i:Int)) (.slice a' (phys.toNat-32) c')) 34).toList
 have HB6:Hid (Below w.heap.size w (V5.setCells b 107 (rowOf (mat phys (λi=>(i:Int)) (.slice a' (phys.toNat-32) c')) 34).toList)):=ka HB5.out HB5.out.size HG6 (by omega)
 have R6:Hid ((V5.setCells b 107 (rowOf (mat phys (λi=>(i:Int)) (.slice a' (phys.toNat-32) c')) 34).toList).heap[h]?=some (.cells H 27 (0,0))):=(HG6.block h (by have:=hk5.size;have:=(Aa.1 R4.out).1;omega) (λe=>by have:=Ad e;have:=HQW.out;omega)).trans ((hk5.block h (Aa.1 R4.out).1).trans R4.out)
 have HTH:Hid (V5.there b 107 (rowOf (mat phys (λi=>(i:Int)) (.slice a' (phys.toNat-32) c')) 34).size):=by rw[ze];exact xi ROW5.out (by omega)
 have HSZ:Hid ((prog.info? 59).map (·.size)=some (rowOf (mat phys (λi=>(i:Int)) (.slice a' (phys.toNat-32) c')) 34).size):=by have:=jg phys (λi=>(i:Int)) (.slice a' (phys.toNat-32) c');rw[Ag]at this;exact this
 clear hL5 hF5 hk5 HG6 ROW5 ROW4 HB4 HB5 HBY4 R4 ITS HMA k1 CN hb4
 go_upto_region 4 with(refine wpList_store_mid rfl 59 _ _ rfl b 107 (rowOf (mat phys (λi=>(i:Int)) (.slice a' (phys.toNat-32) c')) 34) rfl rfl HTH.out HSZ.out (kK _ _ _ _ _) ?_)
 clear HTH HSZ
 generalize V5.setCells b 107 (rowOf (mat phys (λi=>(i:Int)) (.slice a' (phys.toNat-32) c')) 34).toList=V6 at*
 generalize bgL (.slice ma n mc2) (.slice a' (phys.toNat-32) c') (.slice sp sn sc)=L6 at*
 obtain⟨Q,hQ⟩:∃Q,Q=rowOf (λi=>Aw .u32 (R i)) 32:=⟨_,rfl⟩
 have HQQ:Hid (Q=(rowOf (λi=>Aw .u32 (R i)) 32).toList.toArray):=by show _=_;rw[hQ]
 have HQa:Hid (∀k,k<32->Q[k]?=some (.int .u32 (R k))):=λk hk=>by rw[hQ];exact zw _ hk
 have hQs:Q.size=32:=by rw[hQ];exact ze _ _
 have RR:Hid (V6.rangeAt h 0 (rowOf (λi=>Aw .u32 (R i)) 32).toList):=λj v hj=>by
  have hj32:j<32:=by have:=(WX.1 hj).1;rw[Ag,ze]at this;exact this
  rw[Aj,zw _ hj32]at hj
  rw[WZ _ _ _ _ _ _ R6.out,Az,HH.out,zw _ (by omega),<-hj]
  unfold hat
  rw[if_pos hj32]
 have HRS:Hid ((prog.info? 25).map (·.size)=some (rowOf (λi=>Aw .u32 (R i)) 32).toList.length):=by show _=_;rw[Ag,ze];exact zf8
 clear hQ R6
 go_wp2_with(refine Ao rfl 25 _ rfl h 0 rfl (rowOf (λi=>Aw .u32 (R i)) 32).toList _ RR.out underlying25 rfl HRS.out ?_;rw[<-HQQ.out])
 go_loopw [45] (λi wr=>∃k:Nat,k<=32/\i=.int .i64 (k:Int)/\Hid (St N wr b (bg win phys wide n R pc st ca f scr k) L6/\Below w.heap.size w wr))
  (λi _=>32-(intOf i).toNat)
 case atStart=>exact⟨0,by omega,rfl,S6.out,HB6.out⟩
 case round=>
  obtain⟨k,hk,rfl,S7,B7⟩:=hrel
  clear S6 HB6 RR
  by_cases hlt:k<32
  ·have hQk:=HQa.out k hlt
   have HS7:Hid (St N wr b (bg win phys wide n R pc st ca f scr k) L6):=S7
   have HB7:Hid (Below w.heap.size w wr):=B7
   have cr:wr.cell? ⟨b,108+k,none⟩=some (.int .i64 (k:Int)):=S7.reg k hlt
   have cw:=S7.wrd k (by omega)
   have ct:=S7.thr k (by omega)
   have fw:=S7.frozen (141+k)
   have ft:=S7.frozen (237+k)
   have k0:0<=(k:Int):=by omega
   have k1:(k:Int)<32:=by omega
   have k9:(k:Int)<96:=by omega
   have hidx:∀w,(AL 25 (.agg Q) (.int .i64 (k:Int))).run prog w=.ok (.int .u32 (R k)) w:=zm5 Q k hlt _ hQk
   clear S7 B7 hQk
   go_upto_region 8 with fail
   refine zu (S:=λw'=>True) [8,12] (by kernel_rfl) (trivial) (λhH=>?_)
   refine tU 0 (.pointer (some ⟨b,0,none⟩)) ?_;go_simp
   refine tU 1 (.int .i64 (k:Int)) ?_;go_simp
   refine tU 2 (.pointer (some ⟨b,0,none⟩)) ?_;go_simp
   refine tU 3 (.int .i64 (k:Int)) ?_;go_simp
   refine tU 4 (.int .u32 (R k)) ?_;go_simp
   refine tU 5 (.pointer (some ⟨b,0,none⟩)) ?_;go_simp
   refine tU 6 (.pointer (some ⟨b,141,none⟩)) ?_;go_simp
   refine tU 7 (.pointer (some ⟨b,141+k,none⟩)) ?_;go_simp
   refine tU 9 (.pointer (some ⟨b,0,none⟩)) ?_;go_simp
   refine tU 10 (.pointer (some ⟨b,237,none⟩)) ?_;go_simp
   refine zL 8 rfl (λK hK=>?_)
   go_simp
   refine hK.out _ _ ?_
   clear hK K
   try go_simp
   refine tV 11 (.pointer (some ⟨b,237+k,none⟩)) rfl (λh=>absurd h (by decide)) ?_;go_simp
   refine zL 12 rfl (λK hK=>?_)
   go_simp
   refine hK.out _ _ ?_
   clear hK K
   try go_simp
   refine zG (by kernel_rfl) ?_ _
   obtain⟨s8,t8⟩:=HS7.out.setWd k (by omega) (R k)
   obtain⟨s9,t9⟩:=s8.setTh k (by omega) true
   rw[zp4]at s9
   have S9:Hid (St N ((wr.setCell ⟨b,141+k,none⟩ (.int .u32 (R k))).setCell ⟨b,237+k,none⟩ (.bool true)) b (bg win phys wide n R pc st ca f scr (k+1)) L6):=s9
   have HG9:=zE (qc wr b (141+k) (.int .u32 (R k))) (qc (wr.setCell ⟨b,141+k,none⟩ (.int .u32 (R k))) b (237+k) (.bool true))
   have B9:Hid (Below w.heap.size w ((wr.setCell ⟨b,141+k,none⟩ (.int .u32 (R k))).setCell ⟨b,237+k,none⟩ (.bool true))):=ka HB7.out HB7.out.size HG9 (by omega)
   clear s8 t8 s9 t9 HG9 hH cr cw ct fw ft HS7 HB7
   generalize (wr.setCell ⟨b,141+k,none⟩ (.int .u32 (R k))).setCell ⟨b,237+k,none⟩ (.bool true)=V9 at*
   go_wp2_with fail
   exact⟨⟨k+1,by omega,by go_num,S9.out.dr,B9.out.drew⟩,by simp[intOf];omega⟩
  ·have hk32:k=32:=by omega
   subst hk32
   rw[zo2]at S7
   have HS7:Hid (St N wr b (begin win phys wide n R pc st ca f scr) L6):=S7
   have HB7:Hid (Below w.heap.size w wr):=B7
   clear S7 B7
   go_wp2_with fail
   go_ret
   exact⟨⟨b,L6,rfl,HS7.out,λg hg=>by rw[HOW.out g hg];omega⟩,HB7.out⟩
def qm(a hm:Bool)(n sn:Nat)(cyc:Int):Int:=if a=false\/hm=false\/4096<n then 2 else if 3000<sn then 1 else if¬(0<=cyc/\cyc<=6000)then 3 else 0
theorem zaO(win phys wide:Int)(H:Array Value)(hm:Bool)(HH:Hid ((prog.info? 27).map (·.size)=some H.size))(CM:Hid (∀W,Calls prog 25 #[.agg H] W λe w'=>e=.returned (.bool hm)/\Below W.heap.size W w'))(mp:Option Addr)(n mc:Nat)(sp:Option Addr)(sn sc:Nat)(cyc:Int)(hn:n<=140737488355328)(hsn:sn<=140737488355328)(w:World):
  Calls prog 11 #[.agg #[.int .i64 win,.int .i64 phys,.int .i64 wide],.agg H,.slice mp n mc,.slice sp sn sc,.int .i64 cyc] w λe w'=>e=.returned (.int .i64 (qm (mayC win phys wide) hm n sn cyc))/\Below w.heap.size w w':=by
 have C1:=λW=>zeJ win phys wide W
 have C3:=λW=>xa cyc 0 6000 W
 obtain⟨a,ha⟩:∃a,a=mayC win phys wide:=⟨_,rfl⟩
 rw[<-ha]at C1⊢
 obtain⟨d,hd⟩:∃d,d=decide (0<=cyc/\cyc<=6000):=⟨_,rfl⟩
 rw[<-hd]at C3
 have HD:Hid (d=decide (0<=cyc/\cyc<=6000)):=hd
 clear ha hd
 go_enter func11,ntmps11
 go_upto_region 1 with fail
 refine Wi.jr (Φ:=λW=>AP _ _ _ _ W) ?_
 intro V e1 e2 hb hsz
 have HQ:Hid (V.heap[w.heap.size+1]?=some (.cells H 27 (0,0))):=e2
 have k0:V.cell? ⟨w.heap.size,0,none⟩=some (.int .i64 win):=by rw[WZ _ _ _ _ _ _ e1];rfl
 have k1:V.cell? ⟨w.heap.size,1,none⟩=some (.int .i64 phys):=by rw[WZ _ _ _ _ _ _ e1];rfl
 have k2:V.cell? ⟨w.heap.size,2,none⟩=some (.int .i64 wide):=by rw[WZ _ _ _ _ _ _ e1];rfl
 have HB:Hid (Below w.heap.size w V):=hb
 have hqV:w.heap.size+1<V.heap.size:=by omega
 clear e1 e2 hb hsz
 obtain⟨h,hh⟩:∃h,h=w.heap.size+1:=⟨_,rfl⟩
 obtain⟨q,hq⟩:∃q,q=w.heap.size:=⟨_,rfl⟩
 rw[<-hh]at HQ hqV⊢
 rw[<-hq]at k0 k1 k2
 have hgoal:∀e:Int,e=qm a hm n sn cyc->∀V':World,Below w.heap.size w V'->(Ending.returned (.int .i64 e)=.returned (.int .i64 (qm a hm n sn cyc))/\Below w.heap.size w V'):=λe he V' hV=>⟨by rw[he],hV⟩
 have HG:Hid _:=hgoal
 rw[<-hq]
 have HQW:Hid (q=w.heap.size):=hq
 clear hq hh hgoal
 go_wp2_with fail
 refine(C1 _).mono ?_
 rintro e V1 ⟨rfl,hk1⟩
 have B1:Hid (Below w.heap.size w V1):=HB.out.trans (hk1.mono HB.out.size)
 have Q1:Hid (V1.heap[h]?=some (.cells H 27 (0,0))):=(hk1.block h hqV).trans HQ.out
 clear hk1 HB HQ C1 k0 k1 k2
 cases a with
 |false=>
  go_wp2_with fail
  go_ret
  exact HG.out 2 (by simp[qm]) _ B1.out
 |true=>
  go_wp2_with(refine Ap rfl 27 _ rfl _ rfl 27 _ (0,0) _ Q1.out underlying27 rfl HH.out ?_)
  refine(CM.out _).mono ?_
  rintro e V2 ⟨rfl,hk2⟩
  have B2:Hid (Below w.heap.size w V2):=B1.out.trans (hk2.mono B1.out.size)
  clear hk2 B1 Q1 CM
  cases hm with
  |false=>
   go_wp2_with fail
   go_ret
   exact HG.out 2 (by simp[qm]) _ B2.out
  |true=>
   by_cases h4:4096<n
   ·have h4':(4096:Int)<(n:Int):=by omega
    have HW:Hid ((2:Int)=qm true true n sn cyc):=by show _=_;unfold qm;rw[if_pos (.inr (.inr h4))]
    clear h4
    go_wp2_with fail
    go_ret
    exact HG.out 2 HW.out _ B2.out
   ·have h4':¬(4096:Int)<(n:Int):=by omega
    by_cases h3:3000<sn
    ·have h3':(3000:Int)<(sn:Int):=by omega
     have HW:Hid ((1:Int)=qm true true n sn cyc):=by show _=_;unfold qm;rw[if_neg (by simp;omega),if_pos h3]
     clear h3 h4
     go_wp2_with fail
     go_ret
     exact HG.out 1 HW.out _ B2.out
    ·have h3':¬(3000:Int)<(sn:Int):=by omega
     have HW:Hid ((if d=true then 0 else 3:Int)=qm true true n sn cyc):=by
      have e:qm true true n sn cyc=if¬(0<=cyc/\cyc<=6000)then 3 else 0:=by unfold qm;rw[if_neg (by simp;omega),if_neg h3]
      show _=_
      rw[e,HD.out]
      by_cases hc:0<=cyc/\cyc<=6000
      ·rw[decide_eq_true hc,if_pos rfl,if_neg (λh=>h hc)]
      ·rw[decide_eq_false hc,if_neg (by simp),if_pos hc]
     clear h3 h4 HD
     go_wp2_with fail
     refine(C3 _).mono ?_
     rintro e V3 ⟨rfl,hk3⟩
     subst hk3
     clear C3
     cases d with
     |true=>
      go_wp2_with fail
      go_ret
      exact HG.out 0 HW.out _ B2.out
     |false=>
      go_wp2_with fail
      go_ret
      exact HG.out 3 HW.out _ B2.out
end Go.Proofs.YtpiohehijkpghacGreatDoor.Co
namespace Go.Proofs.YtpiohehijkpghacGreatDoor.Co
open Go.RowKit
open Hy
open Wi Od Re.Hy
open Gu.Hy (Tb tcs)
theorem zag{Φ:World->Prop}{w:World}{A B C:Obj}(h:∀W:World,W.heap[w.heap.size]?=some A->W.heap[w.heap.size+1]?=some B->W.heap[w.heap.size+2]?=some C->Below w.heap.size w W->w.heap.size+3<=W.heap.size->Φ W):Φ (((w.alloc A).alloc B).alloc C):=by
 refine h _ ?_ ?_ ?_ ((((Ae _ _).alloc (Ab _) _).alloc (by simp) _).alloc (by simp;omega) _) (by simp)
 ·rw[(((Ae ((w.alloc A).alloc B).heap.size ((w.alloc A).alloc B)).alloc (Ab _) C)).block w.heap.size (by simp;omega)]
  exact heap_alloc2_old _ _ _
 ·rw[(((Ae ((w.alloc A).alloc B).heap.size ((w.alloc A).alloc B)).alloc (Ab _) C)).block (w.heap.size+1) (by simp)]
  exact heap_alloc2_new _ _ _
 ·have:=heap_alloc_new ((w.alloc A).alloc B) C
  simpa using this
def zsh(i:Nat):Value:=if i=0 then .slice none 0 0 else if i<34 then .int .u32 0 else if i<36 then .int .i64 0 else if i=36 then .slice none 0 0 else .int .i64 0
theorem zcK:prog.built 32 []=some (rowOf zsh 40):=by kernel_rfl
theorem qt:(prog.info? 32).map (·.size)=some 40:=by kernel_rfl
theorem zdT(i:Nat):(zsh i).oneCell'=true:=by
 unfold zsh
 split
 ·rfl
 ·split
  ·rfl
  ·split
   ·rfl
   ·split<;>rfl
theorem ziB:∀(j:Nat) (x:Int),(rowOf zsh 40)[j]?≠some (.int .u8 x:Value):=λj x h=>by
 have hj:j<40:=by have:=(Aa.1 h).1;rw[ze]at this;exact this
 rw[zw _ hj]at h
 have h:=Ad h
 unfold zsh at h
 split at h
 ·cases h
 ·split at h
  ·cases h
  ·split at h
   ·cases h
   ·split at h<;>cases h
theorem kO{w:World}{g k:Nat}{Y:Array Value}(h:k≠g):(w.setRow g Y).heap[k]?=w.heap[k]?:=setRow_other w g k _ h
def shw(s:Cr)(L:Sls)(i:Nat):Value:=kat s L (3+i)
theorem St.shown{N:Nat}{w:World}{b:Nat}{s:Cr}{L:Sls}(S:St N w b s L):w.rangeAt b 3 (rowOf (shw s L) 40).toList:=jB S.row (by omega) (λj _=>rfl)
theorem zla{w:World}{e size:Nat}{v:Value}{n:Nat}{xs:List Value}(h:Us w e size v n xs):v.oneCell'=true:=by
 obtain⟨p,c,rfl⟩:=h.slice
 rfl
theorem St.shown_ones{N:Nat}{w:World}{b:Nat}{s:Cr}{L:Sls}(S:St N w b s L):(rowOf (shw s L) 40).all (·.oneCell')=true:=jf _ _ λi hi=>by
 show(kat s L (3+i)).oneCell'=true
 by_cases h0:i=0
 ·subst h0
  exact zla S.its.ic
 ·by_cases h1:i<36
  ·have e:kat s L (3+i)=hat s.R s.pc s.st s.ca (i-1):=by rw[show 3+i=4+(i-1) by omega];exact zdt s L (i-1) (by omega)
   rw[e]
   exact zbr _ _ _ _ _
  ·rcases(by omega:i=36\/i=37\/i=38\/i=39)with rfl|rfl|rfl|rfl
   ·obtain⟨p,c,e,_⟩:=S.its.im
    show L.m.oneCell'=true
    rw[e];rfl
   ·rfl
   ·rfl
   ·rfl
theorem zbB{P:Program}{ops:Array Oper}{rest:List Oper}{o:Oper}{a:Act}{w:World}{Q:Exit->Act->World->Prop}(hg:o.guard=none)(t:TypeId)(ho:o.op=.build t #[])(cells:Array Value)
  (hb:P.built t []=some cells)
  (h:wpList P ops Q rest (a.put o.dst (.agg cells)) w):wpList P ops Q (o::rest) a w:=
 qH hg t _ ho cells (by simp[hb]) h
theorem ze3{w V W:World}{b:Nat}{L L':Sls}(h:Below w.heap.size w V)(T:To b V L W L')(hb:∀g,own b L g->w.heap.size<=g):Below w.heap.size w W:=
 ⟨T.os.trans h.os,T.tape.trans h.tape,T.output.trans h.output,Ay h.size T.size,λk hk=>(T.block k (AH hk h.size) (λho=>by have:=hb k ho;omega)).trans (h.block k hk)⟩
theorem ziC{M:Mc}{k:Nat}{s:Cr}(h:¬s.st=0):runN M k s=s:=by
 cases k with
 |zero=>rfl
 |succ k=>unfold runN;rw[if_neg h]
theorem zga(win phys wide:Int)(H:Array Value)(hm:Bool)(HH:Hid ((prog.info? 27).map (·.size)=some H.size))(CM:Hid (∀W,Calls prog 25 #[.agg H] W λe w'=>e=.returned (.bool hm)/\Below W.heap.size W w'))(mp:Option Addr)(n mc:Nat)(sp:Option Addr)(sn sc:Nat)(cyc:Int)(hn:n<=140737488355328)(hsn:sn<=140737488355328)(w:World)(CODE:qm (mayC win phys wide) hm n sn cyc≠0):
  Calls prog 6 #[.agg #[.int .i64 win,.int .i64 phys,.int .i64 wide],.agg H,.slice mp n mc,.slice sp sn sc,.int .i64 cyc] w λe w'=>e=.returned (.tuple #[.agg (rowOf zsh 40),.int .i64 (qm (mayC win phys wide) hm n sn cyc)])/\Below w.heap.size w w':=by
 obtain⟨cd,hcd⟩:∃c,c=qm (mayC win phys wide) hm n sn cyc:=⟨_,rfl⟩
 rw[<-hcd]
 have HCD:Hid (cd=qm (mayC win phys wide) hm n sn cyc):=hcd
 clear hcd
 have CW:=λW=>zaO win phys wide H hm HH CM mp n mc sp sn sc cyc hn hsn W
 obtain⟨code,hcode⟩:∃c,c=qm (mayC win phys wide) hm n sn cyc:=⟨_,rfl⟩
 rw[<-hcode]at CW CODE HCD
 clear hcode
 obtain⟨Z,hZ⟩:∃Z,Z=rowOf zsh 40:=⟨_,rfl⟩
 have HZ:Hid (prog.built 32 []=some Z):=by rw[hZ];exact zcK
 have HZI:Hid ((prog.info? 32).map (·.size)=some Z.size/\40=Z.size/\Z.all (·.oneCell')=true):=by rw[hZ];exact⟨by rw[ze];exact qt,(ze _ _).symm,jf _ _ λi _=>zdT i⟩
 have HZZ:Hid (Z=rowOf zsh 40):=hZ
 clear hZ
 go_enter func6,ntmps6
 go_upto_region 1 with fail
 refine zag (Φ:=λW=>AP _ _ _ _ W) ?_
 intro V e1 e2 e3 hb hsz
 have HQ:Hid (V.heap[w.heap.size+1]?=some (.cells H 27 (0,0))):=e2
 have HR0:Hid (∃cur,V.heap[w.heap.size+2]?=some (.cells cur 32 (0,0))/\cur.size=40/\∀(j:Nat) (x:Int),cur[j]?≠some (.int .u8 x:Value)):=⟨rowOf zsh 40,e3,ze _ _,ziB⟩
 have k0:V.cell? ⟨w.heap.size,0,none⟩=some (.int .i64 win):=by rw[WZ _ _ _ _ _ _ e1];rfl
 have k1:V.cell? ⟨w.heap.size,1,none⟩=some (.int .i64 phys):=by rw[WZ _ _ _ _ _ _ e1];rfl
 have k2:V.cell? ⟨w.heap.size,2,none⟩=some (.int .i64 wide):=by rw[WZ _ _ _ _ _ _ e1];rfl
 have HB:Hid (Below w.heap.size w V):=hb
 have hqV:w.heap.size+2<V.heap.size:=by omega
 clear e1 e2 e3 hb hsz
 obtain⟨g,hg⟩:∃g,g=w.heap.size+2:=⟨_,rfl⟩
 obtain⟨h,hh⟩:∃h,h=w.heap.size+1:=⟨_,rfl⟩
 obtain⟨q,hq⟩:∃q,q=w.heap.size:=⟨_,rfl⟩
 rw[<-hg]at HR0 hqV⊢
 rw[<-hh]at HQ⊢
 rw[<-hq]at k0 k1 k2⊢
 have HQW:Hid (q=w.heap.size/\h=w.heap.size+1/\g=w.heap.size+2):=⟨hq,hh,hg⟩
 clear hq hh hg
 go_wp2_with(refine Ap rfl 27 _ rfl _ rfl 27 _ (0,0) _ HQ.out underlying27 rfl HH.out ?_)
 refine(CW _).mono ?_
 rintro e V1 ⟨rfl,hk1⟩
 have B1:Hid (Below w.heap.size w V1):=HB.out.trans (hk1.mono HB.out.size)
 have Q1:Hid (V1.heap[h]?=some (.cells H 27 (0,0))):=(hk1.block h (by have:=HQW.out;omega)).trans HQ.out
 obtain⟨cur,hcur,hcs,hc8⟩:=HR0.out
 have HC8:Hid (∀(j:Nat) (x:Int),cur[j]?≠some (.int .u8 x:Value)):=hc8
 clear hc8
 have R1:Hid (V1.heap[g]?=some (.cells cur 32 (0,0))):=(hk1.block g hqV).trans hcur
 have HCS:Hid (40=cur.size):=hcs.symm
 have hc:=HCD.out
 subst hc
 have hne:(cd != 0)=true:=by simpa using CODE
 clear hk1 HB HQ HR0 hcur hcs CW k0 k1 k2 CM HCD
 go_wp2_with(first|(refine zbB rfl 32 rfl Z HZ.out ?_)|(refine Ax rfl 32 _ _ rfl _ _ rfl rfl 32 _ R1.out HZI.out.1 (HCS.out.symm.trans HZI.out.2.1) HZI.out.2.2 ?_))
 refine Ar (v:=.tuple #[.agg Z,.int .i64 cd]) (xF results6 _ _ _ 32 _ (0,0) _ _ rfl rfl (yo R1.out) underlying32 rfl HZI.out.1) rfl ⟨by rw[HZZ.out],below_setRow B1.out _ (by have:=HQW.out;omega)⟩
theorem zm6(win phys wide:Int)(H:Array Value)(hm:Bool)(HH:Hid ((prog.info? 27).map (·.size)=some H.size))(CM:Hid (∀W,Calls prog 25 #[.agg H] W λe w'=>e=.returned (.bool hm)/\Below W.heap.size W w'))(mp:Option Addr)(n mc:Nat)(sp:Option Addr)(sn sc:Nat)(cyc:Int)(hn:n<=140737488355328)(hsn:sn<=140737488355328)(w:World)(R:Nat->Int)(pc st ca:Int)(hHr:H=rowOf (hat R pc st ca) 35)(CODE:qm (mayC win phys wide) hm n sn cyc=0)(tb:Tab w)(tb2:Tab2 w)(hR:∀i,i<32->U32 (R i))(hpc:U32 pc)(f:Nat->Int)(hM:LC w mp n mc 1 (bcs f n))(hf:∀i,i<n->0<=f i/\f i<=255)(scr:List Int)(hscr:scr.length=sn)(hS:LC w sp sn sc 1 (ics scr)):
  Calls prog 6 #[.agg #[.int .i64 win,.int .i64 phys,.int .i64 wide],.agg H,.slice mp n mc,.slice sp sn sc,.int .i64 cyc] w λe w'=>(∃L:Sls,e=.returned (.tuple #[.agg (rowOf (shw (runN mach cyc.toNat (begin win phys wide n R pc st ca f scr)) L) 40),.int .i64 0])/\Us w' 68 11 L.c (runN mach cyc.toNat (begin win phys wide n R pc st ca f scr)).coms.length (flat cml (runN mach cyc.toNat (begin win phys wide n R pc st ca f scr)).coms)/\(∃p c,L.m=.slice p (runN mach cyc.toNat (begin win phys wide n R pc st ca f scr)).n c/\Bys w' p (runN mach cyc.toNat (begin win phys wide n R pc st ca f scr)).n c (runN mach cyc.toNat (begin win phys wide n R pc st ca f scr)).f)/\Gd mach ⟨R,pc,st,ca,f⟩ (runN mach cyc.toNat (begin win phys wide n R pc st ca f scr)))/\Below w.heap.size w w':=by
 have hC:=CODE
 unfold qm at hC
 have hw1:mayC win phys wide=true/\hm=true/\n<=4096:=by
  by_cases h:mayC win phys wide=false\/hm=false\/4096<n
  ·rw[if_pos h]at hC;omega
  ·refine⟨?_,?_,by omega⟩
   ·cases hx:mayC win phys wide with
    |true=>rfl
    |false=>exact absurd (.inl hx) h
   ·cases hx:hm with
    |true=>rfl
    |false=>exact absurd (.inr (.inl hx)) h
 rw[if_neg (by rw[hw1.1,hw1.2.1];simp;omega)]at hC
 have hsn3:¬3000<sn:=λh=>by rw[if_pos h]at hC;omega
 rw[if_neg hsn3]at hC
 have hcy:0<=cyc/\cyc<=6000:=Classical.byContradiction λh=>by rw[if_pos h]at hC;omega
 have hmy:(1<=win/\win<=32)/\(33<=phys/\phys<=96)/\(1<=wide/\wide<=4):=by
  have:=hw1.1
  unfold mayC at this
  simp at this
  omega
 have hn4:=hw1.2.2
 have G0:Hid (Gd mach ⟨R,pc,st,ca,f⟩ (begin win phys wide n R pc st ca f scr)):=zka zN win phys wide n R pc st ca f scr hmy.1.1 hmy.1.2 hmy.2.1.1 hmy.2.1.2 hmy.2.2.1 hmy.2.2.2 hn4 hf hR hpc
 obtain⟨cy,hcyN⟩:∃cy:Nat,cyc=(cy:Int):=Av hcy.1
 subst hcyN
 have hcy6:cy<=6000:=by omega
 have ecy:((cy:Nat):Int).toNat=cy:=AI cy
 rw[ecy]
 obtain⟨s0,hs0⟩:∃s0,s0=begin win phys wide n R pc st ca f scr:=⟨_,rfl⟩
 obtain⟨r,hr⟩:∃r,r=runN mach cy s0:=⟨_,rfl⟩
 have CBg:Hid (∀W,Below w.heap.size w W->Calls prog 12 #[.agg #[.int .i64 win,.int .i64 phys,.int .i64 wide],.agg H,.slice mp n mc,.slice sp sn sc] W λe w'=>(∃b L,e=.returned (.pointer (some ⟨b,0,none⟩))/\St w.heap.size w' b s0 L/\∀g,own b L g->W.heap.size<=g)/\Below W.heap.size W w'):=λW hW=>by
  rw[hHr,hs0,<-hscr]
  rw[<-hscr]at hS
  exact zf9 hW.size tb.size tb2.size (tb.below hW tb.size) (tb2.below hW tb2.size) win phys wide hmy.2.1.1 hmy.2.1.2 R pc st ca mp n mc f (hM.below (Ab _) hW) hn4 hf sp sc scr (hS.below (Ab _) hW)
 rw[<-hs0]at G0⊢
 rw[<-hr]
 have HRR:Hid (runN mach cy s0=r):=hr.symm
 have hcyc0:Hid (s0.cyc=0):=by rw[hs0];rfl
 clear hC hw1 hsn3 hcy hmy hs0 hr ecy hHr tb tb2 hM hS hf hR hpc hscr
 have CW:=λW=>zaO win phys wide H hm HH CM mp n mc sp sn sc (cy:Int) hn hsn W
 obtain⟨code,hcode⟩:∃c,c=qm (mayC win phys wide) hm n sn (cy:Int):=⟨_,rfl⟩
 rw[<-hcode]at CW CODE
 clear hcode
 obtain⟨Z,hZ⟩:∃Z,Z=rowOf zsh 40:=⟨_,rfl⟩
 have HZ:Hid (prog.built 32 []=some Z):=by rw[hZ];exact zcK
 have HZI:Hid ((prog.info? 32).map (·.size)=some Z.size/\40=Z.size/\Z.all (·.oneCell')=true):=by rw[hZ];exact⟨by rw[ze];exact qt,(ze _ _).symm,jf _ _ λi _=>zdT i⟩
 have HZZ:Hid (Z=rowOf zsh 40):=hZ
 clear hZ
 go_enter func6,ntmps6
 go_upto_region 1 with fail
 refine zag (Φ:=λW=>AP _ _ _ _ W) ?_
 intro V e1 e2 e3 hb hsz
 have HQ:Hid (V.heap[w.heap.size+1]?=some (.cells H 27 (0,0))):=e2
 have HR0:Hid (∃cur,V.heap[w.heap.size+2]?=some (.cells cur 32 (0,0))/\cur.size=40/\∀(j:Nat) (x:Int),cur[j]?≠some (.int .u8 x:Value)):=⟨rowOf zsh 40,e3,ze _ _,ziB⟩
 have k0:V.cell? ⟨w.heap.size,0,none⟩=some (.int .i64 win):=by rw[WZ _ _ _ _ _ _ e1];rfl
 have k1:V.cell? ⟨w.heap.size,1,none⟩=some (.int .i64 phys):=by rw[WZ _ _ _ _ _ _ e1];rfl
 have k2:V.cell? ⟨w.heap.size,2,none⟩=some (.int .i64 wide):=by rw[WZ _ _ _ _ _ _ e1];rfl
 have HB:Hid (Below w.heap.size w V):=hb
 have hqV:w.heap.size+2<V.heap.size:=by omega
 clear e1 e2 e3 hb hsz
 obtain⟨g,hg⟩:∃g,g=w.heap.size+2:=⟨_,rfl⟩
 obtain⟨h,hh⟩:∃h,h=w.heap.size+1:=⟨_,rfl⟩
 obtain⟨q,hq⟩:∃q,q=w.heap.size:=⟨_,rfl⟩
 rw[<-hg]at HR0 hqV⊢
 rw[<-hh]at HQ⊢
 rw[<-hq]at k0 k1 k2⊢
 have HQW:Hid (q=w.heap.size/\h=w.heap.size+1/\g=w.heap.size+2):=⟨hq,hh,hg⟩
 clear hq hh hg
 go_wp2_with(refine Ap rfl 27 _ rfl _ rfl 27 _ (0,0) _ HQ.out underlying27 rfl HH.out ?_)
 refine(CW _).mono ?_
 rintro e V1 ⟨rfl,hk1⟩
 have B1:Hid (Below w.heap.size w V1):=HB.out.trans (hk1.mono HB.out.size)
 have Q1:Hid (V1.heap[h]?=some (.cells H 27 (0,0))):=(hk1.block h (by have:=HQW.out;omega)).trans HQ.out
 obtain⟨cur,hcur,hcs,hc8⟩:=HR0.out
 have HC8:Hid (∀(j:Nat) (x:Int),cur[j]?≠some (.int .u8 x:Value)):=hc8
 clear hc8
 have R1:Hid (V1.heap[g]?=some (.cells cur 32 (0,0))):=(hk1.block g hqV).trans hcur
 have HCS:Hid (40=cur.size):=hcs.symm
 subst CODE
 have k0':V1.cell? ⟨q,0,none⟩=some (.int .i64 win):=zn hk1 k0
 have k1':V1.cell? ⟨q,1,none⟩=some (.int .i64 phys):=zn hk1 k1
 have k2':V1.cell? ⟨q,2,none⟩=some (.int .i64 wide):=zn hk1 k2
 clear hk1 HB HQ HR0 hcur hcs CW CM k0 k1 k2
 go_wp2_with(refine Ap rfl 27 _ rfl _ rfl 27 _ (0,0) _ Q1.out underlying27 rfl HH.out ?_)
 refine(CBg.out _ B1.out).mono ?_
 rintro e V2 ⟨⟨b,L,rfl,u1,hbV⟩,hk2⟩
 have S2:Hid (St w.heap.size V2 b s0 L):=u1
 have B2:Hid (Below w.heap.size w V2):=B1.out.trans (hk2.mono B1.out.size)
 have R2:Hid (V2.heap[g]?=some (.cells cur 32 (0,0))):=(hk2.block g (Aa.1 R1.out).1).trans R1.out
 have hgL:¬own b L g:=λho=>by have:=hbV g ho;have:=(Aa.1 R1.out).1;omega
 have HGL:Hid (¬own b L g):=hgL
 clear u1 hk2 hgL CBg B1 Q1 R1 k0' k1' k2' hbV
 go_wp2_with fail
 go_loopw [30] (λi wr=>∃k:Nat,k<=cy/\i=.int .i64 (k:Int)/\Hid (∃s' L',St w.heap.size wr b s' L'/\To b V2 L wr L'/\Gd mach ⟨R,pc,st,ca,f⟩ s'/\s'.cyc<=(k:Int)/\runN mach (cy-k) s'=r))
  (λi _=>cy-(intOf i).toNat)
 case atStart=>exact⟨0,by omega,rfl,s0,L,S2.out,To.refl b V2 L,G0.out,by rw[hcyc0.out];exact Int.le_refl _,HRR.out⟩
 case round=>
  obtain⟨k,hk,rfl,s',L',S3,T3,G3,c3,R3⟩:=hrel
  have k37:wr.cell? ⟨b,37,none⟩=some (.int .i64 s'.st):=(zd S3.row (by omega)).trans rfl
  have HS3:Hid (St w.heap.size wr b s' L'):=S3
  have HT3:Hid (To b V2 L wr L'):=T3
  have HG3:Hid (Gd mach ⟨R,pc,st,ca,f⟩ s'/\s'.cyc<=(k:Int)/\runN mach (cy-k) s'=r):=⟨G3,c3,R3⟩
  clear S3 T3 G3 c3 R3 G0 HRR hcyc0
  by_cases hlt:k<cy
  ·by_cases h0:s'.st=0
   ·have k37':wr.cell? ⟨b,37,none⟩=some (.int .i64 0):=by rw[k37,h0]
    have CY:Hid (Calls prog 13 #[.pointer (some ⟨b,0,none⟩)] wr λe w'=>e=.returned (.tuple #[])/\∃L'',St w.heap.size w' b (cycle mach s') L''/\To b wr L' w' L''):=zf5 HS3.out HG3.out.1 h0 (by have:=HG3.out.2.1;omega)
    have HG4:Hid (Gd mach ⟨R,pc,st,ca,f⟩ (cycle mach s')/\(cycle mach s').cyc<=((k+1:Nat):Int)/\runN mach (cy-(k+1)) (cycle mach s')=r):=by
     have h6:s'.cyc<6000:=by have:=HG3.out.2.1;omega
     refine⟨zj9 zN jH HG3.out.1 h0 h6,?_,?_⟩
     ·rw[(yd zN HG3.out.1.good h0 h6).2.1]
      have:=HG3.out.2.1
      push_cast
      omega
     ·have:=HG3.out.2.2
      obtain⟨j,hj⟩:∃j,cy-k=j+1:=⟨cy-k-1,by omega⟩
      rw[hj,runN,if_pos h0]at this
      rw[show cy-(k+1)=j by omega]
      exact this
    clear HG3 k37 h0
    go_wp2_with fail
    refine CY.out.mono ?_
    rintro e V4 ⟨rfl,L4,u4,t4⟩
    have S4:Hid (St w.heap.size V4 b (cycle mach s') L4):=u4
    have T4:Hid (To b V2 L V4 L4):=HT3.out.trans t4
    clear u4 t4 HS3 HT3 CY k37'
    go_wp2_with fail
    exact⟨⟨k+1,by omega,by go_num,_,L4,S4.out,T4.out,HG4.out.1,HG4.out.2.1,HG4.out.2.2⟩,by simp[intOf];omega⟩
   ·have hst:((s'.st:Int) != 0)=true:=by simpa using h0
    have HRS:Hid (s'=r):=by show _=_;rw[<-HG3.out.2.2,ziC h0]
    have HGX:Hid (Gd mach ⟨R,pc,st,ca,f⟩ s'):=HG3.out.1
    clear HG3 h0
    have e:=HRS.out
    subst e
    have B3:Hid (Below w.heap.size w wr):=ze3 B2.out HT3.out (λg hg=>S2.out.its.base g hg)
    have R3:Hid (wr.heap[g]?=some (.cells cur 32 (0,0))):=(HT3.out.block g (Aa.1 R2.out).1 HGL.out).trans R2.out
    obtain⟨Y,hY⟩:∃Y,Y=(rowOf (shw s' L') 40).toList.toArray:=⟨_,rfl⟩
    have HY:Hid (Y=(rowOf (shw s' L') 40).toList.toArray):=hY
    have HYI:Hid ((prog.info? 32).map (·.size)=some Y.size/\40=Y.size/\Y.all (·.oneCell')=true):=by rw[hY];refine⟨?_,?_,HS3.out.shown_ones⟩<;>rw[AE,ze];exact qt
    have HSL:Hid ((prog.info? 32).map (·.size)=some (rowOf (shw s' L') 40).toList.length):=by show _=_;rw[Ag,ze];exact qt
    have HGO:Hid (¬own b L' g):=λho=>qp HT3.out.fresh HGL.out (Aa.1 R2.out).1 ho
    have HGD:Hid (Gd mach ⟨R,pc,st,ca,f⟩ s'):=HGX.out
    clear hY HRS
    go_wp2_with(first|(refine Ao rfl 32 _ rfl b 3 rfl (rowOf (shw s' L') 40).toList _ HS3.out.shown underlying32 rfl HSL.out ?_;rw[<-HY.out])|(refine Ax rfl 32 _ _ rfl _ _ rfl rfl 32 _ R3.out HYI.out.1 (HCS.out.symm.trans HYI.out.2.1) HYI.out.2.2 ?_))
    refine Ar (v:=.tuple #[.agg Y,.int .i64 0]) (xF results6 _ _ _ 32 _ (0,0) _ _ rfl rfl (yo R3.out) underlying32 rfl HYI.out.1) rfl ⟨⟨L',by rw[HY.out],?_,?_,HGD.out⟩,below_setRow B3.out _ (by have:=HQW.out;omega)⟩
    ·exact HS3.out.its.ic.move λx hx=>kO (λe=>HGO.out (.inr (.inl (by rw[<-e];exact hx))))
    ·obtain⟨pm,cm,em,hm'⟩:=HS3.out.its.im
     refine⟨pm,cm,em,xE hm' λh0 x hx=>kO (λe=>?_)⟩
     obtain⟨g',o',e',hl⟩:=hm'.hm h0
     rw[hx]at e'
     cases e'
     have hcl:=hl 0 h0
     rw[show g'=g from e,WZ _ _ _ _ _ _ R3.out]at hcl
     exact HC8.out _ _ hcl
  ·have HRS:Hid (s'=r):=by
    show _=_
    have:=HG3.out.2.2
    rw[show cy-k=0 by omega]at this
    exact this
   have HGX:Hid (Gd mach ⟨R,pc,st,ca,f⟩ s'):=HG3.out.1
   clear HG3
   have e:=HRS.out
   subst e
   have B3:Hid (Below w.heap.size w wr):=ze3 B2.out HT3.out (λg hg=>S2.out.its.base g hg)
   have R3:Hid (wr.heap[g]?=some (.cells cur 32 (0,0))):=(HT3.out.block g (Aa.1 R2.out).1 HGL.out).trans R2.out
   obtain⟨Y,hY⟩:∃Y,Y=(rowOf (shw s' L') 40).toList.toArray:=⟨_,rfl⟩
   have HY:Hid (Y=(rowOf (shw s' L') 40).toList.toArray):=hY
   have HYI:Hid ((prog.info? 32).map (·.size)=some Y.size/\40=Y.size/\Y.all (·.oneCell')=true):=by rw[hY];refine⟨?_,?_,HS3.out.shown_ones⟩<;>rw[AE,ze];exact qt
   have HSL:Hid ((prog.info? 32).map (·.size)=some (rowOf (shw s' L') 40).toList.length):=by show _=_;rw[Ag,ze];exact qt
   have HGO:Hid (¬own b L' g):=λho=>qp HT3.out.fresh HGL.out (Aa.1 R2.out).1 ho
   have HGD:Hid (Gd mach ⟨R,pc,st,ca,f⟩ s'):=HGX.out
   clear hY HRS
   go_wp2_with(first|(refine Ao rfl 32 _ rfl b 3 rfl (rowOf (shw s' L') 40).toList _ HS3.out.shown underlying32 rfl HSL.out ?_;rw[<-HY.out])|(refine Ax rfl 32 _ _ rfl _ _ rfl rfl 32 _ R3.out HYI.out.1 (HCS.out.symm.trans HYI.out.2.1) HYI.out.2.2 ?_))
   refine Ar (v:=.tuple #[.agg Y,.int .i64 0]) (xF results6 _ _ _ 32 _ (0,0) _ _ rfl rfl (yo R3.out) underlying32 rfl HYI.out.1) rfl ⟨⟨L',by rw[HY.out],?_,?_,HGD.out⟩,below_setRow B3.out _ (by have:=HQW.out;omega)⟩
   ·exact HS3.out.its.ic.move λx hx=>kO (λe=>HGO.out (.inr (.inl (by rw[<-e];exact hx))))
   ·obtain⟨pm,cm,em,hm'⟩:=HS3.out.its.im
    refine⟨pm,cm,em,xE hm' λh0 x hx=>kO (λe=>?_)⟩
    obtain⟨g',o',e',hl⟩:=hm'.hm h0
    rw[hx]at e'
    cases e'
    have hcl:=hl 0 h0
    rw[show g'=g from e,WZ _ _ _ _ _ _ R3.out]at hcl
    exact HC8.out _ _ hcl
end Go.Proofs.YtpiohehijkpghacGreatDoor.Co
namespace Go.Proofs.YtpiohehijkpghacGreatDoor
open Go.RowKit
open Hy
def dAt(d:DataW Unit)(i:Nat):DataW Unit:=match d with
 |.agg l=>l.getD i .nil
 |_=>.nil
def dInt(d:DataW Unit):Int:=match d with
 |.lit (.int _ z)=>z
 |_=>0
section
variable {enc:TypeId×Value->Unit} {w:World} {base:Nat} {sp:Nat->Bool} {held:Bool} {fuel:Nat} {cs:List Value} {d:DataW Unit} {p:List MemPlace}
theorem ze4{t e:TypeId}{n:Nat}(ht:prog.underlying t=some (.array n e))(h:Am enc prog w base sp held fuel t cs=some (d,p))(i:Nat)(hi:i<n):
  ∃m q,Am enc prog w base sp held m e ((cs.drop (i*prog.cellsOf e)).take (prog.cellsOf e))=some (dAt d i,q):=by
 obtain⟨xs,m,_,hx,_,hn,hall⟩:=DataW.trod_array ht h
 have hd:d=.agg (xs.map (·.1)):=congrArg AR hx
 have hlt:i<xs.length:=by omega
 refine⟨m,xs[i].2,?_⟩
 rw[hall i hi,Au hlt,hd]
 simp[dAt,hlt]
theorem ziD{t:TypeId}{fs:Array Field}(ht:prog.underlying t=some (.struct fs))(h:Am enc prog w base sp held fuel t cs=some (d,p))(i:Nat)(f:Field)(hi:fs[i]?=some f):
  ∃m q,Am enc prog w base sp held m f.type ((cs.drop f.offset).take (prog.cellsOf f.type))=some (dAt d i,q):=by
 obtain⟨xs,m,_,hx,_,hn,hall⟩:=DataW.trod_struct ht h
 have hd:d=.agg (xs.map (·.1)):=congrArg AR hx
 have hlt:i<xs.length:=by
  have:=(Aa.1 hi).1
  omega
 refine⟨m,xs[i].2,?_⟩
 rw[hall i f hi,Au hlt,hd]
 simp[dAt,hlt]
theorem zlb{o:Nat}(h:Am enc prog w base sp held fuel 24 ((cs.drop o).take 1)=some (d,p)):cs[o]?=some (.int .u32 (dInt d)):=by
 obtain⟨z,hc,hx,_⟩:=DataW.trod_int underlying24 h
 have hd:d=.lit (.int .u32 z):=congrArg AR hx
 have:=congrArg (·[0]?) hc
 simp[WY]at this
 rw[this,hd]
 rfl
theorem yW{l:List Value}{o n j:Nat}(hj:j<n):((l.drop o).take n)[j]?=l[o+j]?:=by
 simp[WY,hj]
theorem c40:prog.cellsOf 113=17:=by kernel_rfl
theorem c38:prog.cellsOf 111=12:=by kernel_rfl
theorem c37:prog.cellsOf 110=3:=by kernel_rfl
theorem c22:prog.cellsOf 24=1:=by kernel_rfl
theorem zkq(h:Am enc prog w base sp held fuel 114 cs=some (d,p))(f:Nat)(hf:f<9)(j:Nat)(hj:j<5):
  cs[f*17+j]?=some (.int .u32 (dInt (dAt (dAt d f) j))):=by
 obtain⟨m,q,h1⟩:=ze4 underlying114 h f hf
 rw[c40]at h1
 have key:∀fl:Field,fl.type=24->fl.offset=j->(match prog.underlying 113 with|some (.struct fs)=>fs[j]?|_=>none)=some fl->cs[f*17+j]?=some (.int .u32 (dInt (dAt (dAt d f) j))):=by
  intro fl t1 t2 t3
  rw[underlying113]at t3
  obtain⟨m2,q2,h2⟩:=ziD underlying113 h1 j fl t3
  rw[t1,t2,c22]at h2
  have:=zlb h2
  rwa [yW (by omega)]at this
 rcases(by omega:j=0\/j=1\/j=2\/j=3\/j=4)with rfl|rfl|rfl|rfl|rfl
 all_goals(refine key _ ?_ ?_ (by rw[underlying113];rfl)<;>rfl)
theorem zm7(h:Am enc prog w base sp held fuel 114 cs=some (d,p))(f:Nat)(hf:f<9)(k:Nat)(hk:k<4)(l:Nat)(hl:l<3):
  cs[f*17+(5+(k*3+l))]?=some (.int .u32 (dInt (dAt (dAt (dAt (dAt d f) 5) k) l))):=by
 obtain⟨m,q,h1⟩:=ze4 underlying114 h f hf
 rw[c40]at h1
 obtain⟨m2,q2,h2⟩:=ziD underlying113 h1 5 _ rfl
 have h2':Am enc prog w base sp held m2 111 ((((cs.drop (f*17)).take 17).drop 5).take 12)=some (dAt (dAt d f) 5,q2):=by rw[<-c38];exact h2
 obtain⟨m3,q3,h3⟩:=ze4 underlying111 h2' k hk
 rw[c37]at h3
 have key:∀fl:Field,fl.type=24->fl.offset=l->(match prog.underlying 110 with|some (.struct fs)=>fs[l]?|_=>none)=some fl->cs[f*17+(5+(k*3+l))]?=some (.int .u32 (dInt (dAt (dAt (dAt (dAt d f) 5) k) l))):=by
  intro fl t1 t2 t3
  rw[underlying110]at t3
  obtain⟨m4,q4,h4⟩:=ziD underlying110 h3 l fl t3
  rw[t1,t2,c22]at h4
  have:=zlb h4
  rwa [yW (by omega),yW (by omega),yW (by omega)]at this
 rcases(by omega:l=0\/l=1\/l=2)with rfl|rfl|rfl
 all_goals(refine key _ ?_ ?_ (by rw[underlying110];rfl)<;>rfl)
end
abbrev ze5:DataW Unit:=Rows.laid_humpyard_decode_forms
theorem ziE:∀f,f<9->∀j,j<5->dInt (dAt (dAt ze5 f) j)=ftab.getD (f*17+j) 0:=by decide
theorem zkr:∀f,f<9->∀k,k<4->∀l,l<3->dInt (dAt (dAt (dAt (dAt ze5 f) 5) k) l)=ftab.getD (f*17+(5+(k*3+l))) 0:=by decide
theorem gTab:prog.globalNamed "humpyard/decode.forms" =some 0:=by kernel_rfl
theorem zks:(prog.globals[0]?).map (·.type)=some 114:=by kernel_rfl
theorem zdU{W:World}(h:laidMet prog [("humpyard/decode.forms",ze5)] W):Tab W:=by
 obtain⟨ps,⟨g',t',cs,fuel,p,q,hg',ht',hvar,hd,_,_⟩,_⟩:=h
 obtain rfl:=Ad (gTab.symm.trans hg')
 obtain rfl:=Ad (zks.symm.trans ht')
 intro i hi
 rw[AN gTab hvar i]
 have hr:i%17<17:=Nat.mod_lt _ (by omega)
 have hm:i=i/17*17+i%17:=by omega
 have hf:i/17<9:=by omega
 by_cases h5:i%17<5
 ·have h1:=zkq hd (i/17) hf (i%17) h5
  rw[ziE _ hf _ h5,<-hm]at h1
  simpa using h1
 ·have e:5+((i%17-5)/3*3+(i%17-5)%3)=i%17:=by omega
  have h1:=zm7 hd (i/17) hf ((i%17-5)/3) (by omega) ((i%17-5)%3) (by omega)
  rw[zkr _ hf _ (by omega) _ (by omega),e,<-hm]at h1
  simpa using h1
end Go.Proofs.YtpiohehijkpghacGreatDoor
namespace Go.Proofs.YtpiohehijkpghacGreatDoor
open Go.ChangeShapes Go.WideShapes Go.ChangeAt Go.RowKit
open Hy
section
variable {H:Type} {enc:TypeId×Value->H} {w:World} {base:Nat} {sp:Nat->Bool} {held:Bool} {fuel:Nat} {cs:List Value} {d:DataW H} {p:List MemPlace}
theorem k3:prog.cellsOf 3=1:=by kernel_rfl
theorem k32:prog.cellsOf 25=32:=by kernel_rfl
end
abbrev imm0:DataW Unit:=Rows.laid_humpyard_hart_immediate
theorem zo5:prog.globalNamed "humpyard/hart.immediate" =some 2:=by kernel_rfl
theorem zp5:(prog.globals[2]?).map (·.type)=some 246:=by kernel_rfl
theorem zm8:∀i,i<49->dInt (dAt imm0 i)=itab.getD i 0:=by decide
theorem zcL{W:World}(h:laidMet prog [("humpyard/decode.forms",ze5),("humpyard/hart.immediate",imm0)] W):Tab W/\Tab2 W:=by
 obtain⟨ps,⟨g,t,cs,fuel,p,q,hg,ht,hvar,hd,hrest,hps⟩,hnd,hcell⟩:=h
 constructor
 ·refine zdU ⟨MemPlace.row ⟨g,0,none⟩ cs.size++p++[],⟨g,t,cs,fuel,p,[],hg,ht,hvar,hd,rfl,rfl⟩,?_,λb off hb=>hcell b off ?_⟩
  ·rw[hps]at hnd
   rw[AO]
   exact(List.nodup_append.1 hnd).1
  ·rw[hps]
   rw[AO]at hb
   exact List.mem_append_left _ hb
 ·obtain⟨g2,t2,cs2,fuel2,p2,q2,hg2,ht2,hvar2,hd2,_,_⟩:=hrest
  obtain rfl:=Ad (zo5.symm.trans hg2)
  obtain rfl:=Ad (zp5.symm.trans ht2)
  intro i hi
  rw[AN zo5 hvar2 i]
  obtain⟨m,q,h1⟩:=ze4 underlying246 hd2 i hi
  rw[k3,Nat.mul_one]at h1
  obtain⟨z,hc,hx,_⟩:=DataW.trod_int underlying3 h1
  have hz:dInt (dAt imm0 i)=z:=by
   have:=congrArg AR hx
   simp only at this
   rw[this];rfl
  have:=congrArg (·[0]?) hc
  rw[<-zm8 i hi,hz]
  simpa[List.getElem?_take,WY]using this
end Go.Proofs.YtpiohehijkpghacGreatDoor
namespace Go.Proofs.YtpiohehijkpghacGreatDoor.Co
open Go.ChangeShapes Go.WideShapes Go.ChangeAt Go.RowKit
open Hy
open Wi Od Re.Hy
open Gu.Hy (Tb tcs)
section
variable {H:Type} {enc:TypeId×Value->H} {w:World} {base:Nat} {sp:Nat->Bool} {held:Bool} {fuel:Nat} {d:DataW H} {p:List MemPlace}
end
end Go.Proofs.YtpiohehijkpghacGreatDoor.Co
namespace Go.Proofs.YtpiohehijkpghacGreatDoor
open Go.RowKit
open Hy
theorem Fr.moved{w w':World}{B B' h n:Nat}{f:Nat->Int}(H:Fr w B h n f)(hB:B'<=h)(hh:w'.heap[h]?=w.heap[h]?)(hs:w.heap.size<=w'.heap.size):Fr w' B' h n f:=
 ⟨hB,AH H.lt hs,λi hi=>(Ah (w:=w) (a:=⟨h,i,none⟩) hh).trans (H.cell i hi),λi hi=>(World.frozen?_of_block (w:=w) (a:=⟨h,i,none⟩) hh).trans (H.free i hi)⟩
theorem zm9{α:Type}{cs:Array α}(h:cs.size=11):∃c0 c1 c2 c3 c4 c5 c6 c7 c8 c9 c10,cs=#[c0,c1,c2,c3,c4,c5,c6,c7,c8,c9,c10]:=by
 obtain⟨l⟩:=cs
 match l,h with
 |[c0,c1,c2,c3,c4,c5,c6,c7,c8,c9,c10],_=>exact⟨c0,c1,c2,c3,c4,c5,c6,c7,c8,c9,c10,rfl⟩
theorem zW{H:Array Value}(h:H.size=35):(prog.info? 27).map (·.size)=some H.size:=by rw[zq,h]
theorem Mem.ofFr{w:World}{B h n:Nat}{f:Nat->Int}(H:Fr w B h n f):Mem w (some ⟨h,0,none⟩) n f:=λ_=>⟨h,0,rfl,λi hi=>by rw[Az];exact H.cell i hi⟩
def Own(w:World)(B:Nat)(p:Option Addr)(n:Nat)(f:Nat->Int):Prop:=0<n->∃h,p=some ⟨h,0,none⟩/\Fr w B h n f
theorem Own.mem{w:World}{B:Nat}{p:Option Addr}{n:Nat}{f:Nat->Int}(h:Own w B p n f):Mem w p n f:=λh0=>by
 obtain⟨g,rfl,hf⟩:=h h0
 exact Mem.ofFr hf h0
theorem zgb(ad:Addr)(c:Nat)(w:World):
  Calls prog 35 #[.slice (some ad) 0 c] w λe w'=>(∃p' cap,e=.returned (.slice p' 0 cap))/\Below w.heap.size w w':=by
 obtain⟨i0,hi,hz0,hz1,hz2⟩:=AQ znB
 have q22:∀(w:World) (a:Option Addr) (n c n' c':Nat),(binOp .eql 28 (.slice a n c) (.slice none n' c')).run prog w=.ok (.bool a.isNone) w:=λw a n c n' c'=>AB w _ _ a n c n' c' underlying28
 go_enter func35,ntmps35
 go_wp2_with(at_builtin;refine wpList_append_own _ rfl _ _ 28 rfl w.heap.size 5 i0 (.int .u8 0) 1 1 underlying28 hi hz0 hz1 hz2 rfl (by decide) _ _ _ rfl (AF w #[] 0 (Ab _) (AM _) rfl) ad 0 c [] rfl ?qc1 ?qc2 ?qc3 ?qc4 ?qc5 ?qc6 ?_)
 case qc1=>simp
 case qc2=>intro j u hj;simp at hj
 case qc3=>intro u hu;cases hu
 case qc4=>unfold maxLen;omega
 case qc5=>omega
 case qc6=>simp
 intro v' w1 hown hgrow hnil
 obtain⟨p',cap,hv⟩:∃p' cap,v'=.slice p' 0 cap:=by
  obtain⟨_,hcase⟩:=hown
  rcases hcase with⟨h,_⟩|⟨g,cap',cur,h,_⟩
  ·exact⟨none,0,h⟩
  ·exact⟨_,_,h⟩
 subst hv
 go_wp2
 go_ret
 exact⟨⟨p',cap,rfl⟩,((Ae _ w).alloc (Ab _) _).grown hgrow (by simp) (by intro k hk;simp[Value.ownBlock]at hk;omega)⟩
theorem zgc(c:Nat)(w:World):
  Calls prog 35 #[.slice none 0 c] w λe w'=>(∃p' cap,e=.returned (.slice p' 0 cap))/\Below w.heap.size w w':=by
 have q22:∀(w:World) (a:Option Addr) (n c n' c':Nat),(binOp .eql 28 (.slice a n c) (.slice none n' c')).run prog w=.ok (.bool a.isNone) w:=λw a n c n' c'=>AB w _ _ a n c n' c' underlying28
 go_enter func35,ntmps35
 go_wp2
 go_ret
 exact⟨⟨none,0,rfl⟩,Ae _ _⟩
theorem zlc(p:Option Addr)(n c:Nat)(f:Nat->Int)(hn:n<=4096)(w:World)(hm:Mem w p n f):
  Calls prog 35 #[.slice p n c] w λe w'=>(∃p' cap,e=.returned (.slice p' n cap)/\n<=cap/\(0<n->∃h,p'=some ⟨h,0,none⟩/\Fr w' w.heap.size h n f))/\Below w.heap.size w w':=by
 rcases Nat.eq_zero_or_pos n with rfl|h0
 ·cases p with
  |none=>exact(zgc c w).mono λe w' ⟨⟨p',cap,he⟩,hb⟩=>⟨⟨p',cap,he,AM _,λh=>absurd h (by omega)⟩,hb⟩
  |some ad=>exact(zgb ad c w).mono λe w' ⟨⟨p',cap,he⟩,hb⟩=>⟨⟨p',cap,he,AM _,λh=>absurd h (by omega)⟩,hb⟩
 ·obtain⟨g,o,rfl,hl⟩:=hm h0
  exact(vq g o n c f h0 (by omega) w hl).mono λe w' ⟨⟨h,cap,he,h1,_,hF⟩,hb⟩=>⟨⟨_,cap,he,h1,λ_=>⟨h,rfl,hF⟩⟩,hb⟩
theorem zna(p:Option Addr)(n c:Nat)(f:Nat->Int)(hn:n<=4096)(pc next st ca rd v at_ data told:Int)(out:Bool)(w:World)(hm:Mem w p n f):
  Calls prog 67 #[.slice p n c,cv pc next st ca rd v at_ 0 data out told] w λe w'=>(∃p' cap,e=.returned (.slice p' n cap)/\n<=cap/\Own w' w.heap.size p' n f)/\Below w.heap.size w w':=by
 have C:=zlc p n c f hn (w.alloc (.cells (ccs pc next st ca rd v at_ 0 data out told) 68)) (hm.below ((Ae _ _).alloc (Ab _) _))
 go_enter func67,ntmps67
 go_wp2_with fail
 refine C.mono ?_
 rintro e w2 ⟨⟨p',cap,rfl,hcap,hF⟩,hk⟩
 have hs:=hk.size
 simp at hs
 have hr:=(hk.block w.heap.size (by simp)).trans (heap_alloc_new _ _)
 have k7:=(WZ w2 w.heap.size 7 _ _ _ hr).trans rfl
 have hb:Below w.heap.size w w2:=((Ae _ _).alloc (Ab _) _).trans (hk.mono (by simp))
 have HM:Hid (Own w2 w.heap.size p' n f):=λh0=>by
  obtain⟨h,rfl,hf⟩:=hF h0
  exact⟨h,rfl,hf.moved (by have:=hf.base;simp at this;omega) rfl (Ab _)⟩
 clear hr hk hF C hm
 go_wp2_with fail
 go_loopw [6,11] (λi k wr=>k=.int .i64 0/\wr=w2) (λ_ _ _=>0)
 case atStart=>exact⟨rfl,rfl⟩
 case round=>
  obtain⟨rfl,rfl⟩:=hrel
  go_wp2_with fail
  go_ret
  exact⟨⟨p',cap,rfl,hcap,HM.out⟩,hb⟩
theorem Fr.drew{w:World}{B h n:Nat}{f:Nat->Int}(H:Fr w B h n f):Fr w.drew B h n f:=H.moved H.base rfl (Ab _)
theorem znb(g o n c:Nat)(f:Nat->Int)(hn:n<=4096)(a m:Nat)(hm:m=1\/m=2\/m=4)(ham:a+m<=n)(L:Int)(l0:0<=L)(l1:L<=4294967295)(pc next st ca rd v told:Int)(out:Bool)(w:World)(hl:Lies w g o n f):
  Calls prog 67 #[.slice (some ⟨g,o,none⟩) n c,cv pc next st ca rd v a m L out told] w λe w'=>(∃p' cap,e=.returned (.slice p' n cap)/\n<=cap/\Own w' w.heap.size p' n (sto f a L m))/\Below w.heap.size w w':=by
 have C:=vq g o n c f (by omega) (by omega) (w.alloc (.cells (ccs pc next st ca rd v a m L out told) 68)) (hl.below ((Ae _ _).alloc (Ab _) _))
 go_enter func67,ntmps67
 go_wp2_with fail
 refine C.mono ?_
 rintro e w2 ⟨⟨h,cap,rfl,hcap,hmax,hF⟩,hk⟩
 have hs:=hk.size
 simp at hs
 have hr:=(hk.block w.heap.size (by simp)).trans (heap_alloc_new _ _)
 have k6:=(WZ w2 w.heap.size 6 _ _ _ hr).trans rfl
 have k7:=(WZ w2 w.heap.size 7 _ _ _ hr).trans rfl
 have k8:=(WZ w2 w.heap.size 8 _ _ _ hr).trans rfl
 have hb:Below w.heap.size w w2:=((Ae _ _).alloc (Ab _) _).trans (hk.mono (by simp))
 have hh:w.heap.size+1<=h:=by have:=hF.base;simpa using this
 have hF':Fr w2 (w.heap.size+1) h n f:=hF.moved hh rfl (Ab _)
 clear hr hk hF C hl
 go_wp2_with fail
 go_loopw [6,11] (λi k wr=>∃j:Nat,j<=m/\k=.int .i64 j/\Fr wr (w.heap.size+1) h n (sto f a L j)/\Below (w.heap.size+1) w2 wr) (λ_ k _=>m-(intOf k).toNat)
 case atStart=>exact⟨0,by omega,rfl,hF'.congr λi _=>by unfold sto;rw[if_neg (by omega)],Ae _ _⟩
 case round=>
  obtain⟨j,hj,rfl,hF,hB⟩:=hrel
  by_cases hlt:j<m
  ·have c0:=hF.cell (a+j) (by omega)
   have z0:=hF.free (a+j) (by omega)
   have m6:=jZ hB (AK _) k6
   have m8:=jZ hB (AK _) k8
   rcases(by omega:j=0\/j=1\/j=2\/j=3)with rfl|rfl|rfl|rfl
   ·rw[Nat.add_zero]at c0 z0
    go_wp2
    go_region
    go_wp2_with fail
    exact⟨⟨1,by omega,rfl,(hF.step (j:=0) (by omega) _ (by rw[show p256 0=1 from rfl,Int.ediv_one])).drew,(hB.setCell (by omega) _).drew⟩,by simp[intOf];omega⟩
   ·go_wp2
    go_region
    go_wp2_with fail
    exact⟨⟨2,by omega,rfl,(hF.step (j:=1) (by omega) _ (rfl)).drew,(hB.setCell (by omega) _).drew⟩,by simp[intOf];omega⟩
   ·go_wp2
    go_region
    go_wp2_with fail
    exact⟨⟨3,by omega,rfl,(hF.step (j:=2) (by omega) _ (rfl)).drew,(hB.setCell (by omega) _).drew⟩,by simp[intOf];omega⟩
   ·go_wp2
    go_region
    go_wp2_with fail
    exact⟨⟨4,by omega,rfl,(hF.step (j:=3) (by omega) _ (by rw[show p256 3=16777216 from rfl];omega)).drew,(hB.setCell (by omega) _).drew⟩,by simp[intOf];omega⟩
  ·obtain rfl:j=m:=by omega
   go_wp2_with fail
   go_ret
   exact⟨⟨some ⟨h,0,none⟩,cap,rfl,hcap,λ_=>⟨h,rfl,hF.moved (by omega) rfl (Ab _)⟩⟩,hb.trans (hB.mono (by omega))⟩
end Go.Proofs.YtpiohehijkpghacGreatDoor
