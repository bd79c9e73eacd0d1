/- A core that settles where a store is: the program. -/
import Derived.Test.YtpiohehijkpghacGreatDoorD23
open Array renaming getElem?_eq_some_iff->Ah
open Go renaming bodyPost_end->Af,results_none->Ag,yieldsIf_load_mid->Ai,wp_store_mid->Aj,cell_of_row->Ak
open Go.Code renaming wp->Au
open Go.Instr renaming makeFunc->Aq
open Go.RowKit.Below renaming refl->Ad
open Go.Value renaming slice->WX
open Go.World renaming block_lt_of_cell?->Ab,cell?_of_block->Ae
open List renaming length_append->WZ,append_assoc->Am,length_cons->An,append_nil->Ap,mem_map->WY
open Nat renaming le_refl->Aa,add_assoc->Ar
open Option.some renaming inj->Ao
set_option maxHeartbeats 6000000
set_option maxRecDepth 20000
set_option linter.unusedSimpArgs false
set_option linter.unusedVariables false
open Go.Proofs.Tryz
namespace Go.Proofs.YtpiohehijkpghacGreatDoor.Co
open Go.RowKit
open Hy
open Wi Od Re.Hy
open Gu.Hy (Tb tcs)
theorem St.setSlots0{N:Nat}{w:World}{b:Nat}{s:Cr}{L:Sls}(S:St N w b s L){l:List Sl}{a:Option Addr}{c:Nat}(hl:LC w a l.length c 2 (scs l))(hs:0<l.length->∀x,a=some x->¬own b L x.block):
  St N (w.setCell ⟨b,333,none⟩ (.slice a l.length c)) b {s with slots:=l} {L with s:=.slice a l.length c}/\To b w L (w.setCell ⟨b,333,none⟩ (.slice a l.length c)) {L with s:=.slice a l.length c}:=by
 refine⟨St.cell S.row (S.its.setS (l:=l) ⟨_,_,rfl,hl⟩ (fun g hg h0=>?_)) 333 _ (fun j hj=>znA s L _ j hj),jN w 333 _ (fun g hg=>.inl hg)⟩
 cases a with
 |none=>cases hg
 |some x=>exact(Ao hg)▸hs h0 x rfl
theorem zmm{Φ:World->Prop}(w:World)(z o:Dg)(h:∀V,Bx V w.heap.size o->Below w.heap.size w V->Φ V):Φ ((w.alloc (.cells (dgl z).toArray 132)).setCells w.heap.size 0 (dgl o)):=by
 obtain⟨h1,h2⟩:=zhR w z o
 exact h _ h1 h2
theorem zjN{w V W:World}{z o:Dg}(h:Below (w.alloc (.cells (dgl z).toArray 132)).heap.size (w.alloc (.cells (dgl z).toArray 132)) V)(hW:W=V.setCells w.heap.size 0 (dgl o)):Bx W w.heap.size o/\Below w.heap.size w W:=by
 subst hW
 have hB:Bx (w.alloc (.cells (dgl z).toArray 132)) w.heap.size z:=heap_alloc_new w _
 have hB2:Bx V w.heap.size z:=hB.below h
 have h2:=Bx.puts hB2 0 (dgl o) (by rw[zF];omega) (o':=o) (by unfold ov;rw[zF];rfl)
 have h0:Below w.heap.size w (w.alloc (.cells (dgl z).toArray 132)):=(Ad _ _).alloc (Aa _) _
 have h3:Below w.heap.size w V:=h0.trans (h.mono h0.size)
 have hg:=zD V w.heap.size 0 (dgl o)
 exact⟨h2,hg.os.trans h3.os,hg.tape.trans h3.tape,hg.output.trans h3.output,Nat.le_trans h3.size hg.size,fun g hgl=>(hg.block g (by have:=h3.size;omega) (fun e=>by have:=Ao e;omega)).trans (h3.block g hgl)⟩
structure BkI(N:Nat)(w:World)(b:Nat)(L:Sls)(s:Cr)(m:Nat->Int)(l1 l2:List Dg)(q:Int)(z:Nat)(a1:Option Addr)(c1:Nat)(ss:List Sl)(a2:Option Addr)(c2:Nat)(qs:List Int)(wr:World)(la t:List Dg)(L':Sls):Prop where
 st:St N wr b (unS s m (l1++la) t) L'
 tt:To b w L wr L'
 lc1:LC wr a1 ss.length c1 2 (scs ss)
 f1:0<ss.length->∀x,a1=some x->¬own b L' x.block
 lc2:LC wr a2 qs.length c2 1 (ics qs)
 f2:0<qs.length->∀x,a2=some x->¬own b L' x.block
 cz:wr.cell? ⟨z,0,none⟩=some (.int .i64 q)
 nz:¬own b L' z
theorem BkI.move{N:Nat}{w:World}{b:Nat}{L:Sls}{s:Cr}{m:Nat->Int}{l1 l2:List Dg}{q:Int}{z:Nat}{a1:Option Addr}{c1:Nat}{ss:List Sl}{a2:Option Addr}{c2:Nat}{qs:List Int}{wr:World}{la t:List Dg}{L':Sls}(h:BkI N w b L s m l1 l2 q z a1 c1 ss a2 c2 qs wr la t L'){W:World}{L2:Sls}{la2 t2:List Dg}(T:To b wr L' W L2)(S:St N W b (unS s m (l1++la2) t2) L2):BkI N w b L s m l1 l2 q z a1 c1 ss a2 c2 qs W la2 t2 L2:=by
 refine⟨S,h.tt.trans T,?_,fun h0=>zdr h.lc1 T h0 (h.f1 h0),?_,fun h0=>zdr h.lc2 T h0 (h.f2 h0),jt h.cz T h.nz,qm T.fresh h.nz (Ab _ _ h.cz)⟩
 ·exact qH h.lc1 T.size fun h0 x hx=>by
   obtain⟨g,o,e,hlt,_⟩:=h.lc1.ad x hx h0
   subst e
   exact T.block g hlt (h.f1 h0 _ hx)
 ·exact qH h.lc2 T.size fun h0 x hx=>by
   obtain⟨g,o,e,hlt,_⟩:=h.lc2.ad x hx h0
   subst e
   exact T.block g hlt (h.f2 h0 _ hx)
theorem vS{N:Nat}{w:World}{b:Nat}{s:Cr}{L:Sls}(S:St N w b s L){m:Nat->Int}(K:BackOk s m)(q pc:Int):
  Calls prog 128 #[.pointer (some ⟨b,0,none⟩),.int .i64 q,.int .u32 pc] w fun e w'=>e=.returned (.tuple #[])/\∃L',St N w' b (back s q pc) L'/\To b w L w' L':=by
 have hmf:∀(fn:Fn) (first cap:Array Value) (w:World),(Aq fn first cap).run prog w=.ok (.func fn first cap) w:=fun _ _ _ _=>rfl
 obtain⟨l1,l2,hu,h1,h2⟩:=xt q K.bk.rise
 have HBK:Hid (back s q pc={unS s m l1 l2 with slots:=l1.map slot,under:=s.under.filter (fun o=>!decide (q<=o.seq)),asked:=s.asked.filter (fun a=>!decide (q<=a.seq)),bck:=if l2=[]then s.bck else s.bck+1,fro:=pc,opn:=true}):=zml K hu pc h1 h2
 obtain⟨cq,cs⟩:=zmk K hu h1 h2
 obtain⟨r,hr⟩:∃r,r=back s q pc:=⟨_,rfl⟩
 rw[<-hr]at HBK⊢
 obtain⟨ss,hss⟩:∃ss,ss=l1.map slot:=⟨_,rfl⟩
 obtain⟨qs,hqs⟩:∃qs,qs=(l2.map (·.seq)).reverse:=⟨_,rfl⟩
 have HQS:Hid (qs=(l2.map (·.seq)).reverse):=hqs
 have HQL:Hid (qs.length=l2.length):=by show _=_;rw[hqs];simp
 rw[<-hss]at HBK cs
 rw[<-hqs]at cq
 have HK:Hid (BackOk s m):=K
 have HU:Hid (s.under=l1++l2):=hu
 have hlen:qs.length<=1000:=by have:=K.lenU;rw[hu,WZ]at this;have:=HQL.out;omega
 clear hr hss hqs h1 h2 hu K
 go_enter func128,ntmps128
 go_upto_region 1 with fail
 refine Wi.zj (Φ:=fun W=>Au _ _ _ _ W) ?_
 intro V hV hVb
 have cz:V.cell? ⟨w.heap.size,0,none⟩=some (.int .i64 q):=by rw[Ak _ _ _ _ _ _ hV];rfl
 have SV:Hid (St N V b s L):=S.below hVb
 have TV:Hid (To b w L V L):=ze L hVb
 have HZ:Hid (¬own b L w.heap.size):=fun h=>by have:=qN S h;omega
 clear hV hVb S
 generalize w.heap.size=z at*
 obtain⟨a0,c0,ea,hl0⟩:=SV.out.its.isl
 have k333:V.cell? ⟨b,333,none⟩=some (.slice a0 s.slots.length c0):=(zd SV.out.row (by omega)).trans (congrArg some ea)
 have CC:Hid (∀W,Below V.heap.size V W->Calls prog 161 #[.slice a0 s.slots.length c0,.int .i64 q] W fun e w'=>(∃a1 c1 a2 c2,e=.returned (.tuple #[.slice a1 ss.length c1,.slice a2 qs.length c2])/\LC w' a1 ss.length c1 2 (scs ss)/\FarC W.heap.size a1/\LC w' a2 qs.length c2 1 (ics qs)/\FarC W.heap.size a2)/\Below W.heap.size W w'):=fun W hW=>by
  have:=cCut SV.out q (by rw[HK.out.bk.slo,List.length_map];have:=HK.out.lenU;omega) W hW
  rw[ea,cs,cq]at this
  exact this
 clear hl0 ea cs cq
 refine zq (S:=fun w'=>w'.cell? ⟨b,333,none⟩=some (.slice a0 s.slots.length c0)/\w'.cell? ⟨z,0,none⟩=some (.int .i64 q)) [] (by kernel_rfl) (⟨k333,cz⟩) (fun hH=>?_)
 refine tU 0 (.pointer (some ⟨b,0,none⟩)) ?_;go_simp
 refine tU 1 (.pointer (some ⟨b,0,none⟩)) ?_;go_simp
 refine tU 2 (.pointer (some ⟨b,333,none⟩)) ?_;go_simp
 refine tA 3 (.slice a0 s.slots.length c0) ?_;go_simp
 refine tB 4 (.int .i64 q) ?_;go_simp
 refine zC 5 rfl (fun K hK=>?_)
 go_simp
 refine(CC.out _ ((Ad _ _).drew)).mono ?_
 rintro e V1 ⟨⟨a1,c1,a2,c2,rfl,hl1,hf1,hl2,hf2⟩,hk⟩
 have HK1:Hid (Below V.heap.size V V1):=zg hk (Aa _)
 have HL:Hid ((LC V1 a1 ss.length c1 2 (scs ss)/\FarC V.heap.size a1)/\LC V1 a2 qs.length c2 1 (ics qs)/\FarC V.heap.size a2):=⟨⟨hl1,hf1⟩,hl2,hf2⟩
 clear hl1 hf1 hl2 hf2
 go_wp2_with fail
 refine hK.out _ _ (⟨zn hk (hH.1),zn hk (hH.2)⟩) (fun hN=>?_)
 clear hK K hH
 have hH:=hN
 clear hN
 try go_simp
 refine tU 6 (.tuple #[.slice a1 ss.length c1,.slice a2 qs.length c2]) ?_;go_simp
 refine tU 7 (.slice a1 ss.length c1) ?_;go_simp
 refine tU 8 (.slice a2 qs.length c2) ?_;go_simp
 refine tU 9 (.slice a1 ss.length c1) ?_;go_simp
 refine tU 10 (.slice a2 qs.length c2) ?_;go_simp
 refine zE (by kernel_rfl) ?_ _
 have I0:Hid (BkI N w b L s m l1 l2 q z a1 c1 ss a2 c2 qs V1 l2 [] L):=by
  refine⟨?_,TV.out.trans (ze L HK1.out),HL.out.1.1,fun _=>qV SV.out (Aa _) HL.out.1.2,HL.out.2.1,fun _=>qV SV.out (Aa _) HL.out.2.2,zn HK1.out cz,HZ.out⟩
  rw[<-HU.out,zhW HK.out]
  exact SV.out.below HK1.out
 clear hH CC k333 cz HL HK1 SV TV HZ hk
 go_wp2_with fail
 go_loopw [22] (fun i wr=>∃k:Nat,k<=qs.length/\i=.int .i64 (k:Int)/\Hid (∃la t L',l2=la++t/\t.length=k/\BkI N w b L s m l1 l2 q z a1 c1 ss a2 c2 qs wr la t L'))
  (fun i _=>qs.length-(intOf i).toNat)
 case atStart=>exact⟨0,by omega,rfl,l2,[],L,(Ap _).symm,rfl,I0.out⟩
 case round=>
  obtain⟨k,hk,rfl,la',t,L',hlt',htk,I1⟩:=hrel
  clear I0
  by_cases hlt:k<qs.length
  ·obtain⟨la,o,t0,e1,e2,e3⟩:=rev_at (show k<l2.length by rw[<-HQL.out];exact hlt)
   have e4:la'=la++[o]/\t=t0:=by
    have h:la'++t=(la++[o])++t0:=by rw[<-hlt',e1];simp
    exact List.append_inj' h (by rw[htk,e2])
   obtain⟨rfl,rfl⟩:=e4
   have HI:Hid (BkI N w b L s m l1 l2 q z a1 c1 ss a2 c2 qs wr (la++[o]) t L'):=I1
   have HU2:Hid (s.under=(l1++la)++o::t):=by show _=_;rw[HU.out,e1,Am]
   have HE1:Hid (l2=la++o::t):=e1
   obtain⟨g2,o2,ea2,hg2,hc2⟩:=I1.lc2.sure (by omega)
   have cs:wr.cell? ⟨g2,o2+k,none⟩=some (.int .i64 o.seq):=hc2 k _ (jR (by rw[HQS.out];exact e3))
   subst ea2
   obtain⟨u,hu⟩:∃u,u=unS s m (l1++(la++[o])) t:=⟨_,rfl⟩
   have SU:Hid (St N wr b u L'):=by rw[hu];exact I1.st
   have hun:u.under=s.under:=by rw[hu];rfl
   have HUU:Hid (u=unS s m (l1++(la++[o])) t):=hu
   have hj:s.under[(l1++la).length]?=some o:=by rw[HU2.out];simp
   obtain⟨j,hjj⟩:∃j,j=(l1++la).length:=⟨_,rfl⟩
   have hjl:j<u.under.length:=by rw[hun,HU2.out,hjj];simp
   have CF:Hid (∀W,Below wr.heap.size wr W->Calls prog 58 #[.pointer (some ⟨b,0,none⟩),.int .i64 o.seq] W fun e w'=>e=.returned (.int .i64 (j:Int))/\Below W.heap.size W w'):=fun W hW=>by
    have:=qO (SU.out.below hW) o.seq j (by rw[hun,hjj];exact jP HU2.out HK.out.bk.rise) (by rw[hun];have:=HK.out.lenU;omega)
    rw[if_pos hjl]at this
    exact this
   obtain⟨ug,uo,uc,euv,huc,_,hug,hucs,_⟩:=SU.out.its.iu.at (by omega)
   have k334:wr.cell? ⟨b,334,none⟩=some (.slice (some ⟨ug,uo,none⟩) u.under.length uc):=(zd SU.out.row (by omega)).trans (congrArg some euv)
   have HR:Hid (wr.rangeAt ug (uo+j*28) (dgl o)):=by
    intro i v hv
    rw[Ar]
    exact hucs _ _ (qF zF (by rw[hun,hjj];exact hj) hv)
   have hj0:0<=(j:Int):=by omega
   have hj1:(j:Int)<(u.under.length:Int):=by omega
   obtain⟨un,hunl⟩:∃un,un=u.under.length:=⟨_,rfl⟩
   rw[<-hunl]at k334 hj1 hjl huc
   have HTK:Hid (t.length=k):=htk
   clear I1 hlt' e1 e2 e3 hc2 hg2 hu hun hj hjj hucs euv hunl hug htk
   go_upto_region 5 with fail
   apply keyed
   ·intro key
    refine zq (S:=fun w'=>w'.cell? ⟨b,334,none⟩=some (.slice (some ⟨ug,uo,none⟩) un uc)/\w'.rangeAt ug (uo+j*28) (dgl o)) [10] (by kernel_rfl) (⟨k334,HR.out⟩) (fun hH=>?_)
    refine tU 0 (.pointer (some ⟨b,0,none⟩)) ?_;go_simp
    refine tU 1 (.pointer (some ⟨b,0,none⟩)) ?_;go_simp
    refine tU 2 (.pointer (some ⟨b,334,none⟩)) ?_;go_simp
    refine tA 3 (.slice (some ⟨ug,uo,none⟩) un uc) ?_;go_simp
    refine tU 4 (.pointer (some ⟨b,0,none⟩)) ?_;go_simp
    refine tU 5 (.int .i64 o.seq) ?_;go_simp
    refine rZ [6,9] ?_
    refine(zi.cons rfl (fun K hK=>?_) (zi.cons rfl (fun K hK=>?_) zi.nil))
    ·go_simp
     refine(CF.out _ ((Ad _ _).drew)).mono ?_
     rintro e V2 ⟨rfl,hk2⟩
     go_wp2_with fail
     refine hK.out _ _ (⟨zn hk2 (hH.1),xg hk2 (hH.2)⟩) (fun hN=>?_)
     clear hK K hH
     have hH:=hN
     clear hN
     try go_simp
     refine tU 7 (.pointer (some ⟨ug,uo+j*28,none⟩)) ?_;go_simp
     refine tS 8 (.agg (dgl o).toArray) rfl (Ai (by rfl) 132 _ rfl _ _ rfl (dgl o) _ (fun wz hSw=>hSw.2) underlying132 rfl (zK o)) hH ?_;go_simp
     refine zC 9 rfl (fun K hK=>?_)
     go_simp
     refine hK.out _ _ (⟨jD _ (hH.1),zcd _ (hH.2)⟩) (fun hN=>?_)
     clear hK K hH
     have hH:=hN
     clear hN
     try go_simp
     refine zL 10 rfl (fun K hK=>?_)
     rw[if_pos (by rfl)]
     refine Aj 132 _ _ rfl V2.heap.size 0 (dgl o).toArray rfl rfl (zci V2 dg0) (zK o) (qY o) ?_
     refine hK.out _ _ ?_
     clear hK K
     try go_simp
     refine zE (by kernel_rfl) ?_ _
     refine zmm (Φ:=fun W=>Exit.then _ _ _ _ W) V2 dg0 o ?_
     intro V3 b3 k3
     have k4:Below wr.heap.size wr V2:=zg hk2 (Aa _)
     have k5:Below wr.heap.size wr V3:=k4.trans (k3.mono k4.size)
     have k6:=k4.size
     obtain⟨zz,hzz⟩:∃zz,zz=V2.heap.size:=⟨_,rfl⟩
     rw[<-hzz]at b3 k6⊢
     exact zkz (P:=fun W p=>Bx W p o/\Below wr.heap.size wr W/\wr.heap.size<=p) key V3 zz ⟨b3,k5,k6⟩
    ·go_simp
     refine hK.out _ _ (⟨jD _ (hH.1),zcd _ (hH.2)⟩) (fun hN=>?_)
     clear hK K hH
     have hH:=hN
     clear hN
     try go_simp
     refine zC 6 rfl (fun K hK=>?_)
     go_simp
     refine(CF.out _ (((Ad _ _).drew).alloc (Aa _) _)).mono ?_
     rintro e V2 ⟨rfl,hk2⟩
     go_wp2_with fail
     refine hK.out _ _ (⟨zn hk2 (hH.1),xg hk2 (hH.2)⟩) (fun hN=>?_)
     clear hK K hH
     have hH:=hN
     clear hN
     try go_simp
     refine tU 7 (.pointer (some ⟨ug,uo+j*28,none⟩)) ?_;go_simp
     refine tS 8 (.agg (dgl o).toArray) rfl (Ai (by rfl) 132 _ rfl _ _ rfl (dgl o) _ (fun wz hSw=>hSw.2) underlying132 rfl (zK o)) hH ?_;go_simp
     refine zL 10 rfl (fun K hK=>?_)
     rw[if_pos (by rfl)]
     refine Aj 132 _ _ rfl wr.heap.size 0 (dgl o).toArray rfl rfl (Bx.there (o:=dg0) (Bx.below (w:=wr.drew.alloc (.cells (dgl dg0).toArray 132)) (heap_alloc_new _ _) hk2) 0 28 (by omega)) (zK o) (qY o) ?_
     refine hK.out _ _ ?_
     clear hK K
     try go_simp
     refine zE (by kernel_rfl) ?_ _
     obtain⟨V3,hV3⟩:∃V3,V3=V2.setCells wr.heap.size 0 (dgl o):=⟨_,rfl⟩
     obtain⟨b3,k3⟩:=zjN (w:=wr.drew) (z:=dg0) hk2 hV3
     rw[<-hV3]
     obtain⟨zz,hzz⟩:∃zz,zz=wr.heap.size:=⟨_,rfl⟩
     have b4:Bx V3 zz o:=by rw[hzz];exact b3
     have k4:Below wr.heap.size wr V3:=((Ad _ wr).drew).trans k3
     rw[<-hzz]
     exact zkz (P:=fun W p=>Bx W p o/\Below wr.heap.size wr W/\wr.heap.size<=p) key V3 zz ⟨b4,k4,by rw[hzz];exact Aa _⟩
   ·intro V3 zz hP
    obtain⟨b3,k3,hzz⟩:=hP
    have SU3:Hid (St N V3 b u L'):=SU.out.below k3
    have T3:Hid (To b wr L' V3 L'):=ze L' k3
    have B3:Hid (Bx V3 zz o):=b3
    have HZN:Hid (¬own b L' zz):=fun h=>by have:=qN SU.out h;omega
    clear b3 k3 hzz CF k334 HR cs hj0 hj1 hjl huc SU
    obtain⟨kk,hkk⟩:∃kk,kk=o.rd:=⟨_,rfl⟩
    have c10:V3.cell? ⟨zz,10,none⟩=some (.int .i64 (kk:Int)):=zl B3.out 10 (by rw[hkk];rfl)
    have HKK:Hid (kk=o.rd):=hkk
    have HST:=zjM HK.out HU2.out
    rw[Am,<-hkk]at HST
    rw[<-HUU.out]at HST
    have HS0:Hid _:=HST
    clear hkk HST
    by_cases h0:kk=0
    ·have c10':V3.cell? ⟨zz,10,none⟩=some (.int .i64 0):=by rw[c10,h0];rfl
     have I2:Hid (BkI N w b L s m l1 l2 q z a1 c1 ss (some ⟨g2,o2,none⟩) c2 qs V3 la (o::t) L'):=HI.out.move T3.out (by rw[HS0.out.1 h0];exact SU3.out)
     have HT:Hid ((o::t).length=k+1):=by show _=_;rw[An,HTK.out]
     clear c10 h0 HS0 HI SU3 T3
     go_wp2_with fail
     exact⟨⟨k+1,by omega,by go_num,la,o::t,L',HE1.out,HT.out,I2.out⟩,by simp[intOf];omega⟩
    ·have hb0:((kk:Int) != 0)=true:=by simp[h0]
     obtain⟨p1,p2,p3,p4,p5,p6⟩:=HS0.out.2 h0
     have CU:Hid (∀W,Below V3.heap.size V3 W->Calls prog 162 #[.agg (rowOf (mat u.phys u.regs L'.f) 34),.int .i64 (kk:Int),.int .i64 o.old] W fun e w'=>(∃a c,e=.returned (.tuple #[.agg (rowOf (mat u.phys (up u.regs kk o.old) (.slice a (u.regs kk::u.free).length c)) 34),.bool true])/\Re.Lie w' a (u.regs kk::u.free).length c (fun i=>(u.regs kk::u.free).getD i 0)/\FarC W.heap.size a)/\Below W.heap.size W w'):=fun W hW=>by
      have hph:u.phys=s.phys:=by rw[HUU.out];rfl
      have:=zpt SU3.out (by rw[HUU.out];exact zmj HK.out (by rw[HU2.out];simp)) kk h0 p1 o.old p2 (by rw[hph];exact p3) p4 p5 W hW
      rw[Array.toArray_toList]at this
      exact this
     obtain⟨fl,hfl⟩:∃fl,fl=u.regs kk::u.free:=⟨_,rfl⟩
     have HP6:Hid (unS s m (l1++la) (o::t)={u with regs:=up u.regs kk o.old,free:=fl}):=by rw[hfl];exact p6
     rw[<-hfl]at CU
     have c12:V3.cell? ⟨zz,12,none⟩=some (.int .i64 o.old):=zl B3.out 12 rfl
     have HT:Hid ((o::t).length=k+1):=by show _=_;rw[An,HTK.out]
     clear p1 p2 p3 p4 p5 p6 HS0 hfl h0
     go_upto_region 7 with fail
     refine zq (S:=fun w'=>w'.rangeAt b 107 (mpL u L')/\w'.cell? ⟨zz,10,none⟩=some (.int .i64 (kk:Int))/\w'.cell? ⟨zz,12,none⟩=some (.int .i64 o.old)) [15] (by kernel_rfl) (⟨SU3.out.names,c10,c12⟩) (fun hH=>?_)
     refine tU 0 (.pointer (some ⟨b,0,none⟩)) ?_;go_simp
     refine tU 1 (.pointer (some ⟨b,0,none⟩)) ?_;go_simp
     refine tU 2 (.pointer (some ⟨b,0,none⟩)) ?_;go_simp
     refine tU 3 (.pointer (some ⟨b,107,none⟩)) ?_;go_simp
     refine tS 4 (.agg (mpL u L').toArray) rfl (Ai (by rfl) 59 _ rfl _ _ rfl (mpL u L') _ (fun wz hSw=>hSw.1) underlying59 rfl (jb _ _ _)) hH ?_;go_simp
     refine tU 5 (.pointer (some ⟨zz,10,none⟩)) ?_;go_simp
     refine tS 6 (.int .i64 (kk:Int)) rfl (Or.inl ⟨by rfl,by intro wz hSw;have hc:=hSw.2.1;go_simp⟩) hH ?_;go_simp
     refine tU 7 (.pointer (some ⟨zz,12,none⟩)) ?_;go_simp
     refine tS 8 (.int .i64 o.old) rfl (Or.inl ⟨by rfl,by intro wz hSw;have hc:=hSw.2.2;go_simp⟩) hH ?_;go_simp
     refine zC 9 rfl (fun K hK=>?_)
     go_simp
     refine(CU.out _ ((Ad _ _).drew)).mono ?_
     rintro e V4 ⟨⟨a4,c4,rfl,hl4,hf4⟩,hk4⟩
     have HK4:Hid (Below V3.heap.size V3 V4):=zg hk4 (Aa _)
     have HL4:Hid (Re.Lie V4 a4 fl.length c4 (fun i=>fl.getD i 0)/\FarC V3.heap.size a4):=⟨hl4,hf4⟩
     clear hl4 hf4
     go_wp2_with fail
     refine hK.out _ _ (⟨xg hk4 (hH.1),zn hk4 (hH.2.1),zn hk4 (hH.2.2)⟩) (fun hN=>?_)
     clear hK K hH
     have hH:=hN
     clear hN
     try go_simp
     have SU4:Hid (St N V4 b u L'):=SU3.out.below HK4.out
     obtain⟨s5,t5⟩:=SU4.out.setNames (up u.regs kk o.old) HL4.out.1 (qV SU3.out (Aa _) HL4.out.2)
     have S5:Hid (St N (V4.setCells b 107 (rowOf (mat u.phys (up u.regs kk o.old) (.slice a4 fl.length c4)) 34).toList) b (unS s m (l1++la) (o::t)) {L' with f:=.slice a4 fl.length c4}):=by rw[HP6.out];exact s5
     have T5:Hid (To b wr L' (V4.setCells b 107 (rowOf (mat u.phys (up u.regs kk o.old) (.slice a4 fl.length c4)) 34).toList) {L' with f:=.slice a4 fl.length c4}):=(T3.out.trans (ze L' HK4.out)).trans t5
     clear s5 t5
     refine tU 10 (.tuple #[.agg (rowOf (mat u.phys (up u.regs kk o.old) (.slice a4 fl.length c4)) 34),.bool true]) ?_;go_simp
     refine tU 11 (.agg (rowOf (mat u.phys (up u.regs kk o.old) (.slice a4 fl.length c4)) 34)) ?_;go_simp
     refine tU 12 (.bool true) ?_;go_simp
     refine tU 13 (.pointer (some ⟨b,0,none⟩)) ?_;go_simp
     refine tU 14 (.pointer (some ⟨b,107,none⟩)) ?_;go_simp
     refine zL 15 rfl (fun K hK=>?_)
     rw[if_pos (by rfl)]
     refine Aj 59 _ _ rfl b 107 (rowOf (mat u.phys (up u.regs kk o.old) (.slice a4 fl.length c4)) 34) rfl rfl (by rw[zf];exact SU4.out.there 107 34 (by omega)) (by have:=jb u.phys (up u.regs kk o.old) (.slice a4 fl.length c4);rw[Array.length_toList]at this;exact this) (kv _ _ _ _ _) ?_
     refine hK.out _ _ ?_
     clear hK K
     try go_simp
     refine zE (by kernel_rfl) ?_ _
     have I2:=HI.out.move T5.out S5.out
     have I3:Hid _:=I2
     clear hH I2 SU4 S5 T5 SU3 T3 HL4 HK4 CU HP6 c10 c12 hb0 HI
     go_wp2_with fail
     exact⟨⟨k+1,by omega,by go_num,la,o::t,_,HE1.out,HT.out,I3.out⟩,by simp[intOf];omega⟩
  ·have hkl:k=l2.length:=by have:=HQL.out;omega
   have hla:la'=[]/\t=l2:=by
    have:la'.length=0:=by have:=congrArg List.length hlt';rw[WZ]at this;omega
    obtain rfl:=List.eq_nil_of_length_eq_zero this
    exact⟨rfl,hlt'.symm⟩
   obtain⟨rfl,rfl⟩:=hla
   have S1:Hid (St N wr b (unS s m l1 t) L'):=by have:=I1.st;rw[Ap]at this;exact this
   have HI:Hid (BkI N w b L s m l1 t q z a1 c1 ss a2 c2 qs wr [] t L'):=I1
   clear I1 hlt' htk hkl
   have k333:wr.cell? ⟨b,333,none⟩=some L'.s:=(zd S1.out.row (by omega)).trans rfl
   have f333:=S1.out.frozen 333
   go_upto_region 10 with fail
   obtain⟨s2,t2⟩:=S1.out.setSlots0 HI.out.lc1 HI.out.f1
   have S2:Hid (St N (wr.setCell ⟨b,333,none⟩ (.slice a1 ss.length c1)) b {unS s m l1 t with slots:=ss} {L' with s:=.slice a1 ss.length c1}):=s2
   have T2:Hid (To b w L (wr.setCell ⟨b,333,none⟩ (.slice a1 ss.length c1)) {L' with s:=.slice a1 ss.length c1}):=HI.out.tt.trans t2
   have cz:(wr.setCell ⟨b,333,none⟩ (.slice a1 ss.length c1)).cell? ⟨z,0,none⟩=some (.int .i64 q):=jt HI.out.cz t2 HI.out.nz
   have nz:Hid (¬own b {L' with s:=.slice a1 ss.length c1} z):=HI.out.nz
   clear s2 t2 k333 f333 S1 HI
   generalize wr.setCell ⟨b,333,none⟩ (.slice a1 ss.length c1)=V2 at*
   generalize ({L' with s:=.slice a1 ss.length c1}:Sls)=L2 at*
   obtain⟨u2,hu2⟩:∃u2:Cr,u2={unS s m l1 t with slots:=ss}:=⟨_,rfl⟩
   rw[<-hu2]at S2
   have HU2:Hid (u2={unS s m l1 t with slots:=ss}/\u2.under=s.under/\u2.asked=s.asked/\u2.bck=s.bck):=by refine⟨hu2,?_,?_,?_⟩<;>rw[hu2]<;>rfl
   clear hu2
   have k334:V2.cell? ⟨b,334,none⟩=some L2.u:=(zd S2.out.row (by omega)).trans rfl
   obtain⟨ul,hul⟩:∃l,l=u2.under.filter (fun o=>!decide (q<=o.seq)):=⟨_,rfl⟩
   have Hul:Hid (ul=u2.under.filter (fun o=>!decide (q<=o.seq))):=hul
   have CD:Hid (Calls prog 163 #[L2.u,.func (.func 164) #[] #[.pointer (some ⟨z,0,none⟩)]] V2 fun e w'=>∃v',e=.returned v'/\Us w' 132 28 v' (u2.under.filter (fun o=>!decide (q<=o.seq))).length (flat dgl (u2.under.filter (fun o=>!decide (q<=o.seq))))/\V2.grownBy w' L2.u.ownBlock/\v'.ownBlock=L2.u.ownBlock):=
    zdq 164 z (fun o=>decide (q<=o.seq)) zjK (fun W=>W.cell? ⟨z,0,none⟩=some (.int .i64 q)) S2.out.its.iu (by rw[HU2.out.2.1];have:=HK.out.lenU;omega)
     (fun W W' h _ hb=>(Ae (w:=W) (a:=⟨z,0,none⟩) (hb z (Ab _ _ h) (fun e=>nz.out (.inr (.inr (.inl e)))))).trans h) (fun W o h=>zfB z q W o h) cz
   rw[<-hul]at CD
   clear hul
   go_wp2_with fail
   refine CD.out.mono ?_
   rintro e V3 ⟨v3,rfl,hU3,hG3,hO3⟩
   obtain⟨p3,d3,rfl⟩:=hU3.slice
   have k334b:V3.cell? ⟨b,334,none⟩=some L2.u:=(Ae (w:=V2) (a:=⟨b,334,none⟩) (hG3.block b S2.out.lt (fun h=>(S2.out.apart.2.1 b h.symm).2.2 rfl))).trans k334
   have f334:V3.frozen? ⟨b,334,none⟩=false:=frozen_of_row _ _ _ _ _ ((hG3.block b S2.out.lt (fun h=>(S2.out.apart.2.1 b h.symm).2.2 rfl)).trans S2.out.row)
   have hH3:Hid ((Us V3 132 28 (.slice p3 ul.length d3) ul.length (flat dgl ul))/\V2.grownBy V3 L2.u.ownBlock/\(WX p3 ul.length d3).ownBlock=L2.u.ownBlock):=⟨hU3,hG3,hO3⟩
   clear hU3 hG3 hO3 CD k334
   go_upto_region 11 with fail
   obtain⟨s4,t4⟩:=S2.out.newU _ hH3.out.1 hH3.out.2.1 (fun g hg=>.inl (by rw[<-hH3.out.2.2];exact hg))
   have S4:Hid (St N (V3.setCell ⟨b,334,none⟩ (.slice p3 ul.length d3)) b {u2 with under:=ul} {L2 with u:=.slice p3 ul.length d3}):=s4
   have T4:Hid (To b w L (V3.setCell ⟨b,334,none⟩ (.slice p3 ul.length d3)) {L2 with u:=.slice p3 ul.length d3}):=T2.out.trans t4
   have cz4:(V3.setCell ⟨b,334,none⟩ (.slice p3 ul.length d3)).cell? ⟨z,0,none⟩=some (.int .i64 q):=jt cz t4 nz.out
   have nz4:Hid (¬own b {L2 with u:=.slice p3 ul.length d3} z):=qm t4.fresh nz.out (Ab _ _ cz)
   clear s4 t4 k334b f334 hH3 S2 T2 nz cz
   generalize V3.setCell ⟨b,334,none⟩ (.slice p3 ul.length d3)=V4 at*
   generalize ({L2 with u:=.slice p3 ul.length d3}:Sls)=L4 at*
   obtain⟨u4,hu4⟩:∃u4:Cr,u4={u2 with under:=ul}:=⟨_,rfl⟩
   rw[<-hu4]at S4
   have HU4:Hid (u4={u2 with under:=ul}/\u4.asked=s.asked/\u4.bck=s.bck):=⟨hu4,by rw[hu4];exact HU2.out.2.2.1,by rw[hu4];exact HU2.out.2.2.2⟩
   clear hu4
   have k335:V4.cell? ⟨b,335,none⟩=some L4.a:=(zd S4.out.row (by omega)).trans rfl
   obtain⟨al,hal⟩:∃l,l=u4.asked.filter (fun o=>!decide (q<=o.seq)):=⟨_,rfl⟩
   have Hal:Hid (al=u4.asked.filter (fun o=>!decide (q<=o.seq))):=hal
   have CD:Hid (Calls prog 53 #[L4.a,.func (.func 165) #[] #[.pointer (some ⟨z,0,none⟩)]] V4 fun e w'=>∃v',e=.returned v'/\Us w' 135 7 v' (u4.asked.filter (fun o=>!decide (q<=o.seq))).length (flat cel (u4.asked.filter (fun o=>!decide (q<=o.seq))))/\V4.grownBy w' L4.a.ownBlock/\v'.ownBlock=L4.a.ownBlock):=
    xR 165 z (fun o=>decide (q<=o.seq)) zjL (fun W=>W.cell? ⟨z,0,none⟩=some (.int .i64 q)) S4.out.its.ia (by rw[HU4.out.2.1];have:=HK.out.lenA;omega)
     (fun W W' h _ hb=>(Ae (w:=W) (a:=⟨z,0,none⟩) (hb z (Ab _ _ h) (fun e=>nz4.out (.inr (.inr (.inr e)))))).trans h) (fun W o h=>zfC z q W o h) cz4
   rw[<-hal]at CD
   clear hal
   go_wp2_with fail
   refine CD.out.mono ?_
   rintro e V5 ⟨v5,rfl,hU5,hG5,hO5⟩
   obtain⟨p5,d5,rfl⟩:=hU5.slice
   have k335b:V5.cell? ⟨b,335,none⟩=some L4.a:=(Ae (w:=V4) (a:=⟨b,335,none⟩) (hG5.block b S4.out.lt (fun h=>(S4.out.apart.2.2 b h.symm).2.2 rfl))).trans k335
   have f335:V5.frozen? ⟨b,335,none⟩=false:=frozen_of_row _ _ _ _ _ ((hG5.block b S4.out.lt (fun h=>(S4.out.apart.2.2 b h.symm).2.2 rfl)).trans S4.out.row)
   have hH5:Hid ((Us V5 135 7 (.slice p5 al.length d5) al.length (flat cel al))/\V4.grownBy V5 L4.a.ownBlock/\(WX p5 al.length d5).ownBlock=L4.a.ownBlock):=⟨hU5,hG5,hO5⟩
   clear hU5 hG5 hO5 CD k335
   go_upto_region 12 with fail
   obtain⟨s6,t6⟩:=S4.out.newA _ hH5.out.1 hH5.out.2.1 (fun g hg=>.inl (by rw[<-hH5.out.2.2];exact hg))
   have S6:Hid (St N (V5.setCell ⟨b,335,none⟩ (.slice p5 al.length d5)) b {u4 with asked:=al} {L4 with a:=.slice p5 al.length d5}):=s6
   have T6:Hid (To b w L (V5.setCell ⟨b,335,none⟩ (.slice p5 al.length d5)) {L4 with a:=.slice p5 al.length d5}):=T4.out.trans t6
   clear s6 t6 k335b f335 hH5 S4 T4 nz4 cz4
   generalize V5.setCell ⟨b,335,none⟩ (.slice p5 al.length d5)=V6 at*
   generalize ({L4 with a:=.slice p5 al.length d5}:Sls)=L6 at*
   obtain⟨u6,hu6⟩:∃u6:Cr,u6={u4 with asked:=al}:=⟨_,rfl⟩
   rw[<-hu6]at S6
   have HR:Hid (r={u6 with bck:=if t=[]then s.bck else s.bck+1,fro:=pc,opn:=true}):=by
    show _=_
    rw[HBK.out,hu6,Hal.out,HU4.out.2.1,HU4.out.1,Hul.out,HU2.out.2.1,HU2.out.1]
   have hb6:Hid (u6.bck=s.bck):=by show _=_;rw[hu6];exact HU4.out.2.2
   clear hu6 HU4 HU2 HBK
   have k337:∀x,(V6.setCell ⟨b,42,none⟩ x).cell? ⟨b,337,none⟩=some (.int .u32 u6.fro):=fun x=>zjw ((zd S6.out.row (by omega)).trans rfl) (by simp)
   have k337':V6.cell? ⟨b,337,none⟩=some (.int .u32 u6.fro):=(zd S6.out.row (by omega)).trans rfl
   have k338:V6.cell? ⟨b,338,none⟩=some (.bool u6.opn):=(zd S6.out.row (by omega)).trans rfl
   have f337:=S6.out.frozen 337
   have f338:=S6.out.frozen 338
   by_cases ht:t=[]
   ·have hq0:qs.length=0:=by rw[HQL.out,ht];rfl
    have hr:r={u6 with fro:=pc,opn:=true}:=by
     rw[HR.out,if_pos ht,<-hb6.out]
    have HR2:Hid (r={u6 with fro:=pc,opn:=true}):=hr
    clear hr HR ht k337
    rw[hq0]
    go_wp2_with fail
    refine Af (Ag rfl _ _ _) rfl ⟨rfl,L6,?_⟩
    obtain⟨s7,t7⟩:=S6.out.setFro pc
    obtain⟨s8,t8⟩:=s7.setOpn true
    rw[HR2.out]
    exact⟨s8,(T6.out.trans t7).trans t8⟩
   ·have hq0:0<qs.length:=by rw[HQL.out];exact List.length_pos_iff.2 ht
    have hq1:(0:Int)<(qs.length:Int):=by omega
    have hr:r={u6 with bck:=s.bck+1,fro:=pc,opn:=true}:=by
     rw[HR.out,if_neg ht]
    have HR2:Hid (r={u6 with bck:=s.bck+1,fro:=pc,opn:=true}):=hr
    have k42:V6.cell? ⟨b,42,none⟩=some (.int .i64 s.bck):=(zd S6.out.row (by omega)).trans (congrArg some (by rw[<-hb6.out];rfl))
    have f42:=S6.out.frozen 42
    have b0:=HK.out.bck0
    have b1:=HK.out.bck1
    clear hr HR ht k337 k337' k338 f337 f338
    go_upto_region 14 with fail
    obtain⟨s7,t7⟩:=S6.out.setBck (s.bck+1)
    have S7:Hid (St N (V6.setCell ⟨b,42,none⟩ (.int .i64 (s.bck+1))) b {u6 with bck:=s.bck+1} L6):=s7
    have T7:Hid (To b w L (V6.setCell ⟨b,42,none⟩ (.int .i64 (s.bck+1))) L6):=T6.out.trans t7
    clear s7 t7 S6 T6 k42 f42 b0 b1
    generalize V6.setCell ⟨b,42,none⟩ (.int .i64 (s.bck+1))=V7 at*
    have k337:V7.cell? ⟨b,337,none⟩=some (.int .u32 u6.fro):=(zd S7.out.row (by omega)).trans rfl
    have k338:V7.cell? ⟨b,338,none⟩=some (.bool u6.opn):=(zd S7.out.row (by omega)).trans rfl
    have f337:=S7.out.frozen 337
    have f338:=S7.out.frozen 338
    go_wp2_with fail
    refine Af (Ag rfl _ _ _) rfl ⟨rfl,L6,?_⟩
    obtain⟨s7,t7⟩:=S7.out.setFro pc
    obtain⟨s8,t8⟩:=s7.setOpn true
    rw[HR2.out]
    exact⟨s8,(T7.out.trans t7).trans t8⟩
def Cb(w:World)(p:Nat)(c:Cm):Prop:=w.heap[p]?=some (.cells (cC c) 68 (0,0))
theorem Cb.below{w w':World}{p:Nat}{c:Cm}(h:Cb w p c)(hb:Below w.heap.size w w'):Cb w' p c:=(hb.block p (Ah.1 h).1).trans h
theorem Cb.lt{w:World}{p:Nat}{c:Cm}(h:Cb w p c):p<w.heap.size:=(Ah.1 h).1
theorem Cb.to{b:Nat}{w w':World}{L L':Sls}{p:Nat}{c:Cm}(h:Cb w p c)(hT:To b w L w' L')(hp:¬own b L p):Cb w' p c:=(hT.block p h.lt hp).trans h
theorem Cb.not{b:Nat}{w w':World}{L L':Sls}{p:Nat}{c:Cm}(h:Cb w p c)(hT:To b w L w' L')(hp:¬own b L p):¬own b L' p:=qm hT.fresh hp h.lt
theorem qQ{w:World}{p:Nat}{c:Cm}(h:Cb w p c)(j:Nat){v:Value}(hj:(cC c)[j]?=some v):w.cell? ⟨p,j,none⟩=some v:=by
 rw[Ak _ _ _ _ _ _ h]
 exact hj
theorem zhX{w:World}{p:Nat}{c:Cm}(h:Cb w p c):w.rangeAt p 0 (cC c).toList:=fun j v hj=>by
 rw[Ak _ _ _ _ _ _ h,Nat.zero_add,<-Array.getElem?_toList]
 exact hj
theorem vT(c:Cm):(prog.info? 68).map (·.size)=some (cC c).toList.length:=za
theorem zcn{N:Nat}{w:World}{b:Nat}{s:Cr}{L:Sls}(S:St N w b s L)(o:Dg)(c:Cm)(hto:c.rd≠0->0<=o.to/\o.to<96):
  Calls prog 127 #[.pointer (some ⟨b,0,none⟩),dgv o,cvC c] w fun e w'=>e=.returned (.bool (jI s o c))/\St N w' b (qX s o c) L/\To b w L w' L:=by
 obtain⟨r,hr⟩:∃r,r=jI s o c:=⟨_,rfl⟩
 obtain⟨f,hf⟩:∃f,f=qX s o c:=⟨_,rfl⟩
 rw[<-hr,<-hf]
 have HR:Hid (r=jI s o c):=hr
 have HF:Hid (f=qX s o c):=hf
 clear hr hf
 go_enter func127,ntmps127
 go_upto_region 1 with fail
 refine Wi.jl (Φ:=fun W=>Au _ _ _ _ W) ?_
 intro V h1 h2 hb hs
 have BV:Hid (Bx V w.heap.size o):=h1
 have CV:Hid (Cb V (w.heap.size+1) c):=h2
 have SV:Hid (St N V b s L):=S.below hb
 have TV:Hid (To b w L V L):=ze L hb
 have hqb:b≠w.heap.size:=by have:=S.lt;omega
 have hpb:b≠w.heap.size+1:=by have:=S.lt;omega
 clear h1 h2 hb hs S
 generalize w.heap.size+1=p at*
 generalize w.heap.size=q at*
 obtain⟨k,hk⟩:∃k,k=c.rd:=⟨_,rfl⟩
 have c4:V.cell? ⟨p,4,none⟩=some (.int .i64 (k:Int)):=qQ CV.out 4 (by rw[hk];rfl)
 rw[<-hk]at hto
 have HKK:Hid (k=c.rd):=hk
 clear hk
 by_cases h0:k=0
 ·have hr:r=true:=by rw[HR.out];unfold jI;rw[<-HKK.out,h0];rfl
  have hf:f=s:=by rw[HF.out];unfold qX;rw[<-HKK.out,if_pos h0]
  subst hr hf
  have c4':V.cell? ⟨p,4,none⟩=some (.int .i64 0):=by rw[c4,h0];rfl
  clear c4 h0 HR HF hto
  go_wp2
  go_ret
  exact⟨rfl,SV.out,TV.out⟩
 ·have hb0:((k:Int)==0)=false:=by simp[h0]
  obtain⟨z,hz⟩:∃z:Nat,o.to=(z:Int):=Int.eq_ofNat_of_zero_le (hto h0).1
  have hz1:z<96:=by have:=(hto h0).2;omega
  have z0:0<=(z:Int):=by omega
  have z1:(z:Int)<96:=by omega
  have hf:f={s with wd:=upI s.wd (z:Int) c.val,th:=upB s.th (z:Int) true}:=by rw[HF.out];unfold qX;rw[<-HKK.out,if_neg h0,hz]
  have HR2:Hid (r=(!o.gs||decide (s.wd (z:Int)=c.val))):=by
   show _=_
   rw[HR.out]
   unfold jI
   rw[<-HKK.out,decide_eq_false h0,hz]
   rfl
  have HF2:Hid (f={s with wd:=upI s.wd (z:Int) c.val,th:=upB s.th (z:Int) true}):=hf
  have c11:V.cell? ⟨q,11,none⟩=some (.int .i64 (z:Int)):=zl BV.out 11 (by rw[<-hz];rfl)
  have c5:V.cell? ⟨p,5,none⟩=some (.int .u32 c.val):=qQ CV.out 5 rfl
  have c14:V.cell? ⟨q,14,none⟩=some (.bool o.gs):=zl BV.out 14 rfl
  have cw:=SV.out.wrd z hz1
  have ct:=SV.out.thr z hz1
  have fw:=SV.out.frozen (141+z)
  have ft:=SV.out.frozen (237+z)
  obtain⟨x,hx⟩:∃x,x=s.wd (z:Int):=⟨_,rfl⟩
  obtain⟨y,hy⟩:∃y,y=c.val:=⟨_,rfl⟩
  rw[<-hx]at cw HR2
  rw[<-hy]at HF2 c5 HR2
  obtain⟨g,hg⟩:∃g,g=o.gs:=⟨_,rfl⟩
  rw[<-hg]at c14 HR2
  clear hf HR HF hto hz hx hy hg h0 HKK
  cases g with
  |false=>
   go_upto_region 3 with fail
   refine zq (S:=fun w'=>w'.cell? ⟨q,14,none⟩=some (.bool false)) [] (by kernel_rfl) (c14) (fun hH=>?_)
   refine tU 0 (.pointer (some ⟨q,14,none⟩)) ?_;go_simp
   refine tS 1 (.bool false) rfl (Or.inl ⟨by rfl,by intro wz hSw;have hc:=hSw;go_simp⟩) hH ?_;go_simp
   refine tU 2 (.bool true) ?_;go_simp
   refine tU 3 (.bool true) ?_;go_simp
   refine tX 4 undef rfl (Or.inr ⟨by rfl,rfl⟩) hH ?_;go_simp
   refine tX 5 undef rfl (Or.inr ⟨by rfl,rfl⟩) hH ?_;go_simp
   refine tX 6 undef rfl (Or.inr ⟨by rfl,rfl⟩) hH ?_;go_simp
   refine tX 7 undef rfl (Or.inr ⟨by rfl,rfl⟩) hH ?_;go_simp
   refine tX 8 undef rfl (Or.inr ⟨by rfl,rfl⟩) hH ?_;go_simp
   refine tX 9 undef rfl (Or.inr ⟨by rfl,rfl⟩) hH ?_;go_simp
   refine tX 10 undef rfl (Or.inr ⟨by rfl,rfl⟩) hH ?_;go_simp
   refine tX 11 undef rfl (Or.inr ⟨by rfl,rfl⟩) hH ?_;go_simp
   refine tX 12 undef rfl (Or.inr ⟨by rfl,rfl⟩) hH ?_;go_simp
   refine tX 13 undef rfl (Or.inr ⟨by rfl,rfl⟩) hH ?_;go_simp
   refine tU 14 (.bool true) ?_;go_simp
   refine tU 15 (.bool true) ?_;go_simp
   refine zE (by kernel_rfl) ?_ _
   clear hH
   go_upto_region 4 with fail
   refine zq (S:=fun w'=>w'.cell? ⟨q,11,none⟩=some (.int .i64 (z:Int))/\w'.cell? ⟨p,5,none⟩=some (.int .u32 y)) [15] (by kernel_rfl) (⟨c11,c5⟩) (fun hH=>?_)
   refine tU 0 (.pointer (some ⟨b,0,none⟩)) ?_;go_simp
   refine tU 1 (.pointer (some ⟨q,11,none⟩)) ?_;go_simp
   refine tA 2 (.int .i64 (z:Int)) ?_;go_simp
   refine tU 3 (.pointer (some ⟨b,0,none⟩)) ?_;go_simp
   refine tU 4 (.pointer (some ⟨q,11,none⟩)) ?_;go_simp
   refine tA 5 (.int .i64 (z:Int)) ?_;go_simp
   refine tU 6 (.pointer (some ⟨p,5,none⟩)) ?_;go_simp
   refine tB 7 (.int .u32 y) ?_;go_simp
   refine tU 8 (.pointer (some ⟨b,0,none⟩)) ?_;go_simp
   refine tU 9 (.pointer (some ⟨b,141,none⟩)) ?_;go_simp
   refine tU 10 (.pointer (some ⟨b,141+z,none⟩)) ?_;go_simp
   refine tU 12 (.pointer (some ⟨b,0,none⟩)) ?_;go_simp
   refine tU 13 (.pointer (some ⟨b,237,none⟩)) ?_;go_simp
   refine zC 11 rfl (fun K hK=>?_)
   go_simp
   refine hK.out _ _ (⟨vJ hH.1 hqb,vJ hH.2 hpb⟩) (fun hN=>?_)
   clear hK K hH
   have hH:=hN
   clear hN
   try go_simp
   refine tU 14 (.pointer (some ⟨b,237+z,none⟩)) ?_;go_simp
   refine zL 15 rfl (fun K hK=>?_)
   go_simp
   refine hK.out _ _ ?_
   clear hK K
   try go_simp
   refine zE (by kernel_rfl) ?_ _
   clear hH
   go_wp2
   go_ret
   obtain⟨s1,t1⟩:=SV.out.setWd z hz1 y
   obtain⟨s2,t2⟩:=s1.setTh z hz1 true
   have e1:=HF2.out
   have e2:=HR2.out
   refine⟨by rw[e2];rfl,by rw[e1];exact s2.dr.dr,((TV.out.trans t1).trans t2).dr.dr⟩
  |true=>
   by_cases hxy:x=y
   ·subst hxy
    go_upto_region 3 with fail
    refine zq (S:=fun w'=>w'.cell? ⟨q,14,none⟩=some (.bool true)/\w'.cell? ⟨q,11,none⟩=some (.int .i64 (z:Int))/\w'.cell? ⟨b,141+z,none⟩=some (.int .u32 x)/\w'.cell? ⟨p,5,none⟩=some (.int .u32 x)) [] (by kernel_rfl) (⟨c14,c11,cw,c5⟩) (fun hH=>?_)
    refine tU 0 (.pointer (some ⟨q,14,none⟩)) ?_;go_simp
    refine tA 1 (.bool true) ?_;go_simp
    refine tU 2 (.bool false) ?_;go_simp
    refine tU 3 (.bool false) ?_;go_simp
    refine tU 4 (.pointer (some ⟨b,0,none⟩)) ?_;go_simp
    refine tU 5 (.pointer (some ⟨q,11,none⟩)) ?_;go_simp
    refine tS 6 (.int .i64 (z:Int)) rfl (Or.inl ⟨by rfl,by intro wz hSw;have hc:=hSw.2.1;go_simp⟩) hH ?_;go_simp
    refine tU 7 (.pointer (some ⟨b,0,none⟩)) ?_;go_simp
    refine tU 8 (.pointer (some ⟨b,141,none⟩)) ?_;go_simp
    refine tU 9 (.pointer (some ⟨b,141+z,none⟩)) ?_;go_simp
    refine tS 10 (.int .u32 x) rfl (Or.inl ⟨by rfl,by intro wz hSw;have hc:=hSw.2.2.1;go_simp⟩) hH ?_;go_simp
    refine tU 11 (.pointer (some ⟨p,5,none⟩)) ?_;go_simp
    refine tS 12 (.int .u32 x) rfl (Or.inl ⟨by rfl,by intro wz hSw;have hc:=hSw.2.2.2;go_simp⟩) hH ?_;go_simp
    refine tU 13 (.bool true) ?_;go_simp
    refine tU 14 (.bool true) ?_;go_simp
    refine tU 15 (.bool true) ?_;go_simp
    refine zE (by kernel_rfl) ?_ _
    clear hH
    go_upto_region 4 with fail
    refine zq (S:=fun w'=>w'.cell? ⟨q,11,none⟩=some (.int .i64 (z:Int))/\w'.cell? ⟨p,5,none⟩=some (.int .u32 x)) [15] (by kernel_rfl) (⟨c11,c5⟩) (fun hH=>?_)
    refine tU 0 (.pointer (some ⟨b,0,none⟩)) ?_;go_simp
    refine tU 1 (.pointer (some ⟨q,11,none⟩)) ?_;go_simp
    refine tA 2 (.int .i64 (z:Int)) ?_;go_simp
    refine tU 3 (.pointer (some ⟨b,0,none⟩)) ?_;go_simp
    refine tU 4 (.pointer (some ⟨q,11,none⟩)) ?_;go_simp
    refine tA 5 (.int .i64 (z:Int)) ?_;go_simp
    refine tU 6 (.pointer (some ⟨p,5,none⟩)) ?_;go_simp
    refine tB 7 (.int .u32 x) ?_;go_simp
    refine tU 8 (.pointer (some ⟨b,0,none⟩)) ?_;go_simp
    refine tU 9 (.pointer (some ⟨b,141,none⟩)) ?_;go_simp
    refine tU 10 (.pointer (some ⟨b,141+z,none⟩)) ?_;go_simp
    refine tU 12 (.pointer (some ⟨b,0,none⟩)) ?_;go_simp
    refine tU 13 (.pointer (some ⟨b,237,none⟩)) ?_;go_simp
    refine zC 11 rfl (fun K hK=>?_)
    go_simp
    refine hK.out _ _ (⟨vJ hH.1 hqb,vJ hH.2 hpb⟩) (fun hN=>?_)
    clear hK K hH
    have hH:=hN
    clear hN
    try go_simp
    refine tU 14 (.pointer (some ⟨b,237+z,none⟩)) ?_;go_simp
    refine zL 15 rfl (fun K hK=>?_)
    go_simp
    refine hK.out _ _ ?_
    clear hK K
    try go_simp
    refine zE (by kernel_rfl) ?_ _
    clear hH
    go_wp2
    go_ret
    obtain⟨s1,t1⟩:=SV.out.setWd z hz1 x
    obtain⟨s2,t2⟩:=s1.setTh z hz1 true
    have e1:=HF2.out
    have e2:=HR2.out
    refine⟨by rw[e2];simp,by rw[e1];exact s2.dr.dr,((TV.out.trans t1).trans t2).dr.dr⟩
   ·have hne:(x==y)=false:=by simpa using hxy
    go_upto_region 3 with fail
    refine zq (S:=fun w'=>w'.cell? ⟨q,14,none⟩=some (.bool true)/\w'.cell? ⟨q,11,none⟩=some (.int .i64 (z:Int))/\w'.cell? ⟨b,141+z,none⟩=some (.int .u32 x)/\w'.cell? ⟨p,5,none⟩=some (.int .u32 y)) [] (by kernel_rfl) (⟨c14,c11,cw,c5⟩) (fun hH=>?_)
    refine tU 0 (.pointer (some ⟨q,14,none⟩)) ?_;go_simp
    refine tA 1 (.bool true) ?_;go_simp
    refine tU 2 (.bool false) ?_;go_simp
    refine tU 3 (.bool false) ?_;go_simp
    refine tU 4 (.pointer (some ⟨b,0,none⟩)) ?_;go_simp
    refine tU 5 (.pointer (some ⟨q,11,none⟩)) ?_;go_simp
    refine tS 6 (.int .i64 (z:Int)) rfl (Or.inl ⟨by rfl,by intro wz hSw;have hc:=hSw.2.1;go_simp⟩) hH ?_;go_simp
    refine tU 7 (.pointer (some ⟨b,0,none⟩)) ?_;go_simp
    refine tU 8 (.pointer (some ⟨b,141,none⟩)) ?_;go_simp
    refine tU 9 (.pointer (some ⟨b,141+z,none⟩)) ?_;go_simp
    refine tS 10 (.int .u32 x) rfl (Or.inl ⟨by rfl,by intro wz hSw;have hc:=hSw.2.2.1;go_simp⟩) hH ?_;go_simp
    refine tU 11 (.pointer (some ⟨p,5,none⟩)) ?_;go_simp
    refine tS 12 (.int .u32 y) rfl (Or.inl ⟨by rfl,by intro wz hSw;have hc:=hSw.2.2.2;go_simp⟩) hH ?_;go_simp
    refine tU 13 (.bool false) ?_;go_simp
    refine tU 14 (.bool false) ?_;go_simp
    refine tU 15 (.bool false) ?_;go_simp
    refine zE (by kernel_rfl) ?_ _
    clear hH
    go_upto_region 4 with fail
    refine zq (S:=fun w'=>w'.cell? ⟨q,11,none⟩=some (.int .i64 (z:Int))/\w'.cell? ⟨p,5,none⟩=some (.int .u32 y)) [15] (by kernel_rfl) (⟨c11,c5⟩) (fun hH=>?_)
    refine tU 0 (.pointer (some ⟨b,0,none⟩)) ?_;go_simp
    refine tU 1 (.pointer (some ⟨q,11,none⟩)) ?_;go_simp
    refine tA 2 (.int .i64 (z:Int)) ?_;go_simp
    refine tU 3 (.pointer (some ⟨b,0,none⟩)) ?_;go_simp
    refine tU 4 (.pointer (some ⟨q,11,none⟩)) ?_;go_simp
    refine tA 5 (.int .i64 (z:Int)) ?_;go_simp
    refine tU 6 (.pointer (some ⟨p,5,none⟩)) ?_;go_simp
    refine tB 7 (.int .u32 y) ?_;go_simp
    refine tU 8 (.pointer (some ⟨b,0,none⟩)) ?_;go_simp
    refine tU 9 (.pointer (some ⟨b,141,none⟩)) ?_;go_simp
    refine tU 10 (.pointer (some ⟨b,141+z,none⟩)) ?_;go_simp
    refine tU 12 (.pointer (some ⟨b,0,none⟩)) ?_;go_simp
    refine tU 13 (.pointer (some ⟨b,237,none⟩)) ?_;go_simp
    refine zC 11 rfl (fun K hK=>?_)
    go_simp
    refine hK.out _ _ (⟨vJ hH.1 hqb,vJ hH.2 hpb⟩) (fun hN=>?_)
    clear hK K hH
    have hH:=hN
    clear hN
    try go_simp
    refine tU 14 (.pointer (some ⟨b,237+z,none⟩)) ?_;go_simp
    refine zL 15 rfl (fun K hK=>?_)
    go_simp
    refine hK.out _ _ ?_
    clear hK K
    try go_simp
    refine zE (by kernel_rfl) ?_ _
    clear hH
    go_wp2
    go_ret
    obtain⟨s1,t1⟩:=SV.out.setWd z hz1 y
    obtain⟨s2,t2⟩:=s1.setTh z hz1 true
    have e1:=HF2.out
    have e2:=HR2.out
    refine⟨by rw[e2];simp[hxy],by rw[e1];exact s2.dr.dr,((TV.out.trans t1).trans t2).dr.dr⟩
structure SetOk(s:Cr)(m:Nat->Int)(q:Int)(c:Cm):Prop where
 back:BackOk s m
 uq:Uq s.asked
 ask:∀a∈s.asked,a.Ok
 has:∃a∈s.asked,(a.st&&decide (a.seq=q))=true
 of:∀a∈s.asked,∃o∈s.under,a.seq=o.seq
 c:CmR c
theorem BackOk.asks{s:Cr}{m:Nat->Int}(h:BackOk s m){k:List Ac}(hk:k.length<=10000000):BackOk {s with asked:=k} m:=
 ⟨⟨h.bk.olds,h.bk.reg,h.bk.rise,h.bk.slo⟩,h.dis,h.rd,h.low,h.high,h.lenU,hk,h.bck0,h.bck1⟩
theorem zds{s:Cr}{q:Int}{c:Cm}{k:List Ac}(hk:setA s.asked q (stA q c)=k)(h:lst k (stA q c) k.length=none):settle s q c={s with asked:=k}:=by
 unfold settle
 simp only[hk,h]
theorem zdt{s:Cr}{q:Int}{c:Cm}{k:List Ac}{e:Int}(hk:setA s.asked q (stA q c)=k)(h:lst k (stA q c) k.length=some e):settle s q c=Co.back {s with asked:=k} e (pcOf s.under e):=by
 unfold settle
 simp only[hk,h]
theorem SetOk.early{s:Cr}{m:Nat->Int}{q:Int}{c:Cm}(h:SetOk s m q c){e:Int}(he:lst (setA s.asked q (stA q c)) (stA q c) (setA s.asked q (stA q c)).length=some e):∃l1 o l2,s.under=l1++o::l2/\o.seq=e/\pcOf s.under e=o.pc:=by
 obtain⟨⟨a,ha,hae,_⟩,_⟩:=kp he
 have ho:∃o∈s.under,a.seq=o.seq:=by
  obtain⟨p,hp,rfl⟩:=WY.1 ha
  split
  ·rename_i hc
   obtain⟨o,ho,e⟩:=h.of p hp
   exact⟨o,ho,by show q=o.seq;rw[<-e,hc.2]⟩
  ·exact h.of p hp
 obtain⟨o,ho,e2⟩:=ho
 obtain⟨l1,l2,hl⟩:=List.append_of_mem ho
 have hs:o.seq=e:=by rw[<-e2,hae]
 refine⟨l1,o,l2,hl,hs,?_⟩
 have hr:=h.back.bk.rise
 rw[hl]at hr
 rw[hl,<-hs]
 exact zgQ hr
theorem zdu{N:Nat}{w:World}{b:Nat}{s:Cr}{L:Sls}(S:St N w b s L){m:Nat->Int}(q:Int)(c:Cm)(K:SetOk s m q c):
  Calls prog 126 #[.pointer (some ⟨b,0,none⟩),.int .i64 q,cvC c] w fun e w'=>e=.returned (.tuple #[])/\∃L',St N w' b (settle s q c) L'/\To b w L w' L':=by
 have hmf:∀(fn:Fn) (first cap:Array Value) (w:World),(Aq fn first cap).run prog w=.ok (.func fn first cap) w:=fun _ _ _ _=>rfl
 obtain⟨r,hr⟩:∃r,r=settle s q c:=⟨_,rfl⟩
 rw[<-hr]
 have HR:Hid (r=settle s q c):=hr
 have HK:Hid (SetOk s m q c):=K
 obtain⟨mi,hmi,hml⟩:=zhM K.has
 have HM:Hid (FirstA (fun a=>a.st&&decide (a.seq=q)) s.asked mi):=hmi
 obtain⟨k,hk⟩:∃k,k=s.asked.set mi (stA q c):=⟨_,rfl⟩
 have HSA:Hid (setA s.asked q (stA q c)=k):=by show _=_;rw[hk];exact zhL K.uq hmi hml _
 obtain⟨hf1,hf2⟩:=zfv hmi hml (e:=stA q c) rfl rfl rfl
 rw[<-hk]at hf1 hf2
 have HF:Hid (FirstA (sto1 q) k mi/\k[mi]?=some (stA q c)):=⟨hf1,hf2⟩
 have hkl:k.length=s.asked.length:=by rw[hk,List.length_set]
 have HKL:Hid (k.length=s.asked.length):=hkl
 have HKK:Hid (k=s.asked.set mi (stA q c)):=hk
 have hlA:=K.back.lenA
 clear hr hk hf1 hf2 hkl K hmi
 go_enter func126,ntmps126
 go_upto_region 1 with fail
 refine Wi.jl (Φ:=fun W=>Au _ _ _ _ W) ?_
 intro V h1 h2 hb hs
 have cz:V.cell? ⟨w.heap.size,0,none⟩=some (.int .i64 q):=by rw[Ak _ _ _ _ _ _ h1];rfl
 have CV:Hid (Cb V (w.heap.size+1) c):=h2
 have SV:Hid (St N V b s L):=S.below hb
 have TV:Hid (To b w L V L):=ze L hb
 have hzb:Hid (¬own b L w.heap.size):=fun h=>by have:=qN S h;omega
 have hpb:Hid (¬own b L (w.heap.size+1)):=fun h=>by have:=qN S h;omega
 clear h1 h2 hb hs S
 generalize w.heap.size+1=p at*
 generalize w.heap.size=z at*
 obtain⟨x0,hx0⟩:∃x0,s.asked[mi]?=some x0:=⟨_,List.getElem?_eq_getElem hml⟩
 obtain⟨ag,ao,ac,eav,hac,_,hag,hacs,_⟩:=SV.out.its.ia.at (by omega)
 obtain⟨n,hn⟩:∃n,n=s.asked.length:=⟨_,rfl⟩
 have HN:Hid (n=s.asked.length):=hn
 rw[<-hn]at eav hac hml hlA HKL
 have HAV:Hid (L.a=.slice (some ⟨ag,ao,none⟩) n ac):=eav
 have k335:V.cell? ⟨b,335,none⟩=some (.slice (some ⟨ag,ao,none⟩) n ac):=(zd SV.out.row (by omega)).trans (congrArg some eav)
 have HU:Hid (LC V (some ⟨ag,ao,none⟩) n ac 7 (acs s.asked)):=by
  have:=SV.out.its.ia
  rw[eav,<-hn]at this
  rw[xy]
  exact this.lc
 have CI:Hid (∀W,Below V.heap.size V W->Calls prog 81 #[.slice (some ⟨ag,ao,none⟩) n ac,.func (.func 159) #[] #[.pointer (some ⟨z,0,none⟩)]] W fun e w'=>e=.returned (.int .i64 (mi:Int))/\Below W.heap.size W w'):=fun W hW=>
  qd 159 z (fun a=>a.st&&decide (a.seq=q)) zfA (some ⟨ag,ao,none⟩) n ac (by omega) s.asked mi HM (mi:Int) (by show _=_;rw[if_pos hml]) W (HU.out.below (Aa _) hW) (fun W' o hW'=>zcl z q W' o (zn hW' (zn hW cz)))
 clear hacs hag hn eav
 go_wp2_with fail
 refine(CI.out _ (Ad _ _)).mono ?_
 rintro e V1 ⟨rfl,hk1⟩
 have S1:Hid (St N V1 b s L):=SV.out.below hk1
 have T1:Hid (To b w L V1 L):=TV.out.trans (ze L hk1)
 have C1:Hid (Cb V1 p c):=CV.out.below hk1
 have cz1:V1.cell? ⟨z,0,none⟩=some (.int .i64 q):=zn hk1 cz
 have k335b:V1.cell? ⟨b,335,none⟩=some (.slice (some ⟨ag,ao,none⟩) n ac):=zn hk1 k335
 clear hk1 CI SV TV CV cz k335 HU
 obtain⟨g',o',cap',ev',hth,s2,t2⟩:=S1.out.dr.putA (y:=stA q c) hx0 (xa _)
 obtain⟨rfl,rfl⟩:ag=g'/\ao=o':=by rw[HAV.out]at ev';injection ev' with h1 _ _;injection h1 with h1;injection h1 with h1 h2;exact⟨h1,h2⟩
 rw[<-HKK.out]at s2
 have HTH:Hid (V1.drew.there ag (ao+mi*7) 7):=hth
 have S2:Hid (St N (V1.drew.setCells ag (ao+mi*7) (cel (stA q c))) b {s with asked:=k} L):=s2
 have t2':Hid (To b V1.drew L (V1.drew.setCells ag (ao+mi*7) (cel (stA q c))) L):=t2
 have m0:0<=(mi:Int):=by omega
 have m1:(mi:Int)<(n:Int):=by omega
 have c6:V1.cell? ⟨p,6,none⟩=some (.int .u32 c.pl):=qQ C1.out 6 rfl
 have c7:V1.cell? ⟨p,7,none⟩=some (.int .i64 c.many):=qQ C1.out 7 rfl
 have c8:V1.cell? ⟨p,8,none⟩=some (.int .u32 c.data):=qQ C1.out 8 rfl
 clear hth s2 t2 ev' hx0
 go_upto_region 2 with fail
 refine zq (S:=fun w'=>w'.cell? ⟨b,335,none⟩=some (.slice (some ⟨ag,ao,none⟩) n ac)/\w'.cell? ⟨z,0,none⟩=some (.int .i64 q)/\w'.cell? ⟨p,6,none⟩=some (.int .u32 c.pl)/\w'.cell? ⟨p,7,none⟩=some (.int .i64 c.many)/\w'.cell? ⟨p,8,none⟩=some (.int .u32 c.data)) [14] (by kernel_rfl) (⟨k335b,cz1,c6,c7,c8⟩) (fun hH=>?_)
 refine tU 0 (.pointer (some ⟨b,0,none⟩)) ?_;go_simp
 refine tU 1 (.pointer (some ⟨b,0,none⟩)) ?_;go_simp
 refine tU 2 (.pointer (some ⟨b,335,none⟩)) ?_;go_simp
 refine tA 3 (.slice (some ⟨ag,ao,none⟩) n ac) ?_;go_simp
 refine tU 4 (.int .i64 (mi:Int)) ?_;go_simp
 refine tS 5 (.int .i64 q) rfl (Or.inl ⟨by rfl,by intro wz hSw;have hc:=hSw.2.1;go_simp⟩) hH ?_;go_simp
 refine tU 6 (.pointer (some ⟨p,6,none⟩)) ?_;go_simp
 refine tS 7 (.int .u32 c.pl) rfl (Or.inl ⟨by rfl,by intro wz hSw;have hc:=hSw.2.2.1;go_simp⟩) hH ?_;go_simp
 refine tU 8 (.pointer (some ⟨p,7,none⟩)) ?_;go_simp
 refine tS 9 (.int .i64 c.many) rfl (Or.inl ⟨by rfl,by intro wz hSw;have hc:=hSw.2.2.2.1;go_simp⟩) hH ?_;go_simp
 refine tU 10 (.pointer (some ⟨p,8,none⟩)) ?_;go_simp
 refine tS 11 (.int .u32 c.data) rfl (Or.inl ⟨by rfl,by intro wz hSw;have hc:=hSw.2.2.2.2;go_simp⟩) hH ?_;go_simp
 refine tU 12 (.agg #[.int .i64 q,.bool true,.bool true,.int .u32 c.pl,.int .i64 c.many,.int .u32 c.data,.bool false]) ?_;go_simp
 refine tU 13 (.pointer (some ⟨ag,ao+mi*7,none⟩)) ?_;go_simp
 refine zL 14 rfl (fun K hK=>?_)
 rw[if_pos (by rfl)]
 refine Aj 135 _ _ rfl ag (ao+mi*7) ((cel (stA q c)).toArray) rfl rfl (HTH.out) (zeC _) (zeD _) ?_
 refine hK.out _ _ ?_
 clear hK K
 try go_simp
 refine zE (by kernel_rfl) ?_ _
 have T2:Hid (To b w L (V1.drew.setCells ag (ao+mi*7) (cel (stA q c))) L):=T1.out.dr.trans t2'.out
 have cz2:(V1.drew.setCells ag (ao+mi*7) (cel (stA q c))).cell? ⟨z,0,none⟩=some (.int .i64 q):=jt (w:=V1.drew) cz1 t2'.out hzb.out
 have C2:Hid (Cb (V1.drew.setCells ag (ao+mi*7) (cel (stA q c))) p c):=Cb.to (w:=V1.drew) C1.out t2'.out hpb.out
 clear hH HTH t2' S1 T1 C1 cz1 k335b c6 c7 c8 m0 m1
 generalize V1.drew.setCells ag (ao+mi*7) (cel (stA q c))=V2 at*
 have k335:V2.cell? ⟨b,335,none⟩=some (.slice (some ⟨ag,ao,none⟩) n ac):=(zd S2.out.row (by omega)).trans (congrArg some HAV.out)
 obtain⟨y0,f0,hT⟩:∃y0 f0,Od.Told (lst k (stA q c) n) y0 f0:=⟨_,_,rfl,rfl⟩
 have CW:Hid (∀W,Below V2.heap.size V2 W->Calls prog 160 #[.slice (some ⟨ag,ao,none⟩) n ac,.int .i64 q] W fun e w'=>e=.returned (.tuple #[.int .i64 y0,.bool f0])/\Below W.heap.size W w'):=fun W hW=>by
  refine zft (some ⟨ag,ao,none⟩) n ac q k (fun a ha=>?_) mi HF.out.1 hml (stA q c) HF.out.2 y0 f0 hT (by omega) W ?_
  ·rw[<-HSA.out]at ha
   obtain⟨p',hp',rfl⟩:=WY.1 ha
   split
   ·exact zkt HK.out.c
   ·exact HK.out.ask p' hp'
  ·have:=S2.out.its.ia
   rw[HAV.out]at this
   have h2:(({s with asked:=k}:Cr).asked).length=n:=HKL.out
   rw[h2]at this
   rw[xy]
   exact(this.below hW).lc
 have HT:Hid (Od.Told (lst k (stA q c) n) y0 f0):=hT
 clear hT
 go_upto_region 3 with fail
 refine zq (S:=fun w'=>w'.cell? ⟨b,335,none⟩=some (.slice (some ⟨ag,ao,none⟩) n ac)/\w'.cell? ⟨z,0,none⟩=some (.int .i64 q)) [] (by kernel_rfl) (⟨k335,cz2⟩) (fun hH=>?_)
 refine tU 0 (.pointer (some ⟨b,0,none⟩)) ?_;go_simp
 refine tU 1 (.pointer (some ⟨b,0,none⟩)) ?_;go_simp
 refine tU 2 (.pointer (some ⟨b,335,none⟩)) ?_;go_simp
 refine tA 3 (.slice (some ⟨ag,ao,none⟩) n ac) ?_;go_simp
 refine tB 4 (.int .i64 q) ?_;go_simp
 refine zC 5 rfl (fun K hK=>?_)
 go_simp
 refine(CW.out _ ((Ad _ _).drew)).mono ?_
 rintro e V3 ⟨rfl,hk3⟩
 have HK3:Hid (Below V2.heap.size V2 V3):=zg hk3 (Aa _)
 go_wp2_with fail
 refine hK.out _ _ (⟨zn hk3 (hH.1),zn hk3 (hH.2)⟩) (fun hN=>?_)
 clear hK K hH
 have hH:=hN
 clear hN
 try go_simp
 refine tU 6 (.tuple #[.int .i64 y0,.bool f0]) ?_;go_simp
 refine tU 7 (.int .i64 y0) ?_;go_simp
 refine tU 8 (.bool f0) ?_;go_simp
 refine tU 9 (.int .i64 y0) ?_;go_simp
 refine tU 10 (.bool f0) ?_;go_simp
 refine zE (by kernel_rfl) ?_ _
 have S3:Hid (St N V3 b {s with asked:=k} L):=S2.out.below HK3.out
 have T3:Hid (To b w L V3 L):=T2.out.trans (ze L HK3.out)
 clear hH CW S2 T2 C2 cz2 k335 HK3
 cases hls:lst k (stA q c) n with
 |none=>
  rw[hls]at HT
  obtain⟨rfl,rfl⟩:=HT.out.none'
  have hr:r={s with asked:=k}:=by rw[HR.out];exact zds HSA.out (by rw[HKL.out];exact hls)
  subst hr
  clear hls HT HR
  go_wp2_with fail
  refine Af (Ag rfl _ _ _) rfl ⟨rfl,L,S3.out,T3.out⟩
 |some e=>
  rw[hls]at HT
  obtain⟨hy,rfl⟩:=HT.out.some'
  have hls2:lst (setA s.asked q (stA q c)) (stA q c) (setA s.asked q (stA q c)).length=some e:=by rw[HSA.out,HKL.out];exact hls
  obtain⟨l1,o,l2,hu,hos,hpc⟩:=HK.out.early hls2
  have hr:r=Co.back {s with asked:=k} y0 o.pc:=by rw[HR.out,zdt HSA.out (by rw[HKL.out];exact hls),hpc,hy]
  have HR2:Hid (r=Co.back {s with asked:=k} y0 o.pc):=hr
  have HOS:Hid (o.seq=y0):=hos.trans hy.symm
  have HU:Hid (s.under=l1++o::l2):=hu
  obtain⟨j,hj⟩:∃j,j=l1.length:=⟨_,rfl⟩
  have hjl:j<s.under.length:=by rw[hu,hj];simp
  have CF:Hid (∀W,Below V3.heap.size V3 W->Calls prog 58 #[.pointer (some ⟨b,0,none⟩),.int .i64 y0] W fun e w'=>e=.returned (.int .i64 (j:Int))/\Below W.heap.size W w'):=fun W hW=>by
   have:=qO (S3.out.below hW) y0 j (by show FirstD _ s.under j;rw[<-HOS.out,hj];exact jP hu HK.out.back.bk.rise) (by show s.under.length<=_;have:=HK.out.back.lenU;omega)
   rw[if_pos (show j<({s with asked:=k}:Cr).under.length from hjl)]at this
   exact this
  have CB:Hid (∀W,Below V3.heap.size V3 W->Calls prog 128 #[.pointer (some ⟨b,0,none⟩),.int .i64 y0,.int .u32 o.pc] W fun e w'=>e=.returned (.tuple #[])/\∃L',St N w' b r L'/\To b W L w' L'):=fun W hW=>by
   rw[hr]
   exact vS (S3.out.below hW) (HK.out.back.asks (by rw[HKL.out];omega)) y0 o.pc
  obtain⟨ug,uo,uc,euv,huc,_,hug,hucs,_⟩:=S3.out.its.iu.at (show 0<s.under.length by omega)
  obtain⟨un,hun⟩:∃un,un=s.under.length:=⟨_,rfl⟩
  have k334:V3.cell? ⟨b,334,none⟩=some (.slice (some ⟨ug,uo,none⟩) un uc):=(zd S3.out.row (by omega)).trans (congrArg some (by rw[hun];exact euv))
  have cpc:V3.cell? ⟨ug,uo+j*28+1,none⟩=some (.int .u32 o.pc):=by
   rw[Ar]
   exact hucs _ _ (qF zF (l:=s.under) (k:=j) (x:=o) (by rw[hu,hj];simp) rfl)
  have j0:0<=(j:Int):=by omega
  have j1:(j:Int)<(un:Int):=by omega
  clear hls HT HR hls2 hu hos hpc hr hj hjl euv hucs hug hun hy huc
  go_upto_region 5 with fail
  refine zq (S:=fun w'=>w'.cell? ⟨b,334,none⟩=some (.slice (some ⟨ug,uo,none⟩) un uc)/\w'.cell? ⟨ug,uo+j*28+1,none⟩=some (.int .u32 o.pc)) [12] (by kernel_rfl) (⟨k334,cpc⟩) (fun hH=>?_)
  refine tU 0 (.pointer (some ⟨b,0,none⟩)) ?_;go_simp
  refine tU 1 (.int .i64 y0) ?_;go_simp
  refine tU 2 (.pointer (some ⟨b,0,none⟩)) ?_;go_simp
  refine tU 3 (.pointer (some ⟨b,0,none⟩)) ?_;go_simp
  refine tU 4 (.pointer (some ⟨b,334,none⟩)) ?_;go_simp
  refine tU 6 (.pointer (some ⟨b,0,none⟩)) ?_;go_simp
  refine tU 7 (.int .i64 y0) ?_;go_simp
  refine rZ [5,8] ?_
  refine(zi.cons rfl (fun K hK=>?_) (zi.cons rfl (fun K hK=>?_) zi.nil))
  ·have hc:=hH.1
   go_simp
   clear hc
   refine hK.out _ _ (hH) (fun hN=>?_)
   clear hK K hH
   have hH:=hN
   clear hN
   try go_simp
   refine zC 8 rfl (fun K hK=>?_)
   go_simp
   refine(CF.out _ ((Ad _ _).drew)).mono ?_
   rintro e V4 ⟨rfl,hk4⟩
   have HK4:Hid (Below V3.heap.size V3 V4):=zg hk4 (Aa _)
   go_wp2_with fail
   refine hK.out _ _ (⟨zn hk4 (hH.1),zn hk4 (hH.2)⟩) (fun hN=>?_)
   clear hK K hH
   have hH:=hN
   clear hN
   try go_simp
   refine tU 9 (.pointer (some ⟨ug,uo+j*28,none⟩)) ?_;go_simp
   refine tU 10 (.pointer (some ⟨ug,uo+j*28+1,none⟩)) ?_;go_simp
   refine tB 11 (.int .u32 o.pc) ?_;go_simp
   refine zL 12 rfl (fun K hK=>?_)
   go_simp
   refine(CB.out _ HK4.out).mono ?_
   rintro e V5 ⟨rfl,L5,u1,u2⟩
   have S5:Hid (St N V5 b r L5):=u1
   have T5:Hid (To b w L V5 L5):=(T3.out.trans (ze L HK4.out)).trans u2
   clear u1 u2
   go_wp2_with fail
   refine hK.out _ _ ?_
   clear hK K
   try go_simp
   refine zE (by kernel_rfl) ?_ _
   clear hH
   go_wp2_with fail
   refine Af (Ag rfl _ _ _) rfl ⟨rfl,L5,S5.out,T5.out⟩
  ·go_simp
   refine(CF.out _ ((Ad _ _).drew)).mono ?_
   rintro e V4 ⟨rfl,hk4⟩
   have HK4:Hid (Below V3.heap.size V3 V4):=zg hk4 (Aa _)
   go_wp2_with fail
   refine hK.out _ _ (⟨zn hk4 (hH.1),zn hk4 (hH.2)⟩) (fun hN=>?_)
   clear hK K hH
   have hH:=hN
   clear hN
   try go_simp
   refine zC 5 rfl (fun K hK=>?_)
   have hc:=hH.1
   go_simp
   clear hc
   refine hK.out _ _ (hH) (fun hN=>?_)
   clear hK K hH
   have hH:=hN
   clear hN
   try go_simp
   refine tU 9 (.pointer (some ⟨ug,uo+j*28,none⟩)) ?_;go_simp
   refine tU 10 (.pointer (some ⟨ug,uo+j*28+1,none⟩)) ?_;go_simp
   refine tB 11 (.int .u32 o.pc) ?_;go_simp
   refine zL 12 rfl (fun K hK=>?_)
   go_simp
   refine(CB.out _ HK4.out).mono ?_
   rintro e V5 ⟨rfl,L5,u1,u2⟩
   have S5:Hid (St N V5 b r L5):=u1
   have T5:Hid (To b w L V5 L5):=(T3.out.trans (ze L HK4.out)).trans u2
   clear u1 u2
   go_wp2_with fail
   refine hK.out _ _ ?_
   clear hK K
   try go_simp
   refine zE (by kernel_rfl) ?_ _
   clear hH
   go_wp2_with fail
   refine Af (Ag rfl _ _ _) rfl ⟨rfl,L5,S5.out,T5.out⟩
end Go.Proofs.YtpiohehijkpghacGreatDoor.Co
