/- slices.Contains of numbers; what goes with a commit: the program. -/
import Derived.Test.YtpiohehijkpghacGreatDoorE06
open Array renaming getElem?_eq_some_iff->Av,length_toList->Ax,toArray_toList->AE
open Bool renaming false_eq_true->Az
open Go renaming results_none->Ab,bodyPost_end->Ad,yieldsIf_load_mid->Af,wpList_load_mid->Ak,wp_store_mid->Ao,wpList_store_row->Aw,wpList_load_row->Ay,cell_of_row->AJ,frozen_of_row->AL
open Go.Code renaming wp->AB
open Go.Instr renaming makeFunc->AP
open Go.RowKit.Below renaming refl->Aj,heap_alloc->AT
open Go.Value renaming slice->WZ
open Go.World renaming block_lt_of_cell?->Ag,setRow_alloc_new->Aq,cell?_of_block->Ar
open Go.World.grownBy renaming refl->AW
open Int renaming eq_ofNat_of_zero_le->An
open List renaming getElem?_eq_some_iff->Ae,take_of_length_le->Ah,getElem?_eq_getElem->Ai,length_take->WY,drop_eq_nil_of_le->Au,length_filter_le->AC,eq_nil_of_length_eq_zero->AF,length_append->AH,mem_cons_self->AI,append_assoc->AK,length_map->AN,foldl_cons->AO,mem_append_left->AQ,mem_map->AR,length_cons->AS,append_nil->AU,mem_append->AV
open Nat renaming le_refl->Aa,add_assoc->Am,le_trans->AA,min_eq_right->AD,min_eq_left->AG,le_total->AM
open Option.some renaming inj->Ap
set_option maxHeartbeats 8000000
set_option maxRecDepth 20000
set_option linter.unusedSimpArgs false
set_option linter.unusedVariables false
open Go.Proofs.Tryz
namespace Go.Proofs.YtpiohehijkpghacGreatDoor.Co
open Go.RowKit
open Hy
open Wi Od Re.Hy
open Gu.Hy (Tb tcs)
theorem St.setSlots0{N:Nat}{w:World}{b:Nat}{s:Cr}{L:Sls}(S:St N w b s L){l:List Sl}{a:Option Addr}{c:Nat}(hl:LC w a l.length c 2 (scs l))(hs:0<l.length->∀x,a=some x->¬own b L x.block):
  St N (w.setCell ⟨b,333,none⟩ (.slice a l.length c)) b {s with slots:=l} {L with s:=.slice a l.length c}/\To b w L (w.setCell ⟨b,333,none⟩ (.slice a l.length c)) {L with s:=.slice a l.length c}:=by
 refine⟨St.cell S.row (S.its.setS (l:=l) ⟨_,_,rfl,hl⟩ (λg hg h0=>?_)) 333 _ (λj hj=>zn7 s L _ j hj),jQ w 333 _ (λg hg=>.inl hg)⟩
 cases a with
 |none=>cases hg
 |some x=>exact(Ap hg)▸hs h0 x rfl
theorem zmU{Φ:World->Prop}(w:World)(z o:Dg)(h:∀V,Bx V w.heap.size o->Below w.heap.size w V->Φ V):Φ ((w.alloc (.cells (dgl z).toArray 132)).setCells w.heap.size 0 (dgl o)):=by
 obtain⟨h1,h2⟩:=zig w z o
 exact h _ h1 h2
theorem zkh{w V W:World}{z o:Dg}(h:Below (w.alloc (.cells (dgl z).toArray 132)).heap.size (w.alloc (.cells (dgl z).toArray 132)) V)(hW:W=V.setCells w.heap.size 0 (dgl o)):Bx W w.heap.size o/\Below w.heap.size w W:=by
 subst hW
 have hB:Bx (w.alloc (.cells (dgl z).toArray 132)) w.heap.size z:=heap_alloc_new w _
 have hB2:Bx V w.heap.size z:=hB.below h
 have h2:=Bx.puts hB2 0 (dgl o) (by rw[zH];omega) (o':=o) (by unfold ov;rw[zH];rfl)
 have h0:Below w.heap.size w (w.alloc (.cells (dgl z).toArray 132)):=(Aj _ _).alloc (Aa _) _
 have h3:Below w.heap.size w V:=h0.trans (h.mono h0.size)
 have hg:=zF V w.heap.size 0 (dgl o)
 exact⟨h2,hg.os.trans h3.os,hg.tape.trans h3.tape,hg.output.trans h3.output,AA h3.size hg.size,λg hgl=>(hg.block g (by have:=h3.size;omega) (λe=>by have:=Ap e;omega)).trans (h3.block g hgl)⟩
structure BkI(N:Nat)(w:World)(b:Nat)(L:Sls)(s:Cr)(m:Nat->Int)(l1 l2:List Dg)(q:Int)(z:Nat)(a1:Option Addr)(c1:Nat)(ss:List Sl)(a2:Option Addr)(c2:Nat)(qs:List Int)(wr:World)(la t:List Dg)(L':Sls):Prop where
 st:St N wr b (unS s m (l1++la) t) L'
 tt:To b w L wr L'
 lc1:LC wr a1 ss.length c1 2 (scs ss)
 f1:0<ss.length->∀x,a1=some x->¬own b L' x.block
 lc2:LC wr a2 qs.length c2 1 (ics qs)
 f2:0<qs.length->∀x,a2=some x->¬own b L' x.block
 cz:wr.cell? ⟨z,0,none⟩=some (.int .i64 q)
 nz:¬own b L' z
theorem BkI.move{N:Nat}{w:World}{b:Nat}{L:Sls}{s:Cr}{m:Nat->Int}{l1 l2:List Dg}{q:Int}{z:Nat}{a1:Option Addr}{c1:Nat}{ss:List Sl}{a2:Option Addr}{c2:Nat}{qs:List Int}{wr:World}{la t:List Dg}{L':Sls}(h:BkI N w b L s m l1 l2 q z a1 c1 ss a2 c2 qs wr la t L'){W:World}{L2:Sls}{la2 t2:List Dg}(T:To b wr L' W L2)(S:St N W b (unS s m (l1++la2) t2) L2):BkI N w b L s m l1 l2 q z a1 c1 ss a2 c2 qs W la2 t2 L2:=by
 refine⟨S,h.tt.trans T,?_,λh0=>zdK h.lc1 T h0 (h.f1 h0),?_,λh0=>zdK h.lc2 T h0 (h.f2 h0),jy h.cz T h.nz,qp T.fresh h.nz (Ag _ _ h.cz)⟩
 ·exact qM h.lc1 T.size λh0 x hx=>by
   obtain⟨g,o,e,hlt,_⟩:=h.lc1.ad x hx h0
   subst e
   exact T.block g hlt (h.f1 h0 _ hx)
 ·exact qM h.lc2 T.size λh0 x hx=>by
   obtain⟨g,o,e,hlt,_⟩:=h.lc2.ad x hx h0
   subst e
   exact T.block g hlt (h.f2 h0 _ hx)
theorem zad{N:Nat}{w:World}{b:Nat}{s:Cr}{L:Sls}(S:St N w b s L){m:Nat->Int}(K:BackOk s m)(q pc:Int):
  Calls prog 128 #[.pointer (some ⟨b,0,none⟩),.int .i64 q,.int .u32 pc] w λe w'=>e=.returned (.tuple #[])/\∃L',St N w' b (back s q pc) L'/\To b w L w' L':=by
 have hmf:∀(fn:Fn) (first cap:Array Value) (w:World),(AP fn first cap).run prog w=.ok (.func fn first cap) w:=λ_ _ _ _=>rfl
 obtain⟨l1,l2,hu,h1,h2⟩:=xy q K.bk.rise
 have HBK:Hid (back s q pc={unS s m l1 l2 with slots:=l1.map slot,under:=s.under.filter (λo=>!decide (q<=o.seq)),asked:=s.asked.filter (λa=>!decide (q<=a.seq)),bck:=if l2=[]then s.bck else s.bck+1,fro:=pc,opn:=true}):=zmT K hu pc h1 h2
 obtain⟨cq,cs⟩:=zmS K hu h1 h2
 obtain⟨r,hr⟩:∃r,r=back s q pc:=⟨_,rfl⟩
 rw[<-hr]at HBK⊢
 obtain⟨ss,hss⟩:∃ss,ss=l1.map slot:=⟨_,rfl⟩
 obtain⟨qs,hqs⟩:∃qs,qs=(l2.map (·.seq)).reverse:=⟨_,rfl⟩
 have HQS:Hid (qs=(l2.map (·.seq)).reverse):=hqs
 have HQL:Hid (qs.length=l2.length):=by show _=_;rw[hqs];simp
 rw[<-hss]at HBK cs
 rw[<-hqs]at cq
 have HK:Hid (BackOk s m):=K
 have HU:Hid (s.under=l1++l2):=hu
 have hlen:qs.length<=1000:=by have:=K.lenU;rw[hu,AH]at this;have:=HQL.out;omega
 clear hr hss hqs h1 h2 hu K
 go_enter func128,ntmps128
 go_upto_region 1 with fail
 refine Wi.zh (Φ:=λW=>AB _ _ _ _ W) ?_
 intro V hV hVb
 have cz:V.cell? ⟨w.heap.size,0,none⟩=some (.int .i64 q):=by rw[AJ _ _ _ _ _ _ hV];rfl
 have SV:Hid (St N V b s L):=S.below hVb
 have TV:Hid (To b w L V L):=zf L hVb
 have HZ:Hid (¬own b L w.heap.size):=λh=>by have:=qR S h;omega
 clear hV hVb S
 generalize w.heap.size=z at*
 obtain⟨a0,c0,ea,hl0⟩:=SV.out.its.isl
 have k333:V.cell? ⟨b,333,none⟩=some (.slice a0 s.slots.length c0):=(zd SV.out.row (by omega)).trans (congrArg some ea)
 have CC:Hid (∀W,Below V.heap.size V W->Calls prog 161 #[.slice a0 s.slots.length c0,.int .i64 q] W λe w'=>(∃a1 c1 a2 c2,e=.returned (.tuple #[.slice a1 ss.length c1,.slice a2 qs.length c2])/\LC w' a1 ss.length c1 2 (scs ss)/\FarC W.heap.size a1/\LC w' a2 qs.length c2 1 (ics qs)/\FarC W.heap.size a2)/\Below W.heap.size W w'):=λW hW=>by
  have:=cCut SV.out q (by rw[HK.out.bk.slo,AN];have:=HK.out.lenU;omega) W hW
  rw[ea,cs,cq]at this
  exact this
 clear hl0 ea cs cq
 refine zu (S:=λw'=>w'.cell? ⟨b,333,none⟩=some (.slice a0 s.slots.length c0)/\w'.cell? ⟨z,0,none⟩=some (.int .i64 q)) [] (by kernel_rfl) (⟨k333,cz⟩) (λhH=>?_)
 refine tU 0 (.pointer (some ⟨b,0,none⟩)) ?_;go_simp
 refine tU 1 (.pointer (some ⟨b,0,none⟩)) ?_;go_simp
 refine tU 2 (.pointer (some ⟨b,333,none⟩)) ?_;go_simp
 refine tA 3 (.slice a0 s.slots.length c0) ?_;go_simp
 refine tB 4 (.int .i64 q) ?_;go_simp
 refine zC 5 rfl (λK hK=>?_)
 go_simp
 refine(CC.out _ ((Aj _ _).drew)).mono ?_
 rintro e V1 ⟨⟨a1,c1,a2,c2,rfl,hl1,hf1,hl2,hf2⟩,hk⟩
 have HK1:Hid (Below V.heap.size V V1):=zg hk (Aa _)
 have HL:Hid ((LC V1 a1 ss.length c1 2 (scs ss)/\FarC V.heap.size a1)/\LC V1 a2 qs.length c2 1 (ics qs)/\FarC V.heap.size a2):=⟨⟨hl1,hf1⟩,hl2,hf2⟩
 clear hl1 hf1 hl2 hf2
 go_wp2_with fail
 refine hK.out _ _ (⟨zn hk (hH.1),zn hk (hH.2)⟩) (λhN=>?_)
 clear hK K hH
 have hH:=hN
 clear hN
 try go_simp
 refine tU 6 (.tuple #[.slice a1 ss.length c1,.slice a2 qs.length c2]) ?_;go_simp
 refine tU 7 (.slice a1 ss.length c1) ?_;go_simp
 refine tU 8 (.slice a2 qs.length c2) ?_;go_simp
 refine tU 9 (.slice a1 ss.length c1) ?_;go_simp
 refine tU 10 (.slice a2 qs.length c2) ?_;go_simp
 refine zG (by kernel_rfl) ?_ _
 have I0:Hid (BkI N w b L s m l1 l2 q z a1 c1 ss a2 c2 qs V1 l2 [] L):=by
  refine⟨?_,TV.out.trans (zf L HK1.out),HL.out.1.1,λ_=>ja SV.out (Aa _) HL.out.1.2,HL.out.2.1,λ_=>ja SV.out (Aa _) HL.out.2.2,zn HK1.out cz,HZ.out⟩
  rw[<-HU.out,zil HK.out]
  exact SV.out.below HK1.out
 clear hH CC k333 cz HL HK1 SV TV HZ hk
 go_wp2_with fail
 go_loopw [22] (λi wr=>∃k:Nat,k<=qs.length/\i=.int .i64 (k:Int)/\Hid (∃la t L',l2=la++t/\t.length=k/\BkI N w b L s m l1 l2 q z a1 c1 ss a2 c2 qs wr la t L'))
  (λi _=>qs.length-(intOf i).toNat)
 case atStart=>exact⟨0,by omega,rfl,l2,[],L,(AU _).symm,rfl,I0.out⟩
 case round=>
  obtain⟨k,hk,rfl,la',t,L',hlt',htk,I1⟩:=hrel
  clear I0
  by_cases hlt:k<qs.length
  ·obtain⟨la,o,t0,e1,e2,e3⟩:=rev_at (show k<l2.length by rw[<-HQL.out];exact hlt)
   have e4:la'=la++[o]/\t=t0:=by
    have h:la'++t=(la++[o])++t0:=by rw[<-hlt',e1];simp
    exact List.append_inj' h (by rw[htk,e2])
   obtain⟨rfl,rfl⟩:=e4
   have HI:Hid (BkI N w b L s m l1 l2 q z a1 c1 ss a2 c2 qs wr (la++[o]) t L'):=I1
   have HU2:Hid (s.under=(l1++la)++o::t):=by show _=_;rw[HU.out,e1,AK]
   have HE1:Hid (l2=la++o::t):=e1
   obtain⟨g2,o2,ea2,hg2,hc2⟩:=I1.lc2.sure (by omega)
   have cs:wr.cell? ⟨g2,o2+k,none⟩=some (.int .i64 o.seq):=hc2 k _ (jV (by rw[HQS.out];exact e3))
   subst ea2
   obtain⟨u,hu⟩:∃u,u=unS s m (l1++(la++[o])) t:=⟨_,rfl⟩
   have SU:Hid (St N wr b u L'):=by rw[hu];exact I1.st
   have hun:u.under=s.under:=by rw[hu];rfl
   have HUU:Hid (u=unS s m (l1++(la++[o])) t):=hu
   have hj:s.under[(l1++la).length]?=some o:=by rw[HU2.out];simp
   obtain⟨j,hjj⟩:∃j,j=(l1++la).length:=⟨_,rfl⟩
   have hjl:j<u.under.length:=by rw[hun,HU2.out,hjj];simp
   have CF:Hid (∀W,Below wr.heap.size wr W->Calls prog 58 #[.pointer (some ⟨b,0,none⟩),.int .i64 o.seq] W λe w'=>e=.returned (.int .i64 (j:Int))/\Below W.heap.size W w'):=λW hW=>by
    have:=qS (SU.out.below hW) o.seq j (by rw[hun,hjj];exact jS HU2.out HK.out.bk.rise) (by rw[hun];have:=HK.out.lenU;omega)
    rw[if_pos hjl]at this
    exact this
   obtain⟨ug,uo,uc,euv,huc,_,hug,hucs,_⟩:=SU.out.its.iu.at (by omega)
   have k334:wr.cell? ⟨b,334,none⟩=some (.slice (some ⟨ug,uo,none⟩) u.under.length uc):=(zd SU.out.row (by omega)).trans (congrArg some euv)
   have HR:Hid (wr.rangeAt ug (uo+j*28) (dgl o)):=by
    intro i v hv
    rw[Am]
    exact hucs _ _ (qK zH (by rw[hun,hjj];exact hj) hv)
   have hj0:0<=(j:Int):=by omega
   have hj1:(j:Int)<(u.under.length:Int):=by omega
   obtain⟨un,hunl⟩:∃un,un=u.under.length:=⟨_,rfl⟩
   rw[<-hunl]at k334 hj1 hjl huc
   have HTK:Hid (t.length=k):=htk
   clear I1 hlt' e1 e2 e3 hc2 hg2 hu hun hj hjj hucs euv hunl hug htk
   go_upto_region 5 with fail
   apply keyed
   ·intro key
    refine zu (S:=λw'=>w'.cell? ⟨b,334,none⟩=some (.slice (some ⟨ug,uo,none⟩) un uc)/\w'.rangeAt ug (uo+j*28) (dgl o)) [10] (by kernel_rfl) (⟨k334,HR.out⟩) (λhH=>?_)
    refine tU 0 (.pointer (some ⟨b,0,none⟩)) ?_;go_simp
    refine tU 1 (.pointer (some ⟨b,0,none⟩)) ?_;go_simp
    refine tU 2 (.pointer (some ⟨b,334,none⟩)) ?_;go_simp
    refine tA 3 (.slice (some ⟨ug,uo,none⟩) un uc) ?_;go_simp
    refine tU 4 (.pointer (some ⟨b,0,none⟩)) ?_;go_simp
    refine tU 5 (.int .i64 o.seq) ?_;go_simp
    refine rZ [6,9] ?_
    refine(zj.cons rfl (λK hK=>?_) (zj.cons rfl (λK hK=>?_) zj.nil))
    ·go_simp
     refine(CF.out _ ((Aj _ _).drew)).mono ?_
     rintro e V2 ⟨rfl,hk2⟩
     go_wp2_with fail
     refine hK.out _ _ (⟨zn hk2 (hH.1),xk hk2 (hH.2)⟩) (λhN=>?_)
     clear hK K hH
     have hH:=hN
     clear hN
     try go_simp
     refine tU 7 (.pointer (some ⟨ug,uo+j*28,none⟩)) ?_;go_simp
     refine tS 8 (.agg (dgl o).toArray) rfl (Af (by rfl) 132 _ rfl _ _ rfl (dgl o) _ (λwz hSw=>hSw.2) underlying132 rfl (zM o)) hH ?_;go_simp
     refine zC 9 rfl (λK hK=>?_)
     go_simp
     refine hK.out _ _ (⟨jG _ (hH.1),zcw _ (hH.2)⟩) (λhN=>?_)
     clear hK K hH
     have hH:=hN
     clear hN
     try go_simp
     refine zL 10 rfl (λK hK=>?_)
     rw[if_pos (by rfl)]
     refine Ao 132 _ _ rfl V2.heap.size 0 (dgl o).toArray rfl rfl (zcB V2 dg0) (zM o) (jd o) ?_
     refine hK.out _ _ ?_
     clear hK K
     try go_simp
     refine zG (by kernel_rfl) ?_ _
     refine zmU (Φ:=λW=>Exit.then _ _ _ _ W) V2 dg0 o ?_
     intro V3 b3 k3
     have k4:Below wr.heap.size wr V2:=zg hk2 (Aa _)
     have k5:Below wr.heap.size wr V3:=k4.trans (k3.mono k4.size)
     have k6:=k4.size
     obtain⟨zz,hzz⟩:∃zz,zz=V2.heap.size:=⟨_,rfl⟩
     rw[<-hzz]at b3 k6⊢
     exact zk7 (P:=λW p=>Bx W p o/\Below wr.heap.size wr W/\wr.heap.size<=p) key V3 zz ⟨b3,k5,k6⟩
    ·go_simp
     refine hK.out _ _ (⟨jG _ (hH.1),zcw _ (hH.2)⟩) (λhN=>?_)
     clear hK K hH
     have hH:=hN
     clear hN
     try go_simp
     refine zC 6 rfl (λK hK=>?_)
     go_simp
     refine(CF.out _ (((Aj _ _).drew).alloc (Aa _) _)).mono ?_
     rintro e V2 ⟨rfl,hk2⟩
     go_wp2_with fail
     refine hK.out _ _ (⟨zn hk2 (hH.1),xk hk2 (hH.2)⟩) (λhN=>?_)
     clear hK K hH
     have hH:=hN
     clear hN
     try go_simp
     refine tU 7 (.pointer (some ⟨ug,uo+j*28,none⟩)) ?_;go_simp
     refine tS 8 (.agg (dgl o).toArray) rfl (Af (by rfl) 132 _ rfl _ _ rfl (dgl o) _ (λwz hSw=>hSw.2) underlying132 rfl (zM o)) hH ?_;go_simp
     refine zL 10 rfl (λK hK=>?_)
     rw[if_pos (by rfl)]
     refine Ao 132 _ _ rfl wr.heap.size 0 (dgl o).toArray rfl rfl (Bx.there (o:=dg0) (Bx.below (w:=wr.drew.alloc (.cells (dgl dg0).toArray 132)) (heap_alloc_new _ _) hk2) 0 28 (by omega)) (zM o) (jd o) ?_
     refine hK.out _ _ ?_
     clear hK K
     try go_simp
     refine zG (by kernel_rfl) ?_ _
     obtain⟨V3,hV3⟩:∃V3,V3=V2.setCells wr.heap.size 0 (dgl o):=⟨_,rfl⟩
     obtain⟨b3,k3⟩:=zkh (w:=wr.drew) (z:=dg0) hk2 hV3
     rw[<-hV3]
     obtain⟨zz,hzz⟩:∃zz,zz=wr.heap.size:=⟨_,rfl⟩
     have b4:Bx V3 zz o:=by rw[hzz];exact b3
     have k4:Below wr.heap.size wr V3:=((Aj _ wr).drew).trans k3
     rw[<-hzz]
     exact zk7 (P:=λW p=>Bx W p o/\Below wr.heap.size wr W/\wr.heap.size<=p) key V3 zz ⟨b4,k4,by rw[hzz];exact Aa _⟩
   ·intro V3 zz hP
    obtain⟨b3,k3,hzz⟩:=hP
    have SU3:Hid (St N V3 b u L'):=SU.out.below k3
    have T3:Hid (To b wr L' V3 L'):=zf L' k3
    have B3:Hid (Bx V3 zz o):=b3
    have HZN:Hid (¬own b L' zz):=λh=>by have:=qR SU.out h;omega
    clear b3 k3 hzz CF k334 HR cs hj0 hj1 hjl huc SU
    obtain⟨kk,hkk⟩:∃kk,kk=o.rd:=⟨_,rfl⟩
    have c10:V3.cell? ⟨zz,10,none⟩=some (.int .i64 (kk:Int)):=zl B3.out 10 (by rw[hkk];rfl)
    have HKK:Hid (kk=o.rd):=hkk
    have HST:=zkg HK.out HU2.out
    rw[AK,<-hkk]at HST
    rw[<-HUU.out]at HST
    have HS0:Hid _:=HST
    clear hkk HST
    by_cases h0:kk=0
    ·have c10':V3.cell? ⟨zz,10,none⟩=some (.int .i64 0):=by rw[c10,h0];rfl
     have I2:Hid (BkI N w b L s m l1 l2 q z a1 c1 ss (some ⟨g2,o2,none⟩) c2 qs V3 la (o::t) L'):=HI.out.move T3.out (by rw[HS0.out.1 h0];exact SU3.out)
     have HT:Hid ((o::t).length=k+1):=by show _=_;rw[AS,HTK.out]
     clear c10 h0 HS0 HI SU3 T3
     go_wp2_with fail
     exact⟨⟨k+1,by omega,by go_num,la,o::t,L',HE1.out,HT.out,I2.out⟩,by simp[intOf];omega⟩
    ·have hb0:((kk:Int) != 0)=true:=by simp[h0]
     obtain⟨p1,p2,p3,p4,p5,p6⟩:=HS0.out.2 h0
     have CU:Hid (∀W,Below V3.heap.size V3 W->Calls prog 162 #[.agg (rowOf (mat u.phys u.regs L'.f) 34),.int .i64 (kk:Int),.int .i64 o.old] W λe w'=>(∃a c,e=.returned (.tuple #[.agg (rowOf (mat u.phys (up u.regs kk o.old) (.slice a (u.regs kk::u.free).length c)) 34),.bool true])/\Re.Lie w' a (u.regs kk::u.free).length c (λi=>(u.regs kk::u.free).getD i 0)/\FarC W.heap.size a)/\Below W.heap.size W w'):=λW hW=>by
      have hph:u.phys=s.phys:=by rw[HUU.out];rfl
      have:=zp0 SU3.out (by rw[HUU.out];exact zmR HK.out (by rw[HU2.out];simp)) kk h0 p1 o.old p2 (by rw[hph];exact p3) p4 p5 W hW
      rw[AE]at this
      exact this
     obtain⟨fl,hfl⟩:∃fl,fl=u.regs kk::u.free:=⟨_,rfl⟩
     have HP6:Hid (unS s m (l1++la) (o::t)={u with regs:=up u.regs kk o.old,free:=fl}):=by rw[hfl];exact p6
     rw[<-hfl]at CU
     have c12:V3.cell? ⟨zz,12,none⟩=some (.int .i64 o.old):=zl B3.out 12 rfl
     have HT:Hid ((o::t).length=k+1):=by show _=_;rw[AS,HTK.out]
     clear p1 p2 p3 p4 p5 p6 HS0 hfl h0
     go_upto_region 7 with fail
     refine zu (S:=λw'=>w'.rangeAt b 107 (mpL u L')/\w'.cell? ⟨zz,10,none⟩=some (.int .i64 (kk:Int))/\w'.cell? ⟨zz,12,none⟩=some (.int .i64 o.old)) [15] (by kernel_rfl) (⟨SU3.out.names,c10,c12⟩) (λhH=>?_)
     refine tU 0 (.pointer (some ⟨b,0,none⟩)) ?_;go_simp
     refine tU 1 (.pointer (some ⟨b,0,none⟩)) ?_;go_simp
     refine tU 2 (.pointer (some ⟨b,0,none⟩)) ?_;go_simp
     refine tU 3 (.pointer (some ⟨b,107,none⟩)) ?_;go_simp
     refine tS 4 (.agg (mpL u L').toArray) rfl (Af (by rfl) 59 _ rfl _ _ rfl (mpL u L') _ (λwz hSw=>hSw.1) underlying59 rfl (jg _ _ _)) hH ?_;go_simp
     refine tU 5 (.pointer (some ⟨zz,10,none⟩)) ?_;go_simp
     refine tS 6 (.int .i64 (kk:Int)) rfl (Or.inl ⟨by rfl,by intro wz hSw;have hc:=hSw.2.1;go_simp⟩) hH ?_;go_simp
     refine tU 7 (.pointer (some ⟨zz,12,none⟩)) ?_;go_simp
     refine tS 8 (.int .i64 o.old) rfl (Or.inl ⟨by rfl,by intro wz hSw;have hc:=hSw.2.2;go_simp⟩) hH ?_;go_simp
     refine zC 9 rfl (λK hK=>?_)
     go_simp
     refine(CU.out _ ((Aj _ _).drew)).mono ?_
     rintro e V4 ⟨⟨a4,c4,rfl,hl4,hf4⟩,hk4⟩
     have HK4:Hid (Below V3.heap.size V3 V4):=zg hk4 (Aa _)
     have HL4:Hid (Re.Lie V4 a4 fl.length c4 (λi=>fl.getD i 0)/\FarC V3.heap.size a4):=⟨hl4,hf4⟩
     clear hl4 hf4
     go_wp2_with fail
     refine hK.out _ _ (⟨xk hk4 (hH.1),zn hk4 (hH.2.1),zn hk4 (hH.2.2)⟩) (λhN=>?_)
     clear hK K hH
     have hH:=hN
     clear hN
     try go_simp
     have SU4:Hid (St N V4 b u L'):=SU3.out.below HK4.out
     obtain⟨s5,t5⟩:=SU4.out.setNames (up u.regs kk o.old) HL4.out.1 (ja SU3.out (Aa _) HL4.out.2)
     have S5:Hid (St N (V4.setCells b 107 (rowOf (mat u.phys (up u.regs kk o.old) (.slice a4 fl.length c4)) 34).toList) b (unS s m (l1++la) (o::t)) {L' with f:=.slice a4 fl.length c4}):=by rw[HP6.out];exact s5
     have T5:Hid (To b wr L' (V4.setCells b 107 (rowOf (mat u.phys (up u.regs kk o.old) (.slice a4 fl.length c4)) 34).toList) {L' with f:=.slice a4 fl.length c4}):=(T3.out.trans (zf L' HK4.out)).trans t5
     clear s5 t5
     refine tU 10 (.tuple #[.agg (rowOf (mat u.phys (up u.regs kk o.old) (.slice a4 fl.length c4)) 34),.bool true]) ?_;go_simp
     refine tU 11 (.agg (rowOf (mat u.phys (up u.regs kk o.old) (.slice a4 fl.length c4)) 34)) ?_;go_simp
     refine tU 12 (.bool true) ?_;go_simp
     refine tU 13 (.pointer (some ⟨b,0,none⟩)) ?_;go_simp
     refine tU 14 (.pointer (some ⟨b,107,none⟩)) ?_;go_simp
     refine zL 15 rfl (λK hK=>?_)
     rw[if_pos (by rfl)]
     refine Ao 59 _ _ rfl b 107 (rowOf (mat u.phys (up u.regs kk o.old) (.slice a4 fl.length c4)) 34) rfl rfl (by rw[ze];exact SU4.out.there 107 34 (by omega)) (by have:=jg u.phys (up u.regs kk o.old) (.slice a4 fl.length c4);rw[Ax]at this;exact this) (kK _ _ _ _ _) ?_
     refine hK.out _ _ ?_
     clear hK K
     try go_simp
     refine zG (by kernel_rfl) ?_ _
     have I2:=HI.out.move T5.out S5.out
     have I3:Hid _:=I2
     clear hH I2 SU4 S5 T5 SU3 T3 HL4 HK4 CU HP6 c10 c12 hb0 HI
     go_wp2_with fail
     exact⟨⟨k+1,by omega,by go_num,la,o::t,_,HE1.out,HT.out,I3.out⟩,by simp[intOf];omega⟩
  ·have hkl:k=l2.length:=by have:=HQL.out;omega
   have hla:la'=[]/\t=l2:=by
    have:la'.length=0:=by have:=congrArg List.length hlt';rw[AH]at this;omega
    obtain rfl:=AF this
    exact⟨rfl,hlt'.symm⟩
   obtain⟨rfl,rfl⟩:=hla
   have S1:Hid (St N wr b (unS s m l1 t) L'):=by have:=I1.st;rw[AU]at this;exact this
   have HI:Hid (BkI N w b L s m l1 t q z a1 c1 ss a2 c2 qs wr [] t L'):=I1
   clear I1 hlt' htk hkl
   have k333:wr.cell? ⟨b,333,none⟩=some L'.s:=(zd S1.out.row (by omega)).trans rfl
   have f333:=S1.out.frozen 333
   go_upto_region 10 with fail
   obtain⟨s2,t2⟩:=S1.out.setSlots0 HI.out.lc1 HI.out.f1
   have S2:Hid (St N (wr.setCell ⟨b,333,none⟩ (.slice a1 ss.length c1)) b {unS s m l1 t with slots:=ss} {L' with s:=.slice a1 ss.length c1}):=s2
   have T2:Hid (To b w L (wr.setCell ⟨b,333,none⟩ (.slice a1 ss.length c1)) {L' with s:=.slice a1 ss.length c1}):=HI.out.tt.trans t2
   have cz:(wr.setCell ⟨b,333,none⟩ (.slice a1 ss.length c1)).cell? ⟨z,0,none⟩=some (.int .i64 q):=jy HI.out.cz t2 HI.out.nz
   have nz:Hid (¬own b {L' with s:=.slice a1 ss.length c1} z):=HI.out.nz
   clear s2 t2 k333 f333 S1 HI
   generalize wr.setCell ⟨b,333,none⟩ (.slice a1 ss.length c1)=V2 at*
   generalize ({L' with s:=.slice a1 ss.length c1}:Sls)=L2 at*
   obtain⟨u2,hu2⟩:∃u2:Cr,u2={unS s m l1 t with slots:=ss}:=⟨_,rfl⟩
   rw[<-hu2]at S2
   have HU2:Hid (u2={unS s m l1 t with slots:=ss}/\u2.under=s.under/\u2.asked=s.asked/\u2.bck=s.bck):=by refine⟨hu2,?_,?_,?_⟩<;>rw[hu2]<;>rfl
   clear hu2
   have k334:V2.cell? ⟨b,334,none⟩=some L2.u:=(zd S2.out.row (by omega)).trans rfl
   obtain⟨ul,hul⟩:∃l,l=u2.under.filter (λo=>!decide (q<=o.seq)):=⟨_,rfl⟩
   have Hul:Hid (ul=u2.under.filter (λo=>!decide (q<=o.seq))):=hul
   have CD:Hid (Calls prog 163 #[L2.u,.func (.func 164) #[] #[.pointer (some ⟨z,0,none⟩)]] V2 λe w'=>∃v',e=.returned v'/\Us w' 132 28 v' (u2.under.filter (λo=>!decide (q<=o.seq))).length (flat dgl (u2.under.filter (λo=>!decide (q<=o.seq))))/\V2.grownBy w' L2.u.ownBlock/\v'.ownBlock=L2.u.ownBlock):=
    zdJ 164 z (λo=>decide (q<=o.seq)) zke (λW=>W.cell? ⟨z,0,none⟩=some (.int .i64 q)) S2.out.its.iu (by rw[HU2.out.2.1];have:=HK.out.lenU;omega)
     (λW W' h _ hb=>(Ar (w:=W) (a:=⟨z,0,none⟩) (hb z (Ag _ _ h) (λe=>nz.out (.inr (.inr (.inl e)))))).trans h) (λW o h=>zfY z q W o h) cz
   rw[<-hul]at CD
   clear hul
   go_wp2_with fail
   refine CD.out.mono ?_
   rintro e V3 ⟨v3,rfl,hU3,hG3,hO3⟩
   obtain⟨p3,d3,rfl⟩:=hU3.slice
   have k334b:V3.cell? ⟨b,334,none⟩=some L2.u:=(Ar (w:=V2) (a:=⟨b,334,none⟩) (hG3.block b S2.out.lt (λh=>(S2.out.apart.2.1 b h.symm).2.2 rfl))).trans k334
   have f334:V3.frozen? ⟨b,334,none⟩=false:=AL _ _ _ _ _ ((hG3.block b S2.out.lt (λh=>(S2.out.apart.2.1 b h.symm).2.2 rfl)).trans S2.out.row)
   have hH3:Hid ((Us V3 132 28 (.slice p3 ul.length d3) ul.length (flat dgl ul))/\V2.grownBy V3 L2.u.ownBlock/\(WZ p3 ul.length d3).ownBlock=L2.u.ownBlock):=⟨hU3,hG3,hO3⟩
   clear hU3 hG3 hO3 CD k334
   go_upto_region 11 with fail
   obtain⟨s4,t4⟩:=S2.out.newU _ hH3.out.1 hH3.out.2.1 (λg hg=>.inl (by rw[<-hH3.out.2.2];exact hg))
   have S4:Hid (St N (V3.setCell ⟨b,334,none⟩ (.slice p3 ul.length d3)) b {u2 with under:=ul} {L2 with u:=.slice p3 ul.length d3}):=s4
   have T4:Hid (To b w L (V3.setCell ⟨b,334,none⟩ (.slice p3 ul.length d3)) {L2 with u:=.slice p3 ul.length d3}):=T2.out.trans t4
   have cz4:(V3.setCell ⟨b,334,none⟩ (.slice p3 ul.length d3)).cell? ⟨z,0,none⟩=some (.int .i64 q):=jy cz t4 nz.out
   have nz4:Hid (¬own b {L2 with u:=.slice p3 ul.length d3} z):=qp t4.fresh nz.out (Ag _ _ cz)
   clear s4 t4 k334b f334 hH3 S2 T2 nz cz
   generalize V3.setCell ⟨b,334,none⟩ (.slice p3 ul.length d3)=V4 at*
   generalize ({L2 with u:=.slice p3 ul.length d3}:Sls)=L4 at*
   obtain⟨u4,hu4⟩:∃u4:Cr,u4={u2 with under:=ul}:=⟨_,rfl⟩
   rw[<-hu4]at S4
   have HU4:Hid (u4={u2 with under:=ul}/\u4.asked=s.asked/\u4.bck=s.bck):=⟨hu4,by rw[hu4];exact HU2.out.2.2.1,by rw[hu4];exact HU2.out.2.2.2⟩
   clear hu4
   have k335:V4.cell? ⟨b,335,none⟩=some L4.a:=(zd S4.out.row (by omega)).trans rfl
   obtain⟨al,hal⟩:∃l,l=u4.asked.filter (λo=>!decide (q<=o.seq)):=⟨_,rfl⟩
   have Hal:Hid (al=u4.asked.filter (λo=>!decide (q<=o.seq))):=hal
   have CD:Hid (Calls prog 53 #[L4.a,.func (.func 165) #[] #[.pointer (some ⟨z,0,none⟩)]] V4 λe w'=>∃v',e=.returned v'/\Us w' 135 7 v' (u4.asked.filter (λo=>!decide (q<=o.seq))).length (flat cel (u4.asked.filter (λo=>!decide (q<=o.seq))))/\V4.grownBy w' L4.a.ownBlock/\v'.ownBlock=L4.a.ownBlock):=
    xX 165 z (λo=>decide (q<=o.seq)) zkf (λW=>W.cell? ⟨z,0,none⟩=some (.int .i64 q)) S4.out.its.ia (by rw[HU4.out.2.1];have:=HK.out.lenA;omega)
     (λW W' h _ hb=>(Ar (w:=W) (a:=⟨z,0,none⟩) (hb z (Ag _ _ h) (λe=>nz4.out (.inr (.inr (.inr e)))))).trans h) (λW o h=>zfZ z q W o h) cz4
   rw[<-hal]at CD
   clear hal
   go_wp2_with fail
   refine CD.out.mono ?_
   rintro e V5 ⟨v5,rfl,hU5,hG5,hO5⟩
   obtain⟨p5,d5,rfl⟩:=hU5.slice
   have k335b:V5.cell? ⟨b,335,none⟩=some L4.a:=(Ar (w:=V4) (a:=⟨b,335,none⟩) (hG5.block b S4.out.lt (λh=>(S4.out.apart.2.2 b h.symm).2.2 rfl))).trans k335
   have f335:V5.frozen? ⟨b,335,none⟩=false:=AL _ _ _ _ _ ((hG5.block b S4.out.lt (λh=>(S4.out.apart.2.2 b h.symm).2.2 rfl)).trans S4.out.row)
   have hH5:Hid ((Us V5 135 7 (.slice p5 al.length d5) al.length (flat cel al))/\V4.grownBy V5 L4.a.ownBlock/\(WZ p5 al.length d5).ownBlock=L4.a.ownBlock):=⟨hU5,hG5,hO5⟩
   clear hU5 hG5 hO5 CD k335
   go_upto_region 12 with fail
   obtain⟨s6,t6⟩:=S4.out.newA _ hH5.out.1 hH5.out.2.1 (λg hg=>.inl (by rw[<-hH5.out.2.2];exact hg))
   have S6:Hid (St N (V5.setCell ⟨b,335,none⟩ (.slice p5 al.length d5)) b {u4 with asked:=al} {L4 with a:=.slice p5 al.length d5}):=s6
   have T6:Hid (To b w L (V5.setCell ⟨b,335,none⟩ (.slice p5 al.length d5)) {L4 with a:=.slice p5 al.length d5}):=T4.out.trans t6
   clear s6 t6 k335b f335 hH5 S4 T4 nz4 cz4
   generalize V5.setCell ⟨b,335,none⟩ (.slice p5 al.length d5)=V6 at*
   generalize ({L4 with a:=.slice p5 al.length d5}:Sls)=L6 at*
   obtain⟨u6,hu6⟩:∃u6:Cr,u6={u4 with asked:=al}:=⟨_,rfl⟩
   rw[<-hu6]at S6
   have HR:Hid (r={u6 with bck:=if t=[]then s.bck else s.bck+1,fro:=pc,opn:=true}):=by
    show _=_
    rw[HBK.out,hu6,Hal.out,HU4.out.2.1,HU4.out.1,Hul.out,HU2.out.2.1,HU2.out.1]
   have hb6:Hid (u6.bck=s.bck):=by show _=_;rw[hu6];exact HU4.out.2.2
   clear hu6 HU4 HU2 HBK
   have k337:∀x,(V6.setCell ⟨b,42,none⟩ x).cell? ⟨b,337,none⟩=some (.int .u32 u6.fro):=λx=>zj0 ((zd S6.out.row (by omega)).trans rfl) (by simp)
   have k337':V6.cell? ⟨b,337,none⟩=some (.int .u32 u6.fro):=(zd S6.out.row (by omega)).trans rfl
   have k338:V6.cell? ⟨b,338,none⟩=some (.bool u6.opn):=(zd S6.out.row (by omega)).trans rfl
   have f337:=S6.out.frozen 337
   have f338:=S6.out.frozen 338
   by_cases ht:t=[]
   ·have hq0:qs.length=0:=by rw[HQL.out,ht];rfl
    have hr:r={u6 with fro:=pc,opn:=true}:=by
     rw[HR.out,if_pos ht,<-hb6.out]
    have HR2:Hid (r={u6 with fro:=pc,opn:=true}):=hr
    clear hr HR ht k337
    rw[hq0]
    go_wp2_with fail
    refine Ad (Ab rfl _ _ _) rfl ⟨rfl,L6,?_⟩
    obtain⟨s7,t7⟩:=S6.out.setFro pc
    obtain⟨s8,t8⟩:=s7.setOpn true
    rw[HR2.out]
    exact⟨s8,(T6.out.trans t7).trans t8⟩
   ·have hq0:0<qs.length:=by rw[HQL.out];exact List.length_pos_iff.2 ht
    have hq1:(0:Int)<(qs.length:Int):=by omega
    have hr:r={u6 with bck:=s.bck+1,fro:=pc,opn:=true}:=by
     rw[HR.out,if_neg ht]
    have HR2:Hid (r={u6 with bck:=s.bck+1,fro:=pc,opn:=true}):=hr
    have k42:V6.cell? ⟨b,42,none⟩=some (.int .i64 s.bck):=(zd S6.out.row (by omega)).trans (congrArg some (by rw[<-hb6.out];rfl))
    have f42:=S6.out.frozen 42
    have b0:=HK.out.bck0
    have b1:=HK.out.bck1
    clear hr HR ht k337 k337' k338 f337 f338
    go_upto_region 14 with fail
    obtain⟨s7,t7⟩:=S6.out.setBck (s.bck+1)
    have S7:Hid (St N (V6.setCell ⟨b,42,none⟩ (.int .i64 (s.bck+1))) b {u6 with bck:=s.bck+1} L6):=s7
    have T7:Hid (To b w L (V6.setCell ⟨b,42,none⟩ (.int .i64 (s.bck+1))) L6):=T6.out.trans t7
    clear s7 t7 S6 T6 k42 f42 b0 b1
    generalize V6.setCell ⟨b,42,none⟩ (.int .i64 (s.bck+1))=V7 at*
    have k337:V7.cell? ⟨b,337,none⟩=some (.int .u32 u6.fro):=(zd S7.out.row (by omega)).trans rfl
    have k338:V7.cell? ⟨b,338,none⟩=some (.bool u6.opn):=(zd S7.out.row (by omega)).trans rfl
    have f337:=S7.out.frozen 337
    have f338:=S7.out.frozen 338
    go_wp2_with fail
    refine Ad (Ab rfl _ _ _) rfl ⟨rfl,L6,?_⟩
    obtain⟨s7,t7⟩:=S7.out.setFro pc
    obtain⟨s8,t8⟩:=s7.setOpn true
    rw[HR2.out]
    exact⟨s8,(T7.out.trans t7).trans t8⟩
def Cb(w:World)(p:Nat)(c:Cm):Prop:=w.heap[p]?=some (.cells (cC c) 68 (0,0))
theorem Cb.below{w w':World}{p:Nat}{c:Cm}(h:Cb w p c)(hb:Below w.heap.size w w'):Cb w' p c:=(hb.block p (Av.1 h).1).trans h
theorem Cb.lt{w:World}{p:Nat}{c:Cm}(h:Cb w p c):p<w.heap.size:=(Av.1 h).1
theorem Cb.to{b:Nat}{w w':World}{L L':Sls}{p:Nat}{c:Cm}(h:Cb w p c)(hT:To b w L w' L')(hp:¬own b L p):Cb w' p c:=(hT.block p h.lt hp).trans h
theorem Cb.not{b:Nat}{w w':World}{L L':Sls}{p:Nat}{c:Cm}(h:Cb w p c)(hT:To b w L w' L')(hp:¬own b L p):¬own b L' p:=qp hT.fresh hp h.lt
theorem qU{w:World}{p:Nat}{c:Cm}(h:Cb w p c)(j:Nat){v:Value}(hj:(cC c)[j]?=some v):w.cell? ⟨p,j,none⟩=some v:=by
 rw[AJ _ _ _ _ _ _ h]
 exact hj
theorem zim{w:World}{p:Nat}{c:Cm}(h:Cb w p c):w.rangeAt p 0 (cC c).toList:=λj v hj=>by
 rw[AJ _ _ _ _ _ _ h,Nat.zero_add,<-Array.getElem?_toList]
 exact hj
theorem zae(c:Cm):(prog.info? 68).map (·.size)=some (cC c).toList.length:=za
theorem zcF{N:Nat}{w:World}{b:Nat}{s:Cr}{L:Sls}(S:St N w b s L)(o:Dg)(c:Cm)(hto:c.rd≠0->0<=o.to/\o.to<96):
  Calls prog 127 #[.pointer (some ⟨b,0,none⟩),dgv o,cvC c] w λe w'=>e=.returned (.bool (jL s o c))/\St N w' b (jc s o c) L/\To b w L w' L:=by
 obtain⟨r,hr⟩:∃r,r=jL s o c:=⟨_,rfl⟩
 obtain⟨f,hf⟩:∃f,f=jc s o c:=⟨_,rfl⟩
 rw[<-hr,<-hf]
 have HR:Hid (r=jL s o c):=hr
 have HF:Hid (f=jc s o c):=hf
 clear hr hf
 go_enter func127,ntmps127
 go_upto_region 1 with fail
 refine Wi.jr (Φ:=λW=>AB _ _ _ _ W) ?_
 intro V h1 h2 hb hs
 have BV:Hid (Bx V w.heap.size o):=h1
 have CV:Hid (Cb V (w.heap.size+1) c):=h2
 have SV:Hid (St N V b s L):=S.below hb
 have TV:Hid (To b w L V L):=zf L hb
 have hqb:b≠w.heap.size:=by have:=S.lt;omega
 have hpb:b≠w.heap.size+1:=by have:=S.lt;omega
 clear h1 h2 hb hs S
 generalize w.heap.size+1=p at*
 generalize w.heap.size=q at*
 obtain⟨k,hk⟩:∃k,k=c.rd:=⟨_,rfl⟩
 have c4:V.cell? ⟨p,4,none⟩=some (.int .i64 (k:Int)):=qU CV.out 4 (by rw[hk];rfl)
 rw[<-hk]at hto
 have HKK:Hid (k=c.rd):=hk
 clear hk
 by_cases h0:k=0
 ·have hr:r=true:=by rw[HR.out];unfold jL;rw[<-HKK.out,h0];rfl
  have hf:f=s:=by rw[HF.out];unfold jc;rw[<-HKK.out,if_pos h0]
  subst hr hf
  have c4':V.cell? ⟨p,4,none⟩=some (.int .i64 0):=by rw[c4,h0];rfl
  clear c4 h0 HR HF hto
  go_wp2
  go_ret
  exact⟨rfl,SV.out,TV.out⟩
 ·have hb0:((k:Int)==0)=false:=by simp[h0]
  obtain⟨z,hz⟩:∃z:Nat,o.to=(z:Int):=An (hto h0).1
  have hz1:z<96:=by have:=(hto h0).2;omega
  have z0:0<=(z:Int):=by omega
  have z1:(z:Int)<96:=by omega
  have hf:f={s with wd:=upI s.wd (z:Int) c.val,th:=upB s.th (z:Int) true}:=by rw[HF.out];unfold jc;rw[<-HKK.out,if_neg h0,hz]
  have HR2:Hid (r=(!o.gs||decide (s.wd (z:Int)=c.val))):=by
   show _=_
   rw[HR.out]
   unfold jL
   rw[<-HKK.out,decide_eq_false h0,hz]
   rfl
  have HF2:Hid (f={s with wd:=upI s.wd (z:Int) c.val,th:=upB s.th (z:Int) true}):=hf
  have c11:V.cell? ⟨q,11,none⟩=some (.int .i64 (z:Int)):=zl BV.out 11 (by rw[<-hz];rfl)
  have c5:V.cell? ⟨p,5,none⟩=some (.int .u32 c.val):=qU CV.out 5 rfl
  have c14:V.cell? ⟨q,14,none⟩=some (.bool o.gs):=zl BV.out 14 rfl
  have cw:=SV.out.wrd z hz1
  have ct:=SV.out.thr z hz1
  have fw:=SV.out.frozen (141+z)
  have ft:=SV.out.frozen (237+z)
  obtain⟨x,hx⟩:∃x,x=s.wd (z:Int):=⟨_,rfl⟩
  obtain⟨y,hy⟩:∃y,y=c.val:=⟨_,rfl⟩
  rw[<-hx]at cw HR2
  rw[<-hy]at HF2 c5 HR2
  obtain⟨g,hg⟩:∃g,g=o.gs:=⟨_,rfl⟩
  rw[<-hg]at c14 HR2
  clear hf HR HF hto hz hx hy hg h0 HKK
  cases g with
  |false=>
   go_upto_region 3 with fail
   refine zu (S:=λw'=>w'.cell? ⟨q,14,none⟩=some (.bool false)) [] (by kernel_rfl) (c14) (λhH=>?_)
   refine tU 0 (.pointer (some ⟨q,14,none⟩)) ?_;go_simp
   refine tS 1 (.bool false) rfl (Or.inl ⟨by rfl,by intro wz hSw;have hc:=hSw;go_simp⟩) hH ?_;go_simp
   refine tU 2 (.bool true) ?_;go_simp
   refine tU 3 (.bool true) ?_;go_simp
   refine tX 4 undef rfl (Or.inr ⟨by rfl,rfl⟩) hH ?_;go_simp
   refine tX 5 undef rfl (Or.inr ⟨by rfl,rfl⟩) hH ?_;go_simp
   refine tX 6 undef rfl (Or.inr ⟨by rfl,rfl⟩) hH ?_;go_simp
   refine tX 7 undef rfl (Or.inr ⟨by rfl,rfl⟩) hH ?_;go_simp
   refine tX 8 undef rfl (Or.inr ⟨by rfl,rfl⟩) hH ?_;go_simp
   refine tX 9 undef rfl (Or.inr ⟨by rfl,rfl⟩) hH ?_;go_simp
   refine tX 10 undef rfl (Or.inr ⟨by rfl,rfl⟩) hH ?_;go_simp
   refine tX 11 undef rfl (Or.inr ⟨by rfl,rfl⟩) hH ?_;go_simp
   refine tX 12 undef rfl (Or.inr ⟨by rfl,rfl⟩) hH ?_;go_simp
   refine tX 13 undef rfl (Or.inr ⟨by rfl,rfl⟩) hH ?_;go_simp
   refine tU 14 (.bool true) ?_;go_simp
   refine tU 15 (.bool true) ?_;go_simp
   refine zG (by kernel_rfl) ?_ _
   clear hH
   go_upto_region 4 with fail
   refine zu (S:=λw'=>w'.cell? ⟨q,11,none⟩=some (.int .i64 (z:Int))/\w'.cell? ⟨p,5,none⟩=some (.int .u32 y)) [15] (by kernel_rfl) (⟨c11,c5⟩) (λhH=>?_)
   refine tU 0 (.pointer (some ⟨b,0,none⟩)) ?_;go_simp
   refine tU 1 (.pointer (some ⟨q,11,none⟩)) ?_;go_simp
   refine tA 2 (.int .i64 (z:Int)) ?_;go_simp
   refine tU 3 (.pointer (some ⟨b,0,none⟩)) ?_;go_simp
   refine tU 4 (.pointer (some ⟨q,11,none⟩)) ?_;go_simp
   refine tA 5 (.int .i64 (z:Int)) ?_;go_simp
   refine tU 6 (.pointer (some ⟨p,5,none⟩)) ?_;go_simp
   refine tB 7 (.int .u32 y) ?_;go_simp
   refine tU 8 (.pointer (some ⟨b,0,none⟩)) ?_;go_simp
   refine tU 9 (.pointer (some ⟨b,141,none⟩)) ?_;go_simp
   refine tU 10 (.pointer (some ⟨b,141+z,none⟩)) ?_;go_simp
   refine tU 12 (.pointer (some ⟨b,0,none⟩)) ?_;go_simp
   refine tU 13 (.pointer (some ⟨b,237,none⟩)) ?_;go_simp
   refine zC 11 rfl (λK hK=>?_)
   go_simp
   refine hK.out _ _ (⟨vU hH.1 hqb,vU hH.2 hpb⟩) (λhN=>?_)
   clear hK K hH
   have hH:=hN
   clear hN
   try go_simp
   refine tU 14 (.pointer (some ⟨b,237+z,none⟩)) ?_;go_simp
   refine zL 15 rfl (λK hK=>?_)
   go_simp
   refine hK.out _ _ ?_
   clear hK K
   try go_simp
   refine zG (by kernel_rfl) ?_ _
   clear hH
   go_wp2
   go_ret
   obtain⟨s1,t1⟩:=SV.out.setWd z hz1 y
   obtain⟨s2,t2⟩:=s1.setTh z hz1 true
   have e1:=HF2.out
   have e2:=HR2.out
   refine⟨by rw[e2];rfl,by rw[e1];exact s2.dr.dr,((TV.out.trans t1).trans t2).dr.dr⟩
  |true=>
   by_cases hxy:x=y
   ·subst hxy
    go_upto_region 3 with fail
    refine zu (S:=λw'=>w'.cell? ⟨q,14,none⟩=some (.bool true)/\w'.cell? ⟨q,11,none⟩=some (.int .i64 (z:Int))/\w'.cell? ⟨b,141+z,none⟩=some (.int .u32 x)/\w'.cell? ⟨p,5,none⟩=some (.int .u32 x)) [] (by kernel_rfl) (⟨c14,c11,cw,c5⟩) (λhH=>?_)
    refine tU 0 (.pointer (some ⟨q,14,none⟩)) ?_;go_simp
    refine tA 1 (.bool true) ?_;go_simp
    refine tU 2 (.bool false) ?_;go_simp
    refine tU 3 (.bool false) ?_;go_simp
    refine tU 4 (.pointer (some ⟨b,0,none⟩)) ?_;go_simp
    refine tU 5 (.pointer (some ⟨q,11,none⟩)) ?_;go_simp
    refine tS 6 (.int .i64 (z:Int)) rfl (Or.inl ⟨by rfl,by intro wz hSw;have hc:=hSw.2.1;go_simp⟩) hH ?_;go_simp
    refine tU 7 (.pointer (some ⟨b,0,none⟩)) ?_;go_simp
    refine tU 8 (.pointer (some ⟨b,141,none⟩)) ?_;go_simp
    refine tU 9 (.pointer (some ⟨b,141+z,none⟩)) ?_;go_simp
    refine tS 10 (.int .u32 x) rfl (Or.inl ⟨by rfl,by intro wz hSw;have hc:=hSw.2.2.1;go_simp⟩) hH ?_;go_simp
    refine tU 11 (.pointer (some ⟨p,5,none⟩)) ?_;go_simp
    refine tS 12 (.int .u32 x) rfl (Or.inl ⟨by rfl,by intro wz hSw;have hc:=hSw.2.2.2;go_simp⟩) hH ?_;go_simp
    refine tU 13 (.bool true) ?_;go_simp
    refine tU 14 (.bool true) ?_;go_simp
    refine tU 15 (.bool true) ?_;go_simp
    refine zG (by kernel_rfl) ?_ _
    clear hH
    go_upto_region 4 with fail
    refine zu (S:=λw'=>w'.cell? ⟨q,11,none⟩=some (.int .i64 (z:Int))/\w'.cell? ⟨p,5,none⟩=some (.int .u32 x)) [15] (by kernel_rfl) (⟨c11,c5⟩) (λhH=>?_)
    refine tU 0 (.pointer (some ⟨b,0,none⟩)) ?_;go_simp
    refine tU 1 (.pointer (some ⟨q,11,none⟩)) ?_;go_simp
    refine tA 2 (.int .i64 (z:Int)) ?_;go_simp
    refine tU 3 (.pointer (some ⟨b,0,none⟩)) ?_;go_simp
    refine tU 4 (.pointer (some ⟨q,11,none⟩)) ?_;go_simp
    refine tA 5 (.int .i64 (z:Int)) ?_;go_simp
    refine tU 6 (.pointer (some ⟨p,5,none⟩)) ?_;go_simp
    refine tB 7 (.int .u32 x) ?_;go_simp
    refine tU 8 (.pointer (some ⟨b,0,none⟩)) ?_;go_simp
    refine tU 9 (.pointer (some ⟨b,141,none⟩)) ?_;go_simp
    refine tU 10 (.pointer (some ⟨b,141+z,none⟩)) ?_;go_simp
    refine tU 12 (.pointer (some ⟨b,0,none⟩)) ?_;go_simp
    refine tU 13 (.pointer (some ⟨b,237,none⟩)) ?_;go_simp
    refine zC 11 rfl (λK hK=>?_)
    go_simp
    refine hK.out _ _ (⟨vU hH.1 hqb,vU hH.2 hpb⟩) (λhN=>?_)
    clear hK K hH
    have hH:=hN
    clear hN
    try go_simp
    refine tU 14 (.pointer (some ⟨b,237+z,none⟩)) ?_;go_simp
    refine zL 15 rfl (λK hK=>?_)
    go_simp
    refine hK.out _ _ ?_
    clear hK K
    try go_simp
    refine zG (by kernel_rfl) ?_ _
    clear hH
    go_wp2
    go_ret
    obtain⟨s1,t1⟩:=SV.out.setWd z hz1 x
    obtain⟨s2,t2⟩:=s1.setTh z hz1 true
    have e1:=HF2.out
    have e2:=HR2.out
    refine⟨by rw[e2];simp,by rw[e1];exact s2.dr.dr,((TV.out.trans t1).trans t2).dr.dr⟩
   ·have hne:(x==y)=false:=by simpa using hxy
    go_upto_region 3 with fail
    refine zu (S:=λw'=>w'.cell? ⟨q,14,none⟩=some (.bool true)/\w'.cell? ⟨q,11,none⟩=some (.int .i64 (z:Int))/\w'.cell? ⟨b,141+z,none⟩=some (.int .u32 x)/\w'.cell? ⟨p,5,none⟩=some (.int .u32 y)) [] (by kernel_rfl) (⟨c14,c11,cw,c5⟩) (λhH=>?_)
    refine tU 0 (.pointer (some ⟨q,14,none⟩)) ?_;go_simp
    refine tA 1 (.bool true) ?_;go_simp
    refine tU 2 (.bool false) ?_;go_simp
    refine tU 3 (.bool false) ?_;go_simp
    refine tU 4 (.pointer (some ⟨b,0,none⟩)) ?_;go_simp
    refine tU 5 (.pointer (some ⟨q,11,none⟩)) ?_;go_simp
    refine tS 6 (.int .i64 (z:Int)) rfl (Or.inl ⟨by rfl,by intro wz hSw;have hc:=hSw.2.1;go_simp⟩) hH ?_;go_simp
    refine tU 7 (.pointer (some ⟨b,0,none⟩)) ?_;go_simp
    refine tU 8 (.pointer (some ⟨b,141,none⟩)) ?_;go_simp
    refine tU 9 (.pointer (some ⟨b,141+z,none⟩)) ?_;go_simp
    refine tS 10 (.int .u32 x) rfl (Or.inl ⟨by rfl,by intro wz hSw;have hc:=hSw.2.2.1;go_simp⟩) hH ?_;go_simp
    refine tU 11 (.pointer (some ⟨p,5,none⟩)) ?_;go_simp
    refine tS 12 (.int .u32 y) rfl (Or.inl ⟨by rfl,by intro wz hSw;have hc:=hSw.2.2.2;go_simp⟩) hH ?_;go_simp
    refine tU 13 (.bool false) ?_;go_simp
    refine tU 14 (.bool false) ?_;go_simp
    refine tU 15 (.bool false) ?_;go_simp
    refine zG (by kernel_rfl) ?_ _
    clear hH
    go_upto_region 4 with fail
    refine zu (S:=λw'=>w'.cell? ⟨q,11,none⟩=some (.int .i64 (z:Int))/\w'.cell? ⟨p,5,none⟩=some (.int .u32 y)) [15] (by kernel_rfl) (⟨c11,c5⟩) (λhH=>?_)
    refine tU 0 (.pointer (some ⟨b,0,none⟩)) ?_;go_simp
    refine tU 1 (.pointer (some ⟨q,11,none⟩)) ?_;go_simp
    refine tA 2 (.int .i64 (z:Int)) ?_;go_simp
    refine tU 3 (.pointer (some ⟨b,0,none⟩)) ?_;go_simp
    refine tU 4 (.pointer (some ⟨q,11,none⟩)) ?_;go_simp
    refine tA 5 (.int .i64 (z:Int)) ?_;go_simp
    refine tU 6 (.pointer (some ⟨p,5,none⟩)) ?_;go_simp
    refine tB 7 (.int .u32 y) ?_;go_simp
    refine tU 8 (.pointer (some ⟨b,0,none⟩)) ?_;go_simp
    refine tU 9 (.pointer (some ⟨b,141,none⟩)) ?_;go_simp
    refine tU 10 (.pointer (some ⟨b,141+z,none⟩)) ?_;go_simp
    refine tU 12 (.pointer (some ⟨b,0,none⟩)) ?_;go_simp
    refine tU 13 (.pointer (some ⟨b,237,none⟩)) ?_;go_simp
    refine zC 11 rfl (λK hK=>?_)
    go_simp
    refine hK.out _ _ (⟨vU hH.1 hqb,vU hH.2 hpb⟩) (λhN=>?_)
    clear hK K hH
    have hH:=hN
    clear hN
    try go_simp
    refine tU 14 (.pointer (some ⟨b,237+z,none⟩)) ?_;go_simp
    refine zL 15 rfl (λK hK=>?_)
    go_simp
    refine hK.out _ _ ?_
    clear hK K
    try go_simp
    refine zG (by kernel_rfl) ?_ _
    clear hH
    go_wp2
    go_ret
    obtain⟨s1,t1⟩:=SV.out.setWd z hz1 y
    obtain⟨s2,t2⟩:=s1.setTh z hz1 true
    have e1:=HF2.out
    have e2:=HR2.out
    refine⟨by rw[e2];simp[hxy],by rw[e1];exact s2.dr.dr,((TV.out.trans t1).trans t2).dr.dr⟩
structure SetOk(s:Cr)(m:Nat->Int)(q:Int)(c:Cm):Prop where
 back:BackOk s m
 uq:Uq s.asked
 ask:∀a∈s.asked,a.Ok
 has:∃a∈s.asked,(a.st&&decide (a.seq=q))=true
 of:∀a∈s.asked,∃o∈s.under,a.seq=o.seq
 c:CmR c
theorem BackOk.asks{s:Cr}{m:Nat->Int}(h:BackOk s m){k:List Ac}(hk:k.length<=10000000):BackOk {s with asked:=k} m:=
 ⟨⟨h.bk.olds,h.bk.reg,h.bk.rise,h.bk.slo⟩,h.dis,h.rd,h.low,h.high,h.lenU,hk,h.bck0,h.bck1⟩
theorem zdL{s:Cr}{q:Int}{c:Cm}{k:List Ac}(hk:setA s.asked q (stA q c)=k)(h:lst k (stA q c) k.length=none):settle s q c={s with asked:=k}:=by
 unfold settle
 simp only[hk,h]
theorem zdM{s:Cr}{q:Int}{c:Cm}{k:List Ac}{e:Int}(hk:setA s.asked q (stA q c)=k)(h:lst k (stA q c) k.length=some e):settle s q c=Co.back {s with asked:=k} e (pcOf s.under e):=by
 unfold settle
 simp only[hk,h]
theorem SetOk.early{s:Cr}{m:Nat->Int}{q:Int}{c:Cm}(h:SetOk s m q c){e:Int}(he:lst (setA s.asked q (stA q c)) (stA q c) (setA s.asked q (stA q c)).length=some e):∃l1 o l2,s.under=l1++o::l2/\o.seq=e/\pcOf s.under e=o.pc:=by
 obtain⟨⟨a,ha,hae,_⟩,_⟩:=kE he
 have ho:∃o∈s.under,a.seq=o.seq:=by
  obtain⟨p,hp,rfl⟩:=AR.1 ha
  split
  ·rename_i hc
   obtain⟨o,ho,e⟩:=h.of p hp
   exact⟨o,ho,by show q=o.seq;rw[<-e,hc.2]⟩
  ·exact h.of p hp
 obtain⟨o,ho,e2⟩:=ho
 obtain⟨l1,l2,hl⟩:=List.append_of_mem ho
 have hs:o.seq=e:=by rw[<-e2,hae]
 refine⟨l1,o,l2,hl,hs,?_⟩
 have hr:=h.back.bk.rise
 rw[hl]at hr
 rw[hl,<-hs]
 exact zhf hr
theorem zdN{N:Nat}{w:World}{b:Nat}{s:Cr}{L:Sls}(S:St N w b s L){m:Nat->Int}(q:Int)(c:Cm)(K:SetOk s m q c):
  Calls prog 126 #[.pointer (some ⟨b,0,none⟩),.int .i64 q,cvC c] w λe w'=>e=.returned (.tuple #[])/\∃L',St N w' b (settle s q c) L'/\To b w L w' L':=by
 have hmf:∀(fn:Fn) (first cap:Array Value) (w:World),(AP fn first cap).run prog w=.ok (.func fn first cap) w:=λ_ _ _ _=>rfl
 obtain⟨r,hr⟩:∃r,r=settle s q c:=⟨_,rfl⟩
 rw[<-hr]
 have HR:Hid (r=settle s q c):=hr
 have HK:Hid (SetOk s m q c):=K
 obtain⟨mi,hmi,hml⟩:=zib K.has
 have HM:Hid (FirstA (λa=>a.st&&decide (a.seq=q)) s.asked mi):=hmi
 obtain⟨k,hk⟩:∃k,k=s.asked.set mi (stA q c):=⟨_,rfl⟩
 have HSA:Hid (setA s.asked q (stA q c)=k):=by show _=_;rw[hk];exact zia K.uq hmi hml _
 obtain⟨hf1,hf2⟩:=zfS hmi hml (e:=stA q c) rfl rfl rfl
 rw[<-hk]at hf1 hf2
 have HF:Hid (FirstA (sto1 q) k mi/\k[mi]?=some (stA q c)):=⟨hf1,hf2⟩
 have hkl:k.length=s.asked.length:=by rw[hk,List.length_set]
 have HKL:Hid (k.length=s.asked.length):=hkl
 have HKK:Hid (k=s.asked.set mi (stA q c)):=hk
 have hlA:=K.back.lenA
 clear hr hk hf1 hf2 hkl K hmi
 go_enter func126,ntmps126
 go_upto_region 1 with fail
 refine Wi.jr (Φ:=λW=>AB _ _ _ _ W) ?_
 intro V h1 h2 hb hs
 have cz:V.cell? ⟨w.heap.size,0,none⟩=some (.int .i64 q):=by rw[AJ _ _ _ _ _ _ h1];rfl
 have CV:Hid (Cb V (w.heap.size+1) c):=h2
 have SV:Hid (St N V b s L):=S.below hb
 have TV:Hid (To b w L V L):=zf L hb
 have hzb:Hid (¬own b L w.heap.size):=λh=>by have:=qR S h;omega
 have hpb:Hid (¬own b L (w.heap.size+1)):=λh=>by have:=qR S h;omega
 clear h1 h2 hb hs S
 generalize w.heap.size+1=p at*
 generalize w.heap.size=z at*
 obtain⟨x0,hx0⟩:∃x0,s.asked[mi]?=some x0:=⟨_,Ai hml⟩
 obtain⟨ag,ao,ac,eav,hac,_,hag,hacs,_⟩:=SV.out.its.ia.at (by omega)
 obtain⟨n,hn⟩:∃n,n=s.asked.length:=⟨_,rfl⟩
 have HN:Hid (n=s.asked.length):=hn
 rw[<-hn]at eav hac hml hlA HKL
 have HAV:Hid (L.a=.slice (some ⟨ag,ao,none⟩) n ac):=eav
 have k335:V.cell? ⟨b,335,none⟩=some (.slice (some ⟨ag,ao,none⟩) n ac):=(zd SV.out.row (by omega)).trans (congrArg some eav)
 have HU:Hid (LC V (some ⟨ag,ao,none⟩) n ac 7 (acs s.asked)):=by
  have:=SV.out.its.ia
  rw[eav,<-hn]at this
  rw[xD]
  exact this.lc
 have CI:Hid (∀W,Below V.heap.size V W->Calls prog 81 #[.slice (some ⟨ag,ao,none⟩) n ac,.func (.func 159) #[] #[.pointer (some ⟨z,0,none⟩)]] W λe w'=>e=.returned (.int .i64 (mi:Int))/\Below W.heap.size W w'):=λW hW=>
  qh 159 z (λa=>a.st&&decide (a.seq=q)) zfX (some ⟨ag,ao,none⟩) n ac (by omega) s.asked mi HM (mi:Int) (by show _=_;rw[if_pos hml]) W (HU.out.below (Aa _) hW) (λW' o hW'=>zcE z q W' o (zn hW' (zn hW cz)))
 clear hacs hag hn eav
 go_wp2_with fail
 refine(CI.out _ (Aj _ _)).mono ?_
 rintro e V1 ⟨rfl,hk1⟩
 have S1:Hid (St N V1 b s L):=SV.out.below hk1
 have T1:Hid (To b w L V1 L):=TV.out.trans (zf L hk1)
 have C1:Hid (Cb V1 p c):=CV.out.below hk1
 have cz1:V1.cell? ⟨z,0,none⟩=some (.int .i64 q):=zn hk1 cz
 have k335b:V1.cell? ⟨b,335,none⟩=some (.slice (some ⟨ag,ao,none⟩) n ac):=zn hk1 k335
 clear hk1 CI SV TV CV cz k335 HU
 obtain⟨g',o',cap',ev',hth,s2,t2⟩:=S1.out.dr.putA (y:=stA q c) hx0 (xe _)
 obtain⟨rfl,rfl⟩:ag=g'/\ao=o':=by rw[HAV.out]at ev';injection ev' with h1 _ _;injection h1 with h1;injection h1 with h1 h2;exact⟨h1,h2⟩
 rw[<-HKK.out]at s2
 have HTH:Hid (V1.drew.there ag (ao+mi*7) 7):=hth
 have S2:Hid (St N (V1.drew.setCells ag (ao+mi*7) (cel (stA q c))) b {s with asked:=k} L):=s2
 have t2':Hid (To b V1.drew L (V1.drew.setCells ag (ao+mi*7) (cel (stA q c))) L):=t2
 have m0:0<=(mi:Int):=by omega
 have m1:(mi:Int)<(n:Int):=by omega
 have c6:V1.cell? ⟨p,6,none⟩=some (.int .u32 c.pl):=qU C1.out 6 rfl
 have c7:V1.cell? ⟨p,7,none⟩=some (.int .i64 c.many):=qU C1.out 7 rfl
 have c8:V1.cell? ⟨p,8,none⟩=some (.int .u32 c.data):=qU C1.out 8 rfl
 clear hth s2 t2 ev' hx0
 go_upto_region 2 with fail
 refine zu (S:=λw'=>w'.cell? ⟨b,335,none⟩=some (.slice (some ⟨ag,ao,none⟩) n ac)/\w'.cell? ⟨z,0,none⟩=some (.int .i64 q)/\w'.cell? ⟨p,6,none⟩=some (.int .u32 c.pl)/\w'.cell? ⟨p,7,none⟩=some (.int .i64 c.many)/\w'.cell? ⟨p,8,none⟩=some (.int .u32 c.data)) [14] (by kernel_rfl) (⟨k335b,cz1,c6,c7,c8⟩) (λhH=>?_)
 refine tU 0 (.pointer (some ⟨b,0,none⟩)) ?_;go_simp
 refine tU 1 (.pointer (some ⟨b,0,none⟩)) ?_;go_simp
 refine tU 2 (.pointer (some ⟨b,335,none⟩)) ?_;go_simp
 refine tA 3 (.slice (some ⟨ag,ao,none⟩) n ac) ?_;go_simp
 refine tU 4 (.int .i64 (mi:Int)) ?_;go_simp
 refine tS 5 (.int .i64 q) rfl (Or.inl ⟨by rfl,by intro wz hSw;have hc:=hSw.2.1;go_simp⟩) hH ?_;go_simp
 refine tU 6 (.pointer (some ⟨p,6,none⟩)) ?_;go_simp
 refine tS 7 (.int .u32 c.pl) rfl (Or.inl ⟨by rfl,by intro wz hSw;have hc:=hSw.2.2.1;go_simp⟩) hH ?_;go_simp
 refine tU 8 (.pointer (some ⟨p,7,none⟩)) ?_;go_simp
 refine tS 9 (.int .i64 c.many) rfl (Or.inl ⟨by rfl,by intro wz hSw;have hc:=hSw.2.2.2.1;go_simp⟩) hH ?_;go_simp
 refine tU 10 (.pointer (some ⟨p,8,none⟩)) ?_;go_simp
 refine tS 11 (.int .u32 c.data) rfl (Or.inl ⟨by rfl,by intro wz hSw;have hc:=hSw.2.2.2.2;go_simp⟩) hH ?_;go_simp
 refine tU 12 (.agg #[.int .i64 q,.bool true,.bool true,.int .u32 c.pl,.int .i64 c.many,.int .u32 c.data,.bool false]) ?_;go_simp
 refine tU 13 (.pointer (some ⟨ag,ao+mi*7,none⟩)) ?_;go_simp
 refine zL 14 rfl (λK hK=>?_)
 rw[if_pos (by rfl)]
 refine Ao 135 _ _ rfl ag (ao+mi*7) ((cel (stA q c)).toArray) rfl rfl (HTH.out) (zeY _) (zeZ _) ?_
 refine hK.out _ _ ?_
 clear hK K
 try go_simp
 refine zG (by kernel_rfl) ?_ _
 have T2:Hid (To b w L (V1.drew.setCells ag (ao+mi*7) (cel (stA q c))) L):=T1.out.dr.trans t2'.out
 have cz2:(V1.drew.setCells ag (ao+mi*7) (cel (stA q c))).cell? ⟨z,0,none⟩=some (.int .i64 q):=jy (w:=V1.drew) cz1 t2'.out hzb.out
 have C2:Hid (Cb (V1.drew.setCells ag (ao+mi*7) (cel (stA q c))) p c):=Cb.to (w:=V1.drew) C1.out t2'.out hpb.out
 clear hH HTH t2' S1 T1 C1 cz1 k335b c6 c7 c8 m0 m1
 generalize V1.drew.setCells ag (ao+mi*7) (cel (stA q c))=V2 at*
 have k335:V2.cell? ⟨b,335,none⟩=some (.slice (some ⟨ag,ao,none⟩) n ac):=(zd S2.out.row (by omega)).trans (congrArg some HAV.out)
 obtain⟨y0,f0,hT⟩:∃y0 f0,Od.Told (lst k (stA q c) n) y0 f0:=⟨_,_,rfl,rfl⟩
 have CW:Hid (∀W,Below V2.heap.size V2 W->Calls prog 160 #[.slice (some ⟨ag,ao,none⟩) n ac,.int .i64 q] W λe w'=>e=.returned (.tuple #[.int .i64 y0,.bool f0])/\Below W.heap.size W w'):=λW hW=>by
  refine zfQ (some ⟨ag,ao,none⟩) n ac q k (λa ha=>?_) mi HF.out.1 hml (stA q c) HF.out.2 y0 f0 hT (by omega) W ?_
  ·rw[<-HSA.out]at ha
   obtain⟨p',hp',rfl⟩:=AR.1 ha
   split
   ·exact zk1 HK.out.c
   ·exact HK.out.ask p' hp'
  ·have:=S2.out.its.ia
   rw[HAV.out]at this
   have h2:(({s with asked:=k}:Cr).asked).length=n:=HKL.out
   rw[h2]at this
   rw[xD]
   exact(this.below hW).lc
 have HT:Hid (Od.Told (lst k (stA q c) n) y0 f0):=hT
 clear hT
 go_upto_region 3 with fail
 refine zu (S:=λw'=>w'.cell? ⟨b,335,none⟩=some (.slice (some ⟨ag,ao,none⟩) n ac)/\w'.cell? ⟨z,0,none⟩=some (.int .i64 q)) [] (by kernel_rfl) (⟨k335,cz2⟩) (λhH=>?_)
 refine tU 0 (.pointer (some ⟨b,0,none⟩)) ?_;go_simp
 refine tU 1 (.pointer (some ⟨b,0,none⟩)) ?_;go_simp
 refine tU 2 (.pointer (some ⟨b,335,none⟩)) ?_;go_simp
 refine tA 3 (.slice (some ⟨ag,ao,none⟩) n ac) ?_;go_simp
 refine tB 4 (.int .i64 q) ?_;go_simp
 refine zC 5 rfl (λK hK=>?_)
 go_simp
 refine(CW.out _ ((Aj _ _).drew)).mono ?_
 rintro e V3 ⟨rfl,hk3⟩
 have HK3:Hid (Below V2.heap.size V2 V3):=zg hk3 (Aa _)
 go_wp2_with fail
 refine hK.out _ _ (⟨zn hk3 (hH.1),zn hk3 (hH.2)⟩) (λhN=>?_)
 clear hK K hH
 have hH:=hN
 clear hN
 try go_simp
 refine tU 6 (.tuple #[.int .i64 y0,.bool f0]) ?_;go_simp
 refine tU 7 (.int .i64 y0) ?_;go_simp
 refine tU 8 (.bool f0) ?_;go_simp
 refine tU 9 (.int .i64 y0) ?_;go_simp
 refine tU 10 (.bool f0) ?_;go_simp
 refine zG (by kernel_rfl) ?_ _
 have S3:Hid (St N V3 b {s with asked:=k} L):=S2.out.below HK3.out
 have T3:Hid (To b w L V3 L):=T2.out.trans (zf L HK3.out)
 clear hH CW S2 T2 C2 cz2 k335 HK3
 cases hls:lst k (stA q c) n with
 |none=>
  rw[hls]at HT
  obtain⟨rfl,rfl⟩:=HT.out.none'
  have hr:r={s with asked:=k}:=by rw[HR.out];exact zdL HSA.out (by rw[HKL.out];exact hls)
  subst hr
  clear hls HT HR
  go_wp2_with fail
  refine Ad (Ab rfl _ _ _) rfl ⟨rfl,L,S3.out,T3.out⟩
 |some e=>
  rw[hls]at HT
  obtain⟨hy,rfl⟩:=HT.out.some'
  have hls2:lst (setA s.asked q (stA q c)) (stA q c) (setA s.asked q (stA q c)).length=some e:=by rw[HSA.out,HKL.out];exact hls
  obtain⟨l1,o,l2,hu,hos,hpc⟩:=HK.out.early hls2
  have hr:r=Co.back {s with asked:=k} y0 o.pc:=by rw[HR.out,zdM HSA.out (by rw[HKL.out];exact hls),hpc,hy]
  have HR2:Hid (r=Co.back {s with asked:=k} y0 o.pc):=hr
  have HOS:Hid (o.seq=y0):=hos.trans hy.symm
  have HU:Hid (s.under=l1++o::l2):=hu
  obtain⟨j,hj⟩:∃j,j=l1.length:=⟨_,rfl⟩
  have hjl:j<s.under.length:=by rw[hu,hj];simp
  have CF:Hid (∀W,Below V3.heap.size V3 W->Calls prog 58 #[.pointer (some ⟨b,0,none⟩),.int .i64 y0] W λe w'=>e=.returned (.int .i64 (j:Int))/\Below W.heap.size W w'):=λW hW=>by
   have:=qS (S3.out.below hW) y0 j (by show FirstD _ s.under j;rw[<-HOS.out,hj];exact jS hu HK.out.back.bk.rise) (by show s.under.length<=_;have:=HK.out.back.lenU;omega)
   rw[if_pos (show j<({s with asked:=k}:Cr).under.length from hjl)]at this
   exact this
  have CB:Hid (∀W,Below V3.heap.size V3 W->Calls prog 128 #[.pointer (some ⟨b,0,none⟩),.int .i64 y0,.int .u32 o.pc] W λe w'=>e=.returned (.tuple #[])/\∃L',St N w' b r L'/\To b W L w' L'):=λW hW=>by
   rw[hr]
   exact zad (S3.out.below hW) (HK.out.back.asks (by rw[HKL.out];omega)) y0 o.pc
  obtain⟨ug,uo,uc,euv,huc,_,hug,hucs,_⟩:=S3.out.its.iu.at (show 0<s.under.length by omega)
  obtain⟨un,hun⟩:∃un,un=s.under.length:=⟨_,rfl⟩
  have k334:V3.cell? ⟨b,334,none⟩=some (.slice (some ⟨ug,uo,none⟩) un uc):=(zd S3.out.row (by omega)).trans (congrArg some (by rw[hun];exact euv))
  have cpc:V3.cell? ⟨ug,uo+j*28+1,none⟩=some (.int .u32 o.pc):=by
   rw[Am]
   exact hucs _ _ (qK zH (l:=s.under) (k:=j) (x:=o) (by rw[hu,hj];simp) rfl)
  have j0:0<=(j:Int):=by omega
  have j1:(j:Int)<(un:Int):=by omega
  clear hls HT HR hls2 hu hos hpc hr hj hjl euv hucs hug hun hy huc
  go_upto_region 5 with fail
  refine zu (S:=λw'=>w'.cell? ⟨b,334,none⟩=some (.slice (some ⟨ug,uo,none⟩) un uc)/\w'.cell? ⟨ug,uo+j*28+1,none⟩=some (.int .u32 o.pc)) [12] (by kernel_rfl) (⟨k334,cpc⟩) (λhH=>?_)
  refine tU 0 (.pointer (some ⟨b,0,none⟩)) ?_;go_simp
  refine tU 1 (.int .i64 y0) ?_;go_simp
  refine tU 2 (.pointer (some ⟨b,0,none⟩)) ?_;go_simp
  refine tU 3 (.pointer (some ⟨b,0,none⟩)) ?_;go_simp
  refine tU 4 (.pointer (some ⟨b,334,none⟩)) ?_;go_simp
  refine tU 6 (.pointer (some ⟨b,0,none⟩)) ?_;go_simp
  refine tU 7 (.int .i64 y0) ?_;go_simp
  refine rZ [5,8] ?_
  refine(zj.cons rfl (λK hK=>?_) (zj.cons rfl (λK hK=>?_) zj.nil))
  case' _=>
   have hc:=hH.1
   go_simp
   clear hc
   refine hK.out _ _ (hH) (λhN=>?_)
   clear hK K hH
   have hH:=hN
   clear hN
   try go_simp
   refine zC 8 rfl (λK hK=>?_)
   go_simp
   refine(CF.out _ ((Aj _ _).drew)).mono ?_
   rintro e V4 ⟨rfl,hk4⟩
   have HK4:Hid (Below V3.heap.size V3 V4):=zg hk4 (Aa _)
   go_wp2_with fail
   refine hK.out _ _ (⟨zn hk4 (hH.1),zn hk4 (hH.2)⟩) (λhN=>?_)
  rotate_left
  case' _=>
   go_simp
   refine(CF.out _ ((Aj _ _).drew)).mono ?_
   rintro e V4 ⟨rfl,hk4⟩
   have HK4:Hid (Below V3.heap.size V3 V4):=zg hk4 (Aa _)
   go_wp2_with fail
   refine hK.out _ _ (⟨zn hk4 (hH.1),zn hk4 (hH.2)⟩) (λhN=>?_)
   clear hK K hH
   have hH:=hN
   clear hN
   try go_simp
   refine zC 5 rfl (λK hK=>?_)
   have hc:=hH.1
   go_simp
   clear hc
   refine hK.out _ _ (hH) (λhN=>?_)
  rotate_left
  all_goals
   clear hK K hH
   have hH:=hN
   clear hN
   try go_simp
   refine tU 9 (.pointer (some ⟨ug,uo+j*28,none⟩)) ?_;go_simp
   refine tU 10 (.pointer (some ⟨ug,uo+j*28+1,none⟩)) ?_;go_simp
   refine tB 11 (.int .u32 o.pc) ?_;go_simp
   refine zL 12 rfl (λK hK=>?_)
   go_simp
   refine(CB.out _ HK4.out).mono ?_
   rintro e V5 ⟨rfl,L5,u1,u2⟩
   have S5:Hid (St N V5 b r L5):=u1
   have T5:Hid (To b w L V5 L5):=(T3.out.trans (zf L HK4.out)).trans u2
   clear u1 u2
   go_wp2_with fail
   refine hK.out _ _ ?_
   clear hK K
   try go_simp
   refine zG (by kernel_rfl) ?_ _
   clear hH
   go_wp2_with fail
   refine Ad (Ab rfl _ _ _) rfl ⟨rfl,L5,S5.out,T5.out⟩
theorem zmV{s:Cr}{m:Nat->Int}(h:BackOk s m)(hb:s.bck<10000000)(e pc:Int):BackOk (Co.back s e pc) m:=by
 obtain⟨l1,l2,hu,h1,h2⟩:=xy e h.bk.rise
 have hl:=h.lenU
 have hd:=h.dis
 have hr:=h.bk.rise
 have ho:=h.bk.olds
 have hrd:=h.rd
 rw[hu]at hl hd hr ho hrd
 rw[qj,AK]at hd
 rw[zbb h.bk hu e pc h1 h2]
 refine⟨⟨(xx.1 ho).1,rfl,(zy.1 hr).1,rfl⟩,hd,λo ho=>hrd o (AQ _ ho),h.low,h.high,?_,?_,?_,?_⟩
 ·show l1.length<=_
  rw[AH]at hl
  omega
 ·have:=h.lenA
  have:=AC (λa:Ac=>!decide (e<=a.seq)) s.asked
  show(s.asked.filter _).length<=_
  omega
 ·have:=h.bck0
  show 0<=if l2=[]then s.bck else s.bck+1
  split<;>omega
 ·have:=h.bck1
  show(if l2=[]then s.bck else s.bck+1)<=_
  split<;>omega
theorem zio{s:Cr}{m:Nat->Int}{q:Int}{c:Cm}(h:SetOk s m q c)(hb:s.bck<10000000):BackOk (settle s q c) m:=by
 have hk:(setA s.asked q (stA q c)).length<=10000000:=by rw[zeV];exact h.back.lenA
 unfold settle
 simp only[]
 split
 ·exact h.back.asks hk
 ·exact zmV (h.back.asks hk) hb _ _
theorem zmW{s:Cr}{m:Nat->Int}(h:BackOk s m)(o:Dg)(c:Cm):BackOk (jc s o c) m:=by
 rw[jY]
 exact⟨⟨h.bk.olds,h.bk.reg,h.bk.rise,h.bk.slo⟩,h.dis,h.rd,h.low,h.high,h.lenU,h.lenA,h.bck0,h.bck1⟩
def fin0(s:Cr)(o:Dg)(c:Cm):Cr:={s with under:=putO s.under o.seq (λo=>{o with st:=2,c:=c}),slots:=donS s.slots o.seq}
theorem zip(s:Cr)(o:Dg)(c:Cm):fin1 s o c=if sts o.i then settle (fin0 s o c) o.seq c else fin0 s o c:=rfl
theorem ziq{K:Int}{s:Cr}{m:Nat->Int}(A:Al mach K s m)(hK:K<=9000000){l1 l2:List Dg}{o:Dg}(hu:s.under=l1++o::l2)(h2:o.st≠2)(c:Cm):BackOk (fin0 s o c) m:=by
 have hr:Rise (l1++o::l2):=hu▸A.inv.rise
 have hun:putO s.under o.seq (λo=>{o with st:=2,c:=c})=l1++{o with st:=2,c:=c}::l2:=by rw[hu];exact vF hr _
 have hsl:donS s.slots o.seq=(l1++{o with st:=2,c:=c}::l2).map slot:=by
  rw[A.inv.slo,hu]
  exact zdb hr (by show(o.seq,decide ((2:Int)=2))=_;rfl)
 have hmE:mE m (l1++{o with st:=2,c:=c}::l2)=s.regs:=by
  rw[<-A.inv.reg,hu,kD,kD]
  exact zhc rfl rfl
 have hol:Olds m (l1++o::l2):=vE (hu▸A.inv.ch)
 have htos:tos (l1++{o with st:=2,c:=c}::l2)=tos s.under:=by rw[hu,qj,qj];rfl
 have hlen:=A.len
 rw[hu]at hlen
 have h3:=A.rg.lenA
 have h4:=A.rg.bck
 unfold fin0
 rw[hun,hsl]
 refine⟨⟨zbc hol rfl rfl rfl,hmE,kF hr rfl,rfl⟩,?_,λq hq=>?_,A.low,A.rg.phys,?_,?_,A.bck,?_⟩
 ·show Dis s.phys m (tos (l1++_::l2)++s.free)
  rw[htos]
  exact A.inv.dis
 ·have hrd:=zeu zN A.inv.ch
  rw[hu]at hrd
  rcases AV.1 hq with h|h
  ·exact hrd q (AQ _ h)
  ·rcases List.mem_cons.1 h with h|h
   ·rw[h];exact hrd o (by simp)
   ·exact hrd q (List.mem_append_right _ (List.mem_cons_of_mem _ h))
 ·simp at hlen⊢
  omega
 ·show s.asked.length<=_
  omega
 ·show s.bck<=_
  omega
theorem ze0{K:Int}{s:Cr}{m:Nat->Int}(A:Al mach K s m)(hK:K<=9000000){l1 l2:List Dg}{o:Dg}(hu:s.under=l1++o::l2)(h2:o.st≠2){c:Cm}(hc:CmR c)(hs:sts o.i=true):SetOk (fin0 s o c) m o.seq c:=by
 have ho:o∈s.under:=by rw[hu];simp
 refine⟨ziq A hK hu h2 c,A.uq,A.rg.ask,⟨entA o,A.inv.ask.sto o ho hs,?_⟩,λa ha=>?_,hc⟩
 ·unfold entA
  rw[if_neg h2]
  simp[st0]
 ·obtain⟨p,hp,e,_⟩:=A.inv.ask.of a ha
  refine⟨if p.seq=o.seq then{p with st:=2,c:=c}else p,AR.2 ⟨p,hp,rfl⟩,?_⟩
  rw[e]
  split<;>rfl
theorem zmX{K:Int}{s:Cr}{m:Nat->Int}(A:Al mach K s m)(hK:K<=9000000){l1 l2:List Dg}{o:Dg}(hu:s.under=l1++o::l2)(h2:o.st≠2){c:Cm}(hc:CmR c):BackOk (fin1 s o c) m:=by
 have h4:=A.rg.bck
 rw[zip]
 split
 ·rename_i hs
  exact zio (ze0 A hK hu h2 hc hs) (by show s.bck<_;omega)
 ·exact ziq A hK hu h2 c
theorem zki{s:Cr}{l1 l2:List Dg}{o:Dg}(hu:s.under=l1++o::l2)(hr:Rise s.under)(c:Cm):{({s with under:=s.under.set l1.length {o with st:=2,c:=c}}:Cr)with slots:=donS s.slots o.seq}=fin0 s o c:=by
 unfold fin0
 rw[(zdH hu hr (λo=>{o with st:=2,c:=c})).1]
theorem zkj{K:Int}{s:Cr}{m:Nat->Int}(A:Al mach K s m){o:Dg}(ho:o∈s.under){c:Cm}(hc:CmIs s.n o.i o.pc c):c.rd≠0->0<=o.to/\o.to<96:=λh=>by
 obtain⟨l1,l2,hu,hloc⟩:=xf A.inv.ch ho
 obtain⟨_,_,_,h4⟩:=kM zN A.inv ho A.rg.phys
 refine h4 ?_
 rw[hloc.rd]
 by_cases h0:c.st=0
 ·rw[<-hc.gives h0];exact h
 ·exact absurd (hc.stops h0).2.1 h
theorem zkk{l:List Dg}{k:Nat}(x y:Dg):(l.set k x).set k y=l.set k y:=List.set_set ..
theorem xY{N:Nat}{w:World}{b:Nat}{s:Cr}{L:Sls}(S:St N w b s L){m:Nat->Int}{K:Int}(A:Al mach K s m)(hK:K<=8000000){l1 l2:List Dg}{o:Dg}(hu:s.under=l1++o::l2)(h2:o.st≠2){c:Cm}(hc:CmIs s.n o.i o.pc c)(hr:CmR c):
  Calls prog 87 #[.pointer (some ⟨b,0,none⟩),.int .i64 (l1.length:Int),cvC c] w λe w'=>e=.returned (.tuple #[])/\∃L',St N w' b (finish s o c) L'/\To b w L w' L':=by
 have ho:o∈s.under:=by rw[hu];simp
 have HB1:Hid (BackOk (jc (fin1 s o c) o c) m):=zmW (zmX A (by omega) hu h2 hr) o c
 have HSET:Hid (sts o.i=true->SetOk (fin0 s o c) m o.seq c):=λh=>ze0 A (by omega) hu h2 hr h
 have HTO:Hid (c.rd≠0->0<=o.to/\o.to<96):=zkj A ho hc
 have HDN:Hid (DonAt s.slots o.seq l1.length):=by show DonAt _ _ _;rw[A.inv.slo];exact zmK hu A.inv.rise h2
 have HF0:Hid ({({s with under:=s.under.set l1.length {o with st:=2,c:=c}}:Cr)with slots:=donS s.slots o.seq}=fin0 s o c):=zki hu A.inv.rise c
 have hjo:s.under[l1.length]?=some o:=by rw[hu];simp
 have hjl:l1.length<s.under.length:=(Ae.1 hjo).1
 have hln:=A.len
 have hlow:=(A.inv.low o ho)
 have htk:=A.rg.tak
 have q0:0<=o.seq:=hlow.1
 have q1:o.seq<=9000000:=by omega
 have hsl:s.slots.length<=100000:=by have:=A.rg.len;omega
 obtain⟨r,hrr⟩:∃r,r=finish s o c:=⟨_,rfl⟩
 rw[<-hrr]
 have HR:Hid (r=finish s o c):=hrr
 obtain⟨j,hj⟩:∃j,j=l1.length:=⟨_,rfl⟩
 rw[<-hj]at HDN HF0 hjo hjl⊢
 obtain⟨D,hD⟩:∃D,D=(dgl o).toArray:=⟨_,rfl⟩
 have HD:Hid (D=(dgl o).toArray):=hD
 have HI:Hid ((prog.info? 132).map (·.size)=some D.size/\28=D.size/\D.all (·.oneCell')=true):=by rw[hD];exact⟨zM o,rfl,jd o⟩
 clear hrr hu h2 hc hr A ho hj hlow htk hD
 go_enter func87,ntmps87
 go_upto_region 1 with fail
 refine Wi.zh (Φ:=λW=>AB _ _ _ _ W) ?_
 intro V h1 hb
 have CV:Hid (Cb V w.heap.size c):=h1
 have SV:Hid (St N V b s L):=S.below hb
 have TV:Hid (To b w L V L):=zf L hb
 have hpo:Hid (¬own b L w.heap.size):=λh=>by have:=qR S h;omega
 clear h1 hb S
 generalize w.heap.size=p at*
 obtain⟨ug,uo,uc,euv,huc,_,hug,hucs,_⟩:=SV.out.its.iu.at (by omega)
 have k334:V.cell? ⟨b,334,none⟩=some (.slice (some ⟨ug,uo,none⟩) s.under.length uc):=(zd SV.out.row (by omega)).trans (congrArg some euv)
 have HRg:Hid (V.rangeAt ug (uo+j*28) (dgl o)):=by
  intro i v hv
  rw[Am]
  exact hucs _ _ (qK zH hjo hv)
 have HEU:Hid (L.u=.slice (some ⟨ug,uo,none⟩) s.under.length uc):=euv
 obtain⟨un,hun⟩:∃un,un=s.under.length:=⟨_,rfl⟩
 rw[<-hun]at k334 HEU huc hjl hln
 have j0:0<=(j:Int):=by omega
 have j1:(j:Int)<(un:Int):=by omega
 have hjo':Hid (s.under[j]?=some o):=hjo
 clear euv hucs hug hun hjo
 go_upto_region 2 with(first|(refine Ak rfl 132 _ rfl ug (uo+j*28) rfl (dgl o) _ HRg.out underlying132 rfl qw ?_;rw[<-HD.out])|(refine Aw rfl 132 _ _ rfl _ _ rfl rfl 132 _ (heap_alloc_new _ _) HI.out.1 HI.out.2.1 HI.out.2.2 ?_;rw[Aq]))
 refine Wi.zh (Φ:=λW=>AB _ _ _ _ W) ?_
 intro V1 h1 hb
 have B1:Hid (Bx V1 V.heap.size o):=by show _=_;rw[h1,HD.out]
 have C1:Hid (Cb V1 p c):=CV.out.below hb
 have S1:Hid (St N V1 b s L):=SV.out.below hb
 have T1:Hid (To b w L V1 L):=TV.out.trans (zf L hb)
 have hzo:Hid (¬own b L V.heap.size):=λh=>by have:=qR SV.out h;omega
 clear h1 hb CV SV TV k334 HRg
 generalize V.heap.size=z at*
 have k334:V1.cell? ⟨b,334,none⟩=some (.slice (some ⟨ug,uo,none⟩) un uc):=(zd S1.out.row (by omega)).trans (congrArg some HEU.out)
 have hub:ug≠b:=(S1.out.apart.2.1 ug (by rw[HEU.out];rfl)).2.2
 have hup:ug≠p:=λe=>hpo.out (.inr (.inr (.inl (by rw[HEU.out,e];rfl))))
 obtain⟨g',o',cap',ev',hth,s2,t2⟩:=S1.out.dr.putU (y:={o with st:=2}) (j:=7) (news:=[.int .i64 2]) hjo'.out (by decide) rfl (by intro u hu;simp at hu;subst hu;rfl)
 obtain⟨rfl,rfl⟩:ug=g'/\uo=o':=by rw[HEU.out]at ev';injection ev' with h1 _ _;injection h1 with h1;injection h1 with h1 h2;exact⟨h1,h2⟩
 obtain⟨g',o',cap',ev2,hth2,s3,t3⟩:=s2.putU (y:={o with st:=2,c:=c}) (j:=17) (news:=(cC c).toList) (k:=j) (x:={o with st:=2}) (by rw[List.getElem?_set,if_pos rfl,if_pos (by have:=(Ae.1 hjo'.out).1;exact this)]) (by simp[cC]) rfl (by intro u hu;exact Array.all_eq_true_iff_forall_mem.1 (vV c) u (by simpa using hu))
 obtain⟨rfl,rfl⟩:ug=g'/\uo=o':=by rw[HEU.out]at ev2;injection ev2 with h1 _ _;injection h1 with h1;injection h1 with h1 h2;exact⟨h1,h2⟩
 rw[zkk]at s3
 rw[<-Am]at hth hth2 s3 t3 t2
 rw[<-Am]at hth2 s3 t3
 obtain⟨W2,hW2⟩:∃W2,W2=V1.drew.setCell ⟨ug,uo+j*28+7,none⟩ (.int .i64 2):=⟨_,rfl⟩
 have hW2':W2=(V1.setCell ⟨ug,uo+j*28+7,none⟩ (.int .i64 2)).drew:=by rw[hW2];first|rfl|simp
 obtain⟨W3,hW3⟩:∃W3,W3=W2.setCells ug (uo+j*28+17) (cC c).toList:=⟨_,rfl⟩
 have HTH2:Hid (W2.there ug (uo+j*28+17) (cC c).size):=by rw[hW2];exact hth2
 have S3:Hid (St N W3 b {s with under:=s.under.set j {o with st:=2,c:=c}} L):=by rw[hW3,hW2];exact s3
 have T3:Hid (To b w L W3 L):=by rw[hW3,hW2];exact T1.out.dr.trans (t2.trans t3)
 have t13:To b V1 L W3 L:=by rw[hW3,hW2];exact(To.dr (To.refl b V1 L)).trans (t2.trans t3)
 have B3:Hid (Bx W3 z o):=B1.out.to t13 hzo.out
 have C3:Hid (Cb W3 p c):=C1.out.to t13 hpo.out
 have HW2:Hid (W2=(V1.setCell ⟨ug,uo+j*28+7,none⟩ (.int .i64 2)).drew):=hW2'
 have HW3:Hid (W3=W2.setCells ug (uo+j*28+17) (cC c).toList):=hW3
 have c7:V1.cell? ⟨ug,uo+j*28+7,none⟩=some (.int .i64 o.st):=by
  obtain⟨g',o',cap',ev3,_,_,_,hcs,_⟩:=S1.out.its.iu.at (by have:=(Ae.1 hjo'.out).1;omega)
  obtain⟨rfl,rfl⟩:ug=g'/\uo=o':=by rw[HEU.out]at ev3;injection ev3 with h1 _ _;injection h1 with h1;injection h1 with h1 h2;exact⟨h1,h2⟩
  rw[Am]
  exact hcs _ _ (qK zH hjo'.out rfl)
 have f7:V1.frozen? ⟨ug,uo+j*28+7,none⟩=false:=(hth 0 (by decide)).2
 clear hth hth2 s2 s3 t2 t3 t13 ev' ev2 hW2 hW2' hW3
 refine zu (S:=λw'=>w'.cell? ⟨b,334,none⟩=some (.slice (some ⟨ug,uo,none⟩) un uc)/\w'.rangeAt p 0 ((cC c).toList)) [16] (by kernel_rfl) (⟨k334,zim C1.out⟩) (λhH=>?_)
 refine tU 0 (.pointer (some ⟨b,0,none⟩)) ?_;go_simp
 refine tU 1 (.pointer (some ⟨b,0,none⟩)) ?_;go_simp
 refine tU 2 (.pointer (some ⟨b,334,none⟩)) ?_;go_simp
 refine tA 3 (.slice (some ⟨ug,uo,none⟩) un uc) ?_;go_simp
 refine tU 4 (.int .i64 (j:Int)) ?_;go_simp
 refine tU 5 (.pointer (some ⟨b,0,none⟩)) ?_;go_simp
 refine tU 6 (.pointer (some ⟨b,0,none⟩)) ?_;go_simp
 refine tU 7 (.pointer (some ⟨b,334,none⟩)) ?_;go_simp
 refine tA 8 (.slice (some ⟨ug,uo,none⟩) un uc) ?_;go_simp
 refine tU 9 (.int .i64 (j:Int)) ?_;go_simp
 refine tS 10 (.agg ((cC c).toList).toArray) rfl (Af (by rfl) 68 _ rfl _ _ rfl ((cC c).toList) _ (λwz hSw=>hSw.2) underlying68 rfl (zae c)) hH ?_;go_simp
 refine tU 11 (.pointer (some ⟨ug,uo+j*28,none⟩)) ?_;go_simp
 refine tU 12 (.pointer (some ⟨ug,uo+j*28+7,none⟩)) ?_;go_simp
 refine zC 13 rfl (λK hK=>?_)
 go_simp
 refine hK.out _ _ (⟨vU hH.1 hub,zoB hH.2 hup⟩) (λhN=>?_)
 clear hK K hH
 have hH:=hN
 clear hN
 try go_simp
 refine tU 14 (.pointer (some ⟨ug,uo+j*28,none⟩)) ?_;go_simp
 refine tU 15 (.pointer (some ⟨ug,uo+j*28+17,none⟩)) ?_;go_simp
 rw[<-HW2.out]
 refine zL 16 rfl (λK hK=>?_)
 rw[if_pos (by rfl)]
 refine Ao 68 _ _ rfl ug (uo+j*28+17) (cC c) rfl rfl (HTH2.out) (kL c) (vV c) ?_
 refine hK.out _ _ ?_
 clear hK K
 try go_simp
 rw[<-HW3.out]
 refine zG (by kernel_rfl) ?_ _
 clear hH HTH2 HW2 HW3 S1 T1 B1 C1 k334 c7 f7 hub hup j0 j1 W2
 obtain⟨a,cc,ea,hl0⟩:=S3.out.its.isl
 have k333:W3.cell? ⟨b,333,none⟩=some (.slice a s.slots.length cc):=(zd S3.out.row (by omega)).trans (congrArg some ea)
 have CD:Hid (∀W,Below W3.heap.size W3 W->Calls prog 124 #[.slice a s.slots.length cc,.int .i64 o.seq] W λe w'=>(∃a c,e=.returned (.tuple #[.slice a (donS s.slots o.seq).length c,.bool true])/\LC w' a (donS s.slots o.seq).length c 2 (scs (donS s.slots o.seq))/\FarC W.heap.size a)/\Below W.heap.size W w'):=λW hW=>by
  have:=zoD S3.out o.seq j HDN.out hsl W hW
  rw[ea]at this
  exact this
 have cz0:W3.cell? ⟨z,0,none⟩=some (.int .i64 o.seq):=zl B3.out 0 rfl
 clear hl0 ea
 obtain⟨ds,hds⟩:∃ds,ds=donS s.slots o.seq:=⟨_,rfl⟩
 rw[<-hds]at CD HF0
 clear hds HDN
 go_upto_region 3 with fail
 refine zu (S:=λw'=>w'.cell? ⟨b,333,none⟩=some (.slice a s.slots.length cc)/\w'.cell? ⟨z,0,none⟩=some (.int .i64 o.seq)) [13] (by kernel_rfl) (⟨k333,cz0⟩) (λhH=>?_)
 refine tU 0 (.pointer (some ⟨b,0,none⟩)) ?_;go_simp
 refine tU 1 (.pointer (some ⟨b,0,none⟩)) ?_;go_simp
 refine tU 2 (.pointer (some ⟨b,0,none⟩)) ?_;go_simp
 refine tU 3 (.pointer (some ⟨b,333,none⟩)) ?_;go_simp
 refine tA 4 (.slice a s.slots.length cc) ?_;go_simp
 refine tU 5 (.pointer (some ⟨z,0,none⟩)) ?_;go_simp
 refine tB 6 (.int .i64 o.seq) ?_;go_simp
 refine zC 7 rfl (λK hK=>?_)
 go_simp
 refine(CD.out _ ((Aj _ _).drew)).mono ?_
 rintro e V3 ⟨⟨a3,c3,rfl,hl3,hf3⟩,hk3⟩
 have HK3:Hid (Below W3.heap.size W3 V3):=zg hk3 (Aa _)
 have HL3:Hid (LC V3 a3 ds.length c3 2 (scs ds)/\FarC W3.heap.size a3):=⟨hl3,hf3⟩
 clear hl3 hf3
 go_wp2_with fail
 refine hK.out _ _ (⟨zn hk3 (hH.1),zn hk3 (hH.2)⟩) (λhN=>?_)
 clear hK K hH
 have hH:=hN
 clear hN
 try go_simp
 have S4:Hid (St N V3 b {s with under:=s.under.set j {o with st:=2,c:=c}} L):=S3.out.below HK3.out
 have cA:=hH.1
 have fA:=S4.out.frozen 333
 refine tU 8 (.tuple #[.slice a3 ds.length c3,.bool true]) ?_;go_simp
 refine tU 9 (.slice a3 ds.length c3) ?_;go_simp
 refine tU 10 (.bool true) ?_;go_simp
 refine tU 11 (.pointer (some ⟨b,0,none⟩)) ?_;go_simp
 refine tU 12 (.pointer (some ⟨b,333,none⟩)) ?_;go_simp
 refine zL 13 rfl (λK hK=>?_)
 go_simp
 refine hK.out _ _ ?_
 clear hK K
 try go_simp
 refine zG (by kernel_rfl) ?_ _
 obtain⟨s5,t5⟩:=S4.out.setSlots HL3.out.1 (ja S3.out (Aa _) HL3.out.2)
 rw[HF0.out]at s5
 have S5:Hid (St N (V3.setCell ⟨b,333,none⟩ (.slice a3 ds.length c3)) b (fin0 s o c) {L with s:=.slice a3 ds.length c3}):=s5
 have T5:Hid (To b w L (V3.setCell ⟨b,333,none⟩ (.slice a3 ds.length c3)) {L with s:=.slice a3 ds.length c3}):=(T3.out.trans (zf L HK3.out)).trans t5
 have B5:Hid (Bx (V3.setCell ⟨b,333,none⟩ (.slice a3 ds.length c3)) z o):=(B3.out.below HK3.out).to t5 hzo.out
 have C5:Hid (Cb (V3.setCell ⟨b,333,none⟩ (.slice a3 ds.length c3)) p c):=(C3.out.below HK3.out).to t5 hpo.out
 have z5:Hid (¬own b {L with s:=.slice a3 ds.length c3} z):=hzo.out
 have p5:Hid (¬own b {L with s:=.slice a3 ds.length c3} p):=hpo.out
 clear hH s5 t5 S4 S3 T3 B3 C3 HL3 HK3 cA fA k333 CD cz0 HF0 hzo hpo
 generalize V3.setCell ⟨b,333,none⟩ (.slice a3 ds.length c3)=V5 at*
 generalize ({L with s:=.slice a3 ds.length c3}:Sls)=L5 at*
 obtain⟨f0,hf0⟩:∃f0,f0=fin0 s o c:=⟨_,rfl⟩
 have HF1:Hid (fin1 s o c=if sts o.i then settle f0 o.seq c else f0):=by rw[hf0];exact zip s o c
 rw[<-hf0]at S5 HSET
 clear hf0
 have CS:=λW=>vL o.i W
 go_wp2_with(refine Ak rfl 78 _ rfl z 2 rfl (ivL o.i).toList _ (xl B5.out) underlying78 rfl (qP _) ?_)
 refine(CS _).mono ?_
 rintro e V6 ⟨rfl,hk6⟩
 have S6:Hid (St N V6 b f0 L5):=S5.out.below hk6
 have T6:Hid (To b w L V6 L5):=T5.out.trans (zf L5 hk6)
 have B6:Hid (Bx V6 z o):=B5.out.below hk6
 have C6:Hid (Cb V6 p c):=C5.out.below hk6
 clear hk6 S5 T5 B5 C5 CS
 obtain⟨f1,hf1⟩:∃f1,f1=fin1 s o c:=⟨_,rfl⟩
 have HR2:Hid (r=if jL f1 o c=true/\c.next=o.next then jc f1 o c else{Co.back (jc f1 o c) (o.seq+1) c.next with opn:=decide (c.st=0)}):=by show _=_;rw[HR.out,hf1];rfl
 rw[<-hf1]at HB1 HF1
 clear HR hf1
 cases hst:sts o.i with
 |false=>
  have e:=HF1.out
  rw[hst]at e
  simp only[Az,if_false]at e
  subst e
  clear HF1 hst HSET
  have HBr:Hid (V6.heap[z]?=some (.cells D 132 (0,0))):=by rw[HD.out];exact B6.out
  have RC:Hid (V6.heap[p]?=some (.cells (cC c) 68 (0,0))):=C6.out
  have CF:Hid (Calls prog 127 #[.pointer (some ⟨b,0,none⟩),.agg D,cvC c] V6 λe w'=>e=.returned (.bool (jL f1 o c))/\St N w' b (jc f1 o c) L5/\To b V6 L5 w' L5):=by rw[HD.out];exact zcF S6.out o c HTO.out
  obtain⟨rt,hrt⟩:∃rt,rt=jL f1 o c:=⟨_,rfl⟩
  obtain⟨f2,hf2⟩:∃f2,f2=jc f1 o c:=⟨_,rfl⟩
  rw[<-hrt,<-hf2]at CF HR2
  rw[<-hf2]at HB1
  clear hrt hf2 HTO
  go_wp2_with(first|(refine Ay rfl 132 _ rfl _ rfl 132 _ (0,0) _ HBr.out underlying132 rfl HI.out.1 ?_)|(refine Ay rfl 68 _ rfl _ rfl 68 _ (0,0) _ RC.out underlying68 rfl (kL c) ?_))
  refine CF.out.mono ?_
  rintro e V8 ⟨rfl,u1,u2⟩
  have S8:Hid (St N V8 b f2 L5):=u1
  have T8:Hid (To b w L V8 L5):=T6.out.trans u2
  have B8:Hid (Bx V8 z o):=B6.out.to u2 z5.out
  have C8:Hid (Cb V8 p c):=C6.out.to u2 p5.out
  clear u1 u2 S6 T6 B6 C6 CF HBr RC HI HD
  have cn:V8.cell? ⟨p,1,none⟩=some (.int .u32 c.next):=qU C8.out 1 rfl
  have co:V8.cell? ⟨z,13,none⟩=some (.int .u32 o.next):=zl B8.out 13 rfl
  have c0:V8.cell? ⟨z,0,none⟩=some (.int .i64 o.seq):=zl B8.out 0 rfl
  obtain⟨nx,hnx⟩:∃nx,nx=c.next:=⟨_,rfl⟩
  obtain⟨ny,hny⟩:∃ny,ny=o.next:=⟨_,rfl⟩
  rw[<-hnx]at cn HR2
  rw[<-hny]at co HR2
  obtain⟨cs,hcs⟩:∃cs,cs=c.st:=⟨_,rfl⟩
  rw[<-hcs]at HR2
  have HCS:Hid (cs=c.st):=hcs
  clear hnx hny hcs
  by_cases hok:rt=true/\nx=ny
  ·obtain⟨rfl,rfl⟩:=hok
   have hr:=HR2.out
   rw[if_pos ⟨rfl,rfl⟩]at hr
   subst hr
   clear HR2
   go_wp2_with fail
   refine Ad (Ab rfl _ _ _) rfl ⟨rfl,L5,S8.out,T8.out⟩
  ·have hr:=HR2.out
   rw[if_neg hok]at hr
   have HR3:Hid (r={Co.back f2 (o.seq+1) nx with opn:=decide (cs=0)}):=hr
   have CB:Hid (Calls prog 128 #[.pointer (some ⟨b,0,none⟩),.int .i64 (o.seq+1),.int .u32 nx] V8 λe w'=>e=.returned (.tuple #[])/\∃L',St N w' b (Co.back f2 (o.seq+1) nx) L'/\To b V8 L5 w' L'):=zad S8.out HB1.out (o.seq+1) nx
   clear hr HR2
   cases rt with
   |true=>
    have hne:¬nx=ny:=λe=>hok ⟨rfl,e⟩
    have hne':(nx != ny)=true:=by simpa using hne
    clear hok
    go_wp2_with fail
    refine CB.out.mono ?_
    rintro e V9 ⟨rfl,L9,u1,u2⟩
    have S9:Hid (St N V9 b (Co.back f2 (o.seq+1) nx) L9):=u1
    have T9:Hid (To b w L V9 L9):=T8.out.trans u2
    have C9:Hid (Cb V9 p c):=C8.out.to u2 p5.out
    clear u1 u2 S8 T8 C8 B8 CB cn co c0
    have c2:V9.cell? ⟨p,2,none⟩=some (.int .i64 cs):=qU C9.out 2 (by rw[HCS.out];rfl)
    have k338:V9.cell? ⟨b,338,none⟩=some (.bool (Co.back f2 (o.seq+1) nx).opn):=(zd S9.out.row (by omega)).trans rfl
    have f338:=S9.out.frozen 338
    obtain⟨s10,t10⟩:=S9.out.setOpn (decide (cs=0))
    rw[<-HR3.out]at s10
    have S10:Hid (St N (V9.setCell ⟨b,338,none⟩ (.bool (decide (cs=0)))) b r L9):=s10
    have T10:Hid (To b w L (V9.setCell ⟨b,338,none⟩ (.bool (decide (cs=0)))) L9):=T9.out.trans t10
    clear s10 t10
    by_cases hcs:cs=0
    ·subst hcs
     go_wp2_with fail
     refine Ad (Ab rfl _ _ _) rfl ⟨rfl,L9,S10.out,T10.out⟩
    ·have hcs':(cs==0)=false:=by simpa using hcs
     rw[decide_eq_false hcs]at S10 T10
     go_wp2_with fail
     refine Ad (Ab rfl _ _ _) rfl ⟨rfl,L9,S10.out,T10.out⟩
   |false=>
    clear hok
    go_wp2_with fail
    refine CB.out.mono ?_
    rintro e V9 ⟨rfl,L9,u1,u2⟩
    have S9:Hid (St N V9 b (Co.back f2 (o.seq+1) nx) L9):=u1
    have T9:Hid (To b w L V9 L9):=T8.out.trans u2
    have C9:Hid (Cb V9 p c):=C8.out.to u2 p5.out
    clear u1 u2 S8 T8 C8 B8 CB cn co c0
    have c2:V9.cell? ⟨p,2,none⟩=some (.int .i64 cs):=qU C9.out 2 (by rw[HCS.out];rfl)
    have k338:V9.cell? ⟨b,338,none⟩=some (.bool (Co.back f2 (o.seq+1) nx).opn):=(zd S9.out.row (by omega)).trans rfl
    have f338:=S9.out.frozen 338
    obtain⟨s10,t10⟩:=S9.out.setOpn (decide (cs=0))
    rw[<-HR3.out]at s10
    have S10:Hid (St N (V9.setCell ⟨b,338,none⟩ (.bool (decide (cs=0)))) b r L9):=s10
    have T10:Hid (To b w L (V9.setCell ⟨b,338,none⟩ (.bool (decide (cs=0)))) L9):=T9.out.trans t10
    clear s10 t10
    by_cases hcs:cs=0
    ·subst hcs
     go_wp2_with fail
     refine Ad (Ab rfl _ _ _) rfl ⟨rfl,L9,S10.out,T10.out⟩
    ·have hcs':(cs==0)=false:=by simpa using hcs
     rw[decide_eq_false hcs]at S10 T10
     go_wp2_with fail
     refine Ad (Ab rfl _ _ _) rfl ⟨rfl,L9,S10.out,T10.out⟩
 |true=>
  have e:=HF1.out
  rw[hst]at e
  simp only[if_true]at e
  have CSt:Hid (Calls prog 126 #[.pointer (some ⟨b,0,none⟩),.int .i64 o.seq,cvC c] V6 λe w'=>e=.returned (.tuple #[])/\∃L',St N w' b f1 L'/\To b V6 L5 w' L'):=by rw[e];exact zdN S6.out o.seq c (HSET.out hst)
  have cz0:V6.cell? ⟨z,0,none⟩=some (.int .i64 o.seq):=zl B6.out 0 rfl
  have RC:Hid (V6.heap[p]?=some (.cells (cC c) 68 (0,0))):=C6.out
  clear e HF1 hst HSET
  go_wp2_with(refine Ay rfl 68 _ rfl _ rfl 68 _ (0,0) _ RC.out underlying68 rfl (kL c) ?_)
  refine CSt.out.mono ?_
  rintro e V7 ⟨rfl,L7,u1,u2⟩
  have S7:Hid (St N V7 b f1 L7):=u1
  have T7:Hid (To b w L V7 L7):=T6.out.trans u2
  have B7:Hid (Bx V7 z o):=B6.out.to u2 z5.out
  have C7:Hid (Cb V7 p c):=C6.out.to u2 p5.out
  have z7:Hid (¬own b L7 z):=B6.out.not u2 z5.out
  have p7:Hid (¬own b L7 p):=C6.out.not u2 p5.out
  clear u1 u2 S6 T6 B6 C6 z5 p5 CSt cz0 RC
  have HBr:Hid (V7.heap[z]?=some (.cells D 132 (0,0))):=by rw[HD.out];exact B7.out
  have RC:Hid (V7.heap[p]?=some (.cells (cC c) 68 (0,0))):=C7.out
  have CF:Hid (Calls prog 127 #[.pointer (some ⟨b,0,none⟩),.agg D,cvC c] V7 λe w'=>e=.returned (.bool (jL f1 o c))/\St N w' b (jc f1 o c) L7/\To b V7 L7 w' L7):=by rw[HD.out];exact zcF S7.out o c HTO.out
  obtain⟨rt,hrt⟩:∃rt,rt=jL f1 o c:=⟨_,rfl⟩
  obtain⟨f2,hf2⟩:∃f2,f2=jc f1 o c:=⟨_,rfl⟩
  rw[<-hrt,<-hf2]at CF HR2
  rw[<-hf2]at HB1
  clear hrt hf2 HTO
  go_wp2_with(first|(refine Ay rfl 132 _ rfl _ rfl 132 _ (0,0) _ HBr.out underlying132 rfl HI.out.1 ?_)|(refine Ay rfl 68 _ rfl _ rfl 68 _ (0,0) _ RC.out underlying68 rfl (kL c) ?_))
  refine CF.out.mono ?_
  rintro e V8 ⟨rfl,u1,u2⟩
  have S8:Hid (St N V8 b f2 L7):=u1
  have T8:Hid (To b w L V8 L7):=T7.out.trans u2
  have B8:Hid (Bx V8 z o):=B7.out.to u2 z7.out
  have C8:Hid (Cb V8 p c):=C7.out.to u2 p7.out
  clear u1 u2 S7 T7 B7 C7 CF HBr RC HI HD
  have cn:V8.cell? ⟨p,1,none⟩=some (.int .u32 c.next):=qU C8.out 1 rfl
  have co:V8.cell? ⟨z,13,none⟩=some (.int .u32 o.next):=zl B8.out 13 rfl
  have c0:V8.cell? ⟨z,0,none⟩=some (.int .i64 o.seq):=zl B8.out 0 rfl
  obtain⟨nx,hnx⟩:∃nx,nx=c.next:=⟨_,rfl⟩
  obtain⟨ny,hny⟩:∃ny,ny=o.next:=⟨_,rfl⟩
  rw[<-hnx]at cn HR2
  rw[<-hny]at co HR2
  obtain⟨cs,hcs⟩:∃cs,cs=c.st:=⟨_,rfl⟩
  rw[<-hcs]at HR2
  have HCS:Hid (cs=c.st):=hcs
  clear hnx hny hcs
  by_cases hok:rt=true/\nx=ny
  ·obtain⟨rfl,rfl⟩:=hok
   have hr:=HR2.out
   rw[if_pos ⟨rfl,rfl⟩]at hr
   subst hr
   clear HR2
   go_wp2_with fail
   refine Ad (Ab rfl _ _ _) rfl ⟨rfl,L7,S8.out,T8.out⟩
  ·have hr:=HR2.out
   rw[if_neg hok]at hr
   have HR3:Hid (r={Co.back f2 (o.seq+1) nx with opn:=decide (cs=0)}):=hr
   have CB:Hid (Calls prog 128 #[.pointer (some ⟨b,0,none⟩),.int .i64 (o.seq+1),.int .u32 nx] V8 λe w'=>e=.returned (.tuple #[])/\∃L',St N w' b (Co.back f2 (o.seq+1) nx) L'/\To b V8 L7 w' L'):=zad S8.out HB1.out (o.seq+1) nx
   clear hr HR2
   cases rt with
   |true=>
    have hne:¬nx=ny:=λe=>hok ⟨rfl,e⟩
    have hne':(nx != ny)=true:=by simpa using hne
    clear hok
    go_wp2_with fail
    refine CB.out.mono ?_
    rintro e V9 ⟨rfl,L9,u1,u2⟩
    have S9:Hid (St N V9 b (Co.back f2 (o.seq+1) nx) L9):=u1
    have T9:Hid (To b w L V9 L9):=T8.out.trans u2
    have C9:Hid (Cb V9 p c):=C8.out.to u2 p7.out
    clear u1 u2 S8 T8 C8 B8 CB cn co c0
    have c2:V9.cell? ⟨p,2,none⟩=some (.int .i64 cs):=qU C9.out 2 (by rw[HCS.out];rfl)
    have k338:V9.cell? ⟨b,338,none⟩=some (.bool (Co.back f2 (o.seq+1) nx).opn):=(zd S9.out.row (by omega)).trans rfl
    have f338:=S9.out.frozen 338
    obtain⟨s10,t10⟩:=S9.out.setOpn (decide (cs=0))
    rw[<-HR3.out]at s10
    have S10:Hid (St N (V9.setCell ⟨b,338,none⟩ (.bool (decide (cs=0)))) b r L9):=s10
    have T10:Hid (To b w L (V9.setCell ⟨b,338,none⟩ (.bool (decide (cs=0)))) L9):=T9.out.trans t10
    clear s10 t10
    by_cases hcs:cs=0
    ·subst hcs
     go_wp2_with fail
     refine Ad (Ab rfl _ _ _) rfl ⟨rfl,L9,S10.out,T10.out⟩
    ·have hcs':(cs==0)=false:=by simpa using hcs
     rw[decide_eq_false hcs]at S10 T10
     go_wp2_with fail
     refine Ad (Ab rfl _ _ _) rfl ⟨rfl,L9,S10.out,T10.out⟩
   |false=>
    clear hok
    go_wp2_with fail
    refine CB.out.mono ?_
    rintro e V9 ⟨rfl,L9,u1,u2⟩
    have S9:Hid (St N V9 b (Co.back f2 (o.seq+1) nx) L9):=u1
    have T9:Hid (To b w L V9 L9):=T8.out.trans u2
    have C9:Hid (Cb V9 p c):=C8.out.to u2 p7.out
    clear u1 u2 S8 T8 C8 B8 CB cn co c0
    have c2:V9.cell? ⟨p,2,none⟩=some (.int .i64 cs):=qU C9.out 2 (by rw[HCS.out];rfl)
    have k338:V9.cell? ⟨b,338,none⟩=some (.bool (Co.back f2 (o.seq+1) nx).opn):=(zd S9.out.row (by omega)).trans rfl
    have f338:=S9.out.frozen 338
    obtain⟨s10,t10⟩:=S9.out.setOpn (decide (cs=0))
    rw[<-HR3.out]at s10
    have S10:Hid (St N (V9.setCell ⟨b,338,none⟩ (.bool (decide (cs=0)))) b r L9):=s10
    have T10:Hid (To b w L (V9.setCell ⟨b,338,none⟩ (.bool (decide (cs=0)))) L9):=T9.out.trans t10
    clear s10 t10
    by_cases hcs:cs=0
    ·subst hcs
     go_wp2_with fail
     refine Ad (Ab rfl _ _ _) rfl ⟨rfl,L9,S10.out,T10.out⟩
    ·have hcs':(cs==0)=false:=by simpa using hcs
     rw[decide_eq_false hcs]at S10 T10
     go_wp2_with fail
     refine Ad (Ab rfl _ _ _) rfl ⟨rfl,L9,S10.out,T10.out⟩
theorem zmY(i:In)(pc a b:Int)(n:Nat)(f:Nat->Int)(h:ldn i.op=0):allW n f i pc a b=mach.dow i pc a b n:=by
 unfold allW
 rw[if_neg (by rw[h];exact λh=>h rfl)]
 rfl
theorem cDo{N:Nat}{w:World}{b:Nat}{s:Cr}{L:Sls}(S:St N w b s L)(i:In)(hi:InOk i)(h0:ldn i.op=0)(pc x y:Int)(hp:U32 pc)(hx:U32 x)(hy:U32 y)(W:World)(hW:Below w.heap.size w W):
  Calls prog 90 #[ivI i,.int .u32 pc,.int .u32 x,.int .u32 y,L.m] W λe w'=>e=.returned (cvC (mach.dow i pc x y s.n))/\Below W.heap.size W w':=by
 have S':=S.below hW
 obtain⟨p,cap,em,hB⟩:=S'.its.im
 rw[em,<-zmY i pc x y s.n s.f h0]
 exact zhu i hi pc x y hp.1 hp.2 hx.1 hx.2 hy.1 hy.2 W hB S'.its.tb2
theorem zoV{s:Cr}{l1 l2:List Dg}{o:Dg}(hu:s.under=l1++o::l2)(hr:Rise s.under)(g:Dg->Dg):({s with under:=s.under.set l1.length (g o)}:Cr)={s with under:=putO s.under o.seq g}:=by rw[(zdH hu hr g).1]
theorem kN{N:Nat}{w:World}{b:Nat}{s:Cr}{L:Sls}(S:St N w b s L){m:Nat->Int}{K:Int}(A:Al mach K s m)(hK:K<=8000000){l1 l2:List Dg}{o:Dg}(hu:s.under=l1++o::l2)(h1:o.st=0):
  Calls prog 63 #[.pointer (some ⟨b,0,none⟩),.int .i64 (l1.length:Int)] w λe w'=>e=.returned (.tuple #[])/\∃L',St N w' b (sta1 mach s o) L'/\To b w L w' L':=by
 have ho:o∈s.under:=by rw[hu];simp
 have hin:=zk4 jH A.inv ho (by omega)
 have hdr:=A.rg.und o ho
 obtain⟨ra0,rb0,_,_⟩:=kM zN A.inv ho A.rg.phys
 have hwa:=A.rg.wd o.a
 have hwb:=A.rg.wd o.b
 obtain⟨r,hrr⟩:∃r,r=sta1 mach s o:=⟨_,rfl⟩
 rw[<-hrr]
 have HR:Hid (r=if ldn o.i.op≠0 then{s with under:=putO s.under o.seq (λo=>{o with st:=1})}else finish s o (mach.dow o.i o.pc (s.wd o.a) (s.wd o.b) s.n)):=hrr
 have hjo:s.under[l1.length]?=some o:=by rw[hu];simp
 have hjl:l1.length<s.under.length:=(Ae.1 hjo).1
 have HP1:Hid (({s with under:=s.under.set l1.length {o with st:=1}}:Cr)={s with under:=putO s.under o.seq (λo=>{o with st:=1})}):=zoV hu A.inv.rise (λo=>{o with st:=1})
 have hln:=A.len
 have HFN:Hid (ldn o.i.op=0->∀W,(St N W b s L)->Calls prog 87 #[.pointer (some ⟨b,0,none⟩),.int .i64 (l1.length:Int),cvC (mach.dow o.i o.pc (s.wd o.a) (s.wd o.b) s.n)] W λe w'=>e=.returned (.tuple #[])/\∃L',St N w' b (finish s o (mach.dow o.i o.pc (s.wd o.a) (s.wd o.b) s.n)) L'/\To b W L w' L'):=λh0 W SW=>by
  obtain⟨l1',l2',hu',hloc⟩:=xf A.inv.ch ho
  have hz:(fet mach s.n (fE s.f l1') (pE s.pc l1')).2=0:=Classical.byContradiction λhz=>by have:=(hloc.bad hz).1;omega
  obtain⟨x,hx⟩:=vC hz
  rw[<-hloc.ins]at hx
  have hcm:=yM zN hx s.n s.f o.pc (s.wd o.a) (s.wd o.b)
  unfold comC at hcm
  rw[if_neg (by rw[h0];exact λh=>h rfl)]at hcm
  exact xY SW A hK hu (by omega) hcm (jH.dow _ _ _ _ hin hdr.pc hwa hwb)
 have HDO:Hid (ldn o.i.op=0->∀W,St N W b s L->Calls prog 90 #[ivI o.i,.int .u32 o.pc,.int .u32 (s.wd o.a),.int .u32 (s.wd o.b),L.m] W λe w'=>e=.returned (cvC (mach.dow o.i o.pc (s.wd o.a) (s.wd o.b) s.n))/\Below W.heap.size W w'):=λh0 W SW=>cDo SW o.i hin h0 o.pc _ _ hdr.pc hwa hwb W (Aj _ _)
 obtain⟨j,hj⟩:∃j,j=l1.length:=⟨_,rfl⟩
 rw[<-hj]at hjo hjl HP1 HFN⊢
 obtain⟨x,hx⟩:∃x:Nat,o.a=(x:Int):=An ra0.1
 obtain⟨y,hy⟩:∃y:Nat,o.b=(y:Int):=An rb0.1
 have hx1:x<96:=by have:=ra0.2;omega
 have hy1:y<96:=by have:=rb0.2;omega
 rw[hx,hy]at HR HFN HDO
 have HXY:Hid (o.a=(x:Int)/\o.b=(y:Int)):=⟨hx,hy⟩
 obtain⟨D,hD⟩:∃D,D=(dgl o).toArray:=⟨_,rfl⟩
 have HD:Hid (D=(dgl o).toArray):=hD
 have HI:Hid ((prog.info? 132).map (·.size)=some D.size/\28=D.size/\D.all (·.oneCell')=true):=by rw[hD];exact⟨zM o,rfl,jd o⟩
 clear hrr hu h1 A ho hj hD hin hdr ra0 rb0 hwa hwb hx hy
 go_enter func63,ntmps63
 obtain⟨ug,uo,uc,euv,huc,_,hug,hucs,_⟩:=S.its.iu.at (by omega)
 have k334:w.cell? ⟨b,334,none⟩=some (.slice (some ⟨ug,uo,none⟩) s.under.length uc):=(zd S.row (by omega)).trans (congrArg some euv)
 have HRg:Hid (w.rangeAt ug (uo+j*28) (dgl o)):=by
  intro i v hv
  rw[Am]
  exact hucs _ _ (qK zH hjo hv)
 have HEU:Hid (L.u=.slice (some ⟨ug,uo,none⟩) s.under.length uc):=euv
 obtain⟨un,hun⟩:∃un,un=s.under.length:=⟨_,rfl⟩
 rw[<-hun]at k334 HEU huc hjl hln
 have j0:0<=(j:Int):=by omega
 have j1:(j:Int)<(un:Int):=by omega
 have hjo':Hid (s.under[j]?=some o):=hjo
 clear euv hucs hug hun hjo
 go_upto_region 1 with(first|(refine Ak rfl 132 _ rfl ug (uo+j*28) rfl (dgl o) _ HRg.out underlying132 rfl qw ?_;rw[<-HD.out])|(refine Aw rfl 132 _ _ rfl _ _ rfl rfl 132 _ (heap_alloc_new _ _) HI.out.1 HI.out.2.1 HI.out.2.2 ?_;rw[Aq]))
 refine Wi.zh (Φ:=λW=>AB _ _ _ _ W) ?_
 intro V1 h1 hb
 have B1:Hid (Bx V1 w.heap.size o):=by show _=_;rw[h1,HD.out]
 have S1:Hid (St N V1 b s L):=S.below hb
 have T1:Hid (To b w L V1 L):=zf L hb
 clear h1 hb S k334 HRg
 generalize w.heap.size=z at*
 have k334:V1.cell? ⟨b,334,none⟩=some (.slice (some ⟨ug,uo,none⟩) un uc):=(zd S1.out.row (by omega)).trans (congrArg some HEU.out)
 have c2:V1.cell? ⟨z,2,none⟩=some (.int .i64 o.i.op):=zl B1.out 2 rfl
 have CL:=λW=>ji o.i.op W
 have l0:=yw o.i.op
 obtain⟨ld,hld⟩:∃ld,ld=ldn o.i.op:=⟨_,rfl⟩
 rw[<-hld]at CL HR HFN HDO l0
 clear hld HD HI
 go_wp2_with fail
 refine(CL _).mono ?_
 rintro e V2 ⟨rfl,hk⟩
 subst hk
 clear CL
 by_cases h0:ld=0
 ·have hr:=HR.out
  rw[if_neg (by rw[h0];exact λh=>h rfl)]at hr
  have HR2:Hid (r=finish s o (mach.dow o.i o.pc (s.wd (x:Int)) (s.wd (y:Int)) s.n)):=hr
  subst h0
  have HDO2:=HDO.out rfl
  have HFN2:=HFN.out rfl
  have HDO3:Hid _:=HDO2
  have HFN3:Hid _:=HFN2
  clear hr HR HDO HFN HDO2 HFN2 HP1 l0
  have cx:=S1.out.wrd x hx1
  have cy:=S1.out.wrd y hy1
  obtain⟨wx,hwx⟩:∃wx,wx=s.wd (x:Int):=⟨_,rfl⟩
  obtain⟨wy,hwy⟩:∃wy,wy=s.wd (y:Int):=⟨_,rfl⟩
  rw[<-hwx]at cx HDO3 HFN3 HR2
  rw[<-hwy]at cy HDO3 HFN3 HR2
  clear hwx hwy
  obtain⟨pm,cm,em,hm'⟩:=S1.out.its.im
  have k39:V2.cell? ⟨b,39,none⟩=some (.slice pm s.n cm):=(zd S1.out.row (by omega)).trans (congrArg some em)
  rw[em]at HDO3
  clear hm' em
  have c8:V2.cell? ⟨z,8,none⟩=some (.int .i64 (x:Int)):=zl B1.out 8 (by rw[<-HXY.out.1];rfl)
  have c9:V2.cell? ⟨z,9,none⟩=some (.int .i64 (y:Int)):=zl B1.out 9 (by rw[<-HXY.out.2];rfl)
  have c1:V2.cell? ⟨z,1,none⟩=some (.int .u32 o.pc):=zl B1.out 1 rfl
  have x0:0<=(x:Int):=by omega
  have x1:(x:Int)<96:=by omega
  have y0:0<=(y:Int):=by omega
  have y1:(y:Int)<96:=by omega
  obtain⟨cm0,hcm0⟩:∃c0,c0=mach.dow o.i o.pc wx wy s.n:=⟨_,rfl⟩
  rw[<-hcm0]at HDO3 HFN3 HR2
  clear hcm0
  go_upto_region 3 with fail
  refine zu (S:=λw'=>w'.rangeAt z 2 ((ivL o.i).toList)/\w'.cell? ⟨z,1,none⟩=some (.int .u32 o.pc)/\w'.cell? ⟨z,8,none⟩=some (.int .i64 (x:Int))/\w'.cell? ⟨z,9,none⟩=some (.int .i64 (y:Int))/\w'.cell? ⟨b,141+x,none⟩=some (.int .u32 wx)/\w'.cell? ⟨b,141+y,none⟩=some (.int .u32 wy)/\w'.cell? ⟨b,39,none⟩=some (.slice pm s.n cm)) [25] (by kernel_rfl) (⟨xl B1.out,c1,c8,c9,cx,cy,k39⟩) (λhH=>?_)
  refine tU 0 (.pointer (some ⟨b,0,none⟩)) ?_;go_simp
  refine tU 1 (.int .i64 (j:Int)) ?_;go_simp
  refine tU 2 (.pointer (some ⟨z,2,none⟩)) ?_;go_simp
  refine tS 3 (.agg ((ivL o.i).toList).toArray) rfl (Af (by rfl) 78 _ rfl _ _ rfl ((ivL o.i).toList) _ (λwz hSw=>hSw.1) underlying78 rfl (qP _)) hH ?_;go_simp
  refine tU 4 (.pointer (some ⟨z,1,none⟩)) ?_;go_simp
  refine tS 5 (.int .u32 o.pc) rfl (Or.inl ⟨by rfl,by intro wz hSw;have hc:=hSw.2.1;go_simp⟩) hH ?_;go_simp
  refine tU 6 (.pointer (some ⟨b,0,none⟩)) ?_;go_simp
  refine tU 7 (.pointer (some ⟨z,8,none⟩)) ?_;go_simp
  refine tU 9 (.pointer (some ⟨b,0,none⟩)) ?_;go_simp
  refine tU 10 (.pointer (some ⟨b,141,none⟩)) ?_;go_simp
  refine tU 13 (.pointer (some ⟨b,0,none⟩)) ?_;go_simp
  refine tU 14 (.pointer (some ⟨z,9,none⟩)) ?_;go_simp
  refine tU 16 (.pointer (some ⟨b,0,none⟩)) ?_;go_simp
  refine tU 17 (.pointer (some ⟨b,141,none⟩)) ?_;go_simp
  refine tU 20 (.pointer (some ⟨b,0,none⟩)) ?_;go_simp
  refine tU 21 (.pointer (some ⟨b,0,none⟩)) ?_;go_simp
  refine tU 22 (.pointer (some ⟨b,3,none⟩)) ?_;go_simp
  refine tU 23 (.pointer (some ⟨b,39,none⟩)) ?_;go_simp
  refine tS 24 (.slice pm s.n cm) rfl (Or.inl ⟨by rfl,by intro wz hSw;have hc:=hSw.2.2.2.2.2.2;go_simp⟩) hH ?_;go_simp
  refine rZ [8,15] ?_
  refine(zj.cons rfl (λK hK=>?_) (zj.cons rfl (λK hK=>?_) zj.nil))
  case' _=>
   have hc:=hH.2.2.1
   go_simp
   clear hc
   refine hK.out _ _ (hH) (λhN=>?_)
   clear hK K hH
   have hH:=hN
   clear hN
   try go_simp
   refine tU 11 (.pointer (some ⟨b,141+x,none⟩)) ?_;go_simp
   refine tS 12 (.int .u32 wx) rfl (Or.inl ⟨by rfl,by intro wz hSw;have hc:=hSw.2.2.2.2.1;go_simp⟩) hH ?_;go_simp
   refine zC 15 rfl (λK hK=>?_)
   have hc:=hH.2.2.2.1
   go_simp
   clear hc
   refine hK.out _ _ (hH) (λhN=>?_)
   clear hK K hH
   have hH:=hN
   clear hN
   try go_simp
   refine tU 18 (.pointer (some ⟨b,141+y,none⟩)) ?_;go_simp
   refine tS 19 (.int .u32 wy) rfl (Or.inl ⟨by rfl,by intro wz hSw;have hc:=hSw.2.2.2.2.2.1;go_simp⟩) hH ?_;go_simp
  rotate_left
  case' _=>
   have hc:=hH.2.2.2.1
   go_simp
   clear hc
   refine hK.out _ _ (hH) (λhN=>?_)
   clear hK K hH
   have hH:=hN
   clear hN
   try go_simp
   refine tU 18 (.pointer (some ⟨b,141+y,none⟩)) ?_;go_simp
   refine tS 19 (.int .u32 wy) rfl (Or.inl ⟨by rfl,by intro wz hSw;have hc:=hSw.2.2.2.2.2.1;go_simp⟩) hH ?_;go_simp
   refine zC 8 rfl (λK hK=>?_)
   have hc:=hH.2.2.1
   go_simp
   clear hc
   refine hK.out _ _ (hH) (λhN=>?_)
   clear hK K hH
   have hH:=hN
   clear hN
   try go_simp
   refine tU 11 (.pointer (some ⟨b,141+x,none⟩)) ?_;go_simp
   refine tS 12 (.int .u32 wx) rfl (Or.inl ⟨by rfl,by intro wz hSw;have hc:=hSw.2.2.2.2.1;go_simp⟩) hH ?_;go_simp
  rotate_left
  all_goals
   refine zL 25 rfl (λK hK=>?_)
   go_simp
   refine(HDO3.out _ S1.out.dr).mono ?_
   rintro e V4 ⟨rfl,hk4⟩
   have HK4:Hid (Below V2.heap.size V2 V4):=zg hk4 (Aa _)
   have S4:Hid (St N V4 b s L):=S1.out.below HK4.out
   go_wp2_with fail
   refine hK.out _ _ ?_
   clear hK K
   try go_simp
   refine zL 26 rfl (λK hK=>?_)
   go_simp
   refine(HFN3.out _ S4.out).mono ?_
   rintro e V5 ⟨rfl,L5,u1,u2⟩
   rw[<-HR2.out]at u1
   have S5:Hid (St N V5 b r L5):=u1
   have T5:Hid (To b w L V5 L5):=(T1.out.trans (zf L HK4.out)).trans u2
   clear u1 u2
   go_wp2_with fail
   refine hK.out _ _ ?_
   clear hK K
   try go_simp
   refine zG (by kernel_rfl) ?_ _
   clear hH
   go_wp2_with fail
   refine Ad (Ab rfl _ _ _) rfl ⟨rfl,L5,S5.out,T5.out⟩
 ·have hr:=HR.out
  rw[if_pos h0,<-HP1.out]at hr
  have HR2:Hid (r={s with under:=s.under.set j {o with st:=1}}):=hr
  have hgt:(0:Int)<ld:=by omega
  clear hr HR HDO HFN HP1 l0 h0
  have c7:V2.cell? ⟨ug,uo+j*28+7,none⟩=some (.int .i64 o.st):=by
   obtain⟨g',o',cap',ev3,_,_,_,hcs,_⟩:=S1.out.its.iu.at (by have:=(Ae.1 hjo'.out).1;omega)
   obtain⟨rfl,rfl⟩:ug=g'/\uo=o':=by rw[HEU.out]at ev3;injection ev3 with h1 _ _;injection h1 with h1;injection h1 with h1 h2;exact⟨h1,h2⟩
   rw[Am]
   exact hcs _ _ (qK zH hjo'.out rfl)
  obtain⟨g',o',cap',ev',hth,s2,t2⟩:=S1.out.putU (y:={o with st:=1}) (j:=7) (news:=[.int .i64 1]) hjo'.out (by decide) rfl (by intro u hu;simp at hu;subst hu;rfl)
  obtain⟨rfl,rfl⟩:ug=g'/\uo=o':=by rw[HEU.out]at ev';injection ev' with h1 _ _;injection h1 with h1;injection h1 with h1 h2;exact⟨h1,h2⟩
  rw[<-Am]at hth s2 t2
  have f7:V2.frozen? ⟨ug,uo+j*28+7,none⟩=false:=(hth 0 (by decide)).2
  rw[<-HR2.out]at s2
  have S3:Hid (St N (V2.setCell ⟨ug,uo+j*28+7,none⟩ (.int .i64 1)) b r L):=s2
  have T3:Hid (To b w L (V2.setCell ⟨ug,uo+j*28+7,none⟩ (.int .i64 1)) L):=T1.out.trans t2
  clear hth s2 t2 ev'
  go_wp2_with fail
  refine bodyPost_ret (Ab rfl _ _ _) rfl ⟨rfl,L,S3.out,T3.out⟩
theorem zoW{op:Int}(h:ldn op≠0):11<=op/\op<=15:=by
 unfold ldn at h
 by_cases h1:op=11\/op=14
 ·omega
 ·rw[if_neg h1]at h
  by_cases h2:op=12\/op=15
  ·omega
  ·rw[if_neg h2]at h
   by_cases h3:op=13
   ·omega
   ·rw[if_neg h3]at h;exact absurd rfl h
theorem zmZ{n:Nat}{i:In}{pc v:Int}(h:ldn i.op≠0):CmIs n i pc (onC pc i.rd v):=by
 have:=zoW h
 refine⟨.inl rfl,λ_=>?_,λh=>absurd rfl h⟩
 show i.rd=gvs i
 unfold gvs
 rw[if_neg (by omega)]
theorem zm0{n:Nat}{i:In}{pc k:Int}(h:ldn i.op≠0):CmIs n i pc (qn pc k):=by
 have:=zoW h
 exact zca n i pc k (by omega) (vS (.inr (by omega)))
theorem zoX{K:Int}{s:Cr}{m:Nat->Int}(A:Al mach K s m){l1 l2:List Dg}{o:Dg}(hu:s.under=l1++o::l2)(x many:Int)(hx:U32 x)(hm:0<=many/\many<=4):Al mach (K+1) {s with asked:=s.asked++[ldA o.seq x many]} m:=
 ⟨zhh A.inv hu x many,zk2 A.rg hx hm,zdG A.uq rfl,A.low,A.tak,A.wid,A.bck⟩
theorem zir{s:Cr}{op seq x:Int}{mN:Nat}(hm:ldn op=(mN:Int))(h0:ldn op≠0)(hf:∀i,i<s.n->0<=s.f i/\s.f i<=255)(h:fits s.n x mN=true):ldv op (bt (seeV s.asked seq x mN s.f))=ldv op (sb s.asked seq s.asked.length x.toNat s.f):=by
 have hp:=jA h
 have hl:=yw op
 refine zb9 h0 λk hk=>?_
 unfold seeV
 rw[Int.toNat_natCast]
 exact bt_le (by omega) (λi hi=>zbY (hf _ (by omega))) k (by omega)
theorem zkl(op:Int)(W:World):Calls prog 85 #[.int .i64 op] W λe w'=>e=.returned (.int .u32 (ldn op))/\Below W.heap.size W w':=by
 refine(ji op W).mono ?_
 rintro e w' ⟨rfl,rfl⟩
 exact⟨rfl,Aj _ _⟩
theorem zcG{N:Nat}{w:World}{b:Nat}{s:Cr}{L:Sls}(S:St N w b s L){m:Nat->Int}{K:Int}(A:Al mach K s m)(hK:K<=7000000){l1 l2:List Dg}{o:Dg}(hu:s.under=l1++o::l2)(h1:o.st=1):
  Calls prog 59 #[.pointer (some ⟨b,0,none⟩),.int .i64 (l1.length:Int)] w λe w'=>e=.returned (.tuple #[])/\∃L',St N w' b (lod1 s o) L'/\To b w L w' L':=by
 obtain⟨iA,hi,hz0,hz1,hz2⟩:=info_parts zmo
 have ho:o∈s.under:=by rw[hu];simp
 have hdr:=A.rg.und o ho
 have hl0:=zk3 A.inv ho h1
 obtain⟨ra0,_,_,_⟩:=kM zN A.inv ho A.rg.phys
 have hwa:=A.rg.wd o.a
 obtain⟨mN,hmN⟩:∃mN:Nat,ldn o.i.op=(mN:Int):=An (yw _).1
 have hmc:mN=1\/mN=2\/mN=4:=by rcases xd o.i.op with h|h|h|h<;>omega
 obtain⟨x,hx⟩:∃x:Nat,o.a=(x:Int):=An ra0.1
 have hx1:x<96:=by have:=ra0.2;omega
 have him:-2147483648<=o.i.im/\o.i.im<=2147483647:=by
  rcases hdr.i with h|h
  ·rw[h];decide
  ·exact⟨h.i0,h.i1⟩
 obtain⟨wx,hwx⟩:∃wx,wx=s.wd (x:Int):=⟨_,rfl⟩
 obtain⟨iw,hiw⟩:∃iw,IntKind.u32.wrap o.i.im=iw:=⟨_,rfl⟩
 obtain⟨pl,hpl⟩:∃pl,IntKind.u32.wrap (wx+iw)=pl:=⟨_,rfl⟩
 have epl:place o.i (s.wd o.a)=pl:=by rw[<-hpl,<-hiw,hx,hwx,zfU,zfU];unfold place;omega
 have hplU:U32 pl:=by rw[<-epl];exact zh0 _ _
 obtain⟨ok,hok⟩:∃ok,ok=fits s.n pl mN:=⟨_,rfl⟩
 obtain⟨su,hsu⟩:∃su,su=(fits s.n pl mN&&seeU s.asked o.seq):=⟨_,rfl⟩
 obtain⟨vv,hvv⟩:∃vv,vv=if fits s.n pl mN then seeV s.asked o.seq pl mN s.f else 0:=⟨_,rfl⟩
 have hvU:U32 vv:=by
  rw[hvv]
  split
  ·rename_i hf
   exact zhS A.rg.f (by omega) hf
  ·exact u0
 have CSe:Hid (∀W,Below w.heap.size w W->Calls prog 86 #[L.a,L.m,.int .i64 o.seq,.int .u32 pl,.int .i64 (mN:Int)] W λe w'=>e=.returned (.tuple #[.int .u32 vv,.bool ok,.bool su])/\Below W.heap.size W w'):=λW hW=>by
  have:=cSee S A.rg.ask (by have:=A.rg.lenA;omega) o.seq pl hplU mN hmc W hW
  unfold seeA at this
  rw[<-hsu,<-hvv,<-hok]at this
  exact this
 obtain⟨r,hrr⟩:∃r,r=lod1 s o:=⟨_,rfl⟩
 rw[<-hrr]
 have HR:Hid (r=if ok=true then(if(!(seeU s.asked o.seq)&&o.car)=true then s else finish {s with asked:=s.asked++[ldA o.seq pl (mN:Int)]} o (onC o.pc o.i.rd (ldv o.i.op (bt vv))))else finish s o (qn o.pc 3)):=by
  show _=_
  rw[hrr]
  unfold lod1
  simp only[]
  rw[epl,hmN,hok]
  by_cases hf:fits s.n pl mN=true
  ·rw[if_pos hf,if_pos hf,hvv,if_pos hf,zir hmN hl0 A.rg.f hf]
  ·rw[if_neg hf,if_neg hf]
 have HF1:Hid (∀W L',St N W b {s with asked:=s.asked++[ldA o.seq pl (mN:Int)]} L'->∀v,U32 v->Calls prog 87 #[.pointer (some ⟨b,0,none⟩),.int .i64 (l1.length:Int),cvC (onC o.pc o.i.rd v)] W λe w'=>e=.returned (.tuple #[])/\∃L'',St N w' b (finish {s with asked:=s.asked++[ldA o.seq pl (mN:Int)]} o (onC o.pc o.i.rd v)) L''/\To b W L' w' L''):=λW L' SW v hv=>
  xY SW (zoX A hu pl (mN:Int) hplU (by omega)) (by omega) hu (by omega) (zmZ hl0) (zeM hdr.pc hdr.rd hv)
 have HF2:Hid (∀W L',St N W b s L'->Calls prog 87 #[.pointer (some ⟨b,0,none⟩),.int .i64 (l1.length:Int),cvC (qn o.pc 3)] W λe w'=>e=.returned (.tuple #[])/\∃L'',St N w' b (finish s o (qn o.pc 3)) L''/\To b W L' w' L''):=λW L' SW=>
  xY SW A (by omega) hu (by omega) (zm0 hl0) (jC hdr.pc (by omega))
 have HLV:Hid (ok=true->U32 (ldv o.i.op (bt vv))):=λh=>by
  have hf:fits s.n pl mN=true:=by rw[<-hok];exact h
  rw[hvv,if_pos hf,zir hmN hl0 A.rg.f hf]
  have hp:=jA hf
  exact zh5 hl0 λk hk=>zbY (A.rg.f _ (by omega))
 have HSU:Hid (ok=true->su=seeU s.asked o.seq):=λh=>by rw[hsu,<-hok,h];rfl
 have CE:Hid (∀W,Calls prog 89 #[.int .i64 o.i.op,.int .u32 vv] W λe w'=>e=.returned (.int .u32 (ldv o.i.op (bt vv)))/\Below W.heap.size W w'):=λW=>zbq o.i.op vv hvU hl0 W
 have CLd:Hid (∀W v,Calls prog 88 #[ivI o.i,.int .u32 o.pc,.int .u32 v,.bool ok] W λe w'=>e=.returned (cvC (if ok then onC o.pc o.i.rd v else qn o.pc 3))/\Below W.heap.size W w'):=λW v=>zmm o.i o.pc v hdr.pc W ok
 have hlA:s.asked.length<=100000000:=by have:=A.rg.lenA;omega
 have hjo:s.under[l1.length]?=some o:=by rw[hu];simp
 have hjl:l1.length<s.under.length:=(Ae.1 hjo).1
 have hln:=A.len
 obtain⟨j,hj⟩:∃j,j=l1.length:=⟨_,rfl⟩
 rw[<-hj]at hjo hjl HF1 HF2⊢
 have HX:Hid (o.a=(x:Int)):=hx
 obtain⟨D,hD⟩:∃D,D=(dgl o).toArray:=⟨_,rfl⟩
 have HD:Hid (D=(dgl o).toArray):=hD
 have HI:Hid ((prog.info? 132).map (·.size)=some D.size/\28=D.size/\D.all (·.oneCell')=true):=by rw[hD];exact⟨zM o,rfl,jd o⟩
 have CL:=λW=>zkl o.i.op W
 rw[hmN]at CL
 have HWX:Hid (wx=s.wd (x:Int)):=hwx
 have wx0:0<=wx/\wx<=4294967295:=by rw[hwx,<-hx];exact hwa
 clear hrr hu h1 A ho hj hD hdr ra0 hwa hx hmN hl0 epl hok hsu hvv hvU hplU hwx
 go_enter func59,ntmps59
 obtain⟨ug,uo,uc,euv,huc,_,hug,hucs,_⟩:=S.its.iu.at (by omega)
 have k334:w.cell? ⟨b,334,none⟩=some (.slice (some ⟨ug,uo,none⟩) s.under.length uc):=(zd S.row (by omega)).trans (congrArg some euv)
 have HRg:Hid (w.rangeAt ug (uo+j*28) (dgl o)):=by
  intro i v hv
  rw[Am]
  exact hucs _ _ (qK zH hjo hv)
 obtain⟨un,hun⟩:∃un,un=s.under.length:=⟨_,rfl⟩
 rw[<-hun]at k334 huc hjl hln
 have j0:0<=(j:Int):=by omega
 have j1:(j:Int)<(un:Int):=by omega
 clear euv hucs hug hun hjo
 go_upto_region 1 with(first|(refine Ak rfl 132 _ rfl ug (uo+j*28) rfl (dgl o) _ HRg.out underlying132 rfl qw ?_;rw[<-HD.out])|(refine Aw rfl 132 _ _ rfl _ _ rfl rfl 132 _ (heap_alloc_new _ _) HI.out.1 HI.out.2.1 HI.out.2.2 ?_;rw[Aq]))
 refine Wi.zh (Φ:=λW=>AB _ _ _ _ W) ?_
 intro V1 h1 hb
 have B1:Hid (Bx V1 w.heap.size o):=by show _=_;rw[h1,HD.out]
 have S1:Hid (St N V1 b s L):=S.below hb
 have T1:Hid (To b w L V1 L):=zf L hb
 have HB1:Hid (Below w.heap.size w V1):=hb
 have hzo:Hid (¬own b L w.heap.size):=λh=>by have:=qR S h;omega
 clear h1 hb S k334 HRg HI HD
 obtain⟨z,hz⟩:∃z,z=w.heap.size:=⟨_,rfl⟩
 rw[<-hz]at B1 hzo⊢
 clear hz
 have c2:V1.cell? ⟨z,2,none⟩=some (.int .i64 o.i.op):=zl B1.out 2 rfl
 have c6:V1.cell? ⟨z,6,none⟩=some (.int .i32 o.i.im):=zl B1.out 6 rfl
 have c8:V1.cell? ⟨z,8,none⟩=some (.int .i64 (x:Int)):=zl B1.out 8 (by rw[<-HX.out];rfl)
 have cx:V1.cell? ⟨b,141+x,none⟩=some (.int .u32 wx):=by rw[HWX.out];exact S1.out.wrd x hx1
 have x0:0<=(x:Int):=by omega
 have x1:(x:Int)<96:=by omega
 have m0:0<=(mN:Int):=by omega
 have m4:(mN:Int)<=4:=by omega
 have hwm:IntKind.i64.wrap (mN:Int)=(mN:Int):=by rcases hmc with h|h|h<;>rw[h]<;>rfl
 refine zu (S:=λw'=>w'.cell? ⟨z,2,none⟩=some (.int .i64 o.i.op)/\w'.cell? ⟨z,6,none⟩=some (.int .i32 o.i.im)/\w'.cell? ⟨z,8,none⟩=some (.int .i64 (x:Int))/\w'.cell? ⟨b,141+x,none⟩=some (.int .u32 wx)) [] (by kernel_rfl) (⟨c2,c6,c8,cx⟩) (λhH=>?_)
 refine tU 0 (.pointer (some ⟨b,0,none⟩)) ?_;go_simp
 refine tU 1 (.pointer (some ⟨z,8,none⟩)) ?_;go_simp
 refine tS 2 (.int .i64 (x:Int)) rfl (Or.inl ⟨by rfl,by intro wz hSw;have hc:=hSw.2.2.1;go_simp⟩) hH ?_;go_simp
 refine tU 3 (.pointer (some ⟨b,0,none⟩)) ?_;go_simp
 refine tU 4 (.pointer (some ⟨b,141,none⟩)) ?_;go_simp
 refine tU 5 (.pointer (some ⟨b,141+x,none⟩)) ?_;go_simp
 refine tS 6 (.int .u32 wx) rfl (Or.inl ⟨by rfl,by intro wz hSw;have hc:=hSw.2.2.2;go_simp⟩) hH ?_;go_simp
 refine tU 7 (.pointer (some ⟨z,2,none⟩)) ?_;go_simp
 refine tU 8 (.pointer (some ⟨z,6,none⟩)) ?_;go_simp
 refine tS 9 (.int .i32 o.i.im) rfl (Or.inl ⟨by rfl,by intro wz hSw;have hc:=hSw.2.1;go_simp⟩) hH ?_;go_simp
 refine tU 10 (.int .u32 iw) ?_;go_simp
 refine tU 11 (.int .u32 pl) ?_;go_simp
 refine tU 12 (.pointer (some ⟨z,2,none⟩)) ?_;go_simp
 refine tU 13 (.pointer (some ⟨z,2,none⟩)) ?_;go_simp
 refine tA 14 (.int .i64 o.i.op) ?_;go_simp
 refine zC 15 rfl (λK hK=>?_)
 go_simp
 refine(CL _).mono ?_
 rintro e V2 ⟨rfl,hk2⟩
 have HK2:Hid (Below V1.heap.size V1 V2):=zg hk2 (Aa _)
 go_wp2_with fail
 refine hK.out _ _ (⟨zn hk2 (hH.1),zn hk2 (hH.2.1),zn hk2 (hH.2.2.1),zn hk2 (hH.2.2.2)⟩) (λhN=>?_)
 clear hK K hH
 have hH:=hN
 clear hN
 try go_simp
 refine tU 16 (.int .i64 (mN:Int)) ?_;go_simp
 refine tU 17 (.int .u32 pl) ?_;go_simp
 refine tU 18 (.int .i64 (mN:Int)) ?_;go_simp
 refine zG (by kernel_rfl) ?_ _
 have S2:Hid (St N V2 b s L):=S1.out.below HK2.out
 have B2:Hid (Bx V2 z o):=B1.out.below HK2.out
 have T2:Hid (To b w L V2 L):=T1.out.trans (zf L HK2.out)
 have HB2:Hid (Below w.heap.size w V2):=HB1.out.trans (HK2.out.mono HB1.out.size)
 clear hH c2 c6 c8 cx S1 B1 T1 HB1 HK2 CL hiw hpl x0 x1 wx0 him
 obtain⟨aa,ca,ea⟩:=S2.out.its.ia.slice
 obtain⟨pm,cm,em,hm'⟩:=S2.out.its.im
 have k39:V2.cell? ⟨b,39,none⟩=some (.slice pm s.n cm):=(zd S2.out.row (by omega)).trans (congrArg some em)
 have k335:V2.cell? ⟨b,335,none⟩=some (.slice aa s.asked.length ca):=(zd S2.out.row (by omega)).trans (congrArg some ea)
 rw[em,ea]at CSe
 clear hm' em ea
 have c0:V2.cell? ⟨z,0,none⟩=some (.int .i64 o.seq):=zl B2.out 0 rfl
 go_upto_region 2 with fail
 refine zu (S:=λw'=>w'.cell? ⟨b,335,none⟩=some (.slice aa s.asked.length ca)/\w'.cell? ⟨b,39,none⟩=some (.slice pm s.n cm)/\w'.cell? ⟨z,0,none⟩=some (.int .i64 o.seq)) [] (by kernel_rfl) (⟨k335,k39,c0⟩) (λhH=>?_)
 refine tU 0 (.pointer (some ⟨b,0,none⟩)) ?_;go_simp
 refine tU 1 (.pointer (some ⟨b,0,none⟩)) ?_;go_simp
 refine tU 2 (.pointer (some ⟨b,335,none⟩)) ?_;go_simp
 refine tA 3 (.slice aa s.asked.length ca) ?_;go_simp
 refine tU 4 (.pointer (some ⟨b,0,none⟩)) ?_;go_simp
 refine tU 5 (.pointer (some ⟨b,0,none⟩)) ?_;go_simp
 refine tU 6 (.pointer (some ⟨b,3,none⟩)) ?_;go_simp
 refine tU 7 (.pointer (some ⟨b,39,none⟩)) ?_;go_simp
 refine tS 8 (.slice pm s.n cm) rfl (Or.inl ⟨by rfl,by intro wz hSw;have hc:=hSw.2.1;go_simp⟩) hH ?_;go_simp
 refine tU 9 (.pointer (some ⟨z,0,none⟩)) ?_;go_simp
 refine tS 10 (.int .i64 o.seq) rfl (Or.inl ⟨by rfl,by intro wz hSw;have hc:=hSw.2.2;go_simp⟩) hH ?_;go_simp
 refine tU 11 (.int .u32 pl) ?_;go_simp
 refine tU 12 (.int .i64 (mN:Int)) ?_;go_simp
 refine zC 13 rfl (λK hK=>?_)
 go_simp
 refine(CSe.out _ HB2.out.drew).mono ?_
 rintro e V3 ⟨rfl,hk3⟩
 have HK3:Hid (Below V2.heap.size V2 V3):=zg hk3 (Aa _)
 go_wp2_with fail
 refine hK.out _ _ (⟨zn hk3 (hH.1),zn hk3 (hH.2.1),zn hk3 (hH.2.2)⟩) (λhN=>?_)
 clear hK K hH
 have hH:=hN
 clear hN
 try go_simp
 refine tU 14 (.tuple #[.int .u32 vv,.bool ok,.bool su]) ?_;go_simp
 refine tU 15 (.int .u32 vv) ?_;go_simp
 refine tU 16 (.bool ok) ?_;go_simp
 refine tU 17 (.bool su) ?_;go_simp
 refine tU 18 (.int .u32 vv) ?_;go_simp
 refine tU 19 (.bool ok) ?_;go_simp
 refine tU 20 (.bool su) ?_;go_simp
 refine zG (by kernel_rfl) ?_ _
 have S3:Hid (St N V3 b s L):=S2.out.below HK3.out
 have B3:Hid (Bx V3 z o):=B2.out.below HK3.out
 have T3:Hid (To b w L V3 L):=T2.out.trans (zf L HK3.out)
 clear hH c0 k39 k335 S2 B2 T2 HB2 HK3 CSe
 have c16:V3.cell? ⟨z,16,none⟩=some (.bool o.car):=zl B3.out 16 rfl
 cases ok with
 |false=>
  have hr:=HR.out
  simp only[Az,if_false]at hr
  have HR2:Hid (r=finish s o (qn o.pc 3)):=hr
  clear hr HR HF1 HSU HLV
  obtain⟨cr,hcr⟩:∃cr,cr=qn o.pc 3:=⟨_,rfl⟩
  have CLd2:Hid (∀W v,Calls prog 88 #[ivI o.i,.int .u32 o.pc,.int .u32 v,.bool false] W λe w'=>e=.returned (cvC cr)/\Below W.heap.size W w'):=by rw[hcr];exact CLd.out
  have HFN:Hid (∀W L',St N W b s L'->Calls prog 87 #[.pointer (some ⟨b,0,none⟩),.int .i64 (j:Int),cvC cr] W λe w'=>e=.returned (.tuple #[])/\∃L'',St N w' b r L''/\To b W L' w' L''):=by rw[hcr,HR2.out];exact HF2.out
  clear hcr HR2 CLd HF2
  go_upto_region 6 with fail
  refine zu (S:=λw'=>w'.rangeAt z 2 ((ivL o.i).toList)/\w'.cell? ⟨z,1,none⟩=some (.int .u32 o.pc)/\w'.cell? ⟨z,2,none⟩=some (.int .i64 o.i.op)) [12] (by kernel_rfl) (⟨xl B3.out,zl B3.out 1 rfl,zl B3.out 2 rfl⟩) (λhH=>?_)
  refine tU 0 (.pointer (some ⟨b,0,none⟩)) ?_;go_simp
  refine tU 1 (.int .i64 (j:Int)) ?_;go_simp
  refine tU 2 (.pointer (some ⟨z,2,none⟩)) ?_;go_simp
  refine tS 3 (.agg ((ivL o.i).toList).toArray) rfl (Af (by rfl) 78 _ rfl _ _ rfl ((ivL o.i).toList) _ (λwz hSw=>hSw.1) underlying78 rfl (qP _)) hH ?_;go_simp
  refine tU 4 (.pointer (some ⟨z,1,none⟩)) ?_;go_simp
  refine tS 5 (.int .u32 o.pc) rfl (Or.inl ⟨by rfl,by intro wz hSw;have hc:=hSw.2.1;go_simp⟩) hH ?_;go_simp
  refine tU 6 (.pointer (some ⟨z,2,none⟩)) ?_;go_simp
  refine tU 7 (.pointer (some ⟨z,2,none⟩)) ?_;go_simp
  refine tU 9 (.int .u32 vv) ?_;go_simp
  refine tU 11 (.bool false) ?_;go_simp
  refine zC 8 rfl (λK hK=>?_)
  have hc:=hH.2.2
  go_simp
  clear hc
  refine hK.out _ _ (hH) (λhN=>?_)
  clear hK K hH
  have hH:=hN
  clear hN
  try go_simp
  refine zC 10 rfl (λK hK=>?_)
  go_simp
  refine(CE.out _).mono ?_
  rintro e V6 ⟨rfl,hk6⟩
  have HK6:Hid (Below V3.heap.size V3 V6):=zg hk6 (Aa _)
  go_wp2_with fail
  refine hK.out _ _ (⟨xk hk6 (hH.1),zn hk6 (hH.2.1),zn hk6 (hH.2.2)⟩) (λhN=>?_)
  clear hK K hH
  have hH:=hN
  clear hN
  try go_simp
  refine zL 12 rfl (λK hK=>?_)
  go_simp
  refine(CLd2.out _ _).mono ?_
  rintro e V7 ⟨rfl,hk7⟩
  have HK7:Hid (Below V3.heap.size V3 V7):=HK6.out.trans (hk7.mono HK6.out.size)
  go_wp2_with fail
  refine hK.out _ _ ?_
  clear hK K
  try go_simp
  refine zL 13 rfl (λK hK=>?_)
  go_simp
  refine(HFN.out _ _ (S3.out.below HK7.out)).mono ?_
  rintro e V8 ⟨rfl,L8,u1,u2⟩
  have S8:Hid (St N V8 b r L8):=u1
  have T8:Hid (To b w L V8 L8):=(T3.out.trans (zf _ HK7.out)).trans u2
  clear u1 u2
  go_wp2_with fail
  refine hK.out _ _ ?_
  clear hK K
  try go_simp
  refine zG (by kernel_rfl) ?_ _
  clear hH
  go_wp2_with fail
  refine Ad (Ab rfl _ _ _) rfl ⟨rfl,L8,S8.out,T8.out⟩
 |true=>
  have hsu:=HSU.out rfl
  have hlv:=HLV.out rfl
  cases hcs:(!(seeU s.asked o.seq)&&o.car)with
  |true=>
   have hr:=HR.out
   simp only[if_true]at hr
   rw[hcs]at hr
   simp only[if_true]at hr
   have HR2:Hid (r=s):=hr
   clear hr
   rw[Bool.and_eq_true]at hcs
   have h1:seeU s.asked o.seq=false:=by simpa using hcs.1
   have h2:=hcs.2
   rw[h1]at hsu
   subst hsu
   rw[h2]at c16
   clear HR HF1 HF2 CLd CE h1 h2 hcs HLV HSU
   go_wp2_with fail
   refine bodyPost_ret (Ab rfl _ _ _) rfl ⟨rfl,L,by rw[HR2.out];exact S3.out,T3.out⟩
  |false=>
   have hr:=HR.out
   simp only[if_true]at hr
   rw[hcs]at hr
   simp only[Az,if_false]at hr
   obtain⟨s',hs'⟩:∃s':Cr,s'={s with asked:=s.asked++[ldA o.seq pl (mN:Int)]}:=⟨_,rfl⟩
   obtain⟨cr,hcr⟩:∃cr,cr=onC o.pc o.i.rd (ldv o.i.op (bt vv)):=⟨_,rfl⟩
   have CLd2:Hid (∀W,Calls prog 88 #[ivI o.i,.int .u32 o.pc,.int .u32 (ldv o.i.op (bt vv)),.bool true] W λe w'=>e=.returned (cvC cr)/\Below W.heap.size W w'):=by rw[hcr];exact λW=>CLd.out W _
   have HFN:Hid (∀W L',St N W b s' L'->Calls prog 87 #[.pointer (some ⟨b,0,none⟩),.int .i64 (j:Int),cvC cr] W λe w'=>e=.returned (.tuple #[])/\∃L'',St N w' b r L''/\To b W L' w' L''):=λW L' SW=>by
    rw[hcr,hr]
    rw[hs']at SW
    exact HF1.out W L' SW _ hlv
   have hgo:su=true\/o.car=false:=by
    rw[hsu]
    cases h:seeU s.asked o.seq with
    |true=>exact .inl rfl
    |false=>rw[h]at hcs;exact .inr (by simpa using hcs)
   have HS':Hid (s'={s with asked:=s.asked++[ldA o.seq pl (mN:Int)]}):=hs'
   clear hr HR hcr CLd HF1 HF2 HLV HSU hsu hlv hcs hs'
   have hnq:L.a.ownBlock≠some z:=λh=>hzo.out (.inr (.inr (.inr h)))
   have hgo2:(su=true)\/(su=false/\o.car=false):=by
    cases su with
    |true=>exact .inl rfl
    |false=>exact .inr ⟨rfl,by simpa using hgo⟩
   clear hgo
   rcases hgo2 with hsu|⟨hsu,hca⟩
   case' _=>
    subst hsu
   rotate_left
   case' _=>
    subst hsu
    rw[hca]at c16
   rotate_left
   all_goals
    go_upto_region 5 with fail
    have SV:Hid (St N V3 b s L):=S3.out
    obtain⟨a9,c9,ea⟩:=SV.out.its.ia.slice
    have kA:V3.cell? ⟨b,335,none⟩=some (.slice a9 (s.asked.length) c9):=(zd SV.out.row (by omega)).trans (congrArg some ea)
    have HU:Hid (Us V3 135 7 (.slice a9 (s.asked.length) c9) (s.asked.length) (flat cel s.asked)):=by have:=SV.out.its.ia;rw[ea]at this;exact this
    have hnb:(WZ a9 (s.asked.length) c9).ownBlock≠some b:=λh=>(SV.out.apart.2.2 b (by rw[ea];exact h)).2.2 rfl
    have hlt0:∀g,(WZ a9 (s.asked.length) c9).ownBlock=some g->g<V3.heap.size:=λg h=>SV.out.its.lt (.inr (.inr (by rw[ea];exact h)))
    refine zu (S:=λw'=>w'.cell? ⟨b,335,none⟩=some (.slice a9 (s.asked.length) c9)/\w'.cell? ⟨z,0,none⟩=some (.int .i64 o.seq)) [14] (by kernel_rfl) (⟨kA,zl B3.out 0 rfl⟩) (λhH=>?_)
    refine tU 0 (.pointer (some ⟨b,0,none⟩)) ?_;go_simp
    refine tU 1 (.pointer (some ⟨b,0,none⟩)) ?_;go_simp
    refine tU 2 (.pointer (some ⟨b,0,none⟩)) ?_;go_simp
    refine tU 3 (.pointer (some ⟨b,335,none⟩)) ?_;go_simp
    refine tA 4 (.slice a9 (s.asked.length) c9) ?_;go_simp
    refine tU 5 (.pointer (some ⟨z,0,none⟩)) ?_;go_simp
    refine tB 6 (.int .i64 o.seq) ?_;go_simp
    refine tU 7 (.int .u32 pl) ?_;go_simp
    refine tU 8 (.int .i64 (mN:Int)) ?_;go_simp
    refine tU 9 (.agg #[.int .i64 o.seq,.bool false,.bool true,.int .u32 pl,.int .i64 (mN:Int),.int .u32 0,.bool true]) ?_;go_simp
    refine zC 10 rfl (λK hK=>?_)
    go_simp
    refine hK.out _ _ (⟨jG _ (hH.1),jG _ (hH.2)⟩) (λhN=>?_)
    clear hK K hH
    have hH:=hN
    clear hN
    try go_simp
    refine zC 11 rfl (λK hK=>?_)
    rw[if_pos (by rfl)]
    refine qT _ _ 64 rfl 135 iA _ 7 32 underlying64 hi hz0 hz1 hz2 rfl (by decide) _ (s.asked.length) _ rfl (HU.out.below ((Aj _ _).drew.alloc (Aa _) _)) V3.heap.size (cel (ldA o.seq pl (mN:Int))) rfl rfl (λj u hj=>jR (w:=V3.drew) j u hj) (xe _) (by omega) (by omega) ?_
    intro v1 w1 hU1 hG1 hF1
    obtain⟨p1,c1,rfl⟩:=hU1.slice
    have fA:w1.frozen? ⟨b,335,none⟩=false:=AL _ _ _ _ _ ((hG1.block b (by have:=SV.out.lt;simp;omega) (λh=>hnb h.symm)).trans ((AT _ _ _ SV.out.lt).trans SV.out.row))
    have HU1:Hid (Us w1 135 7 (.slice p1 ((s.asked.length)+1) c1) ((s.asked.length)+1) (flat cel s.asked++cel (ldA o.seq pl (mN:Int)))):=hU1
    have HG1:Hid (V3.grownBy w1 L.a.ownBlock):=by rw[ea];exact qL (jw hG1 (λg hg=>hlt0 g hg))
    have HF1:Hid (∀g,(WZ p1 ((s.asked.length)+1) c1).ownBlock=some g->L.a.ownBlock=some g\/V3.heap.size<=g):=λg hg=>(hF1 g hg).imp (λh=>by rw[ea];exact h) (λh=>AA (by simp) h)
    refine hK.out _ _ (⟨zaq hG1 (hH.1) (hnb),zaq hG1 (hH.2) (by rw[<-ea];exact hnq)⟩) (λhN=>?_)
    clear hK K hH
    have hH:=hN
    clear hN
    try go_simp
    have cA:=hH.1
    clear hU1 hG1 hF1 HU hnb hlt0 kA
    refine tU 12 (.pointer (some ⟨b,0,none⟩)) ?_;go_simp
    refine tU 13 (.pointer (some ⟨b,335,none⟩)) ?_;go_simp
    refine zL 14 rfl (λK hK=>?_)
    go_simp
    refine hK.out _ _ ?_
    clear hK K
    try go_simp
    refine zG (by kernel_rfl) ?_ _
    obtain⟨S1,T1⟩:=St.appA SV.out (ldA o.seq pl (mN:Int)) HU1.out HG1.out HF1.out
    clear HU1 HG1 HF1 hH cA fA
    generalize w1.setCell ⟨b,335,none⟩ (.slice p1 ((s.asked.length)+1) c1)=W1 at*
    generalize WZ p1 ((s.asked.length)+1) c1=v1 at*
    rw[<-HS'.out]at S1
    have S5:Hid (St N W1 b s' {L with a:=v1}):=S1
    have T5:Hid (To b w L W1 {L with a:=v1}):=T3.out.trans T1
    have B5:Hid (Bx W1 z o):=B3.out.to T1 hzo.out
    clear S1 T1 SV S3 B3 T3 c16
    generalize ({L with a:=v1}:Sls)=L5 at*
    go_upto_region 6 with fail
    refine zu (S:=λw'=>w'.rangeAt z 2 ((ivL o.i).toList)/\w'.cell? ⟨z,1,none⟩=some (.int .u32 o.pc)/\w'.cell? ⟨z,2,none⟩=some (.int .i64 o.i.op)) [12] (by kernel_rfl) (⟨xl B5.out,zl B5.out 1 rfl,zl B5.out 2 rfl⟩) (λhH=>?_)
    refine tU 0 (.pointer (some ⟨b,0,none⟩)) ?_;go_simp
    refine tU 1 (.int .i64 (j:Int)) ?_;go_simp
    refine tU 2 (.pointer (some ⟨z,2,none⟩)) ?_;go_simp
    refine tS 3 (.agg ((ivL o.i).toList).toArray) rfl (Af (by rfl) 78 _ rfl _ _ rfl ((ivL o.i).toList) _ (λwz hSw=>hSw.1) underlying78 rfl (qP _)) hH ?_;go_simp
    refine tU 4 (.pointer (some ⟨z,1,none⟩)) ?_;go_simp
    refine tS 5 (.int .u32 o.pc) rfl (Or.inl ⟨by rfl,by intro wz hSw;have hc:=hSw.2.1;go_simp⟩) hH ?_;go_simp
    refine tU 6 (.pointer (some ⟨z,2,none⟩)) ?_;go_simp
    refine tU 7 (.pointer (some ⟨z,2,none⟩)) ?_;go_simp
    refine tU 9 (.int .u32 vv) ?_;go_simp
    refine tU 11 (.bool true) ?_;go_simp
    refine zC 8 rfl (λK hK=>?_)
    have hc:=hH.2.2
    go_simp
    clear hc
    refine hK.out _ _ (hH) (λhN=>?_)
    clear hK K hH
    have hH:=hN
    clear hN
    try go_simp
    refine zC 10 rfl (λK hK=>?_)
    go_simp
    refine(CE.out _).mono ?_
    rintro e V6 ⟨rfl,hk6⟩
    have HK6:Hid (Below W1.heap.size W1 V6):=zg hk6 (Aa _)
    go_wp2_with fail
    refine hK.out _ _ (⟨xk hk6 (hH.1),zn hk6 (hH.2.1),zn hk6 (hH.2.2)⟩) (λhN=>?_)
    clear hK K hH
    have hH:=hN
    clear hN
    try go_simp
    refine zL 12 rfl (λK hK=>?_)
    go_simp
    refine(CLd2.out _).mono ?_
    rintro e V7 ⟨rfl,hk7⟩
    have HK7:Hid (Below W1.heap.size W1 V7):=HK6.out.trans (hk7.mono HK6.out.size)
    go_wp2_with fail
    refine hK.out _ _ ?_
    clear hK K
    try go_simp
    refine zL 13 rfl (λK hK=>?_)
    go_simp
    refine(HFN.out _ _ (S5.out.below HK7.out)).mono ?_
    rintro e V8 ⟨rfl,L8,u1,u2⟩
    have S8:Hid (St N V8 b r L8):=u1
    have T8:Hid (To b w L V8 L8):=(T5.out.trans (zf _ HK7.out)).trans u2
    clear u1 u2
    go_wp2_with fail
    refine hK.out _ _ ?_
    clear hK K
    try go_simp
    refine zG (by kernel_rfl) ?_ _
    clear hH
    go_wp2_with fail
    refine Ad (Ab rfl _ _ _) rfl ⟨rfl,L8,S8.out,T8.out⟩
theorem zbw{l:List Int}{k:Nat}{x:Int}(h:l[k]?=some x):l.drop k=x::l.drop (k+1):=by
 have hk:=(Ae.1 h).1
 rw[List.drop_eq_getElem_cons hk]
 rw[Ai hk]at h
 rw[Ap h]
theorem zis{s:Cr}{q:Int}(h:s.under.find? (λp=>decide (p.seq=q))=none):lodS s q=s:=by unfold lodS;rw[h]
theorem zit{s:Cr}{l1 l2:List Dg}{o:Dg}(hu:s.under=l1++o::l2)(hr:Rise s.under)(h:0<o.late):lodS s o.seq={s with under:=s.under.set l1.length {o with late:=o.late-1}}:=by
 have hf:s.under.find? (λp=>decide (p.seq=o.seq))=some o:=by have h2:=hr;rw[hu]at h2⊢;exact yc h2
 unfold lodS
 rw[hf]
 simp only[]
 rw[if_pos h,(zdH hu hr (λo=>{o with late:=o.late-1})).1]
theorem zkm{s:Cr}{l1 l2:List Dg}{o:Dg}(hu:s.under=l1++o::l2)(hr:Rise s.under)(h:¬0<o.late):lodS s o.seq=lod1 s o:=by
 have hf:s.under.find? (λp=>decide (p.seq=o.seq))=some o:=by have h2:=hr;rw[hu]at h2⊢;exact yc h2
 unfold lodS
 rw[hf]
 simp only[]
 rw[if_neg h]
theorem qC{b:Nat}{w w':World}{L L':Sls}{a:Option Addr}{n c size:Nat}{cs:List Value}(h:LC w a n c size cs)(f:0<n->∀x,a=some x->¬own b L x.block)(T:To b w L w' L'):LC w' a n c size cs/\(0<n->∀x,a=some x->¬own b L' x.block):=
 ⟨qM h T.size λh0 x hx=>by
  obtain⟨g,o,e,hlt,_⟩:=h.ad x hx h0
  subst e
  exact T.block g hlt (f h0 _ hx),λh0=>zdK h T h0 (f h0)⟩
theorem ziu{N:Nat}{w:World}{b:Nat}{s:Cr}{L:Sls}(S:St N w b s L){m:Nat->Int}{K:Int}(A:Al mach K s m)(hK:K<=6000000):
  Calls prog 30 #[.pointer (some ⟨b,0,none⟩)] w λe w'=>e=.returned (.tuple #[])/\∃L',St N w' b (load s) L'/\To b w L w' L':=by
 have hln:=A.len
 obtain⟨qs,hqs⟩:∃qs,qs=(s.under.filter λo=>decide (o.st=1)).map (·.seq):=⟨_,rfl⟩
 have C0:Hid (Calls prog 56 #[.pointer (some ⟨b,0,none⟩),.func (.func 57) #[] #[]] w λe w'=>(∃v,e=.returned v/\w'.ownsRow w.heap.size 3 1 v qs.length (ics qs))/\Below w.heap.size w w'):=by
  rw[hqs]
  exact zof 57 (λo=>decide (o.st=1)) zjS S (by omega) (λW o _ _=>zfI o W)
 have I0:Hid (LoadI mach K qs s m):=by rw[hqs];exact LoadI.begin A
 obtain⟨r,hr⟩:∃r,r=load s:=⟨_,rfl⟩
 have HR:Hid (qs.foldl lodS s=r):=by show _=_;rw[hr,hqs];rfl
 rw[<-hr]
 have hql:qs.length<=32:=by rw[hqs,AN];exact AA (AC _ _) hln
 have HS:Hid (St N w b s L):=S
 clear hqs hr A S hln
 go_enter func30,ntmps30
 go_wp2_with fail
 refine C0.out.mono ?_
 rintro e V1 ⟨⟨v1,rfl,hown⟩,hk1⟩
 obtain⟨a,c,rfl,hl,hf⟩:=Wi.qz hown (jD qs)
 have S1:Hid (St N V1 b s L):=HS.out.below hk1
 have T1:Hid (To b w L V1 L):=zf L hk1
 have HL:Hid (LC V1 a qs.length c 1 (ics qs)):=hl
 have HF:Hid (∀x,a=some x->¬own b L x.block):=ja HS.out (Aa _) hf
 clear hown hl hf hk1 C0 HS
 go_wp2_with fail
 go_loopw [8] (λi wr=>∃k:Nat,k<=qs.length/\i=.int .i64 (k:Int)/\Hid (∃s' L',St N wr b s' L'/\To b w L wr L'/\LoadI mach (K+3*k) (qs.drop k) s' m/\(qs.drop k).foldl lodS s'=r/\LC wr a qs.length c 1 (ics qs)/\(0<qs.length->∀x,a=some x->¬own b L' x.block)))
  (λi _=>qs.length-(intOf i).toNat)
 case atStart=>exact⟨0,by omega,rfl,s,L,S1.out,T1.out,by have:=I0.out;exact⟨this.al.mono (by omega),this.nod,this.are⟩,HR.out,HL.out,λ_=>HF.out⟩
 case round=>
  obtain⟨k,hk,rfl,s',L',S2,T2,I2,R2,LC2,F2⟩:=hrel
  clear S1 T1 HL HF I0 HR
  by_cases hlt:k<qs.length
  ·obtain⟨q,hq⟩:∃q,qs[k]?=some q:=⟨_,Ai hlt⟩
   have hdr:=zbw hq
   rw[hdr]at I2 R2
   rw[AO]at R2
   obtain⟨ga,oa,ea,hga,hca⟩:=LC2.sure (by omega)
   subst ea
   have cs:wr.cell? ⟨ga,oa+k,none⟩=some (.int .i64 q):=hca k _ (jV hq)
   have HS2:Hid (St N wr b s' L'):=S2
   have HT2:Hid (To b w L wr L'):=T2
   have HI3:Hid (LoadI mach (K+3*k+3) (qs.drop (k+1)) (lodS s' q) m):=I2.step zN
   have HR2:Hid ((qs.drop (k+1)).foldl lodS (lodS s' q)=r):=R2
   have HLC:Hid (LC wr (some ⟨ga,oa,none⟩) qs.length c 1 (ics qs)/\(0<qs.length->∀x,(some ⟨ga,oa,none⟩:Option Addr)=some x->¬own b L' x.block)):=⟨LC2,F2⟩
   have hln:=I2.al.len
   have hrise:=I2.al.inv.rise
   have hK3:K+3*(k:Int)<=6000100:=by omega
   clear hca hga hdr R2 LC2 F2 T2 hq
   cases hfd:s'.under.find? (λp=>decide (p.seq=q))with
   |none=>
    have e:=zis hfd
    rw[e]at HI3 HR2
    have CF:Hid (Calls prog 58 #[.pointer (some ⟨b,0,none⟩),.int .i64 q] wr λe w'=>e=.returned (.int .i64 (-1))/\Below wr.heap.size wr w'):=by
     have:=qS S2 q s'.under.length (zbu hfd) (by omega)
     rw[if_neg (by omega)]at this
     exact this
    clear e hfd S2 I2 hrise hln
    go_wp2_with fail
    refine CF.out.mono ?_
    rintro e V2 ⟨rfl,hk2⟩
    have t2:=zf (b:=b) L' hk2
    have S3:Hid (St N V2 b s' L'):=HS2.out.below hk2
    have T3:Hid (To b w L V2 L'):=HT2.out.trans t2
    have L3:Hid (LC V2 (some ⟨ga,oa,none⟩) qs.length c 1 (ics qs)/\(0<qs.length->∀x,(some ⟨ga,oa,none⟩:Option Addr)=some x->¬own b L' x.block)):=qC HLC.out.1 HLC.out.2 t2
    clear hk2 t2 CF HS2 HT2 HLC cs
    go_wp2_with fail
    exact⟨⟨k+1,by omega,by go_num,s',L',S3.out,T3.out,⟨HI3.out.al.mono (by push_cast;omega),HI3.out.nod,HI3.out.are⟩,HR2.out,L3.out.1,L3.out.2⟩,by simp[intOf];omega⟩
   |some o=>
    obtain⟨l1,l2,hu,hoq⟩:=jN hfd
    subst hoq
    have ho1:=I2.are o.seq (AI ..) o (by rw[hu];simp) rfl
    have hlat:=I2.al.inv.lat o (by rw[hu];simp)
    obtain⟨j,hj⟩:∃j,j=l1.length:=⟨_,rfl⟩
    have hjo:s'.under[j]?=some o:=by rw[hu,hj];simp
    have hjl:j<s'.under.length:=(Ae.1 hjo).1
    have CF:Hid (Calls prog 58 #[.pointer (some ⟨b,0,none⟩),.int .i64 o.seq] wr λe w'=>e=.returned (.int .i64 (j:Int))/\Below wr.heap.size wr w'):=by
     have:=qS S2 o.seq j (by rw[hj];exact jS hu hrise) (by omega)
     rw[if_pos hjl]at this
     exact this
    have HLA:Hid (0<o.late->lodS s' o.seq={s' with under:=s'.under.set j {o with late:=o.late-1}}):=λh=>by rw[hj];exact zit hu hrise h
    have HC1:Hid (¬0<o.late->∀W,St N W b s' L'->Calls prog 59 #[.pointer (some ⟨b,0,none⟩),.int .i64 (j:Int)] W λe w'=>e=.returned (.tuple #[])/\∃L'',St N w' b (lodS s' o.seq) L''/\To b W L' w' L''):=λh W SW=>by
     rw[hj,zkm hu hrise h]
     exact zcG SW I2.al (by omega) hu ho1
    clear hfd hu hj I2 hrise S2 ho1
    go_wp2_with fail
    refine CF.out.mono ?_
    rintro e V2 ⟨rfl,hk2⟩
    have t2:=zf (b:=b) L' hk2
    have S3:Hid (St N V2 b s' L'):=HS2.out.below hk2
    have T3:Hid (To b w L V2 L'):=HT2.out.trans t2
    have L3:Hid (LC V2 (some ⟨ga,oa,none⟩) qs.length c 1 (ics qs)/\(0<qs.length->∀x,(some ⟨ga,oa,none⟩:Option Addr)=some x->¬own b L' x.block)):=qC HLC.out.1 HLC.out.2 t2
    clear hk2 t2 CF HS2 HT2 HLC cs
    obtain⟨ug,uo,uc,euv,huc,_,hug,hucs,_⟩:=S3.out.its.iu.at (by omega)
    obtain⟨un,hun⟩:∃un,un=s'.under.length:=⟨_,rfl⟩
    have HEU:Hid (L'.u=.slice (some ⟨ug,uo,none⟩) un uc):=by rw[hun];exact euv
    have k334:V2.cell? ⟨b,334,none⟩=some (.slice (some ⟨ug,uo,none⟩) un uc):=(zd S3.out.row (by omega)).trans (congrArg some HEU.out)
    have c15:V2.cell? ⟨ug,uo+j*28+15,none⟩=some (.int .i64 o.late):=by
     rw[Am]
     exact hucs _ _ (qK zH hjo rfl)
    have hjo':Hid (s'.under[j]?=some o):=hjo
    rw[<-hun]at hjl huc hln
    have j0:0<=(j:Int):=by omega
    have j1:(j:Int)<(un:Int):=by omega
    have hju:¬((j:Int)<0):=by omega
    clear hucs hug euv hun hjo
    by_cases hl:0<o.late
    ·have e:=HLA.out hl
     rw[e]at HI3 HR2
     obtain⟨g',o',cap',ev',hth,s4,t4⟩:=S3.out.putU (y:={o with late:=o.late-1}) (j:=15) (news:=[.int .i64 (o.late-1)]) hjo'.out (by show 15+1<=28;omega) rfl (by intro u hu;simp at hu;subst hu;rfl)
     obtain⟨rfl,rfl⟩:ug=g'/\uo=o':=by rw[HEU.out]at ev';injection ev' with h1 _ _;injection h1 with h1;injection h1 with h1 h2;exact⟨h1,h2⟩
     rw[<-Am]at hth s4 t4
     have f15:V2.frozen? ⟨ug,uo+j*28+15,none⟩=false:=(hth 0 (by show 0<1;omega)).2
     have S4:Hid (St N (V2.setCell ⟨ug,uo+j*28+15,none⟩ (.int .i64 (o.late-1))) b {s' with under:=s'.under.set j {o with late:=o.late-1}} L'):=s4
     have T4:Hid (To b w L (V2.setCell ⟨ug,uo+j*28+15,none⟩ (.int .i64 (o.late-1))) L'):=T3.out.trans t4
     have L4:Hid (LC (V2.setCell ⟨ug,uo+j*28+15,none⟩ (.int .i64 (o.late-1))) (some ⟨ga,oa,none⟩) qs.length c 1 (ics qs)/\(0<qs.length->∀x,(some ⟨ga,oa,none⟩:Option Addr)=some x->¬own b L' x.block)):=qC L3.out.1 L3.out.2 t4
     clear hth s4 t4 ev' e HLA HC1 S3 T3 L3
     go_wp2_with fail
     exact⟨⟨k+1,by omega,by go_num,_,L',S4.out,T4.out,⟨HI3.out.al.mono (by push_cast;omega),HI3.out.nod,HI3.out.are⟩,HR2.out,L4.out.1,L4.out.2⟩,by simp[intOf];omega⟩
    ·have HC2:Hid _:=HC1.out (by omega)
     clear HLA HC1
     go_wp2_with fail
     refine(HC2.out _ S3.out).mono ?_
     rintro e V4 ⟨rfl,L4,u1,u2⟩
     have S4:Hid (St N V4 b (lodS s' o.seq) L4):=u1
     have T4:Hid (To b w L V4 L4):=T3.out.trans u2
     have LL4:Hid (LC V4 (some ⟨ga,oa,none⟩) qs.length c 1 (ics qs)/\(0<qs.length->∀x,(some ⟨ga,oa,none⟩:Option Addr)=some x->¬own b L4 x.block)):=qC L3.out.1 L3.out.2 u2
     clear u1 u2 S3 T3 L3 HC2 k334 c15
     go_wp2_with fail
     exact⟨⟨k+1,by omega,by go_num,_,L4,S4.out,T4.out,⟨HI3.out.al.mono (by push_cast;omega),HI3.out.nod,HI3.out.are⟩,HR2.out,LL4.out.1,LL4.out.2⟩,by simp[intOf];omega⟩
  ·have hkl:k=qs.length:=by omega
   have e:qs.drop k=[]:=Au (by omega)
   rw[e]at R2
   have hr:s'=r:=R2
   subst hr
   have HS2:Hid (St N wr b s' L'):=S2
   have HT2:Hid (To b w L wr L'):=T2
   clear S2 T2 I2 LC2 F2 R2 e hkl
   go_wp2_with fail
   refine Ad (Ab rfl _ _ _) rfl ⟨rfl,L',HS2.out,HT2.out⟩
theorem ze1(x0:Int)(y:List Int)(k:Nat)(v:Int):(ics (x0::y)).set (1+k) (.int .i64 v)=ics (x0::y.set k v):=by
 rw[zc7,show 1+k=k+1 by omega]
 rfl
theorem zbx(g cap n B:Nat)(x0:Int)(x:List Int)(hn:0<n)(hn2:n<=1000000)(hx:Hid (x.length=n))(w:World)(hO:Hid (w.ownsRow B 3 1 (.slice (some ⟨g,0,none⟩) (n+1) cap) (n+1) (ics (x0::x)))):
  Calls prog 62 #[.slice (some ⟨g,1,none⟩) n (cap-1)] w λe w'=>e=.returned (.tuple #[])/\Hid (w'.ownsRow B 3 1 (.slice (some ⟨g,0,none⟩) (n+1) cap) (n+1) (ics (x0::x.reverse)))/\w.grownBy w' (some g):=by
 go_enter func62,ntmps62
 go_wp2_with fail
 go_loopw [2,3] (λi j wr=>∃(k jj:Nat) (y:List Int),k+jj+1=n/\i=.int .i64 k/\j=.int .i64 jj/\Hid (wr.ownsRow B 3 1 (.slice (some ⟨g,0,none⟩) (n+1) cap) (n+1) (ics (x0::y)))/\Hid (Rv x y k)/\Hid (w.grownBy wr (some g)))
  (λi j _=>(intOf j).toNat+1-(intOf i).toNat)
 case atStart=>exact⟨0,n-1,x,by omega,rfl,by go_num,hO,zhv x,AW _ _⟩
 case round=>
  obtain⟨k,j,y,hkj,rfl,rfl,HO,HR,HG⟩:=hrel
  by_cases hlt:k<j
  ·have hl:Hid (y.length=n):=HR.out.len.trans hx.out
   obtain⟨p,hp⟩:∃p,y[k]?=some p:=⟨_,Ai (by rw[hl.out];omega)⟩
   obtain⟨q,hq⟩:∃q,y[j]?=some q:=⟨_,Ai (by rw[hl.out];omega)⟩
   have c0:wr.cell? ⟨g,1+k,none⟩=some (.int .i64 p):=(HO.out.cellAt (1+k) (by omega)).trans (jV (by rw[show 1+k=k+1 by omega];exact hp))
   have c1:wr.cell? ⟨g,1+j,none⟩=some (.int .i64 q):=(HO.out.cellAt (1+j) (by omega)).trans (jV (by rw[show 1+j=j+1 by omega];exact hq))
   have f0:wr.frozen? ⟨g,1+k,none⟩=false:=HO.out.frozenAt _
   have f1:wr.frozen? ⟨g,1+j,none⟩=false:=HO.out.frozenAt _
   have hkn:k<n:=by omega
   have hjn:j<n:=by omega
   have Hp:Hid (y[k]?=some p):=hp
   have Hq:Hid (y[j]?=some q):=hq
   clear hp hq
   go_wp2_with fail
   go_region
   go_wp2_with fail
   have s1:=HO.out.stored (1+k) (.int .i64 q)
   have s2:=s1.1.stored (1+j) (.int .i64 p)
   rw[ze1,ze1]at s2
   exact⟨⟨k+1,j-1,_,by omega,by go_num,by go_num,s2.1.drew,HR.out.step (by rw[hx.out];exact hkj) hlt Hp.out Hq.out,zj2 (zE (zE HG.out s1.2) s2.2)⟩,by simp[intOf];omega⟩
  ·go_wp2_with fail
   go_end0
   rw[HR.out.all (by rw[hx.out];exact hkj) (by omega)]at HO
   exact⟨rfl,HO,HG.out⟩
theorem zby{w:World}{a:Option Addr}{n c:Nat}{l:List Int}(h:LC w a n c 1 (ics l))(k:Nat)(hk:k<=n):LC w a k c 1 (ics (l.take k)):=by
 have hl:l.length=n:=by have:=h.len;rw[jq]at this;omega
 refine⟨by rw[jq,WY];omega,by have:=h.le;omega,h.top,?_,jD _,λx hx h0=>?_⟩
 ·intro e
  have:=h.nil e
  omega
 ·obtain⟨g,o,e,hlt,hc⟩:=h.ad x hx (by omega)
  refine⟨g,o,e,hlt,λj u hj=>hc j u ?_⟩
  unfold ics at hj⊢
  rw[List.map_take]at hj
  have hjk:j<k:=by have:=(Ae.1 hj).1;rw[WY]at this;omega
  rw[List.getElem?_take_of_lt hjk]at hj
  exact hj
theorem zoY{b:Nat}{w w':World}{L L':Sls}{B g n cap:Nat}{xs:List Value}(h:w.ownsRow B 3 1 (.slice (some ⟨g,0,none⟩) n cap) n xs)(T:To b w L w' L')(hg:¬own b L g):w'.ownsRow B 3 1 (.slice (some ⟨g,0,none⟩) n cap) n xs:=by
 obtain⟨h1,h2⟩:=h
 refine⟨h1,h2.imp id λ⟨g',c',cur,e,hB,hr,rest⟩=>⟨g',c',cur,e,hB,?_,rest⟩⟩
 have:g=g':=by injection e with e1 _ _;injection e1 with e1;injection e1
 subst this
 exact(T.block g (Av.1 hr).1 hg).trans hr
theorem zf0{s:Cr}{l:List Int}(h:¬1<l.length):turn s l=l:=by
 unfold turn
 split
 ·rfl
 ·rw[if_neg (λh'=>h h'.1)]
theorem zcH{s:Cr}{q:Int}(h:s.under.find? (λp=>decide (p.seq=q))=none):staS mach s q=s:=by unfold staS;rw[h]
theorem zf1{N:Nat}{w:World}{b:Nat}{s:Cr}{L:Sls}(S:St N w b s L){m:Nat->Int}{K:Int}(A:Al mach K s m)(hK:K<=7000000):
  Calls prog 31 #[.pointer (some ⟨b,0,none⟩)] w λe w'=>e=.returned (.tuple #[])/\∃L',St N w' b (start mach s) L'/\To b w L w' L':=by
 have hmf:∀(fn:Fn) (first cap:Array Value) (w:World),(AP fn first cap).run prog w=.ok (.func fn first cap) w:=λ_ _ _ _=>rfl
 have hln:=A.len
 have hw4:=A.rg.wide
 have hw1:=A.wid
 obtain⟨wi,hwi⟩:∃wi:Nat,s.wide=(wi:Int):=An (by omega)
 have HWI:Hid (s.wide=(wi:Int)):=hwi
 have hwt:s.wide.toNat=wi:=by omega
 have hw14:1<=wi/\wi<=4:=by omega
 obtain⟨q0,hq0⟩:∃q0,q0=ready s:=⟨_,rfl⟩
 obtain⟨k0,hk0⟩:=zeW mach s
 obtain⟨r,hr⟩:∃r,r=start mach s:=⟨_,rfl⟩
 have HR0:Hid (∀k,(if 1<q0.length then chS s else s)={s with scr:=k}->((turn s q0).take wi).foldl (staS mach) {s with scr:=k}=r):=λk hk=>by
  rw[hq0]at hk⊢
  rw[hr,hk0.1,hwt]
  have:({s with scr:=k}:Cr)={s with scr:=k0}:=hk.symm.trans hk0.2
  rw[this]
 rw[<-hr]
 have HA:Hid (Al mach K s m):=A
 have HS:Hid (St N w b s L):=S
 have hql:q0.length<=32:=by rw[hq0];unfold ready;rw[AN];exact AA (AC _ _) hln
 have HQ0:Hid (q0=ready s):=hq0
 clear hr hk0 hq0 A hw4 hw1 hwi hwt
 go_enter func31,ntmps31
 go_upto_region 1 with fail
 refine Wi.zh (Φ:=λW=>AB _ _ _ _ W) ?_
 intro V hV hVb
 have cz:V.cell? ⟨w.heap.size,0,none⟩=some (.pointer (some ⟨b,0,none⟩)):=by rw[AJ _ _ _ _ _ _ hV];rfl
 have SV:Hid (St N V b s L):=S.below hVb
 have TV:Hid (To b w L V L):=zf L hVb
 have nz:Hid (¬own b L w.heap.size):=λh=>by have:=qR S h;omega
 clear hV hVb S HS
 generalize w.heap.size=z at*
 have C1:Hid (Calls prog 56 #[.pointer (some ⟨b,0,none⟩),.func (.func 60) #[] #[.pointer (some ⟨z,0,none⟩)]] V λe w'=>(∃v,e=.returned v/\w'.ownsRow V.heap.size 3 1 v q0.length (ics q0))/\Below V.heap.size V w'):=by
  rw[HQ0.out]
  exact zog 60 z (λo=>decide (o.st=0)&&s.th o.a&&s.th o.b) zhC SV.out (by omega) (λW o hW ho=>by
   obtain⟨ra0,rb0,_,_⟩:=kM zN HA.out.inv ho HA.out.rg.phys
   exact zdv SV.out z cz o ra0.1 ra0.2 rb0.1 rb0.2 W hW)
 go_wp2_with fail
 refine C1.out.mono ?_
 rintro e V1 ⟨⟨v1,rfl,hown⟩,hk1⟩
 have S1:Hid (St N V1 b s L):=SV.out.below hk1
 have T1:Hid (To b w L V1 L):=TV.out.trans (zf L hk1)
 have cz1:V1.cell? ⟨z,0,none⟩=some (.pointer (some ⟨b,0,none⟩)):=zn hk1 cz
 have HO:Hid (V1.ownsRow V.heap.size 3 1 v1 q0.length (ics q0)):=hown
 have HVN:Hid (∀g,V.heap.size<=g->Apt b g s L):=λg hg=>SV.out.apt hg
 have hzV:z<V.heap.size:=Ag _ _ cz
 have HWV:Hid (w.heap.size<=V.heap.size):=TV.out.size
 clear hown hk1 C1 SV TV cz
 by_cases hn1:1<q0.length
 ·obtain⟨x,rest,hxr⟩:∃x rest,q0=x::rest:=by
   cases q0 with
   |nil=>simp at hn1
   |cons x rest=>exact⟨x,rest,rfl⟩
  obtain⟨g,cap,ev,hgV,hgc⟩:∃g cap,v1=.slice (some ⟨g,0,none⟩) q0.length cap/\V.heap.size<=g/\q0.length<=cap:=by
   rcases HO.out.2 with⟨_,h0⟩|⟨g,cap,cur,e,hB,_,hcap,_⟩
   ·omega
   ·exact⟨g,cap,e,hB,hcap⟩
  subst ev
  have HGO:Hid (Apt b g s L):=HVN.out g hgV
  have hzg:z≠g:=by omega
  have HWG:Hid (w.heap.size<=g):=AA HWV.out hgV
  have HXR:Hid (q0=x::rest):=hxr
  have hrl:q0.length=rest.length+1:=by rw[hxr];rfl
  have HQN:Hid (q0.length=rest.length+1):=hrl
  obtain⟨n,hn⟩:∃n,n=rest.length:=⟨_,rfl⟩
  have HN:Hid (rest.length=n):=hn.symm
  rw[hrl,<-hn]at HO hn1 hgc hql⊢
  clear hxr hgV HVN hrl hn hzV HWV
  have CC:Hid (Calls prog 61 #[.pointer (some ⟨b,0,none⟩)] V1 λe w'=>e=.returned (.int .u64 (chN s))/\∃v,St N w' b (chS s) {L with r:=v}/\To b V1 L w' {L with r:=v}/\∀g,v.ownBlock=some g->0<(chS s).scr.length->L.r.ownBlock=some g/\0<s.scr.length):=xW S1.out
  obtain⟨cn,hcn⟩:∃cn,cn=chN s:=⟨_,rfl⟩
  have cn0:0<=cn:=by rw[hcn];exact zbf s
  have cn1:cn<=18446744073709551615:=by rw[hcn];exact zk6 s
  rw[<-hcn]at CC
  have HCN:Hid (cn=chN s):=hcn
  clear hcn
  go_wp2_with fail
  refine CC.out.mono ?_
  rintro e V2 ⟨rfl,v2,u1,u2,u3⟩
  have S2:Hid (St N V2 b (chS s) {L with r:=v2}):=u1
  have T2:Hid (To b w L V2 {L with r:=v2}):=T1.out.trans u2
  have cz2:V2.cell? ⟨z,0,none⟩=some (.pointer (some ⟨b,0,none⟩)):=jy cz1 u2 nz.out
  have nz2:Hid (¬own b {L with r:=v2} z):=nz.out
  have GO2:Hid (Apt b g (chS s) {L with r:=v2}):=HGO.out.scr u3
  have HO2:Hid (V2.ownsRow V.heap.size 3 1 (.slice (some ⟨g,0,none⟩) (n+1) cap) (n+1) (ics q0)):=zoY HO.out u2 HGO.out.o
  clear u1 u2 u3 S1 T1 cz1 nz HO HGO CC
  generalize ({L with r:=v2}:Sls)=L2 at*
  have HR1:Hid (((turn s q0).take wi).foldl (staS mach) (chS s)=r):=HR0.out s.scr.tail (by rw[if_pos (by rw[HQN.out,HN.out];exact hn1)];rfl)
  have HA1:Hid (StartI mach K ((turn s q0).take wi) (chS s) m):=by rw[HQ0.out];exact StartI.begin HA.out s.scr.tail wi
  have hwi2:Hid ((chS s).wide=(wi:Int)):=HWI.out
  rcases(by omega:cn%2=1\/cn%2=0)with hm|hm
  case' _=>
   have HT:Hid (turn s q0=x::rest.reverse):=by
    show _=_
    rw[HXR.out]
    unfold turn
    simp only[]
    rw[if_pos ⟨by rw[<-HXR.out,HQN.out,HN.out];exact hn1,by rw[<-HCN.out];exact hm⟩]
   have CRv:Hid (∀W,W=V2->Calls prog 62 #[.slice (some ⟨g,1,none⟩) n (cap-1)] W λe w'=>e=.returned (.tuple #[])/\Hid (w'.ownsRow V.heap.size 3 1 (.slice (some ⟨g,0,none⟩) (n+1) cap) (n+1) (ics (x::rest.reverse)))/\V2.grownBy w' (some g)):=λW hW=>by
    subst hW
    exact zbx g cap n V.heap.size x rest (by omega) (by omega) HN.out W (by rw[<-HXR.out];exact HO2.out)
   have hn0:0<n:=by omega
   have hcp:1<cap:=by omega
   go_wp2_with fail
   refine(CRv.out _ rfl).mono ?_
   rintro e V3 ⟨rfl,hO3,hG3⟩
   have S3:Hid (St N V3 b (chS s) L2):=S2.out.other hG3 GO2.out
   have T3:Hid (To b w L V3 L2):=Toq.to (To.refl b w L) HWG.out (T2.out.q.trans (zaK hG3))
   have cz3:V3.cell? ⟨z,0,none⟩=some (.pointer (some ⟨b,0,none⟩)):=(Ar (w:=V2) (a:=⟨z,0,none⟩) (hG3.block z (Ag _ _ cz2) (λe=>hzg (Ap e)))).trans cz2
   obtain⟨a3,d3,e3,hl3,_⟩:=Wi.qz hO3.out (jD _)
   obtain⟨rfl,rfl⟩:some ⟨g,0,none⟩=a3/\cap=d3:=by injection e3 with e1 e2 e4;exact⟨e1,e4⟩
   have HL3:Hid (LC V3 (some ⟨g,0,none⟩) (n+1) cap 1 (ics (turn s q0))):=by rw[HT.out];exact hl3
   have HF3:Hid (0<n+1->∀y,(some ⟨g,0,none⟩:Option Addr)=some y->¬own b L2 y.block):=λ_ y hy=>by have:=Ap hy;subst this;exact GO2.out.o
   clear hO3 hG3 e3 hl3 CRv S2 T2 cz2 GO2 HO2
   have hnn:(n+1)<=32:=by omega
   obtain⟨kk,hkk⟩:∃kk,kk=min (n+1) wi:=⟨_,rfl⟩
   have hkn:kk<=(n+1):=by omega
   have hk4:kk<=4:=by omega
   have hmin:min ((n+1:Nat):Int) (wi:Int)=(kk:Int):=by rw[hkk];omega
   obtain⟨qs,hqs⟩:∃qs,qs=(turn s q0).take wi:=⟨_,rfl⟩
   have hqt:(turn s q0).take kk=qs:=by
    rw[hqs,hkk]
    have:(turn s q0).length=(n+1):=by have:=HL3.out.len;rw[jq]at this;omega
    rcases AM (n+1) wi with h|h
    ·rw[AG h,Ah (by omega),Ah (by omega)]
    ·rw[AD h]
   have hql2:qs.length=kk:=by
    rw[<-hqt,WY]
    have:(turn s q0).length=(n+1):=by have:=HL3.out.len;rw[jq]at this;omega
    omega
   have HQL:Hid (qs.length=kk):=hql2
   have HL4:Hid (LC V3 (some ⟨g,0,none⟩:Option Addr) kk cap 1 (ics qs)):=by rw[<-hqt];exact zby HL3.out kk hkn
   have HF4:Hid (0<kk->∀y,(some ⟨g,0,none⟩:Option Addr)=some y->¬own b L2 y.block):=λh=>HF3.out (by omega)
   rw[<-hqs]at HR1 HA1
   have k2:V3.cell? ⟨b,2,none⟩=some (.int .i64 (wi:Int)):=(zd S3.out.row (by omega)).trans (congrArg some (by rw[<-hwi2.out];rfl))
  rotate_left
  case' _=>
   have HT:Hid (turn s q0=q0):=by
    show _=_
    rw[HXR.out]
    unfold turn
    simp only[]
    rw[if_neg (λh=>by have:=h.2;rw[<-HCN.out]at this;omega)]
   obtain⟨a3,d3,e3,hl3,_⟩:=Wi.qz HO2.out (jD _)
   obtain⟨rfl,rfl⟩:some ⟨g,0,none⟩=a3/\cap=d3:=by injection e3 with e1 e2 e4;exact⟨e1,e4⟩
   have S3:Hid (St N V2 b (chS s) L2):=S2.out
   have T3:Hid (To b w L V2 L2):=T2.out
   have cz3:V2.cell? ⟨z,0,none⟩=some (.pointer (some ⟨b,0,none⟩)):=cz2
   have HL3:Hid (LC V2 (some ⟨g,0,none⟩) (n+1) cap 1 (ics (turn s q0))):=by rw[HT.out];exact hl3
   have HF3:Hid (0<n+1->∀y,(some ⟨g,0,none⟩:Option Addr)=some y->¬own b L2 y.block):=λ_ y hy=>by have:=Ap hy;subst this;exact GO2.out.o
   clear e3 hl3 S2 T2 cz2 GO2 HO2
   have hnn:(n+1)<=32:=by omega
   obtain⟨kk,hkk⟩:∃kk,kk=min (n+1) wi:=⟨_,rfl⟩
   have hkn:kk<=(n+1):=by omega
   have hk4:kk<=4:=by omega
   have hmin:min ((n+1:Nat):Int) (wi:Int)=(kk:Int):=by rw[hkk];omega
   obtain⟨qs,hqs⟩:∃qs,qs=(turn s q0).take wi:=⟨_,rfl⟩
   have hqt:(turn s q0).take kk=qs:=by
    rw[hqs,hkk]
    have:(turn s q0).length=(n+1):=by have:=HL3.out.len;rw[jq]at this;omega
    rcases AM (n+1) wi with h|h
    ·rw[AG h,Ah (by omega),Ah (by omega)]
    ·rw[AD h]
   have hql2:qs.length=kk:=by
    rw[<-hqt,WY]
    have:(turn s q0).length=(n+1):=by have:=HL3.out.len;rw[jq]at this;omega
    omega
   have HQL:Hid (qs.length=kk):=hql2
   have HL4:Hid (LC V2 (some ⟨g,0,none⟩:Option Addr) kk cap 1 (ics qs)):=by rw[<-hqt];exact zby HL3.out kk hkn
   have HF4:Hid (0<kk->∀y,(some ⟨g,0,none⟩:Option Addr)=some y->¬own b L2 y.block):=λh=>HF3.out (by omega)
   rw[<-hqs]at HR1 HA1
   have k2:V2.cell? ⟨b,2,none⟩=some (.int .i64 (wi:Int)):=(zd S3.out.row (by omega)).trans (congrArg some (by rw[<-hwi2.out];rfl))
  rotate_left
  all_goals
   clear hqs hqt hql2 hkk HL3 HF3 HR0 HA HQ0 HT
   go_upto_region 4 with fail
   clear hm
   go_wp2_with fail
   go_loopw [32] (λi wr=>∃k:Nat,k<=kk/\i=.int .i64 (k:Int)/\Hid (∃s' L',St N wr b s' L'/\To b w L wr L'/\StartI mach (K+2*k) (qs.drop k) s' m/\(qs.drop k).foldl (staS mach) s'=r/\LC wr (some ⟨g,0,none⟩:Option Addr) kk cap 1 (ics qs)/\(0<kk->∀y,(some ⟨g,0,none⟩:Option Addr)=some y->¬own b L' y.block)/\wr.cell? ⟨z,0,none⟩=some (.pointer (some ⟨b,0,none⟩))/\¬own b L' z))
    (λi _=>kk-(intOf i).toNat)
   case atStart=>exact⟨0,by omega,rfl,(chS s),L2,S3.out,T3.out,⟨HA1.out.al.mono (by omega),HA1.out.nod,HA1.out.are⟩,HR1.out,HL4.out,HF4.out,cz3,nz2.out⟩
   case round=>
    obtain⟨k,hk,rfl,s',L',S5,T5,I5,R5,LC5,F5,CZ5,NZ5⟩:=hrel
    clear S3 T3 HL4 HF4 HA1 HR1 cz3 nz2 k2
    by_cases hlt:k<kk
    ·obtain⟨q,hq⟩:∃q,qs[k]?=some q:=⟨_,Ai (by rw[HQL.out];exact hlt)⟩
     have hdr:=zbw hq
     rw[hdr]at I5 R5
     rw[AO]at R5
     obtain⟨ga,oa,ea,hga,hca⟩:=LC5.sure (by omega)
     obtain⟨rfl,rfl⟩:g=ga/\0=oa:=by injection ea with e1;injection e1 with e1 e2;exact⟨e1,e2⟩
     have cs:wr.cell? ⟨g,k,none⟩=some (.int .i64 q):=by simpa using hca k _ (jV hq)
     have HS2:Hid (St N wr b s' L'):=S5
     have HT2:Hid (To b w L wr L'):=T5
     have HI3:Hid (StartI mach (K+2*k+2) (qs.drop (k+1)) (staS mach s' q) m):=I5.step zN jH
     have HR2:Hid ((qs.drop (k+1)).foldl (staS mach) (staS mach s' q)=r):=R5
     have HLC:Hid (LC wr (some ⟨g,0,none⟩:Option Addr) kk cap 1 (ics qs)/\(0<kk->∀y,(some ⟨g,0,none⟩:Option Addr)=some y->¬own b L' y.block)):=⟨LC5,F5⟩
     have HCZ:Hid (wr.cell? ⟨z,0,none⟩=some (.pointer (some ⟨b,0,none⟩))/\¬own b L' z):=⟨CZ5,NZ5⟩
     have hln':=I5.al.len
     have hrise:=I5.al.inv.rise
     have hK3:K+2*(k:Int)<=7000100:=by omega
     clear hca hga hdr R5 LC5 F5 T5 hq
     cases hfd:s'.under.find? (λp=>decide (p.seq=q))with
     |none=>
      have e:=zcH hfd
      rw[e]at HI3 HR2
      have CF:Hid (Calls prog 58 #[.pointer (some ⟨b,0,none⟩),.int .i64 q] wr λe w'=>e=.returned (.int .i64 (-1))/\Below wr.heap.size wr w'):=by
       have:=qS S5 q s'.under.length (zbu hfd) (by omega)
       rw[if_neg (by omega)]at this
       exact this
      clear e hfd S5 I5 hrise hln'
      go_wp2_with fail
      refine CF.out.mono ?_
      rintro e V6 ⟨rfl,hk2⟩
      have t2:=zf (b:=b) L' hk2
      have S6:Hid (St N V6 b s' L'):=HS2.out.below hk2
      have T6:Hid (To b w L V6 L'):=HT2.out.trans t2
      have L6:Hid (LC V6 (some ⟨g,0,none⟩:Option Addr) kk cap 1 (ics qs)/\(0<kk->∀y,(some ⟨g,0,none⟩:Option Addr)=some y->¬own b L' y.block)):=qC HLC.out.1 HLC.out.2 t2
      have Z6:Hid (V6.cell? ⟨z,0,none⟩=some (.pointer (some ⟨b,0,none⟩))/\¬own b L' z):=⟨zn hk2 HCZ.out.1,HCZ.out.2⟩
      clear hk2 t2 CF HS2 HT2 HLC HCZ cs CZ5 NZ5
      go_wp2_with fail
      exact⟨⟨k+1,by omega,by go_num,s',L',S6.out,T6.out,⟨HI3.out.al.mono (by push_cast;omega),HI3.out.nod,HI3.out.are⟩,HR2.out,L6.out.1,L6.out.2,Z6.out.1,Z6.out.2⟩,by simp[intOf];omega⟩
     |some o=>
      obtain⟨l1,l2,hu,hoq⟩:=jN hfd
      subst hoq
      have ho1:=I5.are o.seq (AI ..) o (by rw[hu];simp) rfl
      obtain⟨j,hj⟩:∃j,j=l1.length:=⟨_,rfl⟩
      have hjo:s'.under[j]?=some o:=by rw[hu,hj];simp
      have hjl:j<s'.under.length:=(Ae.1 hjo).1
      have CF:Hid (Calls prog 58 #[.pointer (some ⟨b,0,none⟩),.int .i64 o.seq] wr λe w'=>e=.returned (.int .i64 (j:Int))/\Below wr.heap.size wr w'):=by
       have:=qS S5 o.seq j (by rw[hj];exact jS hu hrise) (by omega)
       rw[if_pos hjl]at this
       exact this
      have HC1:Hid (∀W,St N W b s' L'->Calls prog 63 #[.pointer (some ⟨b,0,none⟩),.int .i64 (j:Int)] W λe w'=>e=.returned (.tuple #[])/\∃L'',St N w' b (staS mach s' o.seq) L''/\To b W L' w' L''):=λW SW=>by
       rw[hj,zdI hu hrise]
       exact kN SW I5.al (by omega) hu ho1.1
      have hju:¬((j:Int)<0):=by omega
      have hju2:(0:Int)<=(j:Int):=by omega
      clear hfd hu hj I5 hrise S5 ho1 hjo hjl
      go_wp2_with fail
      refine CF.out.mono ?_
      rintro e V6 ⟨rfl,hk2⟩
      have t2:=zf (b:=b) L' hk2
      have S6:Hid (St N V6 b s' L'):=HS2.out.below hk2
      have T6:Hid (To b w L V6 L'):=HT2.out.trans t2
      have L6:Hid (LC V6 (some ⟨g,0,none⟩:Option Addr) kk cap 1 (ics qs)/\(0<kk->∀y,(some ⟨g,0,none⟩:Option Addr)=some y->¬own b L' y.block)):=qC HLC.out.1 HLC.out.2 t2
      have Z6:V6.cell? ⟨z,0,none⟩=some (.pointer (some ⟨b,0,none⟩)):=zn hk2 HCZ.out.1
      have Y6:Hid (¬own b L' z):=HCZ.out.2
      clear hk2 t2 CF HS2 HT2 HLC HCZ cs CZ5 NZ5
      go_wp2_with fail
      refine(HC1.out _ S6.out).mono ?_
      rintro e V7 ⟨rfl,L7,u1,u2⟩
      have S7:Hid (St N V7 b (staS mach s' o.seq) L7):=u1
      have T7:Hid (To b w L V7 L7):=T6.out.trans u2
      have Q7:Hid (LC V7 (some ⟨g,0,none⟩:Option Addr) kk cap 1 (ics qs)/\(0<kk->∀y,(some ⟨g,0,none⟩:Option Addr)=some y->¬own b L7 y.block)):=qC L6.out.1 L6.out.2 u2
      have Z7:Hid (V7.cell? ⟨z,0,none⟩=some (.pointer (some ⟨b,0,none⟩))/\¬own b L7 z):=⟨jy Z6 u2 Y6.out,qp u2.fresh Y6.out (Ag _ _ Z6)⟩
      clear u1 u2 S6 T6 L6 HC1 Z6 Y6
      go_wp2_with fail
      exact⟨⟨k+1,by omega,by go_num,_,L7,S7.out,T7.out,⟨HI3.out.al.mono (by push_cast;omega),HI3.out.nod,HI3.out.are⟩,HR2.out,Q7.out.1,Q7.out.2,Z7.out.1,Z7.out.2⟩,by simp[intOf];omega⟩
    ·have e:qs.drop k=[]:=Au (by rw[HQL.out];omega)
     rw[e]at R5
     have hr:s'=r:=R5
     subst hr
     have HS2:Hid (St N wr b s' L'):=S5
     have HT2:Hid (To b w L wr L'):=T5
     clear S5 T5 I5 LC5 F5 R5 e CZ5 NZ5
     go_wp2_with fail
     refine Ad (Ab rfl _ _ _) rfl ⟨rfl,L',HS2.out,HT2.out⟩
 ·have HT:Hid (turn s q0=q0):=zf0 hn1
  have S3:Hid (St N V1 b s L):=S1.out
  have T3:Hid (To b w L V1 L):=T1.out
  have cz3:=cz1
  have nz2:Hid (¬own b L z):=nz.out
  have HR1:Hid (((turn s q0).take wi).foldl (staS mach) s=r):=HR0.out s.scr (by rw[if_neg hn1])
  have HA1:Hid (StartI mach K ((turn s q0).take wi) s m):=by rw[HQ0.out];exact StartI.begin HA.out s.scr wi
  have hwi2:Hid (s.wide=(wi:Int)):=HWI.out
  rcases HO.out.2 with⟨ev,h0⟩|⟨g,cap,cur,ev,hgV,_,hgc,hgm,_⟩
  ·subst ev
   have HL3:Hid (LC V1 none q0.length 0 1 (ics (turn s q0))):=by rw[HT.out,AF h0];exact Wi.vn V1 1
   have HF3:Hid (0<q0.length->∀y,(none:Option Addr)=some y->¬own b L y.block):=λ_ y hy=>by cases hy
   rw[h0]at HL3 HF3
   have HH0:Hid (q0.length=0):=h0
   clear h0
   clear HVN HO S1 T1 cz1 nz hzV HWV hql hn1
   have hnn:0<=32:=by omega
   obtain⟨kk,hkk⟩:∃kk,kk=min 0 wi:=⟨_,rfl⟩
   have hkn:kk<=0:=by omega
   have hk4:kk<=4:=by omega
   have hmin:min ((0:Nat):Int) (wi:Int)=(kk:Int):=by rw[hkk];omega
   obtain⟨qs,hqs⟩:∃qs,qs=(turn s q0).take wi:=⟨_,rfl⟩
   have hqt:(turn s q0).take kk=qs:=by
    rw[hqs,hkk]
    have:(turn s q0).length=0:=by have:=HL3.out.len;rw[jq]at this;omega
    rcases AM 0 wi with h|h
    ·rw[AG h,Ah (by omega),Ah (by omega)]
    ·rw[AD h]
   have hql2:qs.length=kk:=by
    rw[<-hqt,WY]
    have:(turn s q0).length=0:=by have:=HL3.out.len;rw[jq]at this;omega
    omega
   have HQL:Hid (qs.length=kk):=hql2
   have HL4:Hid (LC V1 (none:Option Addr) kk 0 1 (ics qs)):=by rw[<-hqt];exact zby HL3.out kk hkn
   have HF4:Hid (0<kk->∀y,(none:Option Addr)=some y->¬own b L y.block):=λh=>HF3.out (by omega)
   rw[<-hqs]at HR1 HA1
   have k2:V1.cell? ⟨b,2,none⟩=some (.int .i64 (wi:Int)):=(zd S3.out.row (by omega)).trans (congrArg some (by rw[<-hwi2.out];rfl))
   clear hqs hqt hql2 hkk HL3 HF3 HR0 HA HQ0 HT
   go_upto_region 4 with fail
   go_wp2_with fail
   go_loopw [32] (λi wr=>∃k:Nat,k<=kk/\i=.int .i64 (k:Int)/\Hid (∃s' L',St N wr b s' L'/\To b w L wr L'/\StartI mach (K+2*k) (qs.drop k) s' m/\(qs.drop k).foldl (staS mach) s'=r/\LC wr (none:Option Addr) kk 0 1 (ics qs)/\(0<kk->∀y,(none:Option Addr)=some y->¬own b L' y.block)/\wr.cell? ⟨z,0,none⟩=some (.pointer (some ⟨b,0,none⟩))/\¬own b L' z))
    (λi _=>kk-(intOf i).toNat)
   case atStart=>exact⟨0,by omega,rfl,s,L,S3.out,T3.out,⟨HA1.out.al.mono (by omega),HA1.out.nod,HA1.out.are⟩,HR1.out,HL4.out,HF4.out,cz3,nz2.out⟩
   case round=>
    obtain⟨k,hk,rfl,s',L',S5,T5,I5,R5,LC5,F5,CZ5,NZ5⟩:=hrel
    clear S3 T3 HL4 HF4 HA1 HR1 cz3 nz2 k2
    by_cases hlt:k<kk
    ·omega
    ·have e:qs.drop k=[]:=Au (by rw[HQL.out];omega)
     rw[e]at R5
     have hr:s'=r:=R5
     subst hr
     have HS2:Hid (St N wr b s' L'):=S5
     have HT2:Hid (To b w L wr L'):=T5
     clear S5 T5 I5 LC5 F5 R5 e CZ5 NZ5
     go_wp2_with fail
     refine Ad (Ab rfl _ _ _) rfl ⟨rfl,L',HS2.out,HT2.out⟩
  ·subst ev
   obtain⟨a3,d3,e3,hl3,hf3⟩:=Wi.qz HO.out (jD _)
   obtain⟨rfl,rfl⟩:some ⟨g,0,none⟩=a3/\cap=d3:=by injection e3 with e1 e2 e4;exact⟨e1,e4⟩
   have HL3:Hid (LC V1 (some ⟨g,0,none⟩) q0.length cap 1 (ics (turn s q0))):=by rw[HT.out];exact hl3
   have HF3:Hid (0<q0.length->∀y,(some ⟨g,0,none⟩:Option Addr)=some y->¬own b L y.block):=λ_ y hy=>by have:=Ap hy;subst this;exact(HVN.out _ hgV).o
   clear hl3 hf3 e3 HVN HO S1 T1 cz1 nz hzV HWV
   have hnn:q0.length<=32:=by omega
   obtain⟨kk,hkk⟩:∃kk,kk=min q0.length wi:=⟨_,rfl⟩
   have hkn:kk<=q0.length:=by omega
   have hk4:kk<=4:=by omega
   have hmin:min ((q0.length:Nat):Int) (wi:Int)=(kk:Int):=by rw[hkk];omega
   obtain⟨qs,hqs⟩:∃qs,qs=(turn s q0).take wi:=⟨_,rfl⟩
   have hqt:(turn s q0).take kk=qs:=by
    rw[hqs,hkk]
    have:(turn s q0).length=q0.length:=by have:=HL3.out.len;rw[jq]at this;omega
    rcases AM q0.length wi with h|h
    ·rw[AG h,Ah (by omega),Ah (by omega)]
    ·rw[AD h]
   have hql2:qs.length=kk:=by
    rw[<-hqt,WY]
    have:(turn s q0).length=q0.length:=by have:=HL3.out.len;rw[jq]at this;omega
    omega
   have HQL:Hid (qs.length=kk):=hql2
   have HL4:Hid (LC V1 (some ⟨g,0,none⟩:Option Addr) kk cap 1 (ics qs)):=by rw[<-hqt];exact zby HL3.out kk hkn
   have HF4:Hid (0<kk->∀y,(some ⟨g,0,none⟩:Option Addr)=some y->¬own b L y.block):=λh=>HF3.out (by omega)
   rw[<-hqs]at HR1 HA1
   have k2:V1.cell? ⟨b,2,none⟩=some (.int .i64 (wi:Int)):=(zd S3.out.row (by omega)).trans (congrArg some (by rw[<-hwi2.out];rfl))
   clear hqs hqt hql2 hkk HL3 HF3 HR0 HA HQ0 HT
   go_upto_region 4 with fail
   go_wp2_with fail
   go_loopw [32] (λi wr=>∃k:Nat,k<=kk/\i=.int .i64 (k:Int)/\Hid (∃s' L',St N wr b s' L'/\To b w L wr L'/\StartI mach (K+2*k) (qs.drop k) s' m/\(qs.drop k).foldl (staS mach) s'=r/\LC wr (some ⟨g,0,none⟩:Option Addr) kk cap 1 (ics qs)/\(0<kk->∀y,(some ⟨g,0,none⟩:Option Addr)=some y->¬own b L' y.block)/\wr.cell? ⟨z,0,none⟩=some (.pointer (some ⟨b,0,none⟩))/\¬own b L' z))
    (λi _=>kk-(intOf i).toNat)
   case atStart=>exact⟨0,by omega,rfl,s,L,S3.out,T3.out,⟨HA1.out.al.mono (by omega),HA1.out.nod,HA1.out.are⟩,HR1.out,HL4.out,HF4.out,cz3,nz2.out⟩
   case round=>
    obtain⟨k,hk,rfl,s',L',S5,T5,I5,R5,LC5,F5,CZ5,NZ5⟩:=hrel
    clear S3 T3 HL4 HF4 HA1 HR1 cz3 nz2 k2
    by_cases hlt:k<kk
    ·obtain⟨q,hq⟩:∃q,qs[k]?=some q:=⟨_,Ai (by rw[HQL.out];exact hlt)⟩
     have hdr:=zbw hq
     rw[hdr]at I5 R5
     rw[AO]at R5
     obtain⟨ga,oa,ea,hga,hca⟩:=LC5.sure (by omega)
     obtain⟨rfl,rfl⟩:g=ga/\0=oa:=by injection ea with e1;injection e1 with e1 e2;exact⟨e1,e2⟩
     have cs:wr.cell? ⟨g,k,none⟩=some (.int .i64 q):=by simpa using hca k _ (jV hq)
     have HS2:Hid (St N wr b s' L'):=S5
     have HT2:Hid (To b w L wr L'):=T5
     have HI3:Hid (StartI mach (K+2*k+2) (qs.drop (k+1)) (staS mach s' q) m):=I5.step zN jH
     have HR2:Hid ((qs.drop (k+1)).foldl (staS mach) (staS mach s' q)=r):=R5
     have HLC:Hid (LC wr (some ⟨g,0,none⟩:Option Addr) kk cap 1 (ics qs)/\(0<kk->∀y,(some ⟨g,0,none⟩:Option Addr)=some y->¬own b L' y.block)):=⟨LC5,F5⟩
     have HCZ:Hid (wr.cell? ⟨z,0,none⟩=some (.pointer (some ⟨b,0,none⟩))/\¬own b L' z):=⟨CZ5,NZ5⟩
     have hln':=I5.al.len
     have hrise:=I5.al.inv.rise
     have hK3:K+2*(k:Int)<=7000100:=by omega
     clear hca hga hdr R5 LC5 F5 T5 hq
     cases hfd:s'.under.find? (λp=>decide (p.seq=q))with
     |none=>
      have e:=zcH hfd
      rw[e]at HI3 HR2
      have CF:Hid (Calls prog 58 #[.pointer (some ⟨b,0,none⟩),.int .i64 q] wr λe w'=>e=.returned (.int .i64 (-1))/\Below wr.heap.size wr w'):=by
       have:=qS S5 q s'.under.length (zbu hfd) (by omega)
       rw[if_neg (by omega)]at this
       exact this
      clear e hfd S5 I5 hrise hln'
      go_wp2_with fail
      refine CF.out.mono ?_
      rintro e V6 ⟨rfl,hk2⟩
      have t2:=zf (b:=b) L' hk2
      have S6:Hid (St N V6 b s' L'):=HS2.out.below hk2
      have T6:Hid (To b w L V6 L'):=HT2.out.trans t2
      have L6:Hid (LC V6 (some ⟨g,0,none⟩:Option Addr) kk cap 1 (ics qs)/\(0<kk->∀y,(some ⟨g,0,none⟩:Option Addr)=some y->¬own b L' y.block)):=qC HLC.out.1 HLC.out.2 t2
      have Z6:Hid (V6.cell? ⟨z,0,none⟩=some (.pointer (some ⟨b,0,none⟩))/\¬own b L' z):=⟨zn hk2 HCZ.out.1,HCZ.out.2⟩
      clear hk2 t2 CF HS2 HT2 HLC HCZ cs CZ5 NZ5
      go_wp2_with fail
      exact⟨⟨k+1,by omega,by go_num,s',L',S6.out,T6.out,⟨HI3.out.al.mono (by push_cast;omega),HI3.out.nod,HI3.out.are⟩,HR2.out,L6.out.1,L6.out.2,Z6.out.1,Z6.out.2⟩,by simp[intOf];omega⟩
     |some o=>
      obtain⟨l1,l2,hu,hoq⟩:=jN hfd
      subst hoq
      have ho1:=I5.are o.seq (AI ..) o (by rw[hu];simp) rfl
      obtain⟨j,hj⟩:∃j,j=l1.length:=⟨_,rfl⟩
      have hjo:s'.under[j]?=some o:=by rw[hu,hj];simp
      have hjl:j<s'.under.length:=(Ae.1 hjo).1
      have CF:Hid (Calls prog 58 #[.pointer (some ⟨b,0,none⟩),.int .i64 o.seq] wr λe w'=>e=.returned (.int .i64 (j:Int))/\Below wr.heap.size wr w'):=by
       have:=qS S5 o.seq j (by rw[hj];exact jS hu hrise) (by omega)
       rw[if_pos hjl]at this
       exact this
      have HC1:Hid (∀W,St N W b s' L'->Calls prog 63 #[.pointer (some ⟨b,0,none⟩),.int .i64 (j:Int)] W λe w'=>e=.returned (.tuple #[])/\∃L'',St N w' b (staS mach s' o.seq) L''/\To b W L' w' L''):=λW SW=>by
       rw[hj,zdI hu hrise]
       exact kN SW I5.al (by omega) hu ho1.1
      have hju:¬((j:Int)<0):=by omega
      have hju2:(0:Int)<=(j:Int):=by omega
      clear hfd hu hj I5 hrise S5 ho1 hjo hjl
      go_wp2_with fail
      refine CF.out.mono ?_
      rintro e V6 ⟨rfl,hk2⟩
      have t2:=zf (b:=b) L' hk2
      have S6:Hid (St N V6 b s' L'):=HS2.out.below hk2
      have T6:Hid (To b w L V6 L'):=HT2.out.trans t2
      have L6:Hid (LC V6 (some ⟨g,0,none⟩:Option Addr) kk cap 1 (ics qs)/\(0<kk->∀y,(some ⟨g,0,none⟩:Option Addr)=some y->¬own b L' y.block)):=qC HLC.out.1 HLC.out.2 t2
      have Z6:V6.cell? ⟨z,0,none⟩=some (.pointer (some ⟨b,0,none⟩)):=zn hk2 HCZ.out.1
      have Y6:Hid (¬own b L' z):=HCZ.out.2
      clear hk2 t2 CF HS2 HT2 HLC HCZ cs CZ5 NZ5
      go_wp2_with fail
      refine(HC1.out _ S6.out).mono ?_
      rintro e V7 ⟨rfl,L7,u1,u2⟩
      have S7:Hid (St N V7 b (staS mach s' o.seq) L7):=u1
      have T7:Hid (To b w L V7 L7):=T6.out.trans u2
      have Q7:Hid (LC V7 (some ⟨g,0,none⟩:Option Addr) kk cap 1 (ics qs)/\(0<kk->∀y,(some ⟨g,0,none⟩:Option Addr)=some y->¬own b L7 y.block)):=qC L6.out.1 L6.out.2 u2
      have Z7:Hid (V7.cell? ⟨z,0,none⟩=some (.pointer (some ⟨b,0,none⟩))/\¬own b L7 z):=⟨jy Z6 u2 Y6.out,qp u2.fresh Y6.out (Ag _ _ Z6)⟩
      clear u1 u2 S6 T6 L6 HC1 Z6 Y6
      go_wp2_with fail
      exact⟨⟨k+1,by omega,by go_num,_,L7,S7.out,T7.out,⟨HI3.out.al.mono (by push_cast;omega),HI3.out.nod,HI3.out.are⟩,HR2.out,Q7.out.1,Q7.out.2,Z7.out.1,Z7.out.2⟩,by simp[intOf];omega⟩
    ·have e:qs.drop k=[]:=Au (by rw[HQL.out];omega)
     rw[e]at R5
     have hr:s'=r:=R5
     subst hr
     have HS2:Hid (St N wr b s' L'):=S5
     have HT2:Hid (To b w L wr L'):=T5
     clear S5 T5 I5 LC5 F5 R5 e CZ5 NZ5
     go_wp2_with fail
     refine Ad (Ab rfl _ _ _) rfl ⟨rfl,L',HS2.out,HT2.out⟩
theorem zdO{t:Tb}(pc g:Int)(tk:Bool)(hp:U32 pc)(w:World):Calls prog 117 #[.agg (rowOf (tat t) 64),.int .u32 pc,.bool tk,.int .u32 g] w λe w'=>e=.returned (.agg (rowOf (tat (lbM t pc tk g)) 64))/\Below w.heap.size w w':=by
 rw[<-yi,<-yi]
 exact Gu.gB t pc g hp.1 hp.2 tk w
theorem zm1{t:Tb}(ht:Gu.TbOk t)(pc v:Int)(hp:U32 pc)(hv:U32 v)(w:World):Calls prog 118 #[.agg (rowOf (tat t) 64),.int .u32 pc,.int .u32 v] w λe w'=>e=.returned (.agg (rowOf (tat (lvM t pc v)) 64))/\Below w.heap.size w w':=by
 rw[<-yi,<-yi]
 exact Gu.gV t ht pc v hp.1 hp.2 hv.1 hv.2 w
theorem zm2(t:Tb)(i:Nat):(tat t i).oneCell'=true:=by
 unfold tat
 split
 ·split<;>rfl
 ·split
  ·rfl
  ·split
   ·rfl
   ·split<;>rfl
theorem zdP(t:Tb):(rowOf (tat t) 64).all (·.oneCell')=true:=jf _ _ λi _=>zm2 t i
theorem zdQ(t:Tb):(prog.info? 56).map (·.size)=some (rowOf (tat t) 64).size:=by rw[ze];exact Gu.yl
theorem Bx.cm{w:World}{q:Nat}{o:Dg}(h:Bx w q o):w.rangeAt q 17 (cC o.c).toList:=zeS h λi v hi=>by
 have hl:i<11:=by have:=(Ae.1 hi).1;simpa[cC]using this
 rcases(by omega:i=0\/i=1\/i=2\/i=3\/i=4\/i=5\/i=6\/i=7\/i=8\/i=9\/i=10)with rfl|rfl|rfl|rfl|rfl|rfl|rfl|rfl|rfl|rfl|rfl<;>exact hi
theorem zk8{i:In}(h:trn i=true):ldn i.op=0:=by
 have h':4<=i.op/\i.op<=10:=by simpa[trn]using h
 unfold ldn
 rw[if_neg (by omega),if_neg (by omega),if_neg (by omega)]
theorem xH{N:Nat}{w:World}{b:Nat}{s:Cr}{L:Sls}(S:St N w b s L)(ht:Gu.TbOk s.tb)(o:Dg)(hp:U32 o.pc)(hc:CmR o.c):
  Calls prog 80 #[.pointer (some ⟨b,0,none⟩),dgv o] w λe w'=>e=.returned (.tuple #[])/\St N w' b {s with tb:=learn mach s.tb o} L/\To b w L w' L:=by
 obtain⟨r,hr⟩:∃r,r=learn mach s.tb o:=⟨_,rfl⟩
 rw[<-hr]
 obtain⟨E,hE⟩:∃E,E=(cC o.c).toList.toArray:=⟨_,rfl⟩
 have HE:Hid (E=(cC o.c).toList.toArray):=hE
 have HI:Hid ((prog.info? 68).map (·.size)=some E.size/\11=E.size/\E.all (·.oneCell')=true):=by rw[hE];exact⟨za,rfl,vV o.c⟩
 have CT:=λW=>zaH o.i W
 have CL:=λW=>ji o.i.op W
 obtain⟨y,hy⟩:∃y,IntKind.u32.wrap (o.pc+4)=y:=⟨_,rfl⟩
 have ey:(o.pc+4)%4294967296=y:=by rw[<-hy,zfU]
 have HTK:Hid (∀tk,tk=(decide (o.i.op=4)||!decide (o.c.next=y))->r=learn mach s.tb o/\(trn o.i=true->r=lbM s.tb o.pc tk o.c.next)/\(trn o.i=false->r=if ldn o.i.op≠0/\o.c.rd≠0 then lvM s.tb o.pc o.c.val else s.tb)):=λtk htk=>by
  refine⟨hr,λh=>?_,λh=>?_⟩
  ·rw[hr]
   unfold learn
   simp only[h,if_true]
   rw[zk8 h,if_neg (by simp),ey,<-htk]
   rfl
  ·rw[hr]
   unfold learn
   simp only[h,Az,if_false]
   rfl
 clear hr hE ey
 go_enter func80,ntmps80
 go_upto_region 1 with fail
 refine Wi.zh (Φ:=λW=>AB _ _ _ _ W) ?_
 intro V hV hVb
 have BV:Hid (Bx V w.heap.size o):=hV
 have SV:Hid (St N V b s L):=S.below hVb
 have TV:Hid (To b w L V L):=zf L hVb
 have hzo:Hid (¬own b L w.heap.size):=λh=>by have:=qR S h;omega
 clear hV hVb S
 generalize w.heap.size=z at*
 go_upto_region 2 with(first|(refine Ak rfl 68 _ rfl z 17 rfl (cC o.c).toList _ BV.out.cm underlying68 rfl (zae o.c) ?_;rw[<-HE.out])|(refine Aw rfl 68 _ _ rfl _ _ rfl rfl 68 _ (heap_alloc_new _ _) HI.out.1 HI.out.2.1 HI.out.2.2 ?_;rw[Aq]))
 refine Wi.zh (Φ:=λW=>AB _ _ _ _ W) ?_
 intro V1 h1 hb
 have C1:Hid (Cb V1 V.heap.size o.c):=by show _=_;rw[h1,HE.out]
 have B1:Hid (Bx V1 z o):=BV.out.below hb
 have S1:Hid (St N V1 b s L):=SV.out.below hb
 have T1:Hid (To b w L V1 L):=TV.out.trans (zf L hb)
 clear h1 hb BV SV TV HI HE
 generalize V.heap.size=p at*
 go_wp2_with(refine Ak rfl 78 _ rfl z 2 rfl (ivL o.i).toList _ (xl B1.out) underlying78 rfl (qP _) ?_)
 refine(CT _).mono ?_
 rintro e V2 ⟨rfl,hk2⟩
 have C2:Hid (Cb V2 p o.c):=C1.out.below hk2
 have B2:Hid (Bx V2 z o):=B1.out.below hk2
 have S2:Hid (St N V2 b s L):=S1.out.below hk2
 have T2:Hid (To b w L V2 L):=T1.out.trans (zf L hk2)
 clear hk2 C1 B1 S1 T1 CT
 have c2:V2.cell? ⟨z,2,none⟩=some (.int .i64 o.i.op):=zl B2.out 2 rfl
 have c1:V2.cell? ⟨z,1,none⟩=some (.int .u32 o.pc):=zl B2.out 1 rfl
 have n1:V2.cell? ⟨p,1,none⟩=some (.int .u32 o.c.next):=qU C2.out 1 rfl
 have l0:=yw o.i.op
 cases htr:trn o.i with
 |true=>
  have hl0:=zk8 htr
  rw[hl0]at CL
  have HTK2:Hid (∀tk,tk=(decide (o.i.op=4)||!decide (o.c.next=y))->r=lbM s.tb o.pc tk o.c.next):=λtk h=>(HTK.out tk h).2.1 htr
  clear HTK htr hl0 l0
  obtain⟨op,hop⟩:∃op,op=o.i.op:=⟨_,rfl⟩
  obtain⟨nx,hnx⟩:∃nx,nx=o.c.next:=⟨_,rfl⟩
  rw[<-hop]at c2 HTK2 CL
  rw[<-hnx]at n1 HTK2
  have HOP:Hid (op=o.i.op):=hop
  have HNX:Hid (nx=o.c.next):=hnx
  clear hop hnx
  by_cases h4:op=4
  ·have htk:r=lbM s.tb o.pc true nx:=HTK2.out true (by simp[h4])
   subst h4
   clear HTK2
   have CB:Hid (∀W,Calls prog 117 #[.agg (rowOf (tat s.tb) 64),.int .u32 o.pc,.bool true,.int .u32 nx] W λe w'=>e=.returned (.agg (rowOf (tat r) 64))/\Below W.heap.size W w'):=by rw[htk];exact λW=>zdO o.pc nx true hp W
   clear htk
   go_upto_region 4 with fail
   refine zu (S:=λw'=>w'.rangeAt b 43 (tbL s.tb)/\w'.cell? ⟨z,1,none⟩=some (.int .u32 o.pc)/\w'.cell? ⟨p,1,none⟩=some (.int .u32 nx)) [13] (by kernel_rfl) (⟨S2.out.table,c1,n1⟩) (λhH=>?_)
   refine tU 0 (.pointer (some ⟨b,0,none⟩)) ?_;go_simp
   refine tU 1 (.pointer (some ⟨b,0,none⟩)) ?_;go_simp
   refine tU 2 (.pointer (some ⟨b,0,none⟩)) ?_;go_simp
   refine tU 3 (.pointer (some ⟨b,43,none⟩)) ?_;go_simp
   refine tS 4 (.agg (tbL s.tb).toArray) rfl (Af (by rfl) 56 _ rfl _ _ rfl (tbL s.tb) _ (λwz hSw=>hSw.1) underlying56 rfl (xG _)) hH ?_;go_simp
   refine tU 5 (.pointer (some ⟨z,1,none⟩)) ?_;go_simp
   refine tS 6 (.int .u32 o.pc) rfl (Or.inl ⟨by rfl,by intro wz hSw;have hc:=hSw.2.1;go_simp⟩) hH ?_;go_simp
   refine tU 7 (.bool true) ?_;go_simp
   refine tU 8 (.pointer (some ⟨p,1,none⟩)) ?_;go_simp
   refine tS 9 (.int .u32 nx) rfl (Or.inl ⟨by rfl,by intro wz hSw;have hc:=hSw.2.2;go_simp⟩) hH ?_;go_simp
   refine zC 10 rfl (λK hK=>?_)
   go_simp
   refine(CB.out _).mono ?_
   rintro e V4 ⟨rfl,hk4⟩
   have HK4:Hid (Below V2.heap.size V2 V4):=zg hk4 (Aa _)
   go_wp2_with fail
   refine hK.out _ _ (⟨xk hk4 (hH.1),zn hk4 (hH.2.1),zn hk4 (hH.2.2)⟩) (λhN=>?_)
   clear hK K hH
   have hH:=hN
   clear hN
   try go_simp
   have S4:Hid (St N V4 b s L):=S2.out.below HK4.out
   obtain⟨s5,t5⟩:=S4.out.setTb r
   have S5:Hid (St N (V4.setCells b 43 (rowOf (tat r) 64).toList) b {s with tb:=r} L):=s5
   have T5:Hid (To b w L (V4.setCells b 43 (rowOf (tat r) 64).toList) L):=(T2.out.trans (zf L HK4.out)).trans t5
   have B5:Hid (Bx (V4.setCells b 43 (rowOf (tat r) 64).toList) z o):=(B2.out.below HK4.out).to t5 hzo.out
   clear s5 t5
   refine tU 11 (.pointer (some ⟨b,0,none⟩)) ?_;go_simp
   refine tU 12 (.pointer (some ⟨b,43,none⟩)) ?_;go_simp
   refine zL 13 rfl (λK hK=>?_)
   rw[if_pos (by rfl)]
   refine Ao 56 _ _ rfl b 43 (rowOf (tat r) 64) rfl rfl (by rw[ze];exact S4.out.there 43 64 (by omega)) (zdQ r) (zdP r) ?_
   refine hK.out _ _ ?_
   clear hK K
   try go_simp
   refine zG (by kernel_rfl) ?_ _
   clear hH HK4 S4 S2 T2 B2 C2 c1 c2 n1 CB
   generalize V4.setCells b 43 (rowOf (tat r) 64).toList=V5 at*
   have c2:V5.cell? ⟨z,2,none⟩=some (.int .i64 4):=zl B5.out 2 (by first|rfl|(rw[HOP.out];rfl))
   go_wp2_with fail
   refine(CL _).mono ?_
   rintro e V6 ⟨rfl,hk6⟩
   subst hk6
   go_wp2_with fail
   refine Ad (Ab rfl _ _ _) rfl ⟨rfl,S5.out,T5.out⟩
  ·have h4':(op==4)=false:=by simpa using h4
   by_cases hn:nx=y
   case' pos=>
    have htk:r=lbM s.tb o.pc false nx:=HTK2.out false (by simp[h4,hn])
    have hn':(nx != y)=false:=by simp[hn]
    clear HTK2 hn h4
    have CB:Hid (∀W,Calls prog 117 #[.agg (rowOf (tat s.tb) 64),.int .u32 o.pc,.bool false,.int .u32 nx] W λe w'=>e=.returned (.agg (rowOf (tat r) 64))/\Below W.heap.size W w'):=by rw[htk];exact λW=>zdO o.pc nx false hp W
    clear htk
    go_upto_region 4 with fail
    refine zu (S:=λw'=>w'.rangeAt b 43 (tbL s.tb)/\w'.cell? ⟨z,1,none⟩=some (.int .u32 o.pc)/\w'.cell? ⟨p,1,none⟩=some (.int .u32 nx)) [13] (by kernel_rfl) (⟨S2.out.table,c1,n1⟩) (λhH=>?_)
    refine tU 0 (.pointer (some ⟨b,0,none⟩)) ?_;go_simp
    refine tU 1 (.pointer (some ⟨b,0,none⟩)) ?_;go_simp
    refine tU 2 (.pointer (some ⟨b,0,none⟩)) ?_;go_simp
    refine tU 3 (.pointer (some ⟨b,43,none⟩)) ?_;go_simp
    refine tS 4 (.agg (tbL s.tb).toArray) rfl (Af (by rfl) 56 _ rfl _ _ rfl (tbL s.tb) _ (λwz hSw=>hSw.1) underlying56 rfl (xG _)) hH ?_;go_simp
    refine tU 5 (.pointer (some ⟨z,1,none⟩)) ?_;go_simp
    refine tS 6 (.int .u32 o.pc) rfl (Or.inl ⟨by rfl,by intro wz hSw;have hc:=hSw.2.1;go_simp⟩) hH ?_;go_simp
    refine tU 7 (.bool false) ?_;go_simp
   case' neg=>
    have htk:r=lbM s.tb o.pc true nx:=HTK2.out true (by simp[h4,hn])
    have hn':(nx != y)=true:=by simp[hn]
    clear HTK2 hn h4
    have CB:Hid (∀W,Calls prog 117 #[.agg (rowOf (tat s.tb) 64),.int .u32 o.pc,.bool true,.int .u32 nx] W λe w'=>e=.returned (.agg (rowOf (tat r) 64))/\Below W.heap.size W w'):=by rw[htk];exact λW=>zdO o.pc nx true hp W
    clear htk
    go_upto_region 4 with fail
    refine zu (S:=λw'=>w'.rangeAt b 43 (tbL s.tb)/\w'.cell? ⟨z,1,none⟩=some (.int .u32 o.pc)/\w'.cell? ⟨p,1,none⟩=some (.int .u32 nx)) [13] (by kernel_rfl) (⟨S2.out.table,c1,n1⟩) (λhH=>?_)
    refine tU 0 (.pointer (some ⟨b,0,none⟩)) ?_;go_simp
    refine tU 1 (.pointer (some ⟨b,0,none⟩)) ?_;go_simp
    refine tU 2 (.pointer (some ⟨b,0,none⟩)) ?_;go_simp
    refine tU 3 (.pointer (some ⟨b,43,none⟩)) ?_;go_simp
    refine tS 4 (.agg (tbL s.tb).toArray) rfl (Af (by rfl) 56 _ rfl _ _ rfl (tbL s.tb) _ (λwz hSw=>hSw.1) underlying56 rfl (xG _)) hH ?_;go_simp
    refine tU 5 (.pointer (some ⟨z,1,none⟩)) ?_;go_simp
    refine tS 6 (.int .u32 o.pc) rfl (Or.inl ⟨by rfl,by intro wz hSw;have hc:=hSw.2.1;go_simp⟩) hH ?_;go_simp
    refine tU 7 (.bool true) ?_;go_simp
   all_goals
    refine tU 8 (.pointer (some ⟨p,1,none⟩)) ?_;go_simp
    refine tS 9 (.int .u32 nx) rfl (Or.inl ⟨by rfl,by intro wz hSw;have hc:=hSw.2.2;go_simp⟩) hH ?_;go_simp
    refine zC 10 rfl (λK hK=>?_)
    go_simp
    refine(CB.out _).mono ?_
    rintro e V4 ⟨rfl,hk4⟩
    have HK4:Hid (Below V2.heap.size V2 V4):=zg hk4 (Aa _)
    go_wp2_with fail
    refine hK.out _ _ (⟨xk hk4 (hH.1),zn hk4 (hH.2.1),zn hk4 (hH.2.2)⟩) (λhN=>?_)
    clear hK K hH
    have hH:=hN
    clear hN
    try go_simp
    have S4:Hid (St N V4 b s L):=S2.out.below HK4.out
    obtain⟨s5,t5⟩:=S4.out.setTb r
    have S5:Hid (St N (V4.setCells b 43 (rowOf (tat r) 64).toList) b {s with tb:=r} L):=s5
    have T5:Hid (To b w L (V4.setCells b 43 (rowOf (tat r) 64).toList) L):=(T2.out.trans (zf L HK4.out)).trans t5
    have B5:Hid (Bx (V4.setCells b 43 (rowOf (tat r) 64).toList) z o):=(B2.out.below HK4.out).to t5 hzo.out
    clear s5 t5
    refine tU 11 (.pointer (some ⟨b,0,none⟩)) ?_;go_simp
    refine tU 12 (.pointer (some ⟨b,43,none⟩)) ?_;go_simp
    refine zL 13 rfl (λK hK=>?_)
    rw[if_pos (by rfl)]
    refine Ao 56 _ _ rfl b 43 (rowOf (tat r) 64) rfl rfl (by rw[ze];exact S4.out.there 43 64 (by omega)) (zdQ r) (zdP r) ?_
    refine hK.out _ _ ?_
    clear hK K
    try go_simp
    refine zG (by kernel_rfl) ?_ _
    clear hH HK4 S4 S2 T2 B2 C2 c1 c2 n1 CB
    generalize V4.setCells b 43 (rowOf (tat r) 64).toList=V5 at*
    have c2:V5.cell? ⟨z,2,none⟩=some (.int .i64 op):=zl B5.out 2 (by first|rfl|(rw[HOP.out];rfl))
    go_wp2_with fail
    refine(CL _).mono ?_
    rintro e V6 ⟨rfl,hk6⟩
    subst hk6
    go_wp2_with fail
    refine Ad (Ab rfl _ _ _) rfl ⟨rfl,S5.out,T5.out⟩
 |false=>
  have hr:=(HTK.out _ rfl).2.2 htr
  clear HTK htr
  obtain⟨ld,hld⟩:∃ld,ld=ldn o.i.op:=⟨_,rfl⟩
  rw[<-hld]at CL hr l0
  obtain⟨k,hk⟩:∃k,k=o.c.rd:=⟨_,rfl⟩
  rw[<-hk]at hr
  have c4:V2.cell? ⟨p,4,none⟩=some (.int .i64 (k:Int)):=qU C2.out 4 (by rw[hk];rfl)
  have HR:Hid (r=if ld≠0/\k≠0 then lvM s.tb o.pc o.c.val else s.tb):=hr
  clear hld hk hr n1
  go_wp2_with fail
  refine(CL _).mono ?_
  rintro e V3 ⟨rfl,hk3⟩
  subst hk3
  clear CL
  by_cases h0:ld=0
  ·have hr:=HR.out
   rw[if_neg (by rw[h0];exact λh=>h.1 rfl)]at hr
   subst hr h0
   clear HR
   go_wp2_with fail
   refine Ad (Ab rfl _ _ _) rfl ⟨rfl,S2.out,T2.out⟩
  ·have hgt:(0:Int)<ld:=by omega
   by_cases hk0:k=0
   ·have hr:=HR.out
    rw[if_neg (by rw[hk0];exact λh=>h.2 rfl)]at hr
    subst hr
    have c4':V3.cell? ⟨p,4,none⟩=some (.int .i64 0):=by rw[c4,hk0];rfl
    clear HR c4 hk0 h0
    go_wp2_with fail
    refine Ad (Ab rfl _ _ _) rfl ⟨rfl,S2.out,T2.out⟩
   ·have hr:=HR.out
    rw[if_pos ⟨h0,hk0⟩]at hr
    have HR2:Hid (r=lvM s.tb o.pc o.c.val):=hr
    have hkb:((k:Int) != 0)=true:=by simp[hk0]
    have c5:V3.cell? ⟨p,5,none⟩=some (.int .u32 o.c.val):=qU C2.out 5 rfl
    have CV:Hid (∀W,Calls prog 118 #[.agg (rowOf (tat s.tb) 64),.int .u32 o.pc,.int .u32 o.c.val] W λe w'=>e=.returned (.agg (rowOf (tat r) 64))/\Below W.heap.size W w'):=by rw[hr];exact λW=>zm1 ht o.pc o.c.val hp hc.val W
    clear HR hr hk0 h0
    go_upto_region 6 with fail
    refine zu (S:=λw'=>w'.rangeAt b 43 (tbL s.tb)/\w'.cell? ⟨z,1,none⟩=some (.int .u32 o.pc)/\w'.cell? ⟨p,5,none⟩=some (.int .u32 o.c.val)) [12] (by kernel_rfl) (⟨S2.out.table,c1,c5⟩) (λhH=>?_)
    refine tU 0 (.pointer (some ⟨b,0,none⟩)) ?_;go_simp
    refine tU 1 (.pointer (some ⟨b,0,none⟩)) ?_;go_simp
    refine tU 2 (.pointer (some ⟨b,0,none⟩)) ?_;go_simp
    refine tU 3 (.pointer (some ⟨b,43,none⟩)) ?_;go_simp
    refine tS 4 (.agg (tbL s.tb).toArray) rfl (Af (by rfl) 56 _ rfl _ _ rfl (tbL s.tb) _ (λwz hSw=>hSw.1) underlying56 rfl (xG _)) hH ?_;go_simp
    refine tU 5 (.pointer (some ⟨z,1,none⟩)) ?_;go_simp
    refine tS 6 (.int .u32 o.pc) rfl (Or.inl ⟨by rfl,by intro wz hSw;have hc:=hSw.2.1;go_simp⟩) hH ?_;go_simp
    refine tU 7 (.pointer (some ⟨p,5,none⟩)) ?_;go_simp
    refine tS 8 (.int .u32 o.c.val) rfl (Or.inl ⟨by rfl,by intro wz hSw;have hc:=hSw.2.2;go_simp⟩) hH ?_;go_simp
    refine zC 9 rfl (λK hK=>?_)
    go_simp
    refine(CV.out _).mono ?_
    rintro e V4 ⟨rfl,hk4⟩
    have HK4:Hid (Below V3.heap.size V3 V4):=zg hk4 (Aa _)
    go_wp2_with fail
    refine hK.out _ _ (⟨xk hk4 (hH.1),zn hk4 (hH.2.1),zn hk4 (hH.2.2)⟩) (λhN=>?_)
    clear hK K hH
    have hH:=hN
    clear hN
    try go_simp
    have S4:Hid (St N V4 b s L):=S2.out.below HK4.out
    obtain⟨s5,t5⟩:=S4.out.setTb r
    have S5:Hid (St N (V4.setCells b 43 (rowOf (tat r) 64).toList) b {s with tb:=r} L):=s5
    have T5:Hid (To b w L (V4.setCells b 43 (rowOf (tat r) 64).toList) L):=(T2.out.trans (zf L HK4.out)).trans t5
    have B5:Hid (Bx (V4.setCells b 43 (rowOf (tat r) 64).toList) z o):=(B2.out.below HK4.out).to t5 hzo.out
    clear s5 t5
    refine tU 10 (.pointer (some ⟨b,0,none⟩)) ?_;go_simp
    refine tU 11 (.pointer (some ⟨b,43,none⟩)) ?_;go_simp
    refine zL 12 rfl (λK hK=>?_)
    rw[if_pos (by rfl)]
    refine Ao 56 _ _ rfl b 43 (rowOf (tat r) 64) rfl rfl (by rw[ze];exact S4.out.there 43 64 (by omega)) (zdQ r) (zdP r) ?_
    refine hK.out _ _ ?_
    clear hK K
    try go_simp
    refine zG (by kernel_rfl) ?_ _
    clear hH
    go_wp2_with fail
    refine Ad (Ab rfl _ _ _) rfl ⟨rfl,S5.out,T5.out⟩
structure ComOk(s:Cr)(o:Dg):Prop where
 pc:U32 o.pc
 c:CmR o.c
 tb:Gu.TbOk s.tb
 len:s.coms.length<=100000
 nms:Nms s
 give:o.rd≠0->0<=o.old/\o.old<s.phys/\o.old∉s.free/\∀r,r<32->s.regs r≠o.old
 sto:o.c.many≠0->sts o.i=true/\o.c.many=stn o.i.op/\fits s.n o.c.pl (stn o.i.op)=true
theorem zq:(prog.info? 27).map (·.size)=some 35:=by kernel_rfl
theorem zf2(R:Nat->Int)(pc st ca:Int):(prog.info? 27).map (·.size)=some (rowOf (hat R pc st ca) 35).toList.length:=by
 rw[Ax,ze]
 exact zq
theorem zcI(R:Nat->Int)(pc st ca:Int):(rowOf (hat R pc st ca) 35).all (·.oneCell')=true:=jf _ _ λi _=>zbr _ _ _ _ i
theorem St.hart{N:Nat}{w:World}{b:Nat}{s:Cr}{L:Sls}(S:St N w b s L):w.rangeAt b 4 (rowOf (hat s.R s.pc s.st s.ca) 35).toList:=jB S.row (by omega) (zdt s L)
theorem zar{N:Nat}{w:World}{b:Nat}{s:Cr}{L:Sls}(S:St N w b s L)(o:Dg)(K:ComOk s o):
  Calls prog 52 #[.pointer (some ⟨b,0,none⟩),dgv o] w λe w'=>e=.returned (.tuple #[])/\∃L',St N w' b (com1 mach s o) L'/\To b w L w' L':=by
 obtain⟨iC,hi,hz0,hz1,hz2⟩:=info_parts zpX
 obtain⟨r,hr⟩:∃r,r=com1 mach s o:=⟨_,rfl⟩
 rw[<-hr]
 have HR:Hid (r=com1 mach s o):=hr
 have HK:Hid (ComOk s o):=K
 obtain⟨E,hE⟩:∃E,E=(cC o.c).toList.toArray:=⟨_,rfl⟩
 have HE:Hid (E=(cC o.c).toList.toArray):=hE
 have HI:Hid ((prog.info? 68).map (·.size)=some E.size/\11=E.size/\E.all (·.oneCell')=true):=by rw[hE];exact⟨za,rfl,vV o.c⟩
 have hlC:=K.len
 clear hr hE K
 go_enter func52,ntmps52
 go_upto_region 1 with fail
 refine Wi.zh (Φ:=λW=>AB _ _ _ _ W) ?_
 intro V0 hV hVb
 have BV0:Hid (Bx V0 w.heap.size o):=hV
 have SV0:Hid (St N V0 b s L):=S.below hVb
 have TV0:Hid (To b w L V0 L):=zf L hVb
 have hzo:Hid (¬own b L w.heap.size):=λh=>by have:=qR S h;omega
 clear hV hVb S
 generalize w.heap.size=z at*
 go_upto_region 2 with(first|(refine Ak rfl 68 _ rfl z 17 rfl (cC o.c).toList _ BV0.out.cm underlying68 rfl (zae o.c) ?_;rw[<-HE.out])|(refine Aw rfl 68 _ _ rfl _ _ rfl rfl 68 _ (heap_alloc_new _ _) HI.out.1 HI.out.2.1 HI.out.2.2 ?_;rw[Aq]))
 refine Wi.zh (Φ:=λW=>AB _ _ _ _ W) ?_
 intro V h1 hb
 have CV:Hid (Cb V V0.heap.size o.c):=by show _=_;rw[h1,HE.out]
 have BV:Hid (Bx V z o):=BV0.out.below hb
 have SV:Hid (St N V b s L):=SV0.out.below hb
 have TV:Hid (To b w L V L):=TV0.out.trans (zf L hb)
 have hpo:Hid (¬own b L V0.heap.size):=λh=>by have:=qR SV0.out h;omega
 clear h1 hb BV0 SV0 TV0 HI HE
 generalize V0.heap.size=p at*
 have hnp:L.c.ownBlock≠some p:=λh=>hpo.out (.inr (.inl h))
 obtain⟨a5,c5,ea⟩:=SV.out.its.ic.slice
 have kA:V.cell? ⟨b,3,none⟩=some (.slice a5 (s.coms.length) c5):=(zd SV.out.row (by omega)).trans (congrArg some ea)
 have HU:Hid (Us V 68 11 (.slice a5 (s.coms.length) c5) (s.coms.length) (flat cml s.coms)):=by have:=SV.out.its.ic;rw[ea]at this;exact this
 have hnb:(WZ a5 (s.coms.length) c5).ownBlock≠some b:=λh=>(SV.out.apart.1 b (by rw[ea];exact h)).2.2 rfl
 have hlt0:∀g,(WZ a5 (s.coms.length) c5).ownBlock=some g->g<V.heap.size:=λg h=>SV.out.its.lt (.inl (by rw[ea];exact h))
 refine zu (S:=λw'=>w'.cell? ⟨b,3,none⟩=some (.slice a5 (s.coms.length) c5)/\w'.rangeAt p 0 ((cC o.c).toList)) [12] (by kernel_rfl) (⟨kA,zim CV.out⟩) (λhH=>?_)
 refine tU 0 (.pointer (some ⟨b,0,none⟩)) ?_;go_simp
 refine tU 1 (.pointer (some ⟨b,0,none⟩)) ?_;go_simp
 refine tU 2 (.pointer (some ⟨b,0,none⟩)) ?_;go_simp
 refine tU 3 (.pointer (some ⟨b,3,none⟩)) ?_;go_simp
 refine tU 4 (.pointer (some ⟨b,3,none⟩)) ?_;go_simp
 refine tA 5 (.slice a5 (s.coms.length) c5) ?_;go_simp
 refine tS 6 (.agg ((cC o.c).toList).toArray) rfl (Af (by rfl) 68 _ rfl _ _ rfl ((cC o.c).toList) _ (λwz hSw=>hSw.2) underlying68 rfl (zae _)) hH ?_;go_simp
 refine zC 7 rfl (λK hK=>?_)
 go_simp
 refine hK.out _ _ (⟨jG _ (hH.1),zcw _ (hH.2)⟩) (λhN=>?_)
 clear hK K hH
 have hH:=hN
 clear hN
 try go_simp
 refine zC 8 rfl (λK hK=>?_)
 rw[if_pos (by rfl)]
 refine qT _ _ 30 rfl 68 iC _ 11 64 underlying30 hi hz0 hz1 hz2 rfl (by decide) _ (s.coms.length) _ rfl (HU.out.below ((Aj _ _).drew.alloc (Aa _) _)) V.heap.size ((cC o.c).toList) rfl rfl (λj u hj=>jR (w:=V.drew) j u hj) (zdr _) (by omega) (by omega) ?_
 intro v1 w1 hU1 hG1 hF1
 obtain⟨p1,c1,rfl⟩:=hU1.slice
 have fA:w1.frozen? ⟨b,3,none⟩=false:=AL _ _ _ _ _ ((hG1.block b (by have:=SV.out.lt;simp;omega) (λh=>hnb h.symm)).trans ((AT _ _ _ SV.out.lt).trans SV.out.row))
 have HU1:Hid (Us w1 68 11 (.slice p1 ((s.coms.length)+1) c1) ((s.coms.length)+1) (flat cml s.coms++(cC o.c).toList)):=hU1
 have HG1:Hid (V.grownBy w1 L.c.ownBlock):=by rw[ea];exact qL (jw hG1 (λg hg=>hlt0 g hg))
 have HF1:Hid (∀g,(WZ p1 ((s.coms.length)+1) c1).ownBlock=some g->L.c.ownBlock=some g\/V.heap.size<=g):=λg hg=>(hF1 g hg).imp (λh=>by rw[ea];exact h) (λh=>AA (by simp) h)
 refine hK.out _ _ (⟨zaq hG1 (hH.1) (hnb),zk0 hG1 (hH.2) (by rw[<-ea];exact hnp)⟩) (λhN=>?_)
 clear hK K hH
 have hH:=hN
 clear hN
 try go_simp
 have cA:=hH.1
 clear hU1 hG1 hF1 HU hnb hlt0 kA
 refine tU 9 (.pointer (some ⟨b,0,none⟩)) ?_;go_simp
 refine tU 10 (.pointer (some ⟨b,3,none⟩)) ?_;go_simp
 refine tU 11 (.pointer (some ⟨b,3,none⟩)) ?_;go_simp
 refine zL 12 rfl (λK hK=>?_)
 go_simp
 refine hK.out _ _ ?_
 clear hK K
 try go_simp
 refine zG (by kernel_rfl) ?_ _
 obtain⟨S1,T1⟩:=St.appC SV.out (o.c) HU1.out HG1.out HF1.out
 clear HU1 HG1 HF1 hH cA fA
 generalize w1.setCell ⟨b,3,none⟩ (.slice p1 ((s.coms.length)+1) c1)=W1 at*
 generalize WZ p1 ((s.coms.length)+1) c1=v1 at*
 have S2:Hid (St N W1 b {s with coms:=s.coms++[o.c]} {L with c:=v1}):=S1
 have T2:Hid (To b w L W1 {L with c:=v1}):=TV.out.trans T1
 have B2:Hid (Bx W1 z o):=BV.out.to T1 hzo.out
 have C2:Hid (Cb W1 p o.c):=CV.out.to T1 hpo.out
 have z2:Hid (¬own b {L with c:=v1} z):=BV.out.not T1 hzo.out
 have p2:Hid (¬own b {L with c:=v1} p):=CV.out.not T1 hpo.out
 clear S1 T1 SV TV BV CV hzo hpo hnp hlC
 generalize ({L with c:=v1}:Sls)=L2 at*
 have CB:Hid (∀W,Calls prog 66 #[.agg (rowOf (hat s.R s.pc s.st s.ca) 35),cvC o.c] W λe w'=>e=.returned (.agg (rowOf (hat (updC s.R o.c) o.c.next o.c.st o.c.ca) 35))/\Below W.heap.size W w'):=λW=>zmn s.R s.pc s.st s.ca o.c HK.out.c.rd W
 obtain⟨H2,hH2⟩:∃H2,H2=rowOf (hat (updC s.R o.c) o.c.next o.c.st o.c.ca) 35:=⟨_,rfl⟩
 rw[<-hH2]at CB
 have HH2:Hid (H2=rowOf (hat (updC s.R o.c) o.c.next o.c.st o.c.ca) 35):=hH2
 have HHI:Hid (H2.size=35/\(prog.info? 27).map (·.size)=some H2.size/\H2.all (·.oneCell')=true):=by rw[hH2];exact⟨ze _ _,by rw[ze];exact zq,zcI _ _ _ _⟩
 clear hH2
 go_upto_region 3 with fail
 refine zu (S:=λw'=>w'.rangeAt b 4 ((rowOf (hat s.R s.pc s.st s.ca) 35).toList)/\w'.rangeAt p 0 ((cC o.c).toList)) [11] (by kernel_rfl) (⟨S2.out.hart,zim C2.out⟩) (λhH=>?_)
 refine tU 0 (.pointer (some ⟨b,0,none⟩)) ?_;go_simp
 refine tU 1 (.pointer (some ⟨b,0,none⟩)) ?_;go_simp
 refine tU 2 (.pointer (some ⟨b,0,none⟩)) ?_;go_simp
 refine tU 3 (.pointer (some ⟨b,3,none⟩)) ?_;go_simp
 refine tU 4 (.pointer (some ⟨b,4,none⟩)) ?_;go_simp
 refine tS 5 (.agg ((rowOf (hat s.R s.pc s.st s.ca) 35).toList).toArray) rfl (Af (by rfl) 27 _ rfl _ _ rfl ((rowOf (hat s.R s.pc s.st s.ca) 35).toList) _ (λwz hSw=>hSw.1) underlying27 rfl (zf2 _ _ _ _)) hH ?_;go_simp
 refine tS 6 (.agg ((cC o.c).toList).toArray) rfl (Af (by rfl) 68 _ rfl _ _ rfl ((cC o.c).toList) _ (λwz hSw=>hSw.2) underlying68 rfl (zae _)) hH ?_;go_simp
 refine zC 7 rfl (λK hK=>?_)
 go_simp
 refine(CB.out _).mono ?_
 rintro e V3 ⟨rfl,hk3⟩
 have HK3:Hid (Below W1.heap.size W1 V3):=zg hk3 (Aa _)
 go_wp2_with fail
 refine hK.out _ _ (⟨xk hk3 (hH.1),xk hk3 (hH.2)⟩) (λhN=>?_)
 clear hK K hH
 have hH:=hN
 clear hN
 try go_simp
 have S3:Hid (St N V3 b {s with coms:=s.coms++[o.c]} L2):=S2.out.below HK3.out
 obtain⟨s4,t4⟩:=S3.out.setHart (updC s.R o.c) o.c.next o.c.st o.c.ca
 rw[<-HH2.out]at s4 t4
 have S4:Hid (St N (V3.setCells b 4 H2.toList) b {s with coms:=s.coms++[o.c],R:=updC s.R o.c,pc:=o.c.next,st:=o.c.st,ca:=o.c.ca} L2):=s4
 have T4:Hid (To b w L (V3.setCells b 4 H2.toList) L2):=(T2.out.trans (zf L2 HK3.out)).trans t4
 have B4:Hid (Bx (V3.setCells b 4 H2.toList) z o):=(B2.out.below HK3.out).to t4 z2.out
 have C4:Hid (Cb (V3.setCells b 4 H2.toList) p o.c):=(C2.out.below HK3.out).to t4 p2.out
 clear s4 t4
 refine tU 8 (.pointer (some ⟨b,0,none⟩)) ?_;go_simp
 refine tU 9 (.pointer (some ⟨b,3,none⟩)) ?_;go_simp
 refine tU 10 (.pointer (some ⟨b,4,none⟩)) ?_;go_simp
 refine zL 11 rfl (λK hK=>?_)
 rw[if_pos (by rfl)]
 refine Ao 27 _ _ rfl b 4 (H2) rfl rfl (by rw[HHI.out.1];exact S3.out.there 4 35 (by omega)) (HHI.out.2.1) (HHI.out.2.2) ?_
 refine hK.out _ _ ?_
 clear hK K
 try go_simp
 refine zG (by kernel_rfl) ?_ _
 clear hH HK3 S3 S2 T2 B2 C2 CB HH2 HHI
 generalize V3.setCells b 4 H2.toList=V4 at*
 obtain⟨s4,hs4⟩:∃s4:Cr,s4={s with coms:=s.coms++[o.c],R:=updC s.R o.c,pc:=o.c.next,st:=o.c.st,ca:=o.c.ca}:=⟨_,rfl⟩
 have HR2:Hid (r={s4 with f:=stoC s4.f o.c,free:=if o.rd=0 then s4.free else s4.free++[o.old],tb:=learn mach s4.tb o}):=by show _=_;rw[HR.out,hs4];rfl
 rw[<-hs4]at S4
 have HK4:Hid (Nms s4/\Gu.TbOk s4.tb/\(o.rd≠0->0<=o.old/\o.old<s4.phys/\o.old∉s4.free/\∀r,r<32->s4.regs r≠o.old)/\(o.c.many≠0->sts o.i=true/\o.c.many=stn o.i.op/\fits s4.n o.c.pl (stn o.i.op)=true)):=by
  rw[hs4]
  exact⟨⟨HK.out.nms.low,HK.out.nms.high,HK.out.nms.dis⟩,HK.out.tb,HK.out.give,HK.out.sto⟩
 have HKC:Hid (U32 o.pc/\CmR o.c):=⟨HK.out.pc,HK.out.c⟩
 clear HR HK hs4
 have c7:V4.cell? ⟨p,7,none⟩=some (.int .i64 o.c.many):=qU C4.out 7 rfl
 have hm0:=HKC.out.2.many
 by_cases hm:o.c.many=0
 ·have c7':V4.cell? ⟨p,7,none⟩=some (.int .i64 0):=by rw[c7,hm]
  have HR3:Hid (r={s4 with free:=if o.rd=0 then s4.free else s4.free++[o.old],tb:=learn mach s4.tb o}):=by
   show _=_
   rw[HR2.out]
   unfold stoC
   rw[hm]
   show({s4 with f:=sto s4.f o.c.pl.toNat o.c.data 0,free:=_,tb:=_}:Cr)=_
   rw[zjy]
  have HK5:Hid (Nms s4/\Gu.TbOk s4.tb/\(o.rd≠0->0<=o.old/\o.old<s4.phys/\o.old∉s4.free/\∀r,r<32->s4.regs r≠o.old)):=⟨HK4.out.1,HK4.out.2.1,HK4.out.2.2.1⟩
  clear c7 HR2 HK4 hm hm0 C4 p2
  obtain⟨k,hk⟩:∃k,k=o.rd:=⟨_,rfl⟩
  have c10:V4.cell? ⟨z,10,none⟩=some (.int .i64 (k:Int)):=zl B4.out 10 (by rw[hk];rfl)
  rw[<-hk]at HR3 HK5
  clear hk
  by_cases h0:k=0
  ·have c10':V4.cell? ⟨z,10,none⟩=some (.int .i64 0):=by rw[c10,h0];rfl
   have HR4:Hid (r={s4 with tb:=learn mach s4.tb o}):=by
    show _=_
    rw[HR3.out,if_pos h0]
   have CLn:Hid (Calls prog 80 #[.pointer (some ⟨b,0,none⟩),dgv o] V4 λe w'=>e=.returned (.tuple #[])/\St N w' b r L2/\To b V4 L2 w' L2):=by rw[HR4.out];exact xH S4.out HK5.out.2.1 o HKC.out.1 HKC.out.2
   clear c10 h0 HR3 HR4 HK5 HKC
   go_wp2_with(refine Ak rfl 132 _ rfl z 0 rfl (dgl o) _ (yp B4.out) underlying132 rfl (zM o) ?_)
   refine CLn.out.mono ?_
   rintro e V9 ⟨rfl,u1,u2⟩
   have S9:Hid (St N V9 b r L2):=u1
   have T9:Hid (To b w L V9 L2):=T4.out.trans u2
   clear u1 u2 CLn
   go_wp2_with fail
   refine Ad (Ab rfl _ _ _) rfl ⟨rfl,L2,S9.out,T9.out⟩
  ·have hb0:((k:Int) != 0)=true:=by simp[h0]
   obtain⟨p2,p3,p4,p5⟩:=HK5.out.2.2 h0
   have CG:Hid (∀W,Below V4.heap.size V4 W->Calls prog 79 #[.agg (rowOf (mat s4.phys s4.regs L2.f) 34),.int .i64 o.old] W λe w'=>(∃a c,e=.returned (.tuple #[.agg (rowOf (mat s4.phys s4.regs (.slice a (s4.free++[o.old]).length c)) 34),.bool true])/\Re.Lie w' a (s4.free++[o.old]).length c (λi=>(s4.free++[o.old]).getD i 0)/\FarC W.heap.size a)/\Below W.heap.size W w'):=λW hW=>by
    have:=zoE S4.out HK5.out.1 o.old p2 p3 p4 p5 W hW
    rw[AE]at this
    exact this
   obtain⟨fl,hfl⟩:∃fl,fl=s4.free++[o.old]:=⟨_,rfl⟩
   have HR4:Hid (r={s4 with free:=fl,tb:=learn mach s4.tb o}):=by
    show _=_
    rw[HR3.out,if_neg h0,hfl]
   rw[<-hfl]at CG
   have c12:V4.cell? ⟨z,12,none⟩=some (.int .i64 o.old):=zl B4.out 12 rfl
   have HTB:Hid (Gu.TbOk s4.tb):=HK5.out.2.1
   clear p2 p3 p4 p5 hfl h0 HR3 HK5
   go_upto_region 7 with fail
   refine zu (S:=λw'=>w'.rangeAt b 107 (mpL s4 L2)/\w'.cell? ⟨z,12,none⟩=some (.int .i64 o.old)) [13] (by kernel_rfl) (⟨S4.out.names,c12⟩) (λhH=>?_)
   refine tU 0 (.pointer (some ⟨b,0,none⟩)) ?_;go_simp
   refine tU 1 (.pointer (some ⟨b,0,none⟩)) ?_;go_simp
   refine tU 2 (.pointer (some ⟨b,0,none⟩)) ?_;go_simp
   refine tU 3 (.pointer (some ⟨b,107,none⟩)) ?_;go_simp
   refine tS 4 (.agg (mpL s4 L2).toArray) rfl (Af (by rfl) 59 _ rfl _ _ rfl (mpL s4 L2) _ (λwz hSw=>hSw.1) underlying59 rfl (jg _ _ _)) hH ?_;go_simp
   refine tU 5 (.pointer (some ⟨z,12,none⟩)) ?_;go_simp
   refine tB 6 (.int .i64 o.old) ?_;go_simp
   refine zC 7 rfl (λK hK=>?_)
   go_simp
   refine(CG.out _ ((Aj _ _).drew)).mono ?_
   rintro e V7 ⟨⟨a7,c7,rfl,hl7,hf7⟩,hk7⟩
   have HK7:Hid (Below V4.heap.size V4 V7):=zg hk7 (Aa _)
   have HL7:Hid (Re.Lie V7 a7 fl.length c7 (λi=>fl.getD i 0)/\FarC V4.heap.size a7):=⟨hl7,hf7⟩
   clear hl7 hf7
   go_wp2_with fail
   refine hK.out _ _ (⟨xk hk7 (hH.1),zn hk7 (hH.2)⟩) (λhN=>?_)
   clear hK K hH
   have hH:=hN
   clear hN
   try go_simp
   have S7:Hid (St N V7 b s4 L2):=S4.out.below HK7.out
   obtain⟨s8,t8⟩:=S7.out.setNames s4.regs HL7.out.1 (ja S4.out (Aa _) HL7.out.2)
   have S8:Hid (St N (V7.setCells b 107 (rowOf (mat s4.phys s4.regs (.slice a7 fl.length c7)) 34).toList) b {s4 with free:=fl} {L2 with f:=.slice a7 fl.length c7}):=s8
   have T8:Hid (To b w L (V7.setCells b 107 (rowOf (mat s4.phys s4.regs (.slice a7 fl.length c7)) 34).toList) {L2 with f:=.slice a7 fl.length c7}):=(T4.out.trans (zf L2 HK7.out)).trans t8
   have B8:Hid (Bx (V7.setCells b 107 (rowOf (mat s4.phys s4.regs (.slice a7 fl.length c7)) 34).toList) z o):=(B4.out.below HK7.out).to t8 z2.out
   clear s8 t8
   refine tU 8 (.tuple #[.agg (rowOf (mat s4.phys s4.regs (.slice a7 fl.length c7)) 34),.bool true]) ?_;go_simp
   refine tU 9 (.agg (rowOf (mat s4.phys s4.regs (.slice a7 fl.length c7)) 34)) ?_;go_simp
   refine tU 10 (.bool true) ?_;go_simp
   refine tU 11 (.pointer (some ⟨b,0,none⟩)) ?_;go_simp
   refine tU 12 (.pointer (some ⟨b,107,none⟩)) ?_;go_simp
   refine zL 13 rfl (λK hK=>?_)
   rw[if_pos (by rfl)]
   refine Ao 59 _ _ rfl b 107 (rowOf (mat s4.phys s4.regs (.slice a7 fl.length c7)) 34) rfl rfl (by rw[ze];exact S7.out.there 107 34 (by omega)) (by have:=jg s4.phys s4.regs (.slice a7 fl.length c7);rw[Ax]at this;exact this) (kK _ _ _ _ _) ?_
   refine hK.out _ _ ?_
   clear hK K
   try go_simp
   refine zG (by kernel_rfl) ?_ _
   clear hH
   have HK7c:Hid (Gu.TbOk s4.tb):=HTB.out
   generalize V7.setCells b 107 (rowOf (mat s4.phys s4.regs (.slice a7 fl.length c7)) 34).toList=V8 at*
   generalize ({L2 with f:=.slice a7 fl.length c7}:Sls)=L8 at*
   have CLn:Hid (Calls prog 80 #[.pointer (some ⟨b,0,none⟩),dgv o] V8 λe w'=>e=.returned (.tuple #[])/\St N w' b r L8/\To b V8 L8 w' L8):=by rw[HR4.out];exact xH S8.out HTB.out o HKC.out.1 HKC.out.2
   clear HR4 HKC HTB HK7c
   go_wp2_with(refine Ak rfl 132 _ rfl z 0 rfl (dgl o) _ (yp B8.out) underlying132 rfl (zM o) ?_)
   refine CLn.out.mono ?_
   rintro e V9 ⟨rfl,u1,u2⟩
   have S9:Hid (St N V9 b r L8):=u1
   have T9:Hid (To b w L V9 L8):=T8.out.trans u2
   clear u1 u2 CLn
   go_wp2_with fail
   refine Ad (Ab rfl _ _ _) rfl ⟨rfl,L8,S9.out,T9.out⟩
 ·have hgt:(0:Int)<o.c.many:=by omega
  obtain⟨q1,q2,q3⟩:=HK4.out.2.2.2 hm
  obtain⟨pm,cm,em,hB⟩:=S4.out.its.im
  have k39:V4.cell? ⟨b,39,none⟩=some (.slice pm s4.n cm):=(zd S4.out.row (by omega)).trans (congrArg some em)
  have CS:Hid (∀W,Below V4.heap.size V4 W->Calls prog 78 #[.slice pm s4.n cm,.int .i64 o.i.op,.int .u32 o.c.pl,.int .u32 o.c.data] W λe w'=>(∃h cap,e=.returned (.tuple #[.slice (some ⟨h,0,none⟩) s4.n cap,.bool true])/\Bys w' (some ⟨h,0,none⟩) s4.n cap (stoC s4.f o.c)/\W.heap.size<=h)/\Below W.heap.size W w'):=λW hW=>by
   have:=zoz hB o.i o.c.pl o.c.data q1 HKC.out.2.pl HKC.out.2.data q3 W hW
   rw[<-q2]at this
   exact this
  have c2:V4.cell? ⟨z,2,none⟩=some (.int .i64 o.i.op):=zl B4.out 2 rfl
  have c6:V4.cell? ⟨p,6,none⟩=some (.int .u32 o.c.pl):=qU C4.out 6 rfl
  have c8:V4.cell? ⟨p,8,none⟩=some (.int .u32 o.c.data):=qU C4.out 8 rfl
  have HK4b:Hid (Nms s4/\Gu.TbOk s4.tb/\(o.rd≠0->0<=o.old/\o.old<s4.phys/\o.old∉s4.free/\∀r,r<32->s4.regs r≠o.old)):=⟨HK4.out.1,HK4.out.2.1,HK4.out.2.2.1⟩
  clear q1 q2 q3 hB em HK4 hm hm0
  go_upto_region 5 with fail
  refine zu (S:=λw'=>w'.cell? ⟨b,39,none⟩=some (.slice pm s4.n cm)/\w'.cell? ⟨z,2,none⟩=some (.int .i64 o.i.op)/\w'.cell? ⟨p,6,none⟩=some (.int .u32 o.c.pl)/\w'.cell? ⟨p,8,none⟩=some (.int .u32 o.c.data)) [20] (by kernel_rfl) (⟨k39,c2,c6,c8⟩) (λhH=>?_)
  refine tU 0 (.pointer (some ⟨b,0,none⟩)) ?_;go_simp
  refine tU 1 (.pointer (some ⟨b,0,none⟩)) ?_;go_simp
  refine tU 2 (.pointer (some ⟨b,0,none⟩)) ?_;go_simp
  refine tU 3 (.pointer (some ⟨b,3,none⟩)) ?_;go_simp
  refine tU 4 (.pointer (some ⟨b,39,none⟩)) ?_;go_simp
  refine tA 5 (.slice pm s4.n cm) ?_;go_simp
  refine tU 6 (.pointer (some ⟨z,2,none⟩)) ?_;go_simp
  refine tU 7 (.pointer (some ⟨z,2,none⟩)) ?_;go_simp
  refine tS 8 (.int .i64 o.i.op) rfl (Or.inl ⟨by rfl,by intro wz hSw;have hc:=hSw.2.1;go_simp⟩) hH ?_;go_simp
  refine tU 9 (.pointer (some ⟨p,6,none⟩)) ?_;go_simp
  refine tS 10 (.int .u32 o.c.pl) rfl (Or.inl ⟨by rfl,by intro wz hSw;have hc:=hSw.2.2.1;go_simp⟩) hH ?_;go_simp
  refine tU 11 (.pointer (some ⟨p,8,none⟩)) ?_;go_simp
  refine tS 12 (.int .u32 o.c.data) rfl (Or.inl ⟨by rfl,by intro wz hSw;have hc:=hSw.2.2.2;go_simp⟩) hH ?_;go_simp
  refine zC 13 rfl (λK hK=>?_)
  go_simp
  refine(CS.out _ ((Aj _ _).drew)).mono ?_
  rintro e V5 ⟨⟨h5,d5,rfl,hB5,hh5⟩,hk5⟩
  have HK5:Hid (Below V4.heap.size V4 V5):=zg hk5 (Aa _)
  have HB5:Hid (Bys V5 (some ⟨h5,0,none⟩) s4.n d5 (stoC s4.f o.c)/\V4.heap.size<=h5):=⟨hB5,hh5⟩
  clear hB5 hh5
  go_wp2_with fail
  refine hK.out _ _ (⟨zn hk5 (hH.1),zn hk5 (hH.2.1),zn hk5 (hH.2.2.1),zn hk5 (hH.2.2.2)⟩) (λhN=>?_)
  clear hK K hH
  have hH:=hN
  clear hN
  try go_simp
  have S5:Hid (St N V5 b s4 L2):=S4.out.below HK5.out
  have cA:=hH.1
  have fA:=S5.out.frozen 39
  refine tU 14 (.tuple #[.slice (some ⟨h5,0,none⟩) s4.n d5,.bool true]) ?_;go_simp
  refine tU 15 (.slice (some ⟨h5,0,none⟩) s4.n d5) ?_;go_simp
  refine tU 16 (.bool true) ?_;go_simp
  refine tU 17 (.pointer (some ⟨b,0,none⟩)) ?_;go_simp
  refine tU 18 (.pointer (some ⟨b,3,none⟩)) ?_;go_simp
  refine tU 19 (.pointer (some ⟨b,39,none⟩)) ?_;go_simp
  refine zL 20 rfl (λK hK=>?_)
  go_simp
  refine hK.out _ _ ?_
  clear hK K
  try go_simp
  refine zG (by kernel_rfl) ?_ _
  obtain⟨s6,t6⟩:=S5.out.setMem HB5.out.1 (λy hy h=>by have e:=Ap hy;subst e;have h1:h5<V4.heap.size:=qR S4.out h;have:=HB5.out.2;omega)
  have S6:Hid (St N (V5.setCell ⟨b,39,none⟩ (.slice (some ⟨h5,0,none⟩) s4.n d5)) b {s4 with f:=stoC s4.f o.c} {L2 with m:=.slice (some ⟨h5,0,none⟩) s4.n d5}):=s6
  have T6:Hid (To b w L (V5.setCell ⟨b,39,none⟩ (.slice (some ⟨h5,0,none⟩) s4.n d5)) {L2 with m:=.slice (some ⟨h5,0,none⟩) s4.n d5}):=(T4.out.trans (zf L2 HK5.out)).trans t6
  have B6:Hid (Bx (V5.setCell ⟨b,39,none⟩ (.slice (some ⟨h5,0,none⟩) s4.n d5)) z o):=(B4.out.below HK5.out).to t6 z2.out
  have z6:Hid (¬own b {L2 with m:=.slice (some ⟨h5,0,none⟩) s4.n d5} z):=z2.out
  clear s6 t6 hH HB5 HK5 S5 S4 T4 B4 C4 z2 p2 cA fA k39 c2 c6 c8 c7 CS
  generalize V5.setCell ⟨b,39,none⟩ (.slice (some ⟨h5,0,none⟩) s4.n d5)=V6 at*
  generalize ({L2 with m:=.slice (some ⟨h5,0,none⟩) s4.n d5}:Sls)=L6 at*
  obtain⟨s5,hs5⟩:∃s5:Cr,s5={s4 with f:=stoC s4.f o.c}:=⟨_,rfl⟩
  have HR3:Hid (r={s5 with free:=if o.rd=0 then s5.free else s5.free++[o.old],tb:=learn mach s5.tb o}):=by show _=_;rw[HR2.out,hs5]
  have HK5:Hid (Nms s5/\Gu.TbOk s5.tb/\(o.rd≠0->0<=o.old/\o.old<s5.phys/\o.old∉s5.free/\∀r,r<32->s5.regs r≠o.old)):=by
   rw[hs5]
   exact⟨⟨HK4b.out.1.low,HK4b.out.1.high,HK4b.out.1.dis⟩,HK4b.out.2.1,HK4b.out.2.2⟩
  rw[<-hs5]at S6
  clear hs5 HK4b HR2
  obtain⟨k,hk⟩:∃k,k=o.rd:=⟨_,rfl⟩
  have c10:V6.cell? ⟨z,10,none⟩=some (.int .i64 (k:Int)):=zl B6.out 10 (by rw[hk];rfl)
  rw[<-hk]at HR3 HK5
  clear hk
  by_cases h0:k=0
  ·have c10':V6.cell? ⟨z,10,none⟩=some (.int .i64 0):=by rw[c10,h0];rfl
   have HR4:Hid (r={s5 with tb:=learn mach s5.tb o}):=by
    show _=_
    rw[HR3.out,if_pos h0]
   have CLn:Hid (Calls prog 80 #[.pointer (some ⟨b,0,none⟩),dgv o] V6 λe w'=>e=.returned (.tuple #[])/\St N w' b r L6/\To b V6 L6 w' L6):=by rw[HR4.out];exact xH S6.out HK5.out.2.1 o HKC.out.1 HKC.out.2
   clear c10 h0 HR3 HR4 HK5 HKC
   go_wp2_with(refine Ak rfl 132 _ rfl z 0 rfl (dgl o) _ (yp B6.out) underlying132 rfl (zM o) ?_)
   refine CLn.out.mono ?_
   rintro e V9 ⟨rfl,u1,u2⟩
   have S9:Hid (St N V9 b r L6):=u1
   have T9:Hid (To b w L V9 L6):=T6.out.trans u2
   clear u1 u2 CLn
   go_wp2_with fail
   refine Ad (Ab rfl _ _ _) rfl ⟨rfl,L6,S9.out,T9.out⟩
  ·have hb0:((k:Int) != 0)=true:=by simp[h0]
   obtain⟨p2,p3,p4,p5⟩:=HK5.out.2.2 h0
   have CG:Hid (∀W,Below V6.heap.size V6 W->Calls prog 79 #[.agg (rowOf (mat s5.phys s5.regs L6.f) 34),.int .i64 o.old] W λe w'=>(∃a c,e=.returned (.tuple #[.agg (rowOf (mat s5.phys s5.regs (.slice a (s5.free++[o.old]).length c)) 34),.bool true])/\Re.Lie w' a (s5.free++[o.old]).length c (λi=>(s5.free++[o.old]).getD i 0)/\FarC W.heap.size a)/\Below W.heap.size W w'):=λW hW=>by
    have:=zoE S6.out HK5.out.1 o.old p2 p3 p4 p5 W hW
    rw[AE]at this
    exact this
   obtain⟨fl,hfl⟩:∃fl,fl=s5.free++[o.old]:=⟨_,rfl⟩
   have HR4:Hid (r={s5 with free:=fl,tb:=learn mach s5.tb o}):=by
    show _=_
    rw[HR3.out,if_neg h0,hfl]
   rw[<-hfl]at CG
   have c12:V6.cell? ⟨z,12,none⟩=some (.int .i64 o.old):=zl B6.out 12 rfl
   have HTB:Hid (Gu.TbOk s5.tb):=HK5.out.2.1
   clear p2 p3 p4 p5 hfl h0 HR3 HK5
   go_upto_region 7 with fail
   refine zu (S:=λw'=>w'.rangeAt b 107 (mpL s5 L6)/\w'.cell? ⟨z,12,none⟩=some (.int .i64 o.old)) [13] (by kernel_rfl) (⟨S6.out.names,c12⟩) (λhH=>?_)
   refine tU 0 (.pointer (some ⟨b,0,none⟩)) ?_;go_simp
   refine tU 1 (.pointer (some ⟨b,0,none⟩)) ?_;go_simp
   refine tU 2 (.pointer (some ⟨b,0,none⟩)) ?_;go_simp
   refine tU 3 (.pointer (some ⟨b,107,none⟩)) ?_;go_simp
   refine tS 4 (.agg (mpL s5 L6).toArray) rfl (Af (by rfl) 59 _ rfl _ _ rfl (mpL s5 L6) _ (λwz hSw=>hSw.1) underlying59 rfl (jg _ _ _)) hH ?_;go_simp
   refine tU 5 (.pointer (some ⟨z,12,none⟩)) ?_;go_simp
   refine tB 6 (.int .i64 o.old) ?_;go_simp
   refine zC 7 rfl (λK hK=>?_)
   go_simp
   refine(CG.out _ ((Aj _ _).drew)).mono ?_
   rintro e V7 ⟨⟨a7,c7,rfl,hl7,hf7⟩,hk7⟩
   have HK7:Hid (Below V6.heap.size V6 V7):=zg hk7 (Aa _)
   have HL7:Hid (Re.Lie V7 a7 fl.length c7 (λi=>fl.getD i 0)/\FarC V6.heap.size a7):=⟨hl7,hf7⟩
   clear hl7 hf7
   go_wp2_with fail
   refine hK.out _ _ (⟨xk hk7 (hH.1),zn hk7 (hH.2)⟩) (λhN=>?_)
   clear hK K hH
   have hH:=hN
   clear hN
   try go_simp
   have S7:Hid (St N V7 b s5 L6):=S6.out.below HK7.out
   obtain⟨s8,t8⟩:=S7.out.setNames s5.regs HL7.out.1 (ja S6.out (Aa _) HL7.out.2)
   have S8:Hid (St N (V7.setCells b 107 (rowOf (mat s5.phys s5.regs (.slice a7 fl.length c7)) 34).toList) b {s5 with free:=fl} {L6 with f:=.slice a7 fl.length c7}):=s8
   have T8:Hid (To b w L (V7.setCells b 107 (rowOf (mat s5.phys s5.regs (.slice a7 fl.length c7)) 34).toList) {L6 with f:=.slice a7 fl.length c7}):=(T6.out.trans (zf L6 HK7.out)).trans t8
   have B8:Hid (Bx (V7.setCells b 107 (rowOf (mat s5.phys s5.regs (.slice a7 fl.length c7)) 34).toList) z o):=(B6.out.below HK7.out).to t8 z6.out
   clear s8 t8
   refine tU 8 (.tuple #[.agg (rowOf (mat s5.phys s5.regs (.slice a7 fl.length c7)) 34),.bool true]) ?_;go_simp
   refine tU 9 (.agg (rowOf (mat s5.phys s5.regs (.slice a7 fl.length c7)) 34)) ?_;go_simp
   refine tU 10 (.bool true) ?_;go_simp
   refine tU 11 (.pointer (some ⟨b,0,none⟩)) ?_;go_simp
   refine tU 12 (.pointer (some ⟨b,107,none⟩)) ?_;go_simp
   refine zL 13 rfl (λK hK=>?_)
   rw[if_pos (by rfl)]
   refine Ao 59 _ _ rfl b 107 (rowOf (mat s5.phys s5.regs (.slice a7 fl.length c7)) 34) rfl rfl (by rw[ze];exact S7.out.there 107 34 (by omega)) (by have:=jg s5.phys s5.regs (.slice a7 fl.length c7);rw[Ax]at this;exact this) (kK _ _ _ _ _) ?_
   refine hK.out _ _ ?_
   clear hK K
   try go_simp
   refine zG (by kernel_rfl) ?_ _
   clear hH
   have HK7c:Hid (Gu.TbOk s5.tb):=HTB.out
   generalize V7.setCells b 107 (rowOf (mat s5.phys s5.regs (.slice a7 fl.length c7)) 34).toList=V8 at*
   generalize ({L6 with f:=.slice a7 fl.length c7}:Sls)=L8 at*
   have CLn:Hid (Calls prog 80 #[.pointer (some ⟨b,0,none⟩),dgv o] V8 λe w'=>e=.returned (.tuple #[])/\St N w' b r L8/\To b V8 L8 w' L8):=by rw[HR4.out];exact xH S8.out HTB.out o HKC.out.1 HKC.out.2
   clear HR4 HKC HTB HK7c
   go_wp2_with(refine Ak rfl 132 _ rfl z 0 rfl (dgl o) _ (yp B8.out) underlying132 rfl (zM o) ?_)
   refine CLn.out.mono ?_
   rintro e V9 ⟨rfl,u1,u2⟩
   have S9:Hid (St N V9 b r L8):=u1
   have T9:Hid (To b w L V9 L8):=T8.out.trans u2
   clear u1 u2 CLn
   go_wp2_with fail
   refine Ad (Ab rfl _ _ _) rfl ⟨rfl,L8,S9.out,T9.out⟩
theorem zf3(a:Option Addr)(n c:Nat)(hn:n<=1000000)(l:List Int)(x:Int)(w:World)(hL:Hid (LC w a n c 1 (ics l))):
  Calls prog 82 #[.slice a n c,.int .i64 x] w λe w'=>(∃r:Int,e=.returned (.int .i64 r)/\decide (0<=r)=decide (x∈l))/\Below w.heap.size w w':=by
 have hlen:Hid (l.length=n):=by have:=hL.out.len;rw[jq]at this;show _=_;omega
 go_enter func82,ntmps82
 go_wp2_with fail
 go_loopw [8] (λi wr=>∃k:Nat,k<=n/\i=.int .i64 (k:Int)/\Hid (x∉l.take k)/\Hid (Below w.heap.size w wr))
  (λi _=>n-(intOf i).toNat)
 case atStart=>exact⟨0,by omega,rfl,(λh=>by simp at h),Aj _ _⟩
 case round=>
  obtain⟨k,hk,rfl,HX,HB⟩:=hrel
  by_cases hlt:k<n
  ·obtain⟨q,hq⟩:∃q,l[k]?=some q:=⟨_,Ai (by rw[hlen.out];exact hlt)⟩
   obtain⟨bb,o,rfl,hb,hc⟩:=hL.out.sure (by omega)
   have ck:wr.cell? ⟨bb,o+k,none⟩=some (.int .i64 q):=(HB.out.cell (p:=⟨bb,o+k,none⟩) hb).trans (by simpa using hc k _ (jV hq))
   have HQ:Hid (l[k]?=some q):=hq
   clear hc hq
   by_cases e:x=q
   ·subst e
    go_wp2_with fail
    go_ret
    refine⟨⟨_,rfl,?_⟩,HB.out⟩
    rw[decide_eq_true (by omega),decide_eq_true (List.mem_of_getElem? HQ.out)]
   ·have e':(x==q)=false:=beq_eq_false_iff_ne.2 e
    have HN:Hid (x∉l.take (k+1)):=by
     show¬_
     rw[List.take_add_one,HQ.out]
     intro h
     rcases AV.1 h with h|h
     ·exact HX.out h
     ·simp at h;exact e h
    clear e
    go_wp2_with fail
    exact⟨⟨k+1,by omega,by go_num,HN,HB⟩,by simp[intOf];omega⟩
  ·have hkn:k=n:=by omega
   subst hkn
   have HN:Hid (x∉l):=by
    show¬_
    have:=HX.out
    rw[Ah (by rw[hlen.out];exact Aa _)]at this
    exact this
   go_wp2_with fail
   go_ret
   refine⟨⟨_,rfl,?_⟩,HB.out⟩
   rw[decide_eq_false (by omega),decide_eq_false HN.out]
theorem zbz(a:Option Addr)(n c:Nat)(hn:n<=1000000)(l:List Int)(x:Int)(w:World)(hL:Hid (LC w a n c 1 (ics l))):
  Calls prog 55 #[.slice a n c,.int .i64 x] w λe w'=>e=.returned (.bool (decide (x∈l)))/\Below w.heap.size w w':=by
 have C:=zf3 a n c hn l x w hL
 go_enter func55,ntmps55
 go_wp2_with fail
 refine C.mono ?_
 rintro e w' ⟨⟨r,rfl,hr⟩,hb⟩
 have HR:Hid (decide (0<=r)=decide (x∈l)):=hr
 clear hr
 go_wp2_with fail
 go_ret
 exact⟨by rw[<-HR.out];rfl,hb⟩
theorem zaM:∀args w,(callFunc 54 args).run prog w=.ok (.enter 54 args) w:=enters_of func54 (by kernel_rfl) rfl
theorem yy(B:Nat)(a:Option Addr)(n c:Nat)(hn:n<=1000000)(l:List Int)(W:World)(o:Ac)(hc':W.cell? ⟨B,0,none⟩=some (.slice a n c))(hL:LC W a n c 1 (ics l)):Calls prog 54 #[acv o,.pointer (some ⟨B,0,none⟩)] W λe w'=>e=.returned (.bool (decide (o.seq∈l)))/\Below W.heap.size W w':=by
 have hB':B<W.heap.size:=Ag _ _ hc'
 have C:Hid (∀V,Below W.heap.size W V->Calls prog 55 #[.slice a n c,.int .i64 o.seq] V λe w'=>e=.returned (.bool (decide (o.seq∈l)))/\Below V.heap.size V w'):=λV hV=>zbz a n c hn l o.seq V (hL.below (Aa _) hV)
 obtain⟨d,hd⟩:∃d,d=decide (o.seq∈l):=⟨_,rfl⟩
 rw[<-hd]at C⊢
 clear hd hL
 go_enter func54,ntmps54
 go_wp2_with fail
 refine(C.out _ ((Aj _ _).alloc (Aa _) _)).mono ?_
 rintro e w' ⟨rfl,hb⟩
 have HB:Hid (Below W.heap.size W w'):=((Aj _ _).alloc (Aa _) _).trans (hb.mono (by simp))
 clear hb C
 go_wp2_with fail
 go_ret
 exact⟨rfl,HB.out⟩
end Go.Proofs.YtpiohehijkpghacGreatDoor.Co
