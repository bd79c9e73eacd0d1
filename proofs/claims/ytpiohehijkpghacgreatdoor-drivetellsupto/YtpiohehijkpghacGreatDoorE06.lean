/- Slices of a core of its own set anew; what takes back asks. -/
import Derived.Test.YtpiohehijkpghacGreatDoorE05
open Array renaming getElem?_eq_some_iff->Ah,length_toList->Aj
open Classical renaming byContradiction->AA
open Go renaming cell_of_row->Av,wpList_load_mid->Ax,results_none->AF,frozen_of_row->AH,bodyPost_end->AK,yieldsIf_load_mid->AN,wpList_load_row->Zi,wpList_store_row->Zq,wpList_store_mid->Zr,all_oneCell_toArray->Zz,info_parts->ZD,wp_store_mid->ZG
open Go.Builtin renaming zeroCells->An,clear_->Zy
open Go.Code renaming wp->ZF
open Go.RowKit.Below renaming refl->Af,heap_alloc->Zp
open Go.Value renaming slice->WY
open Go.World renaming block_lt_of_cell?->Ap,cell?_of_block->AE,setRow_alloc_new->Zv
open Int renaming eq_ofNat_of_zero_le->AI,le_refl->Zm,le_trans->Zt
open List renaming getElem?_eq_getElem->Ab,getElem?_eq_some_iff->Ad,mem_cons_of_mem->Ae,mem_cons_self->Ag,filter_append->Ak,mem_append_left->Am,filter_cons_of_pos->Aq,getElem?_append_right->Ar,take_add_one->WZ,length_take->Au,mem_of_getElem?->Aw,length_append->Ay,getElem?_append_left->Az,length_map->AB,mem_filter->AC,mem_map->AD,getElem?_of_mem->AG,mem_append->AL,length_filter_le->AM,getElem?_map->AO,getElem?_set->AP,getD_eq_getElem?_getD->AQ,filter_eq_self->AR,length_set->AS,mem_singleton->AT,filter_cons_of_neg->AU,take_of_length_le->AX,set_append_right->AY,mem_append_right->AZ,length_cons->Za,map_cons->Zb,mem_of_mem_take->Zc,eq_nil_of_length_eq_zero->Zd,append_nil->Zg,map_append->Zh,drop_drop->Zj,mem_of_find?_eq_some->Zk,drop_eq_getElem_cons->Zl,mem_cons->Zn,getElem?_take_of_lt->Zo,nodup_cons->Zw,take_append_drop->Zx,take_succ_cons->ZA,take_set_of_le->ZB,drop_set_of_lt->ZC,getElem?_drop->ZE,nodup_append->ZH,length_drop->ZI,cons_append->ZJ,foldl_cons->ZK,filter_map->ZL,take_take->ZM
open Nat renaming le_refl->Aa,le_trans->Ao,lt_of_lt_of_le->AJ,add_zero->AV,add_comm->AW,mul_le_mul_right->Ze,add_mul->Zf,zero_add->Zs,add_assoc->ZN,sub_self->ZO,zero_le->ZP
open Option renaming map_eq_some_iff->Zu
open Option.some renaming inj->Ai
set_option maxHeartbeats 8000000
set_option maxRecDepth 20000
set_option linter.unusedSimpArgs false
set_option linter.unusedVariables false
open Go.Proofs.Tryz
namespace Go.Proofs.YtpiohehijkpghacGreatDoor.Co
open Go.RowKit
open Hy
open Wi Od Re.Hy
open Gu.Hy (Tb tcs)
def bt(x:Int)(j:Nat):Int:=x/p256 j%256
theorem bt_le{g:Nat->Int}{m:Nat}(hm:m<=4)(h:∀i,i<m->0<=g i/\g i<=255):∀j,j<m->bt (le g m) j=g j:=by
 intro j hj
 unfold bt
 rcases(by omega:m=1\/m=2\/m=3\/m=4)with rfl|rfl|rfl|rfl
 ·have:=h 0 (by omega)
  obtain rfl:j=0:=by omega
  simp[le,p256];omega
 ·have:=h 0 (by omega);have:=h 1 (by omega)
  rcases(by omega:j=0\/j=1)with rfl|rfl<;>simp[le,p256]<;>omega
 ·have:=h 0 (by omega);have:=h 1 (by omega);have:=h 2 (by omega)
  rcases(by omega:j=0\/j=1\/j=2)with rfl|rfl|rfl<;>simp[le,p256]<;>omega
 ·have:=h 0 (by omega);have:=h 1 (by omega);have:=h 2 (by omega);have:=h 3 (by omega)
  rcases(by omega:j=0\/j=1\/j=2\/j=3)with rfl|rfl|rfl|rfl<;>simp[le,p256]<;>omega
theorem zbq(op x:Int)(hx:U32 x)(ho:ldn op≠0)(w:World):Calls prog 89 #[.int .i64 op,.int .u32 x] w λe w'=>e=.returned (.int .u32 (ldv op (bt x)))/\Below w.heap.size w w':=by
 obtain⟨x0,x1⟩:=hx
 have hl:=xd op
 have CL:∀W:World,W.heap[w.heap.size]?=some (.cells #[.int .u8 (x%256),.int .u8 (x/256%256),.int .u8 (x/65536%256),.int .u8 (x/16777216)] 5 (0,0))->Calls prog 98 #[.slice (some ⟨w.heap.size,0,none⟩) 4 4,.int .i64 op,.int .u32 0] W λe w'=>e=.returned (.tuple #[.int .u32 (ldv op (bt x)),.bool true])/\w'=W:=λW hW=>by
  have hB:Bys W (some ⟨w.heap.size,0,none⟩) 4 4 (bt x):=by
   refine⟨by omega,by omega,λ_=>⟨w.heap.size,0,rfl,λi hi=>?_⟩,λi hi=>by unfold bt;omega⟩
   rw[Av _ _ _ _ _ _ hW]
   rcases(by omega:i=0\/i=1\/i=2\/i=3)with rfl|rfl|rfl|rfl<;>simp[bt,p256]<;>omega
  have:=ju hB op 0 (by omega) ⟨by omega,by rcases hl with h|h|h|h<;>rw[h]<;>rfl,by omega⟩ W (Af _ _)
  simpa using this
 go_enter func89,ntmps89
 go_wp2_with fail
 refine(CL _ (heap_alloc_new _ _)).mono ?_
 rintro e w' ⟨rfl,rfl⟩
 go_wp2_with fail
 go_ret
 exact⟨rfl,(Af _ _).alloc (Aa _) _⟩
theorem zpV(pc k:Int)(w:World):Calls prog 99 #[.int .u32 pc,.int .i64 k] w λe w'=>e=.returned (cvC (qn pc k))/\Below w.heap.size w w':=jt pc k w
theorem zmm(i:In)(pc v:Int)(hp:U32 pc)(w:World)(ok:Bool):Calls prog 88 #[ivI i,.int .u32 pc,.int .u32 v,.bool ok] w λe w'=>e=.returned (cvC (if ok then onC pc i.rd v else qn pc 3))/\Below w.heap.size w w':=by
 cases ok with
 |false=>exact jm i.op i.rd i.s1 i.s2 i.im pc v w
 |true=>
  rw[if_pos rfl]
  by_cases h:i.rd=0
  ·rw[zox pc v h]
   have:=qB i.op i.im pc v _ i.rd i.s1 i.s2 w (λW=>zJ pc hp.1 hp.2 W) 0 0 (λW=>by rw[h];exact zeC pc _ v W)
   exact this
  ·rw[zml pc v h]
   exact qB i.op i.im pc v _ i.rd i.s1 i.s2 w (λW=>zJ pc hp.1 hp.2 W) i.rd v (λW=>zcg pc _ v i.rd (by simpa using h) W)
theorem zhV(R:Nat->Int)(pc st ca a b c:Int):(((rowOf (hat R pc st ca) 35).setIfInBounds 32 (.int .u32 a)).setIfInBounds 33 (.int .i64 b)).setIfInBounds 34 (.int .i64 c)=rowOf (hat R a b c) 35:=by
 rw[jP,jP,jP]
 refine qo λi hi=>?_
 unfold hat
 by_cases h4:i=34
 ·subst h4;rfl
 by_cases h3:i=33
 ·subst h3;rfl
 by_cases h2:i=32
 ·subst h2;rfl
 simp only[h4,h3,h2,if_false]
 rw[if_pos (by omega),if_pos (by omega)]
theorem zoy(R:Nat->Int)(pc st ca v:Int)(rd:Nat)(h:rd<32):(rowOf (hat R pc st ca) 35).setIfInBounds rd (.int .u32 v)=rowOf (hat (up R rd v) pc st ca) 35:=by
 rw[jP]
 refine qo λi hi=>?_
 unfold hat up
 by_cases e:i=rd
 ·subst e;rw[if_pos rfl,if_pos h,if_pos rfl]
 ·simp only[e,if_false]
theorem jf(f:Nat->Value)(n:Nat)(h:∀i,i<n->(f i).oneCell'=true):(rowOf f n).all (·.oneCell')=true:=by
 refine Zz λu hu=>?_
 obtain⟨i,hi,rfl⟩:=AD.1 hu
 exact h i (List.mem_range.1 hi)
theorem zbr(R:Nat->Int)(pc st ca:Int)(i:Nat):(hat R pc st ca i).oneCell'=true:=by
 unfold hat
 split
 ·rfl
 ·split
  ·rfl
  ·split<;>rfl
theorem zmn(R:Nat->Int)(pc st ca:Int)(c:Cm)(hr:c.rd<32)(w:World):Calls prog 66 #[.agg (rowOf (hat R pc st ca) 35),cvC c] w λe w'=>e=.returned (.agg (rowOf (hat (updC R c) c.next c.st c.ca) 35))/\Below w.heap.size w w':=by
 have h32:∃z,(rowOf (hat R pc st ca) 35)[32]?=some (.int .u32 z):=⟨_,zw _ (by omega)⟩
 have h33:∃z,(rowOf (hat R pc st ca) 35)[33]?=some (.int .i64 z):=⟨_,zw _ (by omega)⟩
 have h34:∃z,(rowOf (hat R pc st ca) 35)[34]?=some (.int .i64 z):=⟨_,zw _ (by omega)⟩
 have ho:Ones (rowOf (hat R pc st ca) 35):=jf _ _ λi _=>zbr _ _ _ _ i
 unfold updC
 by_cases h:c.rd=0
 ·rw[if_pos h,<-zhV R pc st ca]
  show Calls _ _ #[_,cv c.pc c.next c.st c.ca c.rd c.val c.pl c.many c.data c.out c.told] _ _
  rw[h]
  exact zci _ c.pc c.next c.st c.ca c.val c.pl c.many c.data c.told c.out (ze _ _) ho h32 h33 h34 w
 ·rw[if_neg h,<-zoy R _ _ _ c.val c.rd hr,<-zhV R pc st ca]
  refine zcj _ c.pc c.next c.st c.ca c.val c.pl c.many c.data c.told c.rd (R c.rd) c.out (ze _ _) ho h32 h33 h34 ?_ hr (by simpa using h) w
  rw[zw _ (by omega)]
  unfold hat
  rw[if_pos hr]
theorem zoz{w:World}{p:Option Addr}{n c:Nat}{f:Nat->Int}(B:Bys w p n c f)(i:In)(x d:Int)(hs:sts i=true)(hx:U32 x)(hd:U32 d)(hf:fits n x (stn i.op)=true)(W:World)(hW:Below w.heap.size w W):
  Calls prog 78 #[.slice p n c,.int .i64 i.op,.int .u32 x,.int .u32 d] W λe w'=>(∃h cap,e=.returned (.tuple #[.slice (some ⟨h,0,none⟩) n cap,.bool true])/\Bys w' (some ⟨h,0,none⟩) n cap (sto f x.toNat d (stn i.op).toNat)/\W.heap.size<=h)/\Below W.heap.size W w':=by
 have hb:=B.below hW
 have h1:16<=i.op/\i.op<=18:=by simpa[sts]using hs
 have h2:=zeL h1
 obtain⟨k0,k1,k2⟩:=jA hf
 obtain⟨a,rfl⟩:=AI hx.1
 obtain⟨m,hm⟩:=AI (show 0<=stn i.op by omega)
 rw[hm]at k1 k2 h2⊢
 have hn:=hb.hn
 obtain⟨g,o,rfl,hl⟩:=hb.hm (by omega)
 refine(zhU g o n c i.op a m d f hm (by omega) (by have:=hx.2;omega) (by omega) (by omega) (by omega) hb.hnc hd.1 hd.2 W hl).mono ?_
 rintro e w' ⟨⟨h,cap,rfl,hc,F⟩,hb'⟩
 refine⟨⟨h,cap,rfl,⟨hn,hc,λ_=>⟨h,0,rfl,λi hi=>?_⟩,λi hi=>?_⟩,F.base⟩,hb'⟩
 ·rw[Zs];exact F.cell i hi
 ·unfold sto
  split
  ·omega
  ·exact hb.hf i hi
theorem zaq{w w':World}{row:Option Nat}{a:Addr}{v:Value}(hg:w.grownBy w' row)(h:w.cell? a=some v)(hne:row≠some a.block):w'.cell? a=some v:=
 (AE (w:=w) (a:=a) (hg.block a.block (Ap _ _ h) (λe=>hne e.symm))).trans h
theorem vU{w:World}{b i:Nat}{a:Addr}{v u:Value}(h:w.cell? a=some v)(hne:b≠a.block):(w.setCell ⟨b,i,none⟩ u).cell? a=some v:=
 (World.cell?_setCell_far w ⟨b,i,none⟩ a u hne).trans h
theorem zj0{w:World}{b i:Nat}{a:Addr}{v u:Value}(h:w.cell? a=some v)(hne:(⟨b,i,none⟩:Addr)≠a):(w.setCell ⟨b,i,none⟩ u).cell? a=some v:=
 (World.cell?_setCell_other w ⟨b,i,none⟩ a u hne).trans h
theorem jG{w:World}{a:Addr}{v:Value}(o:Obj)(h:w.cell? a=some v):(w.alloc o).cell? a=some v:=zn ((Af _ _).alloc (Aa _) _) h
theorem zpW{w:World}{b o:Nat}{vs:List Value}{a:Addr}{v:Value}(h:w.cell? a=some v)(hne:a.block≠b):(w.setCells b o vs).cell? a=some v:=
 (AE (w:=w) (a:=a) (qa w b o vs hne)).trans h
theorem zoA{w:World}{b o b' o':Nat}{vs cs:List Value}(h:w.rangeAt b' o' cs)(hne:b'≠b):(w.setCells b o vs).rangeAt b' o' cs:=λj v hj=>zpW (h j v hj) hne
theorem zoB{w:World}{b i b' o':Nat}{u:Value}{cs:List Value}(h:w.rangeAt b' o' cs)(hne:b≠b'):(w.setCell ⟨b,i,none⟩ u).rangeAt b' o' cs:=λj v hj=>vU (h j v hj) hne
theorem zk0{w w':World}{row:Option Nat}{b o:Nat}{cs:List Value}(hg:w.grownBy w' row)(h:w.rangeAt b o cs)(hne:row≠some b):w'.rangeAt b o cs:=λj v hj=>zaq hg (h j v hj) hne
theorem zcw{w:World}{b o:Nat}{cs:List Value}(ob:Obj)(h:w.rangeAt b o cs):(w.alloc ob).rangeAt b o cs:=xk ((Af _ _).alloc (Aa _) _) h
theorem St.apart{N:Nat}{w:World}{b:Nat}{s:Cr}{L:Sls}(S:St N w b s L):(∀g,L.c.ownBlock=some g->L.u.ownBlock≠some g/\L.a.ownBlock≠some g/\g≠b)/\(∀g,L.u.ownBlock=some g->L.c.ownBlock≠some g/\L.a.ownBlock≠some g/\g≠b)/\(∀g,L.a.ownBlock=some g->L.c.ownBlock≠some g/\L.u.ownBlock≠some g/\g≠b):=by
 have c:=λ{g} h=>S.its.ic.block (g:=g) h
 have u:=λ{g} h=>S.its.iu.block (g:=g) h
 have a:=λ{g} h=>S.its.ia.block (g:=g) h
 have r:=S.row
 refine⟨λg hg=>?_,λg hg=>?_,λg hg=>?_⟩
 ·obtain⟨x,hx⟩:=c hg
  refine⟨λh=>?_,λh=>?_,λh=>?_⟩
  ·obtain⟨y,hy⟩:=u h;rw[hx]at hy;cases hy
  ·obtain⟨y,hy⟩:=a h;rw[hx]at hy;cases hy
  ·subst h;rw[hx]at r;cases r
 ·obtain⟨x,hx⟩:=u hg
  refine⟨λh=>?_,λh=>?_,λh=>?_⟩
  ·obtain⟨y,hy⟩:=c h;rw[hx]at hy;cases hy
  ·obtain⟨y,hy⟩:=a h;rw[hx]at hy;cases hy
  ·subst h;rw[hx]at r;cases r
 ·obtain⟨x,hx⟩:=a hg
  refine⟨λh=>?_,λh=>?_,λh=>?_⟩
  ·obtain⟨y,hy⟩:=c h;rw[hx]at hy;cases hy
  ·obtain⟨y,hy⟩:=u h;rw[hx]at hy;cases hy
  ·subst h;rw[hx]at r;cases r
theorem St.lt{N:Nat}{w:World}{b:Nat}{s:Cr}{L:Sls}(S:St N w b s L):b<w.heap.size:=(Ah.1 S.row).1
theorem qL{w w1:World}{row:Option Nat}(h:w.drew.grownBy w1 row):w.grownBy w1 row:=⟨h.os,h.tape,h.output,h.size,h.block⟩
theorem jw{w w1:World}{o:Obj}{row:Option Nat}(h:(w.alloc o).grownBy w1 row)(hr:∀g,row=some g->g<w.heap.size):w.grownBy w1 row:=by
 have hb:Below w.heap.size w (w.alloc o):=(Af _ _).alloc (Aa _) _
 refine⟨h.os.trans hb.os,h.tape.trans hb.tape,h.output.trans hb.output,Ao hb.size h.size,λg hg hn=>?_⟩
 rw[h.block g (AJ hg hb.size) hn,hb.block g hg]
theorem xb{b:Nat}{w w1:World}{L L':Sls}{row:Option Nat}(hG:w.grownBy w1 row)(hr:∀g,row=some g->own b L g)(hf:∀g,own b L' g->own b L g\/w.heap.size<=g):To b w L w1 L':=
 ⟨hG.os,hG.tape,hG.output,hG.size,λg hg hn=>hG.block g hg (λe=>hn (hr g e.symm)),hf⟩
theorem To.put{b:Nat}{w w1:World}{L L':Sls}(h:To b w L w1 L')(i:Nat)(v:Value):To b w L (w1.setCell ⟨b,i,none⟩ v) L':=
 h.trans (jQ w1 i v λg hg=>.inl hg)
theorem St.appA{N:Nat}{w:World}{b:Nat}{s:Cr}{L:Sls}(S:St N w b s L){w1:World}{v1:Value}(e:Ac)(hU:Us w1 135 7 v1 (s.asked.length+1) (flat cel s.asked++cel e))(hG:w.grownBy w1 L.a.ownBlock)(hF:∀g,v1.ownBlock=some g->L.a.ownBlock=some g\/w.heap.size<=g):
  St N (w1.setCell ⟨b,335,none⟩ v1) b {s with asked:=s.asked++[e]} {L with a:=v1}/\To b w L (w1.setCell ⟨b,335,none⟩ v1) {L with a:=v1}:=by
 obtain⟨dc,du,da⟩:=S.apart
 have hf:∀g,own b {L with a:=v1} g->own b L g\/w.heap.size<=g:=λg hg=>by
  rcases hg with h|h|h|h
  ·exact .inl (.inl h)
  ·exact .inl (.inr (.inl h))
  ·exact .inl (.inr (.inr (.inl h)))
  ·exact(hF g h).imp (λh=>.inr (.inr (.inr h))) id
 have T1:To b w L w1 {L with a:=v1}:=xb hG (λg hg=>.inr (.inr (.inr hg))) hf
 have row:w1.heap[b]?=some (.cells (rowOf (kat s L) 339) 66 (0,0)):=(hG.block b S.lt (λh=>(da b h.symm).2.2 rfl)).trans S.row
 have hc1:∀g,L.c.ownBlock=some g->w1.heap[g]?=w.heap[g]?:=λg hg=>hG.block g (S.its.lt (.inl hg)) (λh=>(dc g hg).2.1 h.symm)
 have hu1:∀g,L.u.ownBlock=some g->w1.heap[g]?=w.heap[g]?:=λg hg=>hG.block g (S.its.lt (.inr (.inl hg))) (λh=>(du g hg).2.1 h.symm)
 have I1:Its N w1 b {s with coms:=s.coms,under:=s.under,asked:=s.asked++[e]} {L with a:=v1}:=S.its.own T1 rfl rfl rfl rfl (S.its.ic.move hc1) (S.its.iu.move hu1) (by
  rw[kI,Ay]
  show Us w1 135 7 v1 (s.asked.length+1) (flat cel s.asked++(cel e++[]))
  rw[Zg]
  exact hU)
 exact⟨St.cell row I1 335 v1 (λj hj=>zn9 _ L v1 j hj),T1.put 335 v1⟩
theorem St.appU{N:Nat}{w:World}{b:Nat}{s:Cr}{L:Sls}(S:St N w b s L){w1:World}{v1:Value}(e:Dg)(hU:Us w1 132 28 v1 (s.under.length+1) (flat dgl s.under++dgl e))(hG:w.grownBy w1 L.u.ownBlock)(hF:∀g,v1.ownBlock=some g->L.u.ownBlock=some g\/w.heap.size<=g):
  St N (w1.setCell ⟨b,334,none⟩ v1) b {s with under:=s.under++[e]} {L with u:=v1}/\To b w L (w1.setCell ⟨b,334,none⟩ v1) {L with u:=v1}:=by
 obtain⟨dc,du,da⟩:=S.apart
 have hf:∀g,own b {L with u:=v1} g->own b L g\/w.heap.size<=g:=λg hg=>by
  rcases hg with h|h|h|h
  ·exact .inl (.inl h)
  ·exact .inl (.inr (.inl h))
  ·exact(hF g h).imp (λh=>.inr (.inr (.inl h))) id
  ·exact .inl (.inr (.inr (.inr h)))
 have T1:To b w L w1 {L with u:=v1}:=xb hG (λg hg=>.inr (.inr (.inl hg))) hf
 have row:w1.heap[b]?=some (.cells (rowOf (kat s L) 339) 66 (0,0)):=(hG.block b S.lt (λh=>(du b h.symm).2.2 rfl)).trans S.row
 have hc1:∀g,L.c.ownBlock=some g->w1.heap[g]?=w.heap[g]?:=λg hg=>hG.block g (S.its.lt (.inl hg)) (λh=>(dc g hg).1 h.symm)
 have ha1:∀g,L.a.ownBlock=some g->w1.heap[g]?=w.heap[g]?:=λg hg=>hG.block g (S.its.lt (.inr (.inr hg))) (λh=>(da g hg).2.1 h.symm)
 have I1:Its N w1 b {s with coms:=s.coms,under:=s.under++[e],asked:=s.asked} {L with u:=v1}:=S.its.own T1 rfl rfl rfl rfl (S.its.ic.move hc1) (by
  rw[kI,Ay]
  show Us w1 132 28 v1 (s.under.length+1) (flat dgl s.under++(dgl e++[]))
  rw[Zg]
  exact hU) (S.its.ia.move ha1)
 exact⟨St.cell row I1 334 v1 (λj hj=>zn8 _ L v1 j hj),T1.put 334 v1⟩
theorem St.appC{N:Nat}{w:World}{b:Nat}{s:Cr}{L:Sls}(S:St N w b s L){w1:World}{v1:Value}(e:Cm)(hU:Us w1 68 11 v1 (s.coms.length+1) (flat cml s.coms++cml e))(hG:w.grownBy w1 L.c.ownBlock)(hF:∀g,v1.ownBlock=some g->L.c.ownBlock=some g\/w.heap.size<=g):
  St N (w1.setCell ⟨b,3,none⟩ v1) b {s with coms:=s.coms++[e]} {L with c:=v1}/\To b w L (w1.setCell ⟨b,3,none⟩ v1) {L with c:=v1}:=by
 obtain⟨dc,du,da⟩:=S.apart
 have hf:∀g,own b {L with c:=v1} g->own b L g\/w.heap.size<=g:=λg hg=>by
  rcases hg with h|h|h|h
  ·exact .inl (.inl h)
  ·exact(hF g h).imp (λh=>.inr (.inl h)) id
  ·exact .inl (.inr (.inr (.inl h)))
  ·exact .inl (.inr (.inr (.inr h)))
 have T1:To b w L w1 {L with c:=v1}:=xb hG (λg hg=>.inr (.inl hg)) hf
 have row:w1.heap[b]?=some (.cells (rowOf (kat s L) 339) 66 (0,0)):=(hG.block b S.lt (λh=>(dc b h.symm).2.2 rfl)).trans S.row
 have hu1:∀g,L.u.ownBlock=some g->w1.heap[g]?=w.heap[g]?:=λg hg=>hG.block g (S.its.lt (.inr (.inl hg))) (λh=>(du g hg).1 h.symm)
 have ha1:∀g,L.a.ownBlock=some g->w1.heap[g]?=w.heap[g]?:=λg hg=>hG.block g (S.its.lt (.inr (.inr hg))) (λh=>(da g hg).1 h.symm)
 have I1:Its N w1 b {s with coms:=s.coms++[e],under:=s.under,asked:=s.asked} {L with c:=v1}:=S.its.own T1 rfl rfl rfl rfl (by
  rw[kI,Ay]
  show Us w1 68 11 v1 (s.coms.length+1) (flat cml s.coms++(cml e++[]))
  rw[Zg]
  exact hU) (S.its.iu.move hu1) (S.its.ia.move ha1)
 exact⟨St.cell row I1 3 v1 (λj hj=>zpH _ L v1 j hj),T1.put 3 v1⟩
theorem St.putU{N:Nat}{w:World}{b:Nat}{s:Cr}{L:Sls}(S:St N w b s L){k j:Nat}{x y:Dg}{news:List Value}(hk:s.under[k]?=some x)(hj:j+news.length<=28)(he:dgl y=ov (dgl x) j news)(h1:∀u∈news,u.oneCell'=true):
  ∃g o cap,L.u=.slice (some ⟨g,o,none⟩) s.under.length cap/\w.there g (o+(k*28+j)) news.length/\St N (w.setCells g (o+(k*28+j)) news) b {s with under:=s.under.set k y} L/\To b w L (w.setCells g (o+(k*28+j)) news) L:=by
 obtain⟨dc,du,da⟩:=S.apart
 have hkl:k<s.under.length:=(Ad.1 hk).1
 obtain⟨g,o,cap,e,_⟩:=S.its.iu.at (by omega)
 have hU:=S.its.iu
 rw[e]at hU
 have hlt:k*28+28<=s.under.length*28:=by omega
 have hog:L.u.ownBlock=some g:=by rw[e];rfl
 have T1:To b w L (w.setCells g (o+(k*28+j)) news) L:=xb (zF w g _ news) (λg' hg'=>by cases hg';exact .inr (.inr (.inl hog))) (λg hg=>.inl hg)
 refine⟨g,o,cap,e,hU.there _ _ (by omega),?_,T1⟩
 have hP:=hU.puts (k*28+j) news (by omega) h1
 rw[vM zH hk hj he,<-e]at hP
 have mv:∀g',g'≠g->(w.setCells g (o+(k*28+j)) news).heap[g']?=w.heap[g']?:=λg' h=>qa w g _ news h
 have hgb:g≠b:=(du g hog).2.2
 refine⟨(mv b (λh=>hgb h.symm)).trans S.row,?_⟩
 have I:=S.its.own (co:=s.coms) (un:=s.under.set k y) (ak:=s.asked) T1 rfl rfl rfl rfl (S.its.ic.move λg' hg'=>mv g' (λh=>(dc g' hg').1 (h▸hog))) (by rw[AS];exact hP) (S.its.ia.move λg' hg'=>mv g' (λh=>(da g' hg').2.1 (h▸hog)))
 exact I
theorem St.putA{N:Nat}{w:World}{b:Nat}{s:Cr}{L:Sls}(S:St N w b s L){k:Nat}{x y:Ac}(hk:s.asked[k]?=some x)(h1:∀u∈cel y,u.oneCell'=true):
  ∃g o cap,L.a=.slice (some ⟨g,o,none⟩) s.asked.length cap/\w.there g (o+k*7) 7/\St N (w.setCells g (o+k*7) (cel y)) b {s with asked:=s.asked.set k y} L/\To b w L (w.setCells g (o+k*7) (cel y)) L:=by
 obtain⟨dc,du,da⟩:=S.apart
 have hkl:k<s.asked.length:=(Ad.1 hk).1
 obtain⟨g,o,cap,e,_⟩:=S.its.ia.at (by omega)
 have hU:=S.its.ia
 rw[e]at hU
 have hlt:k*7+7<=s.asked.length*7:=by omega
 have hog:L.a.ownBlock=some g:=by rw[e];rfl
 have hl7:∀z:Ac,(cel z).length=7:=λ_=>rfl
 have T1:To b w L (w.setCells g (o+k*7) (cel y)) L:=xb (zF w g _ _) (λg' hg'=>by cases hg';exact .inr (.inr (.inr hog))) (λg hg=>.inl hg)
 refine⟨g,o,cap,e,hU.there _ _ (by omega),?_,T1⟩
 have hP:=hU.puts (k*7) (cel y) (by rw[hl7];omega) h1
 have hfo:=vM (g:=cel) hl7 (j:=0) (y:=y) (news:=cel y) hk (by rw[hl7];omega) (by unfold ov;rw[hl7,List.drop_eq_nil_of_le (by rw[hl7];omega)];simp)
 rw[AV]at hfo
 rw[hfo,<-e]at hP
 have mv:∀g',g'≠g->(w.setCells g (o+k*7) (cel y)).heap[g']?=w.heap[g']?:=λg' h=>qa w g _ _ h
 have hgb:g≠b:=(da g hog).2.2
 refine⟨(mv b (λh=>hgb h.symm)).trans S.row,?_⟩
 exact S.its.own (co:=s.coms) (un:=s.under) (ak:=s.asked.set k y) T1 rfl rfl rfl rfl (S.its.ic.move λg' hg'=>mv g' (λh=>(dc g' hg').2.1 (h▸hog))) (S.its.iu.move λg' hg'=>mv g' (λh=>(du g' hg').2.1 (h▸hog))) (by rw[AS];exact hP)
def Bx(w:World)(q:Nat)(o:Dg):Prop:=w.heap[q]?=some (.cells (dgl o).toArray 132 (0,0))
theorem Bx.below{w w':World}{q:Nat}{o:Dg}(h:Bx w q o)(hb:Below w.heap.size w w'):Bx w' q o:=(hb.block q (Ah.1 h).1).trans h
theorem Bx.to{b:Nat}{w w':World}{L L':Sls}{q:Nat}{o:Dg}(h:Bx w q o)(hT:To b w L w' L')(hq:¬own b L q):Bx w' q o:=(hT.block q (Ah.1 h).1 hq).trans h
theorem Bx.lt{w:World}{q:Nat}{o:Dg}(h:Bx w q o):q<w.heap.size:=(Ah.1 h).1
theorem Bx.not{b:Nat}{w w':World}{L L':Sls}{q:Nat}{o:Dg}(h:Bx w q o)(hT:To b w L w' L')(hq:¬own b L q):¬own b L' q:=qp hT.fresh hq h.lt
theorem zl{w:World}{q:Nat}{o:Dg}(h:Bx w q o)(j:Nat){v:Value}(hj:(dgl o)[j]?=some v):w.cell? ⟨q,j,none⟩=some v:=by
 rw[Av _ _ _ _ _ _ h]
 simpa using hj
theorem zeS{w:World}{q:Nat}{o:Dg}(h:Bx w q o){j:Nat}{cs:List Value}(hj:∀i v,cs[i]?=some v->(dgl o)[j+i]?=some v):w.rangeAt q j cs:=λi v hi=>zl h (j+i) (hj i v hi)
theorem qA{w:World}{q:Nat}{o:Dg}(h:Bx w q o)(j:Nat):w.frozen? ⟨q,j,none⟩=false:=AH _ _ _ _ _ h
theorem Bx.puts{w:World}{q:Nat}{o o':Dg}(h:Bx w q o)(j:Nat)(news:List Value)(hj:j+news.length<=28)(e:dgl o'=ov (dgl o) j news):Bx (w.setCells q j news) q o':=by
 obtain⟨cur,h1,h2,h3⟩:=yV news (off:=j) h (by simpa[zH]using hj)
 unfold Bx
 rw[h1,e]
 congr 2
 apply Array.ext_getElem?
 intro i
 rw[h3]
 have:=zoi (xs:=dgl o) (news:=news) (off:=j) (by rw[zH];exact hj) i
 simpa using this.symm
theorem Bx.put{w:World}{q:Nat}{o o':Dg}(h:Bx w q o)(j:Nat)(v:Value)(hj:j<28)(e:dgl o'=ov (dgl o) j [v]):Bx (w.setCell ⟨q,j,none⟩ v) q o':=h.puts j [v] (by simp only[Za,List.length_nil];omega) e
theorem zmo:(prog.info? 135).map (λi=>(i.zero,i.size,i.bytes))=some (some (.agg (cel ⟨0,false,false,0,0,0,false⟩).toArray),7,32):=by kernel_rfl
theorem zoC:(prog.info? 132).map (λi=>(i.zero,i.size,i.bytes))=some (some (dgv ⟨0,0,zin,0,0,0,0,0,0,0,false,0,false,zcm⟩),28,192):=by kernel_rfl
theorem zpX:(prog.info? 68).map (λi=>(i.zero,i.size,i.bytes))=some (some (cvC zcm),11,64):=by kernel_rfl
theorem xe(q:Ac):∀u∈cel q,u.oneCell'=true:=by
 intro u hu
 simp only[cel,Zn,List.not_mem_nil,or_false]at hu
 rcases hu with rfl|rfl|rfl|rfl|rfl|rfl|rfl<;>rfl
theorem jR{w:World}{cs:List Value}{t:TypeId}(j:Nat)(u:Value)(h:cs[j]?=some u):(w.alloc (.cells cs.toArray t)).cell? ⟨w.heap.size,j,none⟩=some u:=by
 rw[Av _ _ _ _ _ _ (heap_alloc_new w _)]
 simpa using h
theorem Us.below{w w':World}{e size:Nat}{v:Value}{n:Nat}{xs:List Value}(h:Us w e size v n xs)(hb:Below w.heap.size w w'):Us w' e size v n xs:=
 h.move λg hg=>hb.block g (by obtain⟨cur,e⟩:=h.block hg;exact(Ah.1 e).1)
theorem xl{w:World}{q:Nat}{o:Dg}(h:Bx w q o):w.rangeAt q 2 (ivL o.i).toList:=zeS h λi v hi=>by
 have hl:i<5:=by have:=(Ad.1 hi).1;simpa[ivL]using this
 rcases(by omega:i=0\/i=1\/i=2\/i=3\/i=4)with rfl|rfl|rfl|rfl|rfl<;>exact hi
theorem qP(i:In):(prog.info? 78).map (·.size)=some (ivL i).toList.length:=zeR
theorem zj1{N:Nat}{w:World}{b:Nat}{s:Cr}{L:Sls}(S:St N w b s L)(o:Dg)(hn:s.asked.length<=100000000):Calls prog 94 #[.pointer (some ⟨b,0,none⟩),dgv o] w λe w'=>e=.returned (.tuple #[])/\∃L',St N w' b (askO s o) L'/\To b w L w' L'/\L'.m=L.m/\L'.f=L.f/\L'.s=L.s/\L'.r=L.r:=by
 obtain⟨iA,hi,hz0,hz1,hz2⟩:=ZD zmo
 have CS:=λw=>vL o.i w
 go_enter func94,ntmps94
 go_upto_region 1 with fail
 refine Wi.zh (Φ:=λW=>ZF _ _ _ _ W) ?_
 intro V hV hVb
 have BV:Hid (Bx V w.heap.size o):=hV
 have SV:Hid (St N V b s L):=S.below hVb
 have TV:Hid (To b w L V L):=zf L hVb
 have hqo:¬own b L w.heap.size:=λh=>by have:=qR S h;omega
 clear hV hVb S
 generalize w.heap.size=q at*
 have HQO:Hid (¬own b L q):=hqo
 have hnq:L.a.ownBlock≠some q:=λh=>hqo (.inr (.inr (.inr h)))
 have hqb:q≠b:=λh=>hqo (.inl h)
 clear hqo
 obtain⟨a,c,ea⟩:=SV.out.its.ia.slice
 have kA:V.cell? ⟨b,335,none⟩=some (.slice a (s.asked.length) c):=(zd SV.out.row (by omega)).trans (congrArg some ea)
 have HU:Hid (Us V 135 7 (.slice a (s.asked.length) c) (s.asked.length) (flat cel s.asked)):=by have:=SV.out.its.ia;rw[ea]at this;exact this
 have hnb:(WY a (s.asked.length) c).ownBlock≠some b:=λh=>(SV.out.apart.2.2 b (by rw[ea];exact h)).2.2 rfl
 have hlt0:∀g,(WY a (s.asked.length) c).ownBlock=some g->g<V.heap.size:=λg h=>SV.out.its.lt (.inr (.inr (by rw[ea];exact h)))
 refine zu (S:=λw'=>w'.cell? ⟨b,335,none⟩=some (.slice a (s.asked.length) c)/\w'.cell? ⟨q,0,none⟩=some (.int .i64 o.seq)/\w'.cell? ⟨q,1,none⟩=some (.int .u32 o.pc)) [14] (by kernel_rfl) (⟨kA,zl BV.out 0 rfl,zl BV.out 1 rfl⟩) (λhH=>?_)
 refine tU 0 (.pointer (some ⟨b,0,none⟩)) ?_;go_simp
 refine tU 1 (.pointer (some ⟨b,0,none⟩)) ?_;go_simp
 refine tU 2 (.pointer (some ⟨b,0,none⟩)) ?_;go_simp
 refine tU 3 (.pointer (some ⟨b,335,none⟩)) ?_;go_simp
 refine tA 4 (.slice a (s.asked.length) c) ?_;go_simp
 refine tU 5 (.pointer (some ⟨q,0,none⟩)) ?_;go_simp
 refine tS 6 (.int .i64 o.seq) rfl (Or.inl ⟨by rfl,by intro wz hSw;have hc:=hSw.2.1;go_simp⟩) hH ?_;go_simp
 refine tU 7 (.pointer (some ⟨q,1,none⟩)) ?_;go_simp
 refine tS 8 (.int .u32 o.pc) rfl (Or.inl ⟨by rfl,by intro wz hSw;have hc:=hSw.2.2;go_simp⟩) hH ?_;go_simp
 refine tU 9 (.agg #[.int .i64 o.seq,.bool false,.bool true,.int .u32 o.pc,.int .i64 4,.int .u32 0,.bool true]) ?_;go_simp
 refine zC 10 rfl (λK hK=>?_)
 go_simp
 refine hK.out _ _ (⟨jG _ (hH.1),jG _ (hH.2.1),jG _ (hH.2.2)⟩) (λhN=>?_)
 clear hK K hH
 have hH:=hN
 clear hN
 try go_simp
 refine zC 11 rfl (λK hK=>?_)
 rw[if_pos (by rfl)]
 refine qT _ _ 64 rfl 135 iA _ 7 32 underlying64 hi hz0 hz1 hz2 rfl (by decide) _ (s.asked.length) _ rfl (HU.out.below ((Af _ _).drew.alloc (Aa _) _)) V.heap.size (cel (ownA o)) rfl rfl (λj u hj=>jR (w:=V.drew) j u hj) (xe _) (by omega) (by omega) ?_
 intro v1 w1 hU1 hG1 hF1
 obtain⟨p1,c1,rfl⟩:=hU1.slice
 have fA:w1.frozen? ⟨b,335,none⟩=false:=AH _ _ _ _ _ ((hG1.block b (by have:=SV.out.lt;simp;omega) (λh=>hnb h.symm)).trans ((Zp _ _ _ SV.out.lt).trans SV.out.row))
 have HU1:Hid (Us w1 135 7 (.slice p1 ((s.asked.length)+1) c1) ((s.asked.length)+1) (flat cel s.asked++cel (ownA o))):=hU1
 have HG1:Hid (V.grownBy w1 L.a.ownBlock):=by rw[ea];exact qL (jw hG1 (λg hg=>hlt0 g hg))
 have HF1:Hid (∀g,(WY p1 ((s.asked.length)+1) c1).ownBlock=some g->L.a.ownBlock=some g\/V.heap.size<=g):=λg hg=>(hF1 g hg).imp (λh=>by rw[ea];exact h) (λh=>Ao (by simp) h)
 refine hK.out _ _ (⟨zaq hG1 (hH.1) (hnb),zaq hG1 (hH.2.1) (by rw[<-ea];exact hnq),zaq hG1 (hH.2.2) (by rw[<-ea];exact hnq)⟩) (λhN=>?_)
 clear hK K hH
 have hH:=hN
 clear hN
 try go_simp
 have cA:=hH.1
 clear hU1 hG1 hF1 HU hnb hlt0 kA
 refine tU 12 (.pointer (some ⟨b,0,none⟩)) ?_;go_simp
 refine tU 13 (.pointer (some ⟨b,335,none⟩)) ?_;go_simp
 refine zL 14 rfl (λK hK=>?_)
 go_simp
 refine hK.out _ _ ?_
 clear hK K
 try go_simp
 refine zG (by kernel_rfl) ?_ _
 obtain⟨S1,T1⟩:=St.appA SV.out (ownA o) HU1.out HG1.out HF1.out
 clear HU1 HG1 HF1 hH cA fA
 generalize w1.setCell ⟨b,335,none⟩ (.slice p1 ((s.asked.length)+1) c1)=W1 at*
 generalize WY p1 ((s.asked.length)+1) c1=v1 at*
 have B1:Hid (Bx W1 q o):=BV.out.to T1 HQO.out
 have HQ1:Hid (¬own b {L with a:=v1} q):=BV.out.not T1 HQO.out
 have T1':Hid (To b w L W1 {L with a:=v1}):=TV.out.trans T1
 have S1':Hid (St N W1 b {s with asked:=s.asked++[ownA o]} {L with a:=v1}):=S1
 have hnq:v1.ownBlock≠some q:=λh=>HQ1.out (.inr (.inr (.inr h)))
 clear S1 T1 TV SV BV HQO ea
 go_wp2_with(refine Ax rfl 78 _ rfl q 2 rfl (ivL o.i).toList _ (xl B1.out) underlying78 rfl (qP _) ?_)
 refine(CS _).mono ?_
 rintro e V2 ⟨rfl,hk2⟩
 have B2:Hid (Bx V2 q o):=B1.out.below hk2
 have SV:Hid (St N V2 b {s with asked:=s.asked++[ownA o]} {L with a:=v1}):=S1'.out.below hk2
 have T2:Hid (To b w L V2 {L with a:=v1}):=T1'.out.trans (zf _ hk2)
 clear hk2 B1 S1' T1' CS
 cases hst:sts o.i with
 |false=>
  have HE:Hid (askO s o={s with asked:=s.asked++[ownA o]}):=by show _=_;unfold askO;rw[hst];rfl
  clear hst
  go_wp2_with fail
  refine AK (AF rfl _ _ _) rfl ?_
  exact⟨rfl,_,by rw[HE.out];exact SV.out,T2.out,rfl,rfl,rfl,rfl⟩
 |true=>
  have e1:askO s o={s with asked:=s.asked++[ownA o]++[st0 o.seq]}:=by unfold askO;rw[hst];simp
  clear hst
  obtain⟨s',hs'⟩:∃s':Cr,s'={s with asked:=s.asked++[ownA o]}:=⟨_,rfl⟩
  obtain⟨L',hL'⟩:∃L':Sls,L'={L with a:=v1}:=⟨_,rfl⟩
  have HE:Hid (askO s o={s' with asked:=s'.asked++[st0 o.seq]}):=by show _=_;rw[e1,hs']
  have hn':s'.asked.length<=100000001:=by rw[hs'];simp;omega
  have hnq':L'.a.ownBlock≠some q:=by rw[hL'];exact hnq
  have HSm:Hid (L'.m=L.m/\L'.f=L.f/\L'.s=L.s/\L'.r=L.r):=by rw[hL'];exact⟨rfl,rfl,rfl,rfl⟩
  rw[<-hs',<-hL']at SV
  rw[<-hL']at T2
  clear e1 hs' hL' hnq HQ1
  go_upto_region 3 with fail
  obtain⟨a2,c2,ea⟩:=SV.out.its.ia.slice
  have kA:V2.cell? ⟨b,335,none⟩=some (.slice a2 (s'.asked.length) c2):=(zd SV.out.row (by omega)).trans (congrArg some ea)
  have HU:Hid (Us V2 135 7 (.slice a2 (s'.asked.length) c2) (s'.asked.length) (flat cel s'.asked)):=by have:=SV.out.its.ia;rw[ea]at this;exact this
  have hnb:(WY a2 (s'.asked.length) c2).ownBlock≠some b:=λh=>(SV.out.apart.2.2 b (by rw[ea];exact h)).2.2 rfl
  have hlt0:∀g,(WY a2 (s'.asked.length) c2).ownBlock=some g->g<V2.heap.size:=λg h=>SV.out.its.lt (.inr (.inr (by rw[ea];exact h)))
  refine zu (S:=λw'=>w'.cell? ⟨b,335,none⟩=some (.slice a2 (s'.asked.length) c2)/\w'.cell? ⟨q,0,none⟩=some (.int .i64 o.seq)) [12] (by kernel_rfl) (⟨kA,zl B2.out 0 rfl⟩) (λhH=>?_)
  refine tU 0 (.pointer (some ⟨b,0,none⟩)) ?_;go_simp
  refine tU 1 (.pointer (some ⟨b,0,none⟩)) ?_;go_simp
  refine tU 2 (.pointer (some ⟨b,0,none⟩)) ?_;go_simp
  refine tU 3 (.pointer (some ⟨b,335,none⟩)) ?_;go_simp
  refine tA 4 (.slice a2 (s'.asked.length) c2) ?_;go_simp
  refine tU 5 (.pointer (some ⟨q,0,none⟩)) ?_;go_simp
  refine tB 6 (.int .i64 o.seq) ?_;go_simp
  refine tU 7 (.agg #[.int .i64 o.seq,.bool true,.bool false,.int .u32 0,.int .i64 0,.int .u32 0,.bool false]) ?_;go_simp
  refine zC 8 rfl (λK hK=>?_)
  go_simp
  refine hK.out _ _ (⟨jG _ (hH.1),jG _ (hH.2)⟩) (λhN=>?_)
  clear hK K hH
  have hH:=hN
  clear hN
  try go_simp
  refine zC 9 rfl (λK hK=>?_)
  rw[if_pos (by rfl)]
  refine qT _ _ 64 rfl 135 iA _ 7 32 underlying64 hi hz0 hz1 hz2 rfl (by decide) _ (s'.asked.length) _ rfl (HU.out.below ((Af _ _).drew.alloc (Aa _) _)) V2.heap.size (cel (st0 o.seq)) rfl rfl (λj u hj=>jR (w:=V2.drew) j u hj) (xe _) (by omega) (by omega) ?_
  intro v1 w1 hU1 hG1 hF1
  obtain⟨p1,c1,rfl⟩:=hU1.slice
  have fA:w1.frozen? ⟨b,335,none⟩=false:=AH _ _ _ _ _ ((hG1.block b (by have:=SV.out.lt;simp;omega) (λh=>hnb h.symm)).trans ((Zp _ _ _ SV.out.lt).trans SV.out.row))
  have HU1:Hid (Us w1 135 7 (.slice p1 ((s'.asked.length)+1) c1) ((s'.asked.length)+1) (flat cel s'.asked++cel (st0 o.seq))):=hU1
  have HG1:Hid (V2.grownBy w1 L'.a.ownBlock):=by rw[ea];exact qL (jw hG1 (λg hg=>hlt0 g hg))
  have HF1:Hid (∀g,(WY p1 ((s'.asked.length)+1) c1).ownBlock=some g->L'.a.ownBlock=some g\/V2.heap.size<=g):=λg hg=>(hF1 g hg).imp (λh=>by rw[ea];exact h) (λh=>Ao (by simp) h)
  refine hK.out _ _ (⟨zaq hG1 (hH.1) (hnb),zaq hG1 (hH.2) (by rw[<-ea];exact hnq')⟩) (λhN=>?_)
  clear hK K hH
  have hH:=hN
  clear hN
  try go_simp
  have cA:=hH.1
  clear hU1 hG1 hF1 HU hnb hlt0 kA
  refine tU 10 (.pointer (some ⟨b,0,none⟩)) ?_;go_simp
  refine tU 11 (.pointer (some ⟨b,335,none⟩)) ?_;go_simp
  refine zL 12 rfl (λK hK=>?_)
  go_simp
  refine hK.out _ _ ?_
  clear hK K
  try go_simp
  refine zG (by kernel_rfl) ?_ _
  obtain⟨S1,T1⟩:=St.appA SV.out (st0 o.seq) HU1.out HG1.out HF1.out
  clear HU1 HG1 HF1 hH cA fA
  generalize w1.setCell ⟨b,335,none⟩ (.slice p1 ((s'.asked.length)+1) c1)=W3 at*
  generalize WY p1 ((s'.asked.length)+1) c1=v1 at*
  have T3:=T2.out.trans T1
  clear T1 T2 SV
  go_wp2_with fail
  refine AK (AF rfl _ _ _) rfl ?_
  exact⟨rfl,_,by rw[HE.out];exact S1,T3,HSm.out⟩
end Go.Proofs.YtpiohehijkpghacGreatDoor.Co
namespace Go.Proofs.YtpiohehijkpghacGreatDoor.Re
open Go.RowKit Go.Maps
open Re.Hy
theorem zhW(T:Array Value)(P:Int)(r f:Nat->Int)(a:Option Addr)(n c:Nat)(hT:Hid (T=mcs P r (.slice a n c)))(hm:Hid (MayBe P n r f))
  (h0:T[0]?=some (.int .i64 P)) (hF:T[33]?=some (.slice a n c)) (hR:Hid (Rg r)) (k:Nat) (k0:1<=k) (k1:k<32) (x:Int) (hx:Hid (Idle P n r f x)) (w:World) (hL:Hid (Lie w a n c f)):
  Calls prog 162 #[.agg T,.int .i64 k,.int .i64 x] w λe w'=>(∃a' c',e=.returned (.tuple #[.agg (mcs P (up r k x) (.slice a' (n+1) c')),.bool true])/\Lie w' a' (n+1) c' (hd (r k) f)/\Far w.heap.size a')/\Below w.heap.size w w':=by
 have hn64:=hm.out.few.2
 have C1:=λw=>za4 T P r f a n c true hT ⟨λ_=>hm.out,λ_=>rfl⟩ h0 hF hR (by omega) w
 have C3:=λw=>zb1 T P r f a n c x true hT ⟨λ_=>hx.out,λ_=>rfl⟩ h0 hF hR hn64 hm.out.high w
 have HI:Hid ((prog.info? 59).map (·.size)=some T.size):=qI hT.out
 have C2:=zaA (k:Int)
 rw[decide_eq_true (⟨by omega,by omega⟩:(1:Int)<=k/\(k:Int)<32)]at C2
 have hcR:T[1+k]?=some (.int .i64 (r k)):=by rw[hT.out];exact zfn _ _ _ _ k1
 go_enter func162,ntmps162
 go_upto_region 1 with fail
 refine za5 (Φ:=λW=>ZF _ _ _ _ W) ?_
 intro W0 HR' HZ' HB' hs0
 have HR0:Hid (W0.heap[w.heap.size]?=some (.cells T 59 (0,0))):=HR'
 have HB0:Hid (Below w.heap.size w W0):=HB'
 obtain⟨Z,hZ,HZ0⟩:∃Z:Array Value,Hid (Z.size=34)/\Hid (W0.heap[w.heap.size+1]?=some (.cells Z 59 (0,0))):=⟨zm,za6,HZ'⟩
 clear HR' HZ' HB'
 go_wp2_with(refine zo (by rfl) 59 _ rfl _ rfl 59 _ (0,0) _ HR0.out underlying59 rfl HI.out ?_)
 refine(C1 _ (hL.out.below (Aa _) HB0.out)).mono ?_
 rintro e W1 ⟨rfl,hk⟩
 have HR1:Hid (W1.heap[w.heap.size]?=some (.cells T 59 (0,0))):=(hk.block _ (zk HR0.out)).trans HR0.out
 have HZ1:Hid (W1.heap[w.heap.size+1]?=some (.cells Z 59 (0,0))):=(hk.block _ (zk HZ0.out)).trans HZ0.out
 have HB1:Hid (Below w.heap.size w W1):=HB0.out.trans (hk.mono HB0.out.size)
 have hs1:w.heap.size+1<W1.heap.size:=zk HZ1.out
 clear hk HR0 HZ0 HB0 hs0
 go_wp2_with fail
 refine(C2 _).mono ?_
 rintro e w' ⟨rfl,rfl⟩
 obtain⟨W1,hW1⟩:∃W1,W1=w':=⟨_,rfl⟩
 rw[<-hW1]at HR1 HZ1 HB1 hs1⊢
 clear hW1
 go_wp2_with(refine zo (by rfl) 59 _ rfl _ rfl 59 _ (0,0) _ HR1.out underlying59 rfl HI.out ?_)
 refine(C3 _ (hL.out.below (Aa _) HB1.out)).mono ?_
 rintro e W2 ⟨rfl,hk⟩
 have HR2:Hid (W2.heap[w.heap.size]?=some (.cells T 59 (0,0))):=(hk.block _ (zk HR1.out)).trans HR1.out
 have HZ2:Hid (W2.heap[w.heap.size+1]?=some (.cells Z 59 (0,0))):=(hk.block _ (zk HZ1.out)).trans HZ1.out
 have HB2:Hid (Below w.heap.size w W2):=HB1.out.trans (hk.mono HB1.out.size)
 have hs2:w.heap.size+1<W2.heap.size:=zk HZ2.out
 clear hk HR1 HZ1 HB1 hs1
 have c33:W2.cell? ⟨w.heap.size,33,none⟩=some (.slice a n c):=(Av _ w.heap.size _ _ _ _ HR2.out).trans hF
 have cR:W2.cell? ⟨w.heap.size,1+k,none⟩=some (.int .i64 (r k)):=(Av _ w.heap.size _ _ _ _ HR2.out).trans hcR
 have C4:∀W3:World,W3.heap[W2.heap.size]?=some (.cells #[.int .i64 (r k)] 3 (0,0))->W3.heap[W2.heap.size+1]?=some (.cells #[.slice (some ⟨W2.heap.size,0,none⟩) 1 1,.slice a n c] 29 (0,0))->Below W2.heap.size W2 W3->W2.heap.size+2<=W3.heap.size->
   Calls prog 115 #[.slice (some ⟨W2.heap.size+1,0,none⟩) 2 2] W3 λe W4=>∃a' c',e=.returned (.slice a' (1+n) c')/\Hid (Lie W4 a' (1+n) c' (cat (λ_=>r k) 1 f))/\Hid (Far (w.heap.size+2) a')/\Hid (W4.heap[w.heap.size]?=some (.cells T 59 (0,0)))/\Hid (W4.heap[w.heap.size+1]?=some (.cells Z 59 (0,0)))/\Hid (Below w.heap.size w W4)
    /\W4.cell? ⟨w.heap.size,33,none⟩=some (.slice a n c)/\W4.cell? ⟨w.heap.size,1+k,none⟩=some (.int .i64 (r k))/\(∀j,W4.frozen? ⟨w.heap.size,j,none⟩=false):=by
  intro W3 ha hb3 hk hs3
  have l1:Hid (Lie W3 a n c f):=hL.out.below (Aa _) (HB2.out.trans (hk.mono HB2.out.size))
  have l2:Hid (Lie W3 (some ⟨W2.heap.size,0,none⟩) 1 1 (λ_=>r k)):=by
   refine⟨Aa _,by unfold maxLen;omega,λh=>(nomatch h),λi hi=>hR.out k k1,λy hy _=>⟨W2.heap.size,0,(Ai hy).symm,λi hi=>?_⟩⟩
   obtain rfl:i=0:=by omega
   rw[Av _ _ _ _ _ _ ha]
   rfl
  have e0:W3.cell? ⟨W2.heap.size+1,0,none⟩=some (.slice (some ⟨W2.heap.size,0,none⟩) 1 1):=by rw[Av _ _ _ _ _ _ hb3];rfl
  have e1:W3.cell? ⟨W2.heap.size+1,1,none⟩=some (.slice a n c):=by rw[Av _ _ _ _ _ _ hb3];rfl
  refine(vz (W2.heap.size+1) (some ⟨W2.heap.size,0,none⟩) a 1 1 n c (λ_=>r k) f (by omega) (by omega) W3 (by omega) e0 e1 l2 l1).mono ?_
  rintro e W4 ⟨⟨a',c',rfl,hl,hfar⟩,hk4⟩
  have r4:W4.heap[w.heap.size]?=some (.cells T 59 (0,0)):=(hk4.block _ (by omega)).trans ((hk.block _ (by omega)).trans HR2.out)
  have z4:W4.heap[w.heap.size+1]?=some (.cells Z 59 (0,0)):=(hk4.block _ (by omega)).trans ((hk.block _ (by omega)).trans HZ2.out)
  exact⟨a',c',rfl,hl,hfar.mono (by omega),r4,z4,HB2.out.trans ((hk.mono HB2.out.size).trans (hk4.mono (by omega))),(Av _ w.heap.size _ _ _ _ r4).trans hF,(Av _ w.heap.size _ _ _ _ r4).trans hcR,λj=>AH _ _ j _ _ r4⟩
 have HC4:=Hid.mk' C4
 have hs2':w.heap.size<W2.heap.size:=by omega
 have hs2b:(W2.cell? ⟨w.heap.size,33,none⟩).isSome=true:=by rw[c33];rfl
 have hs2c:(W2.cell? ⟨w.heap.size,1+k,none⟩).isSome=true:=by rw[cR];rfl
 clear C4 C1 C2 C3
 go_wp2_with fail
 go_region_with (go_at_call 115;refine(HC4.out _ (znK _ _ _) (znL _ _ _) (znM _ _ _) (znN _ _ _)).mono ?_;rintro e W4 ⟨a',c',rfl,HL4,HA4,HR4,HZ4,HB4,c33,cR,hf⟩)
 all_goals
  have hs4:w.heap.size+1<W4.heap.size:=zk HZ4.out
  obtain⟨M,hM⟩:∃M,Hid (M=mcs P (up r k x) (.slice a' (1+n) c')):=⟨_,rfl⟩
  have eM:(T.setIfInBounds 33 (.slice a' (1+n) c')).setIfInBounds (1+k) (.int .i64 x)=M:=by rw[hM.out,hT.out,zgW,zfo _ _ _ _ _ k1]
  have HR5:Hid (((W4.setCell ⟨w.heap.size,33,none⟩ (.slice a' (1+n) c')).setCell ⟨w.heap.size,1+k,none⟩ (.int .i64 x)).heap[w.heap.size]?=some (.cells M 59 (0,0))):=by rw[<-eM];exact(zB (zB HR4.out))
  have HZ5:Hid (((W4.setCell ⟨w.heap.size,33,none⟩ (.slice a' (1+n) c')).setCell ⟨w.heap.size,1+k,none⟩ (.int .i64 x)).heap[w.heap.size+1]?=some (.cells Z 59 (0,0))):=(zi (zi HZ4.out (by omega)) (by omega))
  have HB5:Hid (Below w.heap.size w ((W4.setCell ⟨w.heap.size,33,none⟩ (.slice a' (1+n) c')).setCell ⟨w.heap.size,1+k,none⟩ (.int .i64 x))):=((HB4.out.setCell (Aa _) _).setCell (Aa _) _)
  have MI:Hid ((prog.info? 59).map (·.size)=some M.size):=qI hM.out
  have MO:Hid (M.all (·.oneCell')=true):=by show _=_;rw[hM.out];exact xw _ _ _ _ _
  have MZ:Hid (Z.size=M.size):=by show _=_;rw[hM.out,hZ.out];rfl
  clear eM HR4 HZ4 HB4
  go_wp2_with(first|(refine zo (by rfl) 59 _ rfl _ rfl 59 _ (0,0) _ HR5.out underlying59 rfl MI.out ?_)|(refine Zq rfl 59 _ _ rfl _ _ rfl rfl 59 _ HZ5.out MI.out MZ.out MO.out ?_))
  refine bodyPost_ret (v:=.tuple #[.agg M,.bool true]) ?_ rfl ⟨⟨a',c',by rw[hM.out];rw[AW 1 n],?_,HA4.out.mono (by omega)⟩,?_⟩
  ·have L2:=run_loadVar_row (P:=prog) _ _ 59 59 M (0,0) _ (setRow_heap _ _ _ _ _ _ HZ5.out) underlying59 rfl MI.out
   simp[results,results162,asAddr,L2]
  ·rw[AW n 1]
   refine Lie.congr (f:=cat (λ_=>r k) 1 f) (HL4.out.moved λy hy=>?_) (λi _=>by unfold cat hd;by_cases h:i=0<;>simp[h])
   have:=HA4.out y hy
   rw[setRow_other _ _ _ _ (by omega)]
   exact(zD _ (by omega)).trans (zD _ (by omega))
  ·exact zc HB5.out (by omega) _
end Go.Proofs.YtpiohehijkpghacGreatDoor.Re
namespace Go.Proofs.YtpiohehijkpghacGreatDoor.Co
open Go.RowKit
open Hy
open Wi Od Re.Hy
open Gu.Hy (Tb tcs)
structure Toq(b q:Nat)(w:World)(L:Sls)(w':World)(L':Sls):Prop where
 os:w'.os=w.os
 tape:w'.tape=w.tape
 output:w'.output=w.output
 size:w.heap.size<=w'.heap.size
 block:∀g,g<w.heap.size->¬own b L g->g≠q->w'.heap[g]?=w.heap[g]?
 fresh:∀g,own b L' g->own b L g\/w.heap.size<=g
theorem To.q{b q:Nat}{w w':World}{L L':Sls}(h:To b w L w' L'):Toq b q w L w' L':=⟨h.os,h.tape,h.output,h.size,λg hg hn _=>h.block g hg hn,h.fresh⟩
theorem Toq.trans{b q:Nat}{w w1 w2:World}{L L1 L2:Sls}(h:Toq b q w L w1 L1)(k:Toq b q w1 L1 w2 L2):Toq b q w L w2 L2:=by
 refine⟨k.os.trans h.os,k.tape.trans h.tape,k.output.trans h.output,Ao h.size k.size,λg hg hn hq=>?_,λg hg=>?_⟩
 ·rw[k.block g (AJ hg h.size) (λho=>?_) hq,h.block g hg hn hq]
  rcases h.fresh g ho with h'|h'
  ·exact hn h'
  ·omega
 ·rcases k.fresh g hg with h'|h'
  ·exact h.fresh g h'
  ·exact .inr (Ao h.size h')
theorem Toq.to{b q:Nat}{w w1 w2:World}{L L1 L2:Sls}(h:To b w L w1 L1)(hq:w.heap.size<=q)(k:Toq b q w1 L1 w2 L2):To b w L w2 L2:=by
 refine⟨k.os.trans h.os,k.tape.trans h.tape,k.output.trans h.output,Ao h.size k.size,λg hg hn=>?_,λg hg=>?_⟩
 ·rw[k.block g (AJ hg h.size) (λho=>?_) (by omega),h.block g hg hn]
  rcases h.fresh g ho with h'|h'
  ·exact hn h'
  ·omega
 ·rcases k.fresh g hg with h'|h'
  ·exact h.fresh g h'
  ·exact .inr (Ao h.size h')
theorem zaK{b q:Nat}{w w':World}{L:Sls}(h:w.grownBy w' (some q)):Toq b q w L w' L:=⟨h.os,h.tape,h.output,h.size,λg hg _ hq=>h.block g hg (λe=>hq (Ai e)),λ_ h=>.inl h⟩
theorem qc(w:World)(q i:Nat)(v:Value):w.grownBy (w.setCell ⟨q,i,none⟩ v) (some q):=zF w q i [v]
structure Apt(b q:Nat)(s:Cr)(L:Sls):Prop where
 o:¬own b L q
 m:∀g,L.m.ownBlock=some g->0<s.n->g≠q
 f:∀g,L.f.ownBlock=some g->0<s.free.length->g≠q
 sl:∀g,L.s.ownBlock=some g->0<s.slots.length->g≠q
 r:∀g,L.r.ownBlock=some g->0<s.scr.length->g≠q
 g1:q≠0
 g2:q≠2
theorem St.apt{N:Nat}{w:World}{b:Nat}{s:Cr}{L:Sls}(S:St N w b s L){q:Nat}(hq:w.heap.size<=q):Apt b q s L:=by
 obtain⟨b1,b2,b3,b4⟩:=S.its.blk
 have h1:=S.its.tb.size
 have h2:=S.its.tb2.size
 exact⟨λh=>by have:=qR S h;omega,λg h h0=>by have:=b1 g h h0;omega,λg h h0=>by have:=b2 g h h0;omega,λg h h0=>by have:=b3 g h h0;omega,λg h h0=>by have:=b4 g h h0;omega,by omega,by omega⟩
theorem St.other{N:Nat}{w w':World}{b q:Nat}{s:Cr}{L:Sls}(S:St N w b s L)(h:w.grownBy w' (some q))(hA:Apt b q s L):St N w' b s L:=by
 have hq:=hA.o
 have g1:=hA.g1
 have g2:=hA.g2
 have mv:∀g,g<w.heap.size->g≠q->w'.heap[g]?=w.heap[g]?:=λg hg hn=>h.block g hg (λe=>hn (Ai e))
 have nq:∀g,own b L g->g≠q:=λg hg e=>hq (e▸hg)
 refine⟨(mv b S.lt (nq b (.inl rfl))).trans S.row,?_⟩
 have I:=S.its
 obtain⟨pm,cm,em,hm'⟩:=I.im
 obtain⟨pf,cf,ef,hf'⟩:=I.ifr
 obtain⟨ps,cs,es,hs'⟩:=I.isl
 obtain⟨pr,cr,er,hr'⟩:=I.ir
 have lt:∀{g:Nat} {j:Nat} {v:Value},w.cell? ⟨g,j,none⟩=some v->g<w.heap.size:=λhv=>Ap _ _ hv
 have nT:0<w.heap.size:=I.tb.size
 have nT2:2<w.heap.size:=I.tb2.size
 refine⟨I.ic.move λg hg=>mv g (I.lt (.inl hg)) (nq g (.inr (.inl hg))),I.iu.move λg hg=>mv g (I.lt (.inr (.inl hg))) (nq g (.inr (.inr (.inl hg)))),I.ia.move λg hg=>mv g (I.lt (.inr (.inr hg))) (nq g (.inr (.inr (.inr hg)))),
  ⟨pm,cm,em,xE hm' λh0 x hx=>?_⟩,⟨pf,cf,ef,zbo hf' λh0 x hx=>?_⟩,⟨ps,cs,es,qM hs' h.size λh0 x hx=>?_⟩,⟨pr,cr,er,qM hr' h.size λh0 x hx=>?_⟩,
  I.sm,I.sf,I.ss,I.sr,I.base,λi hi=>(AE (w:=w) (a:=⟨0,i,none⟩) (mv _ nT (λe=>g1 e.symm))).trans (I.tb i hi),λi hi=>(AE (w:=w) (a:=⟨2,i,none⟩) (mv _ nT2 (λe=>g2 e.symm))).trans (I.tb2 i hi),I.g1,I.g2,Ao I.nN h.size⟩
 ·obtain⟨g,o,e,hl⟩:=hm'.hm h0
  rw[hx]at e
  cases e
  exact mv g (lt (hl 0 h0)) (hA.m _ (by rw[em,hx];rfl) h0)
 ·obtain⟨g,o,e,hl⟩:=hf'.ad x hx h0
  subst e
  exact mv g (lt (hl 0 h0)) (hA.f _ (by rw[ef,hx];rfl) h0)
 ·obtain⟨g,o,e,hlt,_⟩:=hs'.ad x hx h0
  subst e
  exact mv g hlt (hA.sl _ (by rw[es,hx];rfl) h0)
 ·obtain⟨g,o,e,hlt,_⟩:=hr'.ad x hx h0
  subst e
  exact mv g hlt (hA.r _ (by rw[er,hx];rfl) h0)
theorem St.setSlots{N:Nat}{w:World}{b:Nat}{s:Cr}{L:Sls}(S:St N w b s L){l:List Sl}{a:Option Addr}{c:Nat}(hl:LC w a l.length c 2 (scs l))(hs:∀x,a=some x->¬own b L x.block):
  St N (w.setCell ⟨b,333,none⟩ (.slice a l.length c)) b {s with slots:=l} {L with s:=.slice a l.length c}/\To b w L (w.setCell ⟨b,333,none⟩ (.slice a l.length c)) {L with s:=.slice a l.length c}:=by
 refine⟨St.cell S.row (S.its.setS (l:=l) ⟨_,_,rfl,hl⟩ (λg hg h0=>?_)) 333 _ (λj hj=>zn7 s L _ j hj),jQ w 333 _ (λg hg=>.inl hg)⟩
 cases a with
 |none=>cases hg
 |some x=>exact(Ai hg)▸hs x rfl
theorem St.setNames{N:Nat}{w:World}{b:Nat}{s:Cr}{L:Sls}(S:St N w b s L){l:List Int}{a:Option Addr}{c:Nat}(r:Nat->Int)(hl:Re.Lie w a l.length c (λi=>l.getD i 0))(hs:∀x,a=some x->¬own b L x.block):
  St N (w.setCells b 107 (rowOf (mat s.phys r (.slice a l.length c)) 34).toList) b {s with regs:=r,free:=l} {L with f:=.slice a l.length c}/\To b w L (w.setCells b 107 (rowOf (mat s.phys r (.slice a l.length c)) 34).toList) {L with f:=.slice a l.length c}:=by
 refine⟨St.cells S.row (S.its.setF r (l:=l) ⟨_,_,rfl,hl⟩ (λg hg h0=>?_)) 107 (λj hj=>zhy s L r _ l j hj),zdu w 107 _ (λg hg=>.inl hg)⟩
 cases a with
 |none=>cases hg
 |some x=>exact(Ai hg)▸hs x rfl
theorem Its.same{N:Nat}{w:World}{b:Nat}{s s':Cr}{L:Sls}(h:Its N w b s L)(h1:s'.coms=s.coms)(h2:s'.under=s.under)(h3:s'.asked=s.asked)(h4:s'.n=s.n)(h5:s'.f=s.f)(h6:s'.free=s.free)(h7:s'.slots=s.slots)(h8:s'.scr=s.scr):Its N w b s' L:=by
 refine⟨by rw[h1];exact h.ic,by rw[h2];exact h.iu,by rw[h3];exact h.ia,by rw[h4,h5];exact h.im,by rw[h6];exact h.ifr,by rw[h7];exact h.isl,by rw[h8];exact h.ir,by rw[h4];exact h.sm,by rw[h6];exact h.sf,by rw[h7];exact h.ss,by rw[h8];exact h.sr,h.base,h.tb,h.tb2,h.g1,h.g2,h.nN⟩
theorem St.setTb{N:Nat}{w:World}{b:Nat}{s:Cr}{L:Sls}(S:St N w b s L)(t:Tb):St N (w.setCells b 43 (rowOf (tat t) 64).toList) b {s with tb:=t} L/\To b w L (w.setCells b 43 (rowOf (tat t) 64).toList) L:=
 ⟨St.cells (s:={s with tb:=t}) S.row (S.its.same rfl rfl rfl rfl rfl rfl rfl rfl) 43 (λj hj=>zod s L t j hj),zdu w 43 _ (λg hg=>.inl hg)⟩
theorem St.setHart{N:Nat}{w:World}{b:Nat}{s:Cr}{L:Sls}(S:St N w b s L)(R:Nat->Int)(pc st ca:Int):St N (w.setCells b 4 (rowOf (hat R pc st ca) 35).toList) b {s with R:=R,pc:=pc,st:=st,ca:=ca} L/\To b w L (w.setCells b 4 (rowOf (hat R pc st ca) 35).toList) L:=
 ⟨St.cells (s:={s with R:=R,pc:=pc,st:=st,ca:=ca}) S.row (S.its.same rfl rfl rfl rfl rfl rfl rfl rfl) 4 (λj hj=>zjP s L R pc st ca j hj),zdu w 4 _ (λg hg=>.inl hg)⟩
theorem St.setMem{N:Nat}{w:World}{b:Nat}{s:Cr}{L:Sls}(S:St N w b s L){f:Nat->Int}{a:Option Addr}{c:Nat}(hl:Bys w a s.n c f)(hs:∀x,a=some x->¬own b L x.block):
  St N (w.setCell ⟨b,39,none⟩ (.slice a s.n c)) b {s with f:=f} {L with m:=.slice a s.n c}/\To b w L (w.setCell ⟨b,39,none⟩ (.slice a s.n c)) {L with m:=.slice a s.n c}:=by
 refine⟨St.cell S.row (S.its.setM (f:=f) ⟨_,_,rfl,hl⟩ (λg hg h0=>?_)) 39 _ (λj hj=>zpG s L _ j hj),jQ w 39 _ (λg hg=>.inl hg)⟩
 cases a with
 |none=>cases hg
 |some x=>exact(Ai hg)▸hs x rfl
theorem St.setCyc{N:Nat}{w:World}{b:Nat}{s:Cr}{L:Sls}(S:St N w b s L)(x:Int):St N (w.setCell ⟨b,40,none⟩ (.int .i64 x)) b {s with cyc:=x} L/\To b w L (w.setCell ⟨b,40,none⟩ (.int .i64 x)) L:=
 ⟨St.cell (s:={s with cyc:=x}) S.row (S.its.same rfl rfl rfl rfl rfl rfl rfl rfl) 40 _ (λj hj=>zl5 s L x j hj),jQ w 40 _ (λg hg=>.inl hg)⟩
theorem St.setTak{N:Nat}{w:World}{b:Nat}{s:Cr}{L:Sls}(S:St N w b s L)(x:Int):St N (w.setCell ⟨b,41,none⟩ (.int .i64 x)) b {s with tak:=x} L/\To b w L (w.setCell ⟨b,41,none⟩ (.int .i64 x)) L:=
 ⟨St.cell (s:={s with tak:=x}) S.row (S.its.same rfl rfl rfl rfl rfl rfl rfl rfl) 41 _ (λj hj=>zl6 s L x j hj),jQ w 41 _ (λg hg=>.inl hg)⟩
theorem St.setBck{N:Nat}{w:World}{b:Nat}{s:Cr}{L:Sls}(S:St N w b s L)(x:Int):St N (w.setCell ⟨b,42,none⟩ (.int .i64 x)) b {s with bck:=x} L/\To b w L (w.setCell ⟨b,42,none⟩ (.int .i64 x)) L:=
 ⟨St.cell (s:={s with bck:=x}) S.row (S.its.same rfl rfl rfl rfl rfl rfl rfl rfl) 42 _ (λj hj=>zl7 s L x j hj),jQ w 42 _ (λg hg=>.inl hg)⟩
theorem St.setFro{N:Nat}{w:World}{b:Nat}{s:Cr}{L:Sls}(S:St N w b s L)(x:Int):St N (w.setCell ⟨b,337,none⟩ (.int .u32 x)) b {s with fro:=x} L/\To b w L (w.setCell ⟨b,337,none⟩ (.int .u32 x)) L:=
 ⟨St.cell (s:={s with fro:=x}) S.row (S.its.same rfl rfl rfl rfl rfl rfl rfl rfl) 337 _ (λj hj=>zl8 s L x j hj),jQ w 337 _ (λg hg=>.inl hg)⟩
theorem St.setOpn{N:Nat}{w:World}{b:Nat}{s:Cr}{L:Sls}(S:St N w b s L)(x:Bool):St N (w.setCell ⟨b,338,none⟩ (.bool x)) b {s with opn:=x} L/\To b w L (w.setCell ⟨b,338,none⟩ (.bool x)) L:=
 ⟨St.cell (s:={s with opn:=x}) S.row (S.its.same rfl rfl rfl rfl rfl rfl rfl rfl) 338 _ (λj hj=>zl9 s L x j hj),jQ w 338 _ (λg hg=>.inl hg)⟩
theorem St.setWd{N:Nat}{w:World}{b:Nat}{s:Cr}{L:Sls}(S:St N w b s L)(x:Nat)(hx:x<96)(v:Int):St N (w.setCell ⟨b,141+x,none⟩ (.int .u32 v)) b {s with wd:=upI s.wd x v} L/\To b w L (w.setCell ⟨b,141+x,none⟩ (.int .u32 v)) L:=
 ⟨St.cell (s:={s with wd:=upI s.wd x v}) S.row (S.its.same rfl rfl rfl rfl rfl rfl rfl rfl) (141+x) _ (λj hj=>zob s L x v (by omega) (by omega) j hj),jQ w (141+x) _ (λg hg=>.inl hg)⟩
theorem St.setTh{N:Nat}{w:World}{b:Nat}{s:Cr}{L:Sls}(S:St N w b s L)(x:Nat)(hx:x<96)(v:Bool):St N (w.setCell ⟨b,237+x,none⟩ (.bool v)) b {s with th:=upB s.th x v} L/\To b w L (w.setCell ⟨b,237+x,none⟩ (.bool v)) L:=
 ⟨St.cell (s:={s with th:=upB s.th x v}) S.row (S.its.same rfl rfl rfl rfl rfl rfl rfl rfl) (237+x) _ (λj hj=>zoc s L x v (by omega) (by omega) j hj),jQ w (237+x) _ (λg hg=>.inl hg)⟩
structure Nms(s:Cr):Prop where
 low:33<=s.phys
 high:s.phys<=96
 dis:Dis s.phys s.regs s.free
theorem zbs{l:List Int}{i:Nat}(h:i<l.length):l.getD i 0∈l:=by
 rw[AQ,Ab h]
 exact List.getElem_mem h
theorem Nms.may{s:Cr}(h:Nms s):Re.Hy.MayBe s.phys s.free.length s.regs (λi=>s.free.getD i 0):=by
 refine .mk' h.low h.high h.dis.rm (λi hi=>h.dis.rf _ (zbs hi)) h.dis.inj (λi j hi hj e=>?_) (λi j hi hj e=>h.dis.apart i hi (by rw[e];exact zbs hj))
 simp only[AQ,Ab hi,Ab hj,Option.getD_some]at e
 exact(List.getElem_inj h.dis.nod).1 e
theorem Nms.idle{s:Cr}(h:Nms s){x:Int}(h0:0<=x)(h1:x<s.phys)(hf:x∉s.free)(hr:∀r,r<32->s.regs r≠x):Re.Hy.Idle s.phys s.free.length s.regs (λi=>s.free.getD i 0) x:=
 .mk' h0 h1 hr (λi hi e=>hf (by rw[<-e];exact zbs hi))
theorem Nms.rg{s:Cr}(h:Nms s):Re.Rg s.regs:=λk hk=>by
 have:=h.dis.rm k hk
 have:=h.high
 exact WalkArith.wf_i64 (by omega)
theorem keyed{X G:Prop}(h:X->G)(x:X):G:=h x
structure DonAt(l:List Sl)(q:Int)(m:Nat):Prop where
 first:First (waits q) l m
 lt:m<l.length
 is:donS l q=l.set m (q,true)
theorem zoD{N:Nat}{w:World}{b:Nat}{s:Cr}{L:Sls}(S:St N w b s L)(q:Int)(m:Nat)(hd:DonAt s.slots q m)(hn:s.slots.length<=100000)(W:World)(hW:Below w.heap.size w W):
  Calls prog 124 #[L.s,.int .i64 q] W λe w'=>(∃a c,e=.returned (.tuple #[.slice a (donS s.slots q).length c,.bool true])/\LC w' a (donS s.slots q).length c 2 (scs (donS s.slots q))/\FarC W.heap.size a)/\Below W.heap.size W w':=by
 obtain⟨a,c,e,hl⟩:=S.its.isl
 rw[e,hd.is]
 exact zg7 a s.slots.length c q s.slots m hd.first hd.lt (by omega) W (hl.below (Aa _) hW)
theorem zpY{N:Nat}{w:World}{b:Nat}{s:Cr}{L:Sls}(S:St N w b s L)(hw:(s.slots.length:Int)<s.win)(hm:First (above s.tak) s.slots s.slots.length)(hn:s.slots.length<=100000)(W:World)(hW:Below w.heap.size w W):
  Calls prog 91 #[L.s,.int .i64 s.win,.int .i64 s.tak] W λe w'=>(∃a c,e=.returned (.tuple #[.slice a (s.slots++[(s.tak,false)]).length c,.bool true])/\LC w' a (s.slots++[(s.tak,false)]).length c 2 (scs (s.slots++[(s.tak,false)]))/\FarC W.heap.size a)/\Below W.heap.size W w':=by
 obtain⟨a,c,e,hl⟩:=S.its.isl
 rw[e]
 exact zg6 a s.slots.length c s.win s.tak hw s.slots hm (by omega) W (hl.below (Aa _) hW)
theorem zfR{N:Nat}{w:World}{b:Nat}{s:Cr}{L:Sls}(S:St N w b s L)(hw:s.win<=(s.slots.length:Int))(W:World):
  Calls prog 91 #[L.s,.int .i64 s.win,.int .i64 s.tak] W λe w'=>(∃a c,e=.returned (.tuple #[.slice a 0 c,.bool false]))/\Below W.heap.size W w':=by
 obtain⟨a,c,e,hl⟩:=S.its.isl
 rw[e]
 refine(zfr a s.slots.length c s.win s.tak hw W).mono ?_
 rintro e w' ⟨⟨a',c',h1,_⟩,h2⟩
 exact⟨⟨a',c',h1⟩,h2⟩
theorem cCut{N:Nat}{w:World}{b:Nat}{s:Cr}{L:Sls}(S:St N w b s L)(q:Int)(hn:s.slots.length<=100000)(W:World)(hW:Below w.heap.size w W):
  Calls prog 161 #[L.s,.int .i64 q] W λe w'=>zb7 W (vo s.slots q) (cutS s.slots q) e w':=by
 obtain⟨a,c,e,hl⟩:=S.its.isl
 rw[e]
 exact zjO a s.slots.length c q s.slots (by omega) W (hl.below (Aa _) hW)
theorem cPop{N:Nat}{w:World}{b:Nat}{s:Cr}{L:Sls}(S:St N w b s L)(most:Int)(m:Nat)(hm:Goes s.slots most m)(hn:s.slots.length<=100000)(W:World)(hW:Below w.heap.size w W):
  Calls prog 50 #[L.s,.int .i64 most] W λe w'=>zb7 W (s.slots.drop m) (jW s.slots m) e w':=by
 obtain⟨a,c,e,hl⟩:=S.its.isl
 rw[e]
 exact zjt a s.slots.length c most s.slots m hm (by omega) W (hl.below (Aa _) hW)
abbrev mpL(s:Cr)(L:Sls):List Value:=(rowOf (mat s.phys s.regs L.f) 34).toList
theorem St.names{N:Nat}{w:World}{b:Nat}{s:Cr}{L:Sls}(S:St N w b s L):w.rangeAt b 107 (mpL s L):=jB S.row (by omega) (zjQ s L)
theorem jg(P:Int)(r:Nat->Int)(v:Value):(prog.info? 59).map (·.size)=some (rowOf (mat P r v) 34).toList.length:=by
 rw[Re.size_map,Aj,ze]
theorem zmp(P:Int)(r:Nat->Int)(a:Option Addr)(n c:Nat)(i:Nat):(mat P r (.slice a n c) i).oneCell'=true:=by
 unfold mat
 split
 ·rfl
 ·split<;>rfl
theorem kK(P:Int)(r:Nat->Int)(a:Option Addr)(n c:Nat):(rowOf (mat P r (.slice a n c)) 34).all (·.oneCell')=true:=jf _ _ λi _=>zmp _ _ _ _ _ i
theorem zpZ{N:Nat}{w:World}{b:Nat}{s:Cr}{L:Sls}(S:St N w b s L)(hN:Nms s)(k:Nat)(k0:k≠0)(k1:k<32)(hf:s.free≠[])(W:World)(hW:Below w.heap.size w W):
  Calls prog 137 #[.agg (mpL s L).toArray,.int .i64 k] W λe w'=>(∃a c,e=.returned (.tuple #[.agg (rowOf (mat s.phys (up s.regs k (s.free.headD 0)) (.slice a s.free.tail.length c)) 34),.int .i64 (s.free.headD 0),.int .i64 (s.regs k),.bool true])/\Re.Lie w' a s.free.tail.length c (λi=>s.free.tail.getD i 0)/\FarC W.heap.size a)/\Below W.heap.size W w':=by
 obtain⟨a,c,e,hl⟩:=S.its.ifr
 have hlen:0<s.free.length:=List.length_pos_iff.2 hf
 have hT:(mpL s L).toArray=mcs s.phys s.regs (.slice a s.free.length c):=by rw[xV,<-e]
 refine(Re.zg0 (mpL s L).toArray s.phys s.regs (λi=>s.free.getD i 0) a s.free.length c hT hN.may (by rw[hT];rfl) (by rw[hT];rfl) hN.rg k (by omega) k1 hlen W (hl.below (Aa _) hW)).mono ?_
 rintro e' w' ⟨⟨a',c',rfl,h2,h3⟩,h4⟩
 have e1:s.free.length-1=s.free.tail.length:=by simp
 have e2:s.free.getD 0 0=s.free.headD 0:=by cases s.free<;>rfl
 have e3:∀i,tl (λi=>s.free.getD i 0) i=s.free.tail.getD i 0:=λi=>by
  cases s.free with
  |nil=>rfl
  |cons x l=>rfl
 refine⟨⟨a',c',?_,?_,h3⟩,h4⟩
 ·rw[xV,e1]
  simp only[e2]
 ·rw[<-e1]
  exact h2.congr λi _=>e3 i
theorem zp0{N:Nat}{w:World}{b:Nat}{s:Cr}{L:Sls}(S:St N w b s L)(hN:Nms s)(k:Nat)(k0:k≠0)(k1:k<32)(x:Int)(x0:0<=x)(x1:x<s.phys)(hf:x∉s.free)(hr:∀r,r<32->s.regs r≠x)(W:World)(hW:Below w.heap.size w W):
  Calls prog 162 #[.agg (mpL s L).toArray,.int .i64 k,.int .i64 x] W λe w'=>(∃a c,e=.returned (.tuple #[.agg (rowOf (mat s.phys (up s.regs k x) (.slice a (s.regs k::s.free).length c)) 34),.bool true])/\Re.Lie w' a (s.regs k::s.free).length c (λi=>(s.regs k::s.free).getD i 0)/\FarC W.heap.size a)/\Below W.heap.size W w':=by
 obtain⟨a,c,e,hl⟩:=S.its.ifr
 have hT:(mpL s L).toArray=mcs s.phys s.regs (.slice a s.free.length c):=by rw[xV,<-e]
 refine(Re.zhW (mpL s L).toArray s.phys s.regs (λi=>s.free.getD i 0) a s.free.length c hT hN.may (by rw[hT];rfl) (by rw[hT];rfl) hN.rg k (by omega) k1 x (hN.idle x0 x1 hf hr) W (hl.below (Aa _) hW)).mono ?_
 rintro e' w' ⟨⟨a',c',rfl,h2,h3⟩,h4⟩
 refine⟨⟨a',c',?_,?_,h3⟩,h4⟩
 ·rw[xV,Za]
 ·rw[Za]
  exact h2.congr λi _=>by
   unfold hd
   cases i with
   |zero=>rfl
   |succ i=>simp
theorem zoE{N:Nat}{w:World}{b:Nat}{s:Cr}{L:Sls}(S:St N w b s L)(hN:Nms s)(x:Int)(x0:0<=x)(x1:x<s.phys)(hf:x∉s.free)(hr:∀r,r<32->s.regs r≠x)(W:World)(hW:Below w.heap.size w W):
  Calls prog 79 #[.agg (mpL s L).toArray,.int .i64 x] W λe w'=>(∃a c,e=.returned (.tuple #[.agg (rowOf (mat s.phys s.regs (.slice a (s.free++[x]).length c)) 34),.bool true])/\Re.Lie w' a (s.free++[x]).length c (λi=>(s.free++[x]).getD i 0)/\FarC W.heap.size a)/\Below W.heap.size W w':=by
 obtain⟨a,c,e,hl⟩:=S.its.ifr
 have hT:(mpL s L).toArray=mcs s.phys s.regs (.slice a s.free.length c):=by rw[xV,<-e]
 refine(Re.zg1 (mpL s L).toArray s.phys s.regs (λi=>s.free.getD i 0) a s.free.length c hT hN.may (by rw[hT];rfl) (by rw[hT];rfl) hN.rg x (hN.idle x0 x1 hf hr) W (hl.below (Aa _) hW)).mono ?_
 rintro e' w' ⟨⟨a',c',rfl,h2,h3⟩,h4⟩
 refine⟨⟨a',c',?_,?_,h3⟩,h4⟩
 ·rw[xV,Ay]
  rfl
 ·rw[Ay]
  exact h2.congr λi hi=>by
   unfold en
   simp only[AQ]
   split
   ·rw[Az (by omega)]
   ·rw[Ar (by omega),show i-s.free.length=0 by omega]
    rfl
theorem zE{w w1 w2:World}{row:Option Nat}(h:w.grownBy w1 row)(k:w1.grownBy w2 row):w.grownBy w2 row:=
 ⟨k.os.trans h.os,k.tape.trans h.tape,k.output.trans h.output,Ao h.size k.size,λg hg hn=>(k.block g (AJ hg h.size) hn).trans (h.block g hg hn)⟩
theorem kL(c:Cm):(prog.info? 68).map (·.size)=some (cC c).size:=za
theorem vV(c:Cm):(cC c).all (·.oneCell')=true:=(qZ c).2
theorem Bx.there{w:World}{q:Nat}{o:Dg}(h:Bx w q o)(j m:Nat)(hj:j+m<=28):w.there q j m:=λi hi=>by
 refine⟨?_,AH _ _ _ _ _ h⟩
 rw[Av _ _ _ _ _ _ h,Array.getElem?_eq_getElem (by simp[zH];omega)]
 rfl
theorem St.frozen{N:Nat}{w:World}{b:Nat}{s:Cr}{L:Sls}(S:St N w b s L)(i:Nat):w.frozen? ⟨b,i,none⟩=false:=AH _ _ _ _ _ S.row
theorem St.there{N:Nat}{w:World}{b:Nat}{s:Cr}{L:Sls}(S:St N w b s L)(j m:Nat)(hj:j+m<=339):w.there b j m:=xi S.row hj
theorem Apt.setNames{b q:Nat}{s:Cr}{L:Sls}(A:Apt b q s L){l:List Int}{r:Nat->Int}{a:Option Addr}{c:Nat}{B:Nat}(hf:FarC B a)(hq:q<B):Apt b q {s with regs:=r,free:=l} {L with f:=.slice a l.length c}:=by
 refine⟨A.o,A.m,λg hg _=>?_,A.sl,A.r,A.g1,A.g2⟩
 cases a with
 |none=>cases hg
 |some x=>have:=hf x rfl;have:x.block=g:=Ai hg;omega
theorem ja{N:Nat}{w:World}{b:Nat}{s:Cr}{L:Sls}(S:St N w b s L){B:Nat}(hB:w.heap.size<=B){a:Option Addr}(hf:FarC B a):∀x,a=some x->¬own b L x.block:=λx hx ho=>by
 have:=hf x hx
 have:=qR S ho
 omega
theorem zhX{N:Nat}{w:World}{b q:Nat}{s:Cr}{L:Sls}{o:Dg}(S:St N w b s L)(B:Bx w q o)(A:Apt b q s L)(k:Int)(m:Nat)(hd:DonAt s.slots o.seq m)(hn:s.slots.length<=100000):
  Calls prog 96 #[.pointer (some ⟨b,0,none⟩),.pointer (some ⟨q,0,none⟩),.int .i64 k] w λe w'=>e=.returned (.tuple #[])/\∃L',St N w' b (yC s o k).1 L'/\Bx w' q (yC s o k).2/\Toq b q w L w' L':=by
 have c1:=zl B 1 (v:=.int .u32 o.pc) rfl
 have CT:=λW=>zpV o.pc k W
 have HS:Hid (St N w b s L):=S
 have HB:Hid (Bx w q o):=B
 have HA:Hid (Apt b q s L):=A
 have HD:Hid (DonAt s.slots o.seq m):=hd
 obtain⟨c,hc⟩:∃c,c=qn o.pc k:=⟨_,rfl⟩
 have HC:Hid (c=qn o.pc k):=hc
 rw[<-hc]at CT
 clear S B A hd hc
 go_enter func96,ntmps96
 go_wp2_with fail
 refine(CT _).mono ?_
 rintro e V1 ⟨rfl,hk⟩
 have S1:Hid (St N V1 b s L):=HS.out.below hk
 have B1:Hid (Bx V1 q o):=HB.out.below hk
 have T1:Hid (Toq b q w L V1 L):=(zf L hk).q
 have c7:=zl B1.out 7 (v:=.int .i64 o.st) rfl
 have f7:=qA B1.out 7
 have B2:Hid (Bx (V1.setCell ⟨q,7,none⟩ (.int .i64 2)) q {o with st:=2}):=B1.out.put 7 _ (by omega) rfl
 clear hk c1 CT HS HB
 go_upto_region 1 with(refine Zr rfl 68 _ _ rfl q 17 (cC c) rfl rfl (B2.out.there 17 11 (by omega)) (kL c) (vV c) ?_)
 have B3:Hid (Bx ((V1.setCell ⟨q,7,none⟩ (.int .i64 2)).setCells q 17 (cC c).toList) q {o with st:=2,c:=c}):=B2.out.puts 17 _ (by simp[cC]) rfl
 have hg:V1.grownBy ((V1.setCell ⟨q,7,none⟩ (.int .i64 2)).setCells q 17 (cC c).toList) (some q):=zE (qc V1 q 7 _) (zF _ q 17 _)
 have S3:Hid (St N ((V1.setCell ⟨q,7,none⟩ (.int .i64 2)).setCells q 17 (cC c).toList) b s L):=S1.out.other hg HA.out
 have T3:Hid (Toq b q w L ((V1.setCell ⟨q,7,none⟩ (.int .i64 2)).setCells q 17 (cC c).toList) L):=T1.out.trans (zaK hg)
 clear hg S1 B1 T1 B2 c7 f7
 generalize (V1.setCell ⟨q,7,none⟩ (.int .i64 2)).setCells q 17 (cC c).toList=V at*
 obtain⟨a,cc,ea,hl0⟩:=S3.out.its.isl
 have k333:V.cell? ⟨b,333,none⟩=some (.slice a s.slots.length cc):=(zd S3.out.row (by omega)).trans (congrArg some ea)
 have CD:Hid (∀W,Below V.heap.size V W->Calls prog 124 #[.slice a s.slots.length cc,.int .i64 o.seq] W λe w'=>(∃a c,e=.returned (.tuple #[.slice a (donS s.slots o.seq).length c,.bool true])/\LC w' a (donS s.slots o.seq).length c 2 (scs (donS s.slots o.seq))/\FarC W.heap.size a)/\Below W.heap.size W w'):=λW hW=>by
  have:=zoD S3.out o.seq m HD.out hn W hW
  rw[ea]at this
  exact this
 clear hl0
 refine zu (S:=λw'=>w'.cell? ⟨b,333,none⟩=some (.slice a s.slots.length cc)/\w'.cell? ⟨q,0,none⟩=some (.int .i64 o.seq)) [15] (by kernel_rfl) (⟨k333,zl B3.out 0 rfl⟩) (λhH=>?_)
 refine tU 0 (.pointer (some ⟨b,0,none⟩)) ?_;go_simp
 refine tU 1 (.pointer (some ⟨b,0,none⟩)) ?_;go_simp
 refine tU 2 (.pointer (some ⟨b,0,none⟩)) ?_;go_simp
 refine tU 3 (.pointer (some ⟨b,333,none⟩)) ?_;go_simp
 refine tA 4 (.slice a s.slots.length cc) ?_;go_simp
 refine tU 5 (.pointer (some ⟨q,0,none⟩)) ?_;go_simp
 refine tU 6 (.pointer (some ⟨q,0,none⟩)) ?_;go_simp
 refine tU 7 (.pointer (some ⟨q,0,none⟩)) ?_;go_simp
 refine tB 8 (.int .i64 o.seq) ?_;go_simp
 refine zC 9 rfl (λK hK=>?_)
 go_simp
 refine(CD.out _ ((Af _ _).drew)).mono ?_
 rintro e V3 ⟨⟨a3,c3,rfl,hl3,hf3⟩,hk⟩
 have HK:Hid (Below V.heap.size V V3):=zg hk (Aa _)
 have HL3:Hid (LC V3 a3 (donS s.slots o.seq).length c3 2 (scs (donS s.slots o.seq))/\FarC V.heap.size a3):=⟨hl3,hf3⟩
 clear hl3 hf3
 go_wp2_with fail
 refine hK.out _ _ (⟨zn hk (hH.1),zn hk (hH.2)⟩) (λhN=>?_)
 clear hK K hH
 have hH:=hN
 clear hN
 try go_simp
 have S4:Hid (St N V3 b s L):=S3.out.below HK.out
 have cA:=hH.1
 have fA:=S4.out.frozen 333
 refine tU 10 (.tuple #[.slice a3 (donS s.slots o.seq).length c3,.bool true]) ?_;go_simp
 refine tU 11 (.slice a3 (donS s.slots o.seq).length c3) ?_;go_simp
 refine tU 12 (.bool true) ?_;go_simp
 refine tU 13 (.pointer (some ⟨b,0,none⟩)) ?_;go_simp
 refine tU 14 (.pointer (some ⟨b,333,none⟩)) ?_;go_simp
 refine zL 15 rfl (λK hK=>?_)
 go_simp
 refine hK.out _ _ ?_
 clear hK K
 try go_simp
 refine zG (by kernel_rfl) ?_ _
 have B4:Hid (Bx V3 q {o with st:=2,c:=c}):=B3.out.below HK.out
 obtain⟨S5,T5⟩:=S4.out.setSlots HL3.out.1 (ja S3.out (Aa _) HL3.out.2)
 have B5:Hid (Bx (V3.setCell ⟨b,333,none⟩ (.slice a3 (donS s.slots o.seq).length c3)) q {o with st:=2,c:=c}):=B4.out.to T5 HA.out.o
 have T6:Hid (Toq b q w L (V3.setCell ⟨b,333,none⟩ (.slice a3 (donS s.slots o.seq).length c3)) {L with s:=.slice a3 (donS s.slots o.seq).length c3}):=(T3.out.trans (zf L HK.out).q).trans T5.q
 have S6:Hid (St N (V3.setCell ⟨b,333,none⟩ (.slice a3 (donS s.slots o.seq).length c3)) b {s with slots:=donS s.slots o.seq} {L with s:=.slice a3 (donS s.slots o.seq).length c3}):=S5
 have HO:Hid (¬own b {L with s:=.slice a3 (donS s.slots o.seq).length c3} q):=HA.out.o
 clear S5 T5 S4 T3 S3 HK HL3 B3 B4 HD CD hH cA fA k333 HA ea
 generalize V3.setCell ⟨b,333,none⟩ (.slice a3 (donS s.slots o.seq).length c3)=V5 at*
 generalize ({L with s:=.slice a3 (donS s.slots o.seq).length c3}:Sls)=L5 at*
 have cA:V5.cell? ⟨b,338,none⟩=some (.bool s.opn):=(zd S6.out.row (by omega)).trans rfl
 have fA:=S6.out.frozen 338
 go_wp2_with fail
 refine AK (AF rfl _ _ _) rfl ⟨rfl,L5,?_⟩
 obtain⟨S7,T7⟩:=S6.out.setOpn false
 have:=HC.out
 subst this
 exact⟨S7,B5.out.to T7 HO.out,T6.out.trans T7.q⟩
end Go.Proofs.YtpiohehijkpghacGreatDoor.Co
namespace Go.Proofs.YtpiohehijkpghacGreatDoor.Co
open Go.RowKit
open Hy
open Wi Od Re.Hy
open Gu.Hy (Tb tcs)
theorem St.dr{N:Nat}{w:World}{b:Nat}{s:Cr}{L:Sls}(S:St N w b s L):St N w.drew b s L:=S.below ((Af _ _).drew)
theorem To.dr{b:Nat}{w w':World}{L L':Sls}(h:To b w L w' L'):To b w L w'.drew L':=⟨h.os,h.tape,h.output,h.size,h.block,h.fresh⟩
theorem Toq.dr{b q:Nat}{w w':World}{L L':Sls}(h:Toq b q w L w' L'):Toq b q w L w'.drew L':=⟨h.os,h.tape,h.output,h.size,h.block,h.fresh⟩
theorem Bx.dr{w:World}{q:Nat}{o:Dg}(h:Bx w q o):Bx w.drew q o:=h
theorem zj2{w w':World}{row:Option Nat}(h:w.grownBy w' row):w.grownBy w'.drew row:=⟨h.os,h.tape,h.output,h.size,h.block⟩
theorem St.reg{N:Nat}{w:World}{b:Nat}{s:Cr}{L:Sls}(S:St N w b s L)(x:Nat)(hx:x<32):w.cell? ⟨b,108+x,none⟩=some (.int .i64 (s.regs x)):=by
 refine(zd S.row (by omega)).trans (congrArg some ?_)
 unfold kat
 rw[if_neg (by omega),if_neg (by omega),if_neg (by omega),if_neg (by omega),if_pos (by omega)]
 unfold mat
 rw[if_neg (by omega),if_pos (by omega)]
 rw[show 108+x-107-1=x by omega]
theorem St.thr{N:Nat}{w:World}{b:Nat}{s:Cr}{L:Sls}(S:St N w b s L)(x:Nat)(hx:x<96):w.cell? ⟨b,237+x,none⟩=some (.bool (s.th (x:Int))):=by
 refine(zd S.row (by omega)).trans (congrArg some ?_)
 unfold kat
 rw[if_neg (by omega),if_neg (by omega),if_neg (by omega),if_neg (by omega),if_neg (by omega),if_neg (by omega),if_pos (by omega)]
 rw[show 237+x-237=x by omega]
theorem St.wrd{N:Nat}{w:World}{b:Nat}{s:Cr}{L:Sls}(S:St N w b s L)(x:Nat)(hx:x<96):w.cell? ⟨b,141+x,none⟩=some (.int .u32 (s.wd (x:Int))):=by
 refine(zd S.row (by omega)).trans (congrArg some ?_)
 unfold kat
 rw[if_neg (by omega),if_neg (by omega),if_neg (by omega),if_neg (by omega),if_neg (by omega),if_pos (by omega)]
 rw[show 141+x-141=x by omega]
theorem Bx.ab{w:World}{q:Nat}{o:Dg}(h:Bx w q o)(x y:Int):Bx ((w.setCell ⟨q,8,none⟩ (.int .i64 x)).setCell ⟨q,9,none⟩ (.int .i64 y)) q {o with a:=x,b:=y}:=
 Bx.put (o:={o with a:=x}) (Bx.put h 8 _ (by omega) rfl) 9 _ (by omega) rfl
theorem Bx.tos{w:World}{q:Nat}{o:Dg}(h:Bx w q o)(x y:Int):Bx ((w.setCell ⟨q,11,none⟩ (.int .i64 x)).setCell ⟨q,12,none⟩ (.int .i64 y)) q (Dg.mk o.seq o.pc o.i o.st o.a o.b o.rd x y o.next o.gs o.late o.car o.c):=
 Bx.put (o:=(Dg.mk o.seq o.pc o.i o.st o.a o.b o.rd x o.old o.next o.gs o.late o.car o.c)) (Bx.put h 11 _ (by omega) rfl) 12 _ (by omega) rfl
theorem Apt.th{b q:Nat}{s:Cr}{L:Sls}(h:Apt b q s L)(t:Int->Bool):Apt b q {s with th:=t} L:=⟨h.o,h.m,h.f,h.sl,h.r,h.g1,h.g2⟩
theorem zeT(w:World)(q i j:Nat)(u v:Value):w.grownBy ((w.setCell ⟨q,i,none⟩ u).setCell ⟨q,j,none⟩ v) (some q):=zE (qc w q i u) (qc _ q j v)
theorem zhY{N:Nat}{w:World}{b q:Nat}{s:Cr}{L:Sls}{o:Dg}(S:St N w b s L)(B:Bx w q o)(A:Apt b q s L)(hN:Nms s)(hr:o.rd<32)(hra:ra o.i<32)(hrb:rb o.i<32)(hf:o.rd≠0->s.free≠[]):
  Calls prog 95 #[.pointer (some ⟨b,0,none⟩),.pointer (some ⟨q,0,none⟩)] w λe w'=>e=.returned (.tuple #[])/\∃L',St N w' b (namO s o).1 L'/\Bx w' q (namO s o).2/\Apt b q (namO s o).1 L'/\Toq b q w L w' L':=by
 have CR:=λW=>zaG o.i W
 have HS:Hid (St N w b s L):=S
 have HB:Hid (Bx w q o):=B
 have HA:Hid (Apt b q s L):=A
 obtain⟨r1,e1⟩:∃r1:Cr,r1=(namO s o).1:=⟨_,rfl⟩
 obtain⟨r2,e2⟩:∃r2:Dg,r2=(namO s o).2:=⟨_,rfl⟩
 have E1:Hid (r1=(namO s o).1):=e1
 have E2:Hid (r2=(namO s o).2):=e2
 rw[<-e1,<-e2]
 obtain⟨x,hx⟩:∃x,x=ra o.i:=⟨_,rfl⟩
 obtain⟨y,hy⟩:∃y,y=rb o.i:=⟨_,rfl⟩
 have HX:Hid (x=ra o.i):=hx
 have HY:Hid (y=rb o.i):=hy
 rw[<-hx]at CR hra
 rw[<-hy]at CR hrb
 have hqb:q≠b:=λh=>A.o (.inl h)
 clear S B A e1 e2 hx hy
 go_enter func95,ntmps95
 go_wp2_with(refine Ax rfl 78 _ rfl q 2 rfl (ivL o.i).toList _ (xl HB.out) underlying78 rfl (qP _) ?_)
 refine(CR _).mono ?_
 rintro e V1 ⟨rfl,hk⟩
 have S1:Hid (St N V1 b s L):=HS.out.below hk
 have B1:Hid (Bx V1 q o):=HB.out.below hk
 have T1:Hid (Toq b q w L V1 L):=(zf L hk).q
 clear hk CR HS HB
 have kx:=S1.out.reg x hra
 have ky:=S1.out.reg y hrb
 have c8:=zl B1.out 8 (v:=.int .i64 o.a) rfl
 have c9:=zl B1.out 9 (v:=.int .i64 o.b) rfl
 have f8:=qA B1.out 8
 have f9:=qA B1.out 9
 have x0:0<=(x:Int):=by omega
 have x1:(x:Int)<32:=by omega
 have y0:0<=(y:Int):=by omega
 have y1:(y:Int)<32:=by omega
 go_upto_region 1 with fail
 refine zu (S:=λw'=>w'.cell? ⟨b,108+x,none⟩=some (.int .i64 (s.regs x))/\w'.cell? ⟨b,108+y,none⟩=some (.int .i64 (s.regs y))) [18,21] (by kernel_rfl) (⟨kx,ky⟩) (λhH=>?_)
 refine tU 0 (.pointer (some ⟨q,0,none⟩)) ?_;go_simp
 refine tU 1 (.pointer (some ⟨q,0,none⟩)) ?_;go_simp
 refine tU 2 (.pointer (some ⟨b,0,none⟩)) ?_;go_simp
 refine tU 3 (.int .i64 (x:Int)) ?_;go_simp
 refine tU 4 (.pointer (some ⟨b,0,none⟩)) ?_;go_simp
 refine tU 5 (.pointer (some ⟨b,107,none⟩)) ?_;go_simp
 refine tU 6 (.pointer (some ⟨b,108,none⟩)) ?_;go_simp
 refine tU 7 (.pointer (some ⟨b,108+x,none⟩)) ?_;go_simp
 refine tA 8 (.int .i64 (s.regs x)) ?_;go_simp
 refine tU 9 (.pointer (some ⟨b,0,none⟩)) ?_;go_simp
 refine tU 10 (.int .i64 (y:Int)) ?_;go_simp
 refine tU 11 (.pointer (some ⟨b,0,none⟩)) ?_;go_simp
 refine tU 12 (.pointer (some ⟨b,107,none⟩)) ?_;go_simp
 refine tU 13 (.pointer (some ⟨b,108,none⟩)) ?_;go_simp
 refine tU 14 (.pointer (some ⟨b,108+y,none⟩)) ?_;go_simp
 refine tB 15 (.int .i64 (s.regs y)) ?_;go_simp
 refine tU 16 (.pointer (some ⟨q,0,none⟩)) ?_;go_simp
 refine tU 17 (.pointer (some ⟨q,8,none⟩)) ?_;go_simp
 refine zL 18 rfl (λK hK=>?_)
 go_simp
 refine hK.out _ _ ?_
 clear hK K
 try go_simp
 refine tV 19 (.pointer (some ⟨q,0,none⟩)) rfl (λh=>absurd h (by decide)) ?_;go_simp
 refine tV 20 (.pointer (some ⟨q,9,none⟩)) rfl (λh=>absurd h (by decide)) ?_;go_simp
 refine zL 21 rfl (λK hK=>?_)
 go_simp
 refine hK.out _ _ ?_
 clear hK K
 try go_simp
 refine zG (by kernel_rfl) ?_ _
 have B2:Hid (Bx ((V1.setCell ⟨q,8,none⟩ (.int .i64 (s.regs x))).setCell ⟨q,9,none⟩ (.int .i64 (s.regs y))) q {o with a:=s.regs x,b:=s.regs y}):=B1.out.ab _ _
 have hg:=zeT V1 q 8 9 (.int .i64 (s.regs x)) (.int .i64 (s.regs y))
 have S2:Hid (St N ((V1.setCell ⟨q,8,none⟩ (.int .i64 (s.regs x))).setCell ⟨q,9,none⟩ (.int .i64 (s.regs y))) b s L):=S1.out.other hg HA.out
 have T2:Hid (Toq b q w L ((V1.setCell ⟨q,8,none⟩ (.int .i64 (s.regs x))).setCell ⟨q,9,none⟩ (.int .i64 (s.regs y))) L):=T1.out.trans (zaK hg)
 clear hg hH kx ky c8 c9 f8 f9 S1 B1 T1 x0 x1 y0 y1
 generalize (V1.setCell ⟨q,8,none⟩ (.int .i64 (s.regs x))).setCell ⟨q,9,none⟩ (.int .i64 (s.regs y))=V2 at*
 have E3:Hid (namO s o=if o.rd=0 then(s,{o with a:=s.regs x,b:=s.regs y})else({s with regs:=up s.regs o.rd (s.free.headD 0),free:=s.free.tail,th:=upB s.th (s.free.headD 0) false},(Dg.mk o.seq o.pc o.i o.st (s.regs x) (s.regs y) o.rd (s.free.headD 0) (s.regs o.rd) o.next o.gs o.late o.car o.c))):=by show _=_;unfold namO;rw[HX.out,HY.out]
 clear HX HY
 obtain⟨k,hk⟩:∃k,k=o.rd:=⟨_,rfl⟩
 rw[<-hk]at hr hf
 have HK:Hid (k=o.rd):=hk
 have c10:V2.cell? ⟨q,10,none⟩=some (.int .i64 (k:Int)):=zl B2.out 10 (by rw[hk];rfl)
 rw[<-hk]at E3
 by_cases h0:k=0
 ·have hb0:((k:Int) != 0)=false:=by simp[h0]
  have c10':V2.cell? ⟨q,10,none⟩=some (.int .i64 0):=by rw[c10,h0];rfl
  have EE:=E3.out
  rw[if_pos h0]at EE
  have F1:Hid (r1=s):=E1.out.trans (congrArg Prod.fst EE)
  have F2:Hid (r2={o with a:=s.regs x,b:=s.regs y}):=E2.out.trans ((congrArg Prod.snd EE).trans (by rw[hk]))
  clear EE E3 E1 E2 c10 hb0 hk HK h0 hf
  go_wp2_with fail
  refine AK (AF rfl _ _ _) rfl ⟨rfl,L,?_⟩
  rw[F1.out,F2.out]
  exact⟨S2.out.dr,B2.out,HA.out,T2.out.dr⟩
 ·have hb0:((k:Int) != 0)=true:=by simp[h0]
  have EE:=E3.out
  rw[if_neg h0]at EE
  have F1:Hid (r1={s with regs:=up s.regs k (s.free.headD 0),free:=s.free.tail,th:=upB s.th (s.free.headD 0) false}):=E1.out.trans (congrArg Prod.fst EE)
  have F2:Hid (r2=(Dg.mk o.seq o.pc o.i o.st (s.regs x) (s.regs y) o.rd (s.free.headD 0) (s.regs k) o.next o.gs o.late o.car o.c)):=E2.out.trans ((congrArg Prod.snd EE).trans (by rw[hk]))
  obtain⟨z,hz⟩:∃z:Nat,s.free.headD 0=(z:Int):=AI (by
   have:=hN.dis.rf
   cases hfr:s.free with
   |nil=>exact absurd hfr (hf h0)
   |cons a l=>rw[hfr]at this;exact(this a (Ag ..)).1)
  have hz1:z<96:=by
   have h1:=hN.dis.rf
   have h2:=hN.high
   cases hfr:s.free with
   |nil=>exact absurd hfr (hf h0)
   |cons a l=>
    rw[hfr]at h1 hz
    have:=(h1 a (Ag ..)).2
    have:a=(z:Int):=hz
    omega
  have CT:Hid (∀W,Below V2.heap.size V2 W->Calls prog 137 #[.agg (rowOf (mat s.phys s.regs L.f) 34),.int .i64 (k:Int)] W λe w'=>(∃a c,e=.returned (.tuple #[.agg (rowOf (mat s.phys (up s.regs k (z:Int)) (.slice a s.free.tail.length c)) 34),.int .i64 (z:Int),.int .i64 (s.regs k),.bool true])/\Re.Lie w' a s.free.tail.length c (λi=>s.free.tail.getD i 0)/\FarC W.heap.size a)/\Below W.heap.size W w'):=λW hW=>by
   have:=zpZ S2.out hN k h0 hr (hf h0) W hW
   rw[hz,Array.toArray_toList]at this
   exact this
  obtain⟨fl,hfl⟩:∃fl,fl=s.free.tail:=⟨_,rfl⟩
  rw[<-hfl]at CT
  rw[hz,<-hfl]at F1
  rw[hz]at F2
  clear EE E3 E1 E2 hk HK hf hz hN hfl
  go_upto_region 3 with fail
  refine zu (S:=λw'=>w'.rangeAt b 107 (mpL s L)/\w'.cell? ⟨q,10,none⟩=some (.int .i64 (k:Int))) [19,22,25] (by kernel_rfl) (⟨S2.out.names,c10⟩) (λhH=>?_)
  refine tU 0 (.pointer (some ⟨b,0,none⟩)) ?_;go_simp
  refine tU 1 (.pointer (some ⟨q,0,none⟩)) ?_;go_simp
  refine tU 2 (.pointer (some ⟨q,0,none⟩)) ?_;go_simp
  refine tU 3 (.pointer (some ⟨b,0,none⟩)) ?_;go_simp
  refine tU 4 (.pointer (some ⟨b,0,none⟩)) ?_;go_simp
  refine tU 5 (.pointer (some ⟨b,107,none⟩)) ?_;go_simp
  refine tS 6 (.agg (mpL s L).toArray) rfl (AN (by rfl) 59 _ rfl _ _ rfl (mpL s L) _ (λwz hSw=>hSw.1) underlying59 rfl (jg _ _ _)) hH ?_;go_simp
  refine tU 7 (.pointer (some ⟨q,0,none⟩)) ?_;go_simp
  refine tU 8 (.pointer (some ⟨q,0,none⟩)) ?_;go_simp
  refine tU 9 (.pointer (some ⟨q,10,none⟩)) ?_;go_simp
  refine tB 10 (.int .i64 (k:Int)) ?_;go_simp
  refine zC 11 rfl (λK hK=>?_)
  go_simp
  refine(CT.out _ ((Af _ _).drew.drew)).mono ?_
  rintro e V3 ⟨⟨a3,c3,rfl,hl3,hf3⟩,hk⟩
  have HK:Hid (Below V2.heap.size V2 V3):=zg (zg hk (Aa _)) (Aa _)
  have HL3:Hid (Re.Lie V3 a3 fl.length c3 (λi=>fl.getD i 0)/\FarC V2.heap.size a3):=⟨hl3,hf3⟩
  clear hl3 hf3
  go_wp2_with fail
  refine hK.out _ _ (⟨xk hk (hH.1),zn hk (hH.2)⟩) (λhN=>?_)
  clear hK K hH
  have hH:=hN
  clear hN
  try go_simp
  have S3:Hid (St N V3 b s L):=S2.out.below HK.out
  have B3:Hid (Bx V3 q {o with a:=s.regs x,b:=s.regs y}):=B2.out.below HK.out
  obtain⟨S4,T4⟩:=S3.out.setNames (up s.regs k (z:Int)) HL3.out.1 (ja S2.out (Aa _) HL3.out.2)
  have HS4:Hid (St N (V3.setCells b 107 (rowOf (mat s.phys (up s.regs k (z:Int)) (.slice a3 fl.length c3)) 34).toList) b {s with regs:=up s.regs k (z:Int),free:=fl} {L with f:=.slice a3 fl.length c3}):=S4
  have B4:Hid (Bx (V3.setCells b 107 (rowOf (mat s.phys (up s.regs k (z:Int)) (.slice a3 fl.length c3)) 34).toList) q {o with a:=s.regs x,b:=s.regs y}):=B3.out.to T4 HA.out.o
  have T5:Hid (Toq b q w L (V3.setCells b 107 (rowOf (mat s.phys (up s.regs k (z:Int)) (.slice a3 fl.length c3)) 34).toList) {L with f:=.slice a3 fl.length c3}):=(T2.out.trans (zf L HK.out).q).trans T4.q
  have A5:Hid (Apt b q {s with regs:=up s.regs k (z:Int),free:=fl} {L with f:=.slice a3 fl.length c3}):=HA.out.setNames HL3.out.2 B2.out.lt
  clear S4 T4
  refine tU 12 (.tuple #[.agg (rowOf (mat s.phys (up s.regs k (z:Int)) (.slice a3 fl.length c3)) 34),.int .i64 (z:Int),.int .i64 (s.regs k),.bool true]) ?_;go_simp
  refine tU 13 (.agg (rowOf (mat s.phys (up s.regs k (z:Int)) (.slice a3 fl.length c3)) 34)) ?_;go_simp
  refine tU 14 (.int .i64 (z:Int)) ?_;go_simp
  refine tU 15 (.int .i64 (s.regs k)) ?_;go_simp
  refine tU 16 (.bool true) ?_;go_simp
  refine tU 17 (.pointer (some ⟨b,0,none⟩)) ?_;go_simp
  refine tU 18 (.pointer (some ⟨b,107,none⟩)) ?_;go_simp
  refine zL 19 rfl (λK hK=>?_)
  rw[if_pos (by rfl)]
  refine ZG 59 _ _ rfl b 107 (rowOf (mat s.phys (up s.regs k (z:Int)) (.slice a3 fl.length c3)) 34) rfl rfl (by rw[ze];exact S3.out.there 107 34 (by omega)) (by have:=jg s.phys (up s.regs k (z:Int)) (.slice a3 fl.length c3);rw[Aj]at this;exact this) (kK _ _ _ _ _) ?_
  refine hK.out _ _ ?_
  clear hK K
  try go_simp
  refine tV 20 (.pointer (some ⟨q,0,none⟩)) rfl (λh=>absurd h (by decide)) ?_;go_simp
  refine tV 21 (.pointer (some ⟨q,11,none⟩)) rfl (λh=>absurd h (by decide)) ?_;go_simp
  clear S3 B3 S2 B2 T2 HA hH HL3 HK CT c10
  generalize V3.setCells b 107 (rowOf (mat s.phys (up s.regs k (z:Int)) (.slice a3 fl.length c3)) 34).toList=V4 at*
  generalize ({L with f:=.slice a3 fl.length c3}:Sls)=L4 at*
  have c11:=zl B4.out 11 (v:=.int .i64 o.to) rfl
  have c12:=zl B4.out 12 (v:=.int .i64 o.old) rfl
  have f11:=qA B4.out 11
  have f12:=qA B4.out 12
  refine zL 22 rfl (λK hK=>?_)
  go_simp
  refine hK.out _ _ ?_
  clear hK K
  try go_simp
  refine tV 23 (.pointer (some ⟨q,0,none⟩)) rfl (λh=>absurd h (by decide)) ?_;go_simp
  refine tV 24 (.pointer (some ⟨q,12,none⟩)) rfl (λh=>absurd h (by decide)) ?_;go_simp
  refine zL 25 rfl (λK hK=>?_)
  go_simp
  refine hK.out _ _ ?_
  clear hK K
  try go_simp
  refine zG (by kernel_rfl) ?_ _
  have B6:Hid (Bx ((V4.setCell ⟨q,11,none⟩ (.int .i64 (z:Int))).setCell ⟨q,12,none⟩ (.int .i64 (s.regs k))) q (Dg.mk o.seq o.pc o.i o.st (s.regs x) (s.regs y) o.rd (z:Int) (s.regs k) o.next o.gs o.late o.car o.c)):=B4.out.tos _ _
  have hg:=zeT V4 q 11 12 (.int .i64 (z:Int)) (.int .i64 (s.regs k))
  have S6:Hid (St N ((V4.setCell ⟨q,11,none⟩ (.int .i64 (z:Int))).setCell ⟨q,12,none⟩ (.int .i64 (s.regs k))) b {s with regs:=up s.regs k (z:Int),free:=fl} L4):=HS4.out.other hg A5.out
  have T6:Hid (Toq b q w L ((V4.setCell ⟨q,11,none⟩ (.int .i64 (z:Int))).setCell ⟨q,12,none⟩ (.int .i64 (s.regs k))) L4):=T5.out.trans (zaK hg)
  clear hg HS4 B4 T5 c11 c12 f11 f12
  generalize (V4.setCell ⟨q,11,none⟩ (.int .i64 (z:Int))).setCell ⟨q,12,none⟩ (.int .i64 (s.regs k))=V6 at*
  have c11:V6.cell? ⟨q,11,none⟩=some (.int .i64 (z:Int)):=zl B6.out 11 rfl
  have cA:=S6.out.thr z hz1
  have fA:=S6.out.frozen (237+z)
  have z0:0<=(z:Int):=by omega
  have z1:(z:Int)<96:=by omega
  go_upto_region 4 with fail
  refine zu (S:=λw'=>w'.cell? ⟨q,11,none⟩=some (.int .i64 (z:Int))) [8] (by kernel_rfl) (c11) (λhH=>?_)
  refine tU 0 (.pointer (some ⟨b,0,none⟩)) ?_;go_simp
  refine tU 1 (.pointer (some ⟨q,0,none⟩)) ?_;go_simp
  refine tU 2 (.pointer (some ⟨q,0,none⟩)) ?_;go_simp
  refine tU 3 (.pointer (some ⟨q,11,none⟩)) ?_;go_simp
  refine tS 4 (.int .i64 (z:Int)) rfl (Or.inl ⟨by rfl,by intro wz hSw;have hc:=hSw;go_simp⟩) hH ?_;go_simp
  refine tU 5 (.pointer (some ⟨b,0,none⟩)) ?_;go_simp
  refine tU 6 (.pointer (some ⟨b,237,none⟩)) ?_;go_simp
  refine tU 7 (.pointer (some ⟨b,237+z,none⟩)) ?_;go_simp
  refine zL 8 rfl (λK hK=>?_)
  go_simp
  refine hK.out _ _ ?_
  clear hK K
  try go_simp
  refine zG (by kernel_rfl) ?_ _
  go_wp2_with fail
  refine AK (AF rfl _ _ _) rfl ⟨rfl,L4,?_⟩
  obtain⟨S7,T7⟩:=S6.out.setTh z hz1 false
  rw[F1.out,F2.out]
  exact⟨S7.dr,(B6.out.to T7 A5.out.o).dr,A5.out.th _,(T6.out.trans T7.q).dr⟩
end Go.Proofs.YtpiohehijkpghacGreatDoor.Co
namespace Go.Proofs.YtpiohehijkpghacGreatDoor.Co
open Go.RowKit
open Hy
open Wi Od Re.Hy
open Gu.Hy (Tb)
structure MR(M:Mc):Prop where
 dcd:∀{x i},M.dcd x=some i->InOk i
 dow:∀{i} (pc a b:Int) (n:Nat),InOk i->U32 pc->U32 a->U32 b->CmR (M.dow i pc a b n)
 br:∀{t} (pc:Int),Gu.TbOk t->U32 pc->U32 (M.br t pc).2
 va:∀{t} (pc:Int),Gu.TbOk t->U32 (M.va t pc).1
 lb:∀{t} (pc:Int) (tk:Bool) {g:Int},Gu.TbOk t->U32 g->Gu.TbOk (M.lb t pc tk g)
 lv:∀{t} (pc:Int) {v:Int},Gu.TbOk t->U32 pc->U32 v->Gu.TbOk (M.lv t pc v)
structure DgR(o:Dg):Prop where
 pc:U32 o.pc
 i:o.i=zin\/InOk o.i
 next:U32 o.next
 c:CmR o.c
theorem DgR.rd{o:Dg}(h:DgR o):o.i.rd<32:=by
 rcases h.i with e|e
 ·rw[e];decide
 ·exact e.lr
structure Rg(K:Int)(s:Cr):Prop where
 win:s.win<=32
 phys:s.phys<=96
 wide:s.wide<=4
 n:s.n<=4096
 f:∀i,i<s.n->0<=s.f i/\s.f i<=255
 tb:Gu.TbOk s.tb
 wd:∀x,U32 (s.wd x)
 und:∀o∈s.under,DgR o
 ask:∀q∈s.asked,q.Ok
 fro:U32 s.fro
 len:s.slots.length<=32
 lenA:(s.asked.length:Int)<=K
 bck:s.bck<=K
 tak:s.tak<=K
theorem Rg.mono{K K':Int}{s:Cr}(h:Rg K s)(hk:K<=K'):Rg K' s:=
 ⟨h.win,h.phys,h.wide,h.n,h.f,h.tb,h.wd,h.und,h.ask,h.fro,h.len,Zt h.lenA hk,Zt h.bck hk,Zt h.tak hk⟩
theorem zhZ{wd:Int->Int}{x v:Int}(h:∀y,U32 (wd y))(hv:U32 v):∀y,U32 (upI wd x v y):=λy=>by
 unfold upI
 split
 ·exact hv
 ·exact h y
theorem zoF{o:Dg}(h:U32 o.pc):(ownA o).Ok:=⟨h.1,h.2,by show(0:Int)<=0;omega,by show(0:Int)<=_;omega,by show _<=(4:Int);omega,by show(4:Int)<=_;omega⟩
theorem zoG(q:Int):(st0 q).Ok:=⟨by show(0:Int)<=0;omega,by show(0:Int)<=_;omega,by show(0:Int)<=0;omega,by show(0:Int)<=_;omega,by show _<=(0:Int);omega,by show(0:Int)<=_;omega⟩
theorem zp1{q x m:Int}(hx:U32 x)(hm:0<=m/\m<=4):(ldA q x m).Ok:=⟨hx.1,hx.2,by show(0:Int)<=0;omega,by show(0:Int)<=_;omega,by show _<=m;omega,by show m<=_;omega⟩
theorem zk1{q:Int}{c:Cm}(h:CmR c):(stA q c).Ok:=⟨h.pl.1,h.pl.2,h.data.1,h.data.2,by show _<=c.many;rcases h.many with e|e|e|e<;>omega,by show c.many<=_;rcases h.many with e|e|e|e<;>omega⟩
theorem zh0(i:In)(a:Int):U32 (place i a):=umod _
theorem zoH{K:Int}{s:Cr}{o:Dg}(G:Rg K s)(ho:U32 o.pc):Rg (K+2) (askO s o):=by
 unfold askO
 refine⟨G.win,G.phys,G.wide,G.n,G.f,G.tb,G.wd,G.und,λq hq=>?_,G.fro,G.len,?_,by have:=G.bck;show s.bck<=_;omega,by have:=G.tak;show s.tak<=_;omega⟩
 ·rcases AL.1 hq with h|h
  ·exact G.ask q h
  ·rcases Zn.1 h with rfl|h
   ·exact zoF ho
   ·split at h
    ·rw[AT.1 h];exact zoG _
    ·cases h
 ·have:=G.lenA
  show((s.asked++_:List Ac).length:Int)<=_
  rw[Ay]
  split<;>simp<;>omega
theorem zoI{K:Int}{s:Cr}{o:Dg}(G:Rg K s)(ho:DgR o):Rg K (namO s o).1/\DgR (namO s o).2:=by
 unfold namO
 split
 ·exact⟨G,ho.pc,ho.i,ho.next,ho.c⟩
 ·exact⟨⟨G.win,G.phys,G.wide,G.n,G.f,G.tb,G.wd,G.und,G.ask,G.fro,G.len,G.lenA,G.bck,G.tak⟩,ho.pc,ho.i,ho.next,ho.c⟩
theorem vW(l:List Sl)(q:Int):(donS l q).length=l.length:=by unfold donS;exact AB _
theorem zmq{K:Int}{s:Cr}{o:Dg}{k:Int}(G:Rg K s)(ho:DgR o)(hk:0<=k/\k<=6):Rg K (yC s o k).1/\DgR (yC s o k).2:=
 ⟨⟨G.win,G.phys,G.wide,G.n,G.f,G.tb,G.wd,G.und,G.ask,G.fro,by show(donS _ _).length<=_;rw[vW];exact G.len,G.lenA,G.bck,G.tak⟩,ho.pc,ho.i,ho.next,jC ho.pc hk⟩
theorem zoJ{M:Mc}(hM:MR M){K:Int}{s:Cr}{o:Dg}(G:Rg K s)(ho:DgR o):Rg K (wayO M s o).1/\U32 (wayO M s o).2:=by
 unfold wayO
 split
 ·exact⟨G,umod _⟩
 ·split
  ·refine⟨⟨G.win,G.phys,G.wide,G.n,G.f,G.tb,G.wd,G.und,G.ask,G.fro,G.len,G.lenA,G.bck,G.tak⟩,?_⟩
   show U32 (if _ then _ else _)
   split
   ·split
    ·exact hM.br _ G.tb ho.pc
    ·exact umod _
   ·exact umod _
  ·exact⟨G,umod _⟩
theorem zoK{M:Mc}(hM:MR M){K:Int}{s:Cr}(G:Rg K s)(pc k:Int):U32 (valO M s pc k).1:=by
 unfold valO
 split
 ·exact u0
 ·split
  ·exact umod _
  ·exact hM.va _ G.tb
theorem zmr{M:Mc}(hM:MR M){K:Int}{s:Cr}{o:Dg}(G:Rg K s)(ho:DgR o):Rg K (gueL M s o).1/\DgR (gueL M s o).2:=by
 have hv:=λk=>zoK hM G o.pc k
 unfold gueL
 simp only[]
 split
 ·exact⟨⟨G.win,G.phys,G.wide,G.n,G.f,G.tb,zhZ G.wd (hv _),G.und,G.ask,G.fro,G.len,G.lenA,G.bck,G.tak⟩,ho.pc,ho.i,ho.next,ho.c⟩
 ·exact⟨⟨G.win,G.phys,G.wide,G.n,G.f,G.tb,G.wd,G.und,G.ask,G.fro,G.len,G.lenA,G.bck,G.tak⟩,ho.pc,ho.i,ho.next,ho.c⟩
theorem zoL{M:Mc}(hM:MR M){K:Int}{s:Cr}{o:Dg}(G:Rg K s)(ho:DgR o):Rg K (gueO M s o).1/\DgR (gueO M s o).2:=by
 obtain⟨G1,hw⟩:=zoJ hM G ho
 have G2:Rg K {(wayO M s o).1 with fro:=(wayO M s o).2}:=⟨G1.win,G1.phys,G1.wide,G1.n,G1.f,G1.tb,G1.wd,G1.und,G1.ask,hw,G1.len,G1.lenA,G1.bck,G1.tak⟩
 have ho2:DgR {o with next:=(wayO M s o).2}:=⟨ho.pc,ho.i,hw,ho.c⟩
 unfold gueO
 simp only[]
 split
 ·exact⟨G2,ho2⟩
 ·exact zmr hM G2 ho2
theorem zeU{M:Mc}(hM:MR M)(s:Cr):((rdI M s).1=zin\/InOk (rdI M s).1)/\0<=(rdI M s).2/\(rdI M s).2<=6/\((rdI M s).2=0->InOk (rdI M s).1):=by
 unfold rdI
 split
 ·split
  ·rename_i i h
   exact⟨.inr (hM.dcd h),by show(0:Int)<=0;omega,by show(0:Int)<=6;omega,λ_=>hM.dcd h⟩
  ·exact⟨.inl rfl,by show(0:Int)<=2;omega,by show(2:Int)<=6;omega,λh=>absurd (show(2:Int)=0 from h) (by decide)⟩
 ·exact⟨.inl rfl,by show(0:Int)<=1;omega,by show(1:Int)<=6;omega,λh=>absurd (show(1:Int)=0 from h) (by decide)⟩
theorem zoM{M:Mc}(hM:MR M){K:Int}{s:Cr}(G:Rg K s):DgR (newO M s):=⟨G.fro,(zeU hM s).1,u0,zpT⟩
theorem zms{K:Int}{s:Cr}(G:Rg K s)(h:¬s.win<=s.slots.length):Rg (K+1) {s with slots:=s.slots++[(s.tak,false)],tak:=s.tak+1}:=
 ⟨G.win,G.phys,G.wide,G.n,G.f,G.tb,G.wd,G.und,G.ask,G.fro,by have:=G.win;show(s.slots++[_]:List Sl).length<=_;simp;omega,by have:=G.lenA;show(s.asked.length:Int)<=_;omega,by have:=G.bck;show s.bck<=_;omega,by have:=G.tak;show s.tak+1<=_;omega⟩
theorem zmt{M:Mc}(hM:MR M){K:Int}{s:Cr}(G:Rg K s):Rg (K+3) (tak1 M s).1:=by
 unfold tak1
 split
 ·exact G.mono (by omega)
 ·rename_i hw
  split
  ·exact G.mono (by omega)
  ·have G1:=zms G hw
   have G2:=zoH G1 (o:=newO M s) G.fro
   obtain⟨G3,D3⟩:=zoI G2 (zoM hM G)
   have key:∀t:Cr×Dg,Rg (K+1+2) t.1->DgR t.2->Rg (K+3) {t.1 with under:=t.1.under++[t.2]}:=λt h0 d=>by
    have h:Rg (K+3) t.1:=h0.mono (by omega)
    refine⟨h.win,h.phys,h.wide,h.n,h.f,h.tb,h.wd,λo ho=>?_,h.ask,h.fro,h.len,h.lenA,h.bck,h.tak⟩
    rcases AL.1 (show o∈t.1.under++[t.2]from ho)with ho|ho
    ·exact h.und o ho
    ·rw[AT.1 ho];exact d
   simp only[]
   split
   ·obtain⟨G4,D4⟩:=zmq (k:=(rdI M s).2) G3 D3 ⟨(zeU hM s).2.1,(zeU hM s).2.2.1⟩
    exact key _ G4 D4
   ·obtain⟨G4,D4⟩:=zoL hM G3 D3
    exact key _ G4 D4
theorem zh1{K:Int}{s:Cr}(G:Rg K s)(q pc:Int)(hp:U32 pc):Rg (K+1) (back s q pc):=by
 unfold back
 refine⟨G.win,G.phys,G.wide,G.n,G.f,G.tb,G.wd,λo ho=>G.und o (AC.1 ho).1,λa ha=>G.ask a (AC.1 ha).1,hp,?_,?_,?_,by have:=G.tak;show s.tak<=_;omega⟩
 ·show(vo s.slots q).length<=_
  unfold vo
  exact Ao (AM _ _) G.len
 ·show((s.asked.filter _).length:Int)<=_
  have:=AM (λa:Ac=>!decide (q<=a.seq)) s.asked
  have:=G.lenA
  omega
 ·have:=G.bck
  show(if cutS s.slots q=[]then s.bck else s.bck+1)<=K+1
  split
  ·exact Zt this (by omega)
  ·omega
theorem zeV(l:List Ac)(q:Int)(e:Ac):(setA l q e).length=l.length:=by unfold setA;exact AB _
theorem zmu{K:Int}{s:Cr}{q:Int}{c:Cm}(G:Rg K s)(hc:CmR c):Rg K {s with asked:=setA s.asked q (stA q c)}:=by
 refine⟨G.win,G.phys,G.wide,G.n,G.f,G.tb,G.wd,G.und,λa ha=>?_,G.fro,G.len,by show((setA _ _ _).length:Int)<=_;rw[zeV];exact G.lenA,G.bck,G.tak⟩
 obtain⟨p,hp,rfl⟩:=AD.1 ha
 split
 ·exact zk1 hc
 ·exact G.ask p hp
theorem zmv{l:List Dg}(h:∀o∈l,DgR o)(q:Int):U32 (pcOf l q):=by
 unfold pcOf
 split
 ·rename_i o ho
  exact(h o (Zk ho)).pc
 ·exact u0
theorem zh2{K:Int}{s:Cr}{q:Int}{c:Cm}(G:Rg K s)(hc:CmR c):Rg (K+1) (settle s q c):=by
 have G1:=zmu (q:=q) G hc
 unfold settle
 simp only[]
 split
 ·exact G1.mono (by omega)
 ·exact zh1 G1 _ _ (zmv G.und _)
theorem zmw{l:List Dg}{q:Int}{g:Dg->Dg}(h:∀o∈l,DgR o)(hg:∀o,DgR o->DgR (g o)):∀o∈putO l q g,DgR o:=λo ho=>by
 obtain⟨p,hp,rfl⟩:=AD.1 ho
 split
 ·exact hg p (h p hp)
 ·exact h p hp
theorem zh3{K:Int}{s:Cr}(q:Int)(g:Dg->Dg)(G:Rg K s)(hg:∀o,DgR o->DgR (g o)):Rg K {s with under:=putO s.under q g}:=
 ⟨G.win,G.phys,G.wide,G.n,G.f,G.tb,G.wd,zmw G.und hg,G.ask,G.fro,G.len,G.lenA,G.bck,G.tak⟩
theorem zh4{K:Int}{s:Cr}{o:Dg}{c:Cm}(G:Rg K s)(hc:CmR c):Rg K {s with under:=putO s.under o.seq (λo=>{o with st:=2,c:=c}),slots:=donS s.slots o.seq}:=by
 have:=zh3 o.seq (λo=>{o with st:=2,c:=c}) G (λo h=>⟨h.pc,h.i,h.next,hc⟩)
 exact⟨this.win,this.phys,this.wide,this.n,this.f,this.tb,this.wd,this.und,this.ask,this.fro,by show(donS _ _).length<=_;rw[vW];exact G.len,this.lenA,this.bck,this.tak⟩
theorem zmx{K:Int}{s:Cr}{o:Dg}{c:Cm}(G:Rg K s)(hc:CmR c):Rg (K+1) (fin1 s o c):=by
 unfold fin1
 simp only[]
 split
 ·exact zh2 (zh4 G hc) hc
 ·exact(zh4 G hc).mono (by omega)
theorem zmy{K:Int}{s:Cr}{o:Dg}{c:Cm}(G:Rg K s)(hc:CmR c):Rg K (jc s o c):=by
 unfold jc
 split
 ·exact G
 ·exact⟨G.win,G.phys,G.wide,G.n,G.f,G.tb,zhZ G.wd hc.val,G.und,G.ask,G.fro,G.len,G.lenA,G.bck,G.tak⟩
theorem zoN{K:Int}{s:Cr}(p:Bool)(G:Rg K s):Rg K {s with opn:=p}:=⟨G.win,G.phys,G.wide,G.n,G.f,G.tb,G.wd,G.und,G.ask,G.fro,G.len,G.lenA,G.bck,G.tak⟩
theorem vX{K:Int}{s:Cr}{o:Dg}{c:Cm}(G:Rg K s)(hc:CmR c):Rg (K+2) (finish s o c):=by
 have G1:=zmy (o:=o) (zmx (o:=o) G hc) hc
 unfold finish
 split
 ·exact G1.mono (by omega)
 ·exact(zoN _ (zh1 G1 (o.seq+1) c.next hc.next)).mono (by omega)
theorem zh5{op:Int}{g:Nat->Int}(h0:ldn op≠0)(h:∀k:Nat,(k:Int)<ldn op->0<=g k/\g k<=255):U32 (ldv op g):=by
 unfold ldv
 split
 ·rename_i e
  have:=h 0 (by rw[e];decide)
  unfold U32
  split<;>omega
 ·split
  ·rename_i e
   have h1:=h 0 (by rw[e];decide)
   have h2:=h 1 (by rw[e];decide)
   have h3:le g 2=g 0+256*g 1:=by simp[le];omega
   unfold U32
   split<;>omega
  ·have:=yw op
   exact le_rng (by omega) λi hi=>h i (by omega)
theorem zk2{K:Int}{s:Cr}{q x m:Int}(G:Rg K s)(hx:U32 x)(hm:0<=m/\m<=4):Rg (K+1) {s with asked:=s.asked++[ldA q x m]}:=by
 refine⟨G.win,G.phys,G.wide,G.n,G.f,G.tb,G.wd,G.und,λa ha=>?_,G.fro,G.len,by have:=G.lenA;show((s.asked++[_]:List Ac).length:Int)<=_;simp;omega,by have:=G.bck;show s.bck<=_;omega,by have:=G.tak;show s.tak<=_;omega⟩
 rcases AL.1 ha with h|h
 ·exact G.ask a h
 ·rw[AT.1 h];exact zp1 hx hm
theorem zmz{K:Int}{s:Cr}{o:Dg}(G:Rg K s)(ho:DgR o)(h0:ldn o.i.op≠0)(hf:fits s.n (place o.i (s.wd o.a)) (ldn o.i.op)=true):CmR (onC o.pc o.i.rd (ldv o.i.op (sb s.asked o.seq s.asked.length (place o.i (s.wd o.a)).toNat s.f))):=by
 have hp:=jA hf
 exact zeM ho.pc ho.rd (zh5 h0 λk hk=>zbY (G.f _ (by omega)))
theorem zmA{K:Int}{s:Cr}{o:Dg}(G:Rg K s)(ho:DgR o)(h0:ldn o.i.op≠0):Rg (K+3) (lod1 s o):=by
 unfold lod1
 simp only[]
 split
 ·rename_i hf
  split
  ·exact G.mono (by omega)
  ·exact(vX (zk2 G (zh0 _ _) (yw _)) (zmz G ho h0 hf)).mono (by omega)
 ·exact(vX G (jC ho.pc (by omega))).mono (by omega)
theorem zmB{K:Int}{s:Cr}{q:Int}(G:Rg K s)(h:∀o∈s.under,o.seq=q->ldn o.i.op≠0):Rg (K+3) (lodS s q):=by
 unfold lodS
 split
 ·exact G.mono (by omega)
 ·rename_i o ho
  have hm:=Zk ho
  have hq:o.seq=q:=by simpa using List.find?_some ho
  split
  ·exact(zh3 q (λo=>{o with late:=o.late-1}) G (λo h=>⟨h.pc,h.i,h.next,h.c⟩)).mono (K':=K+3) (by omega)
  ·exact zmA G (G.und o hm) (h o hm hq)
theorem zmC{M:Mc}(hM:MR M){K:Int}{s:Cr}{o:Dg}(G:Rg K s)(ho:DgR o)(hi:InOk o.i):Rg (K+2) (sta1 M s o):=by
 unfold sta1
 split
 ·exact(zh3 o.seq (λo=>{o with st:=1}) G (λo h=>⟨h.pc,h.i,h.next,h.c⟩)).mono (K':=K+2) (by omega)
 ·exact vX G (hM.dow _ _ _ _ hi ho.pc (G.wd _) (G.wd _))
theorem zj3{M:Mc}(hM:MR M){t:Tb}{o:Dg}(ht:Gu.TbOk t)(ho:DgR o):Gu.TbOk (learn M t o):=by
 have h1:Gu.TbOk (if trn o.i then M.lb t o.pc (decide (o.i.op=4)||!decide (o.c.next=(o.pc+4)%4294967296)) o.c.next else t):=by
  split
  ·exact hM.lb _ _ ht ho.c.next
  ·exact ht
 unfold learn
 simp only[]
 split
 ·exact hM.lv _ h1 ho.pc ho.c.val
 ·exact h1
theorem zmD{n:Nat}{f:Nat->Int}{c:Cm}(h:∀i,i<n->0<=f i/\f i<=255):∀i,i<n->0<=stoC f c i/\stoC f c i<=255:=λi hi=>by
 unfold stoC sto
 split
 ·omega
 ·exact h i hi
theorem zmE{M:Mc}(hM:MR M){K:Int}{s:Cr}{o:Dg}(G:Rg K s)(ho:DgR o):Rg K (com1 M s o):=
 ⟨G.win,G.phys,G.wide,G.n,zmD G.f,zj3 hM G.tb ho,G.wd,G.und,G.ask,G.fro,G.len,G.lenA,G.bck,G.tak⟩
theorem zbt{M:Mc}(hM:MR M){K:Int}:∀(l:List Dg) {s:Cr},Rg K s->(∀o∈l,DgR o)->Rg K (l.foldl (com1 M) s)
 |[],s,G,_=>G
 |o::l,s,G,h=>zbt hM l (zmE hM G (h o (Ag ..))) (λp hp=>h p (Ae _ hp))
theorem jx(M:Mc):∀(l:List Dg) (s:Cr),(l.foldl (com1 M) s).under=s.under/\(l.foldl (com1 M) s).asked=s.asked/\(l.foldl (com1 M) s).slots=s.slots
 |[],s=>⟨rfl,rfl,rfl⟩
 |o::l,s=>jx M l (com1 M s o)
theorem zh6{M:Mc}(hM:MR M){K:Int}{s:Cr}(G:Rg K s):Rg K (commit M s):=by
 have G1:=zbt hM (s.under.take (qY s.slots (min s.wide (left s)).toNat)) G (λo ho=>G.und o (Zc ho))
 unfold commit
 refine⟨G1.win,G1.phys,G1.wide,G1.n,G1.f,G1.tb,G1.wd,λo ho=>G.und o (List.mem_of_mem_drop ho),λa ha=>G.ask a (AC.1 ha).1,G1.fro,?_,?_,G1.bck,G1.tak⟩
 ·have:=G.len
  show(s.slots.drop _).length<=_
  rw[ZI]
  omega
 ·have:=G.lenA
  have:=AM (λq:Ac=>!decide (q.seq∈(s.slots.take (qY s.slots (min s.wide (left s)).toNat)).map (·.1))) s.asked
  show((s.asked.filter _).length:Int)<=_
  omega
theorem zj4(win phys wide:Int)(n:Nat)(R:Nat->Int)(pc st ca:Int)(f:Nat->Int)(scr:List Int)(hw:win<=32)(hp:phys<=96)(hwi:wide<=4)(hn:n<=4096)(hf:∀i,i<n->0<=f i/\f i<=255)(hR:∀i,i<32->U32 (R i))(hpc:U32 pc):Rg 0 (begin win phys wide n R pc st ca f scr):=by
 refine⟨hw,hp,hwi,hn,hf,⟨λ_ _=>u0,λ_ _=>u0,λ_ _=>u0,λ_ _=>u0⟩,λx=>?_,λo ho=>(nomatch ho),λo ho=>(nomatch ho),hpc,ZP _,Zm _,Zm _,Zm _⟩
 show U32 (if x<32 then R x.toNat else 0)
 split
 ·exact hR _ (by omega)
 ·exact u0
end Go.Proofs.YtpiohehijkpghacGreatDoor.Co
namespace Go.Proofs.YtpiohehijkpghacGreatDoor.Co
open Go.RowKit
open Hy
open Wi Od Re.Hy
open Gu.Hy (Tb)
def Uq(l:List Ac):Prop:=((l.filter (·.st)).map (·.seq)).Nodup
theorem zcx{l:List Ac}(h:Uq l)(p:Ac->Bool):Uq (l.filter p):=by
 unfold Uq at*
 exact h.sublist ((List.filter_sublist.filter _).map _)
theorem zdG{l:List Ac}(h:Uq l){a:Ac}(ha:a.st=false):Uq (l++[a]):=by
 unfold Uq at*
 rw[Ak,AU (by simp[ha])]
 simpa using h
theorem zoO{l:List Ac}(h:Uq l)(q:Int){e:Ac}(h1:e.st=true)(h2:e.seq=q):Uq (setA l q e):=by
 have key:∀l:List Ac,((setA l q e).filter (·.st)).map (·.seq)=(l.filter (·.st)).map (·.seq):=by
  intro l
  induction l with
  |nil=>rfl
  |cons a l ih=>
   show((((if a.st=true/\a.seq=q then e else a)::setA l q e)).filter (·.st)).map (·.seq)=_
   by_cases hc:a.st=true/\a.seq=q
   ·rw[if_pos hc,Aq h1,Aq hc.1,Zb,Zb,ih,h2,hc.2]
   ·rw[if_neg hc]
    by_cases ha:a.st=true
    ·rw[Aq ha,Aq ha,Zb,Zb,ih]
    ·rw[AU ha,AU ha,ih]
 unfold Uq
 rw[key]
 exact h
theorem zoP{s:Cr}{o:Dg}(h:Uq s.asked)(hl:∀a∈s.asked,a.seq<o.seq):Uq (askO s o).asked:=by
 have h1:Uq (s.asked++[ownA o]):=zdG h rfl
 show Uq (s.asked++(ownA o::_))
 split
 ·show Uq (s.asked++[ownA o,st0 o.seq])
  rw[show s.asked++[ownA o,st0 o.seq]=(s.asked++[ownA o])++[st0 o.seq] by simp]
  unfold Uq at*
  rw[Ak,Aq rfl,Zh]
  refine ZH.2 ⟨h1,by simp,λx hx y hy e=>?_⟩
  obtain⟨a,ha,rfl⟩:=AD.1 hx
  have hy:y=o.seq:=by simpa[st0]using hy
  obtain⟨ha1,ha2⟩:=AC.1 ha
  rcases AL.1 ha1 with h'|h'
  ·have:=hl a h';omega
  ·rw[AT.1 h']at ha2;cases ha2
 ·exact h1
theorem zh7{s:Cr}(h:Uq s.asked)(q pc:Int):Uq (back s q pc).asked:=zcx h _
theorem zh8{s:Cr}(h:Uq s.asked)(q:Int)(c:Cm):Uq (settle s q c).asked:=by
 have h1:Uq (setA s.asked q (stA q c)):=zoO h q rfl rfl
 unfold settle
 simp only[]
 split
 ·exact h1
 ·exact zh7 (s:={s with asked:=setA s.asked q (stA q c)}) h1 _ _
theorem zmF{s:Cr}(h:Uq s.asked)(o:Dg)(c:Cm):Uq (fin1 s o c).asked:=by
 unfold fin1
 simp only[]
 split
 ·exact zh8 (by exact h) _ _
 ·exact h
theorem vY{s:Cr}(h:Uq s.asked)(o:Dg)(c:Cm):Uq (finish s o c).asked:=by
 have h2:Uq (jc (fin1 s o c) o c).asked:=by rw[jY];exact zmF h o c
 unfold finish
 split
 ·exact h2
 ·exact zh7 h2 (o.seq+1) c.next
theorem zmG{s:Cr}(h:Uq s.asked)(q:Int):Uq (lodS s q).asked:=by
 unfold lodS
 split
 ·exact h
 ·split
  ·exact h
  ·unfold lod1
   simp only[]
   split
   ·split
    ·exact h
    ·exact vY (s:={s with asked:=_}) (zdG h rfl) _ _
   ·exact vY h _ _
theorem zmH{M:Mc}{s:Cr}(h:Uq s.asked)(o:Dg):Uq (sta1 M s o).asked:=by
 unfold sta1
 split
 ·exact h
 ·exact vY h _ _
theorem zcy(s:Cr)(o:Dg):(namO s o).1.asked=s.asked:=by unfold namO;split<;>rfl
theorem vZ(M:Mc)(s:Cr)(o:Dg):(wayO M s o).1.asked=s.asked:=by
 unfold wayO
 split
 ·rfl
 ·split<;>rfl
theorem zh9(M:Mc)(s:Cr)(o:Dg):(gueO M s o).1.asked=s.asked:=by
 unfold gueO
 simp only[]
 split
 ·exact vZ M s o
 ·unfold gueL
  simp only[]
  split
  ·exact vZ M s o
  ·exact vZ M s o
theorem zmI{M:Mc}{s:Cr}(h:Uq s.asked)(hl:∀a∈s.asked,a.seq<s.tak):Uq (tak1 M s).1.asked:=by
 unfold tak1
 split
 ·exact h
 ·split
  ·exact h
  ·have h1:=zoP (s:={s with slots:=s.slots++[(s.tak,false)],tak:=s.tak+1}) (o:=newO M s) h hl
   simp only[]
   split
   ·show Uq (namO _ _).1.asked
    rw[zcy]
    exact h1
   ·show Uq (gueO M _ _).1.asked
    rw[zh9,zcy]
    exact h1
theorem zmJ{M:Mc}{s:Cr}{m:Nat->Int}(I:Inv M s m):∀a∈s.asked,a.seq<s.tak:=λa ha=>by
 obtain⟨o,ho,e,_⟩:=I.ask.of a ha
 have:=I.low o ho
 omega
theorem zia{l:List Ac}(h:Uq l){q:Int}{m:Nat}(hm:FirstA (λa=>a.st&&decide (a.seq=q)) l m)(hlt:m<l.length)(e:Ac):setA l q e=l.set m e:=by
 apply List.ext_getElem?
 intro j
 unfold setA
 rw[AO,AP]
 by_cases hj:m=j
 ·subst hj
  rw[if_pos rfl,if_pos hlt,Ab hlt]
  have:=hm.yes _ (Ab hlt)
  simp at this
  show some (if _ then e else _)=_
  rw[if_pos this]
 ·rw[if_neg hj]
  cases hq:l[j]? with
  |none=>rfl
  |some a=>
   show some (if _ then e else a)=some a
   rw[if_neg]
   rintro⟨h1,h2⟩
   rcases Nat.lt_or_ge j m with hlt'|hge
   ·have:=hm.no j a hlt' hq
    simp[h1,h2]at this
   ·have hx:=hm.yes _ (Ab hlt)
    simp at hx
    obtain⟨l1,l2,hl,hl1⟩:∃l1 l2,l=l1++l[m]::l2/\l1.length=m:=⟨l.take m,l.drop (m+1),by rw[<-Zl hlt,Zx],by rw[Au];omega⟩
    have ha:a∈l2:=by
     rw[hl]at hq
     rw[Ar (by omega),List.getElem?_cons,if_neg (by omega)]at hq
     exact Aw hq
    unfold Uq at h
    rw[hl,Ak,Aq hx.1,Zh,Zb]at h
    have:=(Zw.1 (ZH.1 h).2.1).1
    exact this (AD.2 ⟨a,AC.2 ⟨ha,h1⟩,by rw[h2,hx.2]⟩)
theorem zfS{l:List Ac}{q:Int}{m:Nat}(hm:FirstA (λa=>a.st&&decide (a.seq=q)) l m)(hlt:m<l.length){e:Ac}(h1:e.st=true)(h2:e.kn=true)(h3:e.seq=q):FirstA (sto1 q) (l.set m e) m/\(l.set m e)[m]?=some e:=by
 have he:(l.set m e)[m]?=some e:=by rw[AP,if_pos rfl,if_pos hlt]
 refine⟨⟨by rw[AS];omega,λj a hj ha=>?_,λa ha=>?_⟩,he⟩
 ·rw[AP,if_neg (by omega)]at ha
  have:=hm.no j a hj ha
  unfold sto1
  cases h:a.st with
  |false=>rfl
  |true=>rw[h]at this;simp at this;simp[this]
 ·rw[he]at ha
  have:=Ai ha
  subst this
  simp[sto1,h1,h2,h3]
theorem zib{l:List Ac}{p:Ac->Bool}(h:∃a∈l,p a=true):∃m,FirstA p l m/\m<l.length:=by
 obtain⟨m,hm⟩:=kt p l
 refine⟨m,hm,AA λhn=>?_⟩
 obtain⟨a,ha,hp⟩:=h
 obtain⟨j,hj⟩:=AG ha
 have hjl:=(Ad.1 hj).1
 have:=hm.no j a (by omega) hj
 rw[hp]at this
 cases this
theorem zdH{l l1 l2:List Dg}{o:Dg}(hu:l=l1++o::l2)(hr:Rise l)(g:Dg->Dg):putO l o.seq g=l.set l1.length (g o)/\l[l1.length]?=some o:=by
 subst hu
 refine⟨?_,by simp⟩
 rw[vF hr,AY _ _ (Aa _),ZO]
 rfl
theorem jS{l l1 l2:List Dg}{o:Dg}(hu:l=l1++o::l2)(hr:Rise l):FirstD (λp=>decide (p.seq=o.seq)) l l1.length:=by
 subst hu
 refine⟨by simp,λj q hj hq=>?_,λq hq=>?_⟩
 ·rw[Az hj]at hq
  have:=(zy.1 hr).2.2 q (Aw hq) o (Ag ..)
  simp
  omega
 ·rw[Ar (Aa _)]at hq
  simp at hq
  simp[hq]
theorem zbu{l:List Dg}{q:Int}(h:l.find? (λp=>decide (p.seq=q))=none):FirstD (λp=>decide (p.seq=q)) l l.length:=by
 refine⟨Aa _,λj p hj hp=>?_,λp hp=>by simp at hp⟩
 have:=List.find?_eq_none.1 h p (Aw hp)
 simpa using this
theorem zmK{l l1 l2:List Dg}{o:Dg}(hu:l=l1++o::l2)(hr:Rise l)(h2:o.st≠2):DonAt (l.map slot) o.seq l1.length:=by
 subst hu
 refine⟨⟨by simp,λj q hj hq=>?_,λq hq=>?_⟩,by simp,?_⟩
 ·rw[AO]at hq
  obtain⟨p,hp,rfl⟩:=Zu.1 hq
  rw[Az hj]at hp
  have:=(zy.1 hr).2.2 p (Aw hp) o (Ag ..)
  unfold waits slot
  have e:decide (p.seq=o.seq)=false:=decide_eq_false (by omega)
  simp[e]
 ·rw[AO,Ar (Aa _)]at hq
  simp at hq
  subst hq
  simp[waits,slot,h2]
 ·have:=zdb hr (o':={o with st:=2}) (by show(o.seq,decide ((2:Int)=2))=_;rfl)
  rw[this,Zh,Zh,AY _ _ (by simp)]
  simp[slot]
theorem zfT{M:Mc}{s:Cr}{m:Nat->Int}(I:Inv M s m):First (above s.tak) s.slots s.slots.length:=by
 refine⟨Aa _,λj q hj hq=>?_,λq hq=>by simp at hq⟩
 rw[I.slo,AO]at hq
 obtain⟨p,hp,rfl⟩:=Zu.1 hq
 have:=I.low p (Aw hp)
 unfold above slot
 exact decide_eq_false (by show¬s.tak<=p.seq;omega)
theorem zic{l:List Sl}{q:Int}(h:∀p∈l,p.1<q):DonAt (l++[(q,false)]) q l.length:=by
 refine⟨⟨by simp,λj p hj hp=>?_,λp hp=>?_⟩,by simp,?_⟩
 ·rw[Az hj]at hp
  have:=h p (Aw hp)
  unfold waits
  have e:decide (p.1=q)=false:=decide_eq_false (by omega)
  simp[e]
 ·rw[Ar (Aa _)]at hp
  simp at hp
  subst hp
  simp[waits]
 ·rw[zey (λp hp=>by have:=h p hp;omega),AY _ _ (Aa _),ZO]
  rfl
theorem zmL{M:Mc}{s:Cr}{m:Nat->Int}(I:Inv M s m):∀p∈s.slots,p.1<s.tak:=λp hp=>by
 rw[I.slo]at hp
 obtain⟨o,ho,rfl⟩:=AD.1 hp
 exact(I.low o ho).2
theorem zcz{M:Mc}(hM:MOk M){s:Cr}{m:Nat->Int}(I:Inv M s m):Dis s.phys s.regs s.free:=by
 have:=Dis.mE (l1:=s.under) (l2:=[]) (fr:=s.free) (m:=m) (by rw[Zg];exact I.dis) (zeu hM I.ch)
 rw[I.reg]at this
 exact this
theorem zoQ{M:Mc}(hM:MOk M){s:Cr}{m:Nat->Int}(I:Inv M s m)(h1:33<=s.phys)(h2:s.phys<=96):Nms s:=⟨h1,h2,zcz hM I⟩
theorem kM{M:Mc}(hM:MOk M){s:Cr}{m:Nat->Int}(I:Inv M s m){o:Dg}(ho:o∈s.under)(h2:s.phys<=96):(0<=o.a/\o.a<96)/\(0<=o.b/\o.b<96)/\o.rd<32/\(o.rd≠0->0<=o.to/\o.to<96):=by
 obtain⟨l1,l2,hu,hloc⟩:=xf I.ch ho
 obtain⟨h3,h4,h5⟩:=kZ hM hloc
 have hd:=Dis.mE (l1:=l1) (l2:=o::l2) (fr:=s.free) (m:=m) (by rw[<-hu];exact I.dis) (λq hq=>zeu hM I.ch q (by rw[hu];exact Am _ hq))
 have ha:=hd.rm _ h4
 have hb:=hd.rm _ h5
 rw[<-hloc.a]at ha
 rw[<-hloc.b]at hb
 refine⟨⟨ha.1,by omega⟩,⟨hb.1,by omega⟩,h3,λh0=>?_⟩
 have:=hd.rf o.to (by rw[zT,if_neg h0];simp)
 exact⟨this.1,by omega⟩
theorem zj5{P:Int}{m:Nat->Int}{o:Dg}{t:List Dg}{fr:List Int}(hd:Dis P m (tos (o::t)++fr))(hk:o.rd<32)(h0:o.rd≠0)(ho:o.old=m o.rd):
  Dis P (nm m o) (tos t++fr)/\0<=o.old/\o.old<P/\o.old∉tos t++fr/\(∀r,r<32->nm m o r≠o.old)/\up (nm m o) o.rd o.old=m/\nm m o o.rd=o.to:=by
 have hd2:=Dis.nm hd hk
 have hr:=hd.rm _ hk
 have hap:=hd.apart _ hk
 rw[zT,if_neg h0,ZJ]at hap hd
 have hnm:nm m o=up m o.rd o.to:=by unfold nm;rw[if_neg h0]
 refine⟨hd2,by rw[ho];exact hr.1,by rw[ho];exact hr.2,λh=>hap (by rw[<-ho];exact Ae _ h),λr hr' e=>?_,?_,?_⟩
 ·rw[hnm,ho]at e
  unfold Re.Hy.up at e
  split at e
  ·exact hap (by rw[<-e];exact Ag ..)
  ·rename_i hne
   exact hne (hd.inj r o.rd hr' hk e)
 ·rw[hnm,ho]
  funext r
  unfold Re.Hy.up
  split
  ·rename_i e;rw[e]
  ·rfl
 ·rw[hnm]
  unfold Re.Hy.up
  rw[if_pos rfl]
theorem zid:∀(l:List Sl) (k:Int),Goes l k (qY l k.toNat)
 |[],k=>⟨by simp[qY],λj q h=>by simp[qY]at h,λq h=>by simp at h⟩
 |q::l,k=>by
  by_cases hk:0<k
  ·obtain⟨j,hj⟩:∃j:Nat,k.toNat=j+1:=⟨k.toNat-1,by omega⟩
   have ih:=zid l (k-1)
   have e:(k-1).toNat=j:=by omega
   rw[e]at ih
   rw[hj]
   unfold qY
   split
   ·rename_i hq
    refine⟨by have:=ih.le;simp;omega,λi p hi hp=>?_,λp hp=>?_⟩
    ·cases i with
     |zero=>simp at hp;subst hp;exact⟨by show(0:Int)<k;omega,hq⟩
     |succ i=>
      have:=ih.go i p (by omega) (by simpa using hp)
      exact⟨by have:=this.1;push_cast;omega,this.2⟩
    ·have:=ih.stop p (by simpa using hp)
     intro⟨h1,h2⟩
     exact this ⟨by push_cast at h1;omega,h2⟩
   ·rename_i hq
    refine⟨by simp,λi p hi=>absurd hi (by omega),λp hp=>?_⟩
    simp at hp
    subst hp
    exact λh=>hq h.2
  ·have e:k.toNat=0:=by omega
   rw[e]
   have e2:qY (q::l) 0=0:=by simp[qY]
   rw[e2]
   exact⟨by simp,λi p hi=>absurd hi (by omega),λp hp h=>hk (by have:=h.1;simpa using this)⟩
theorem zie{M:Mc}(hM:MOk M):∀(k:Nat) (s:Cr) (m:Nat->Int),Inv M s m->k<s.under.length->(∀o∈s.under.take (k+1),o.st=2)->∃m' o l,Inv M (comN M k s) m'/\(comN M k s).under=o::l/\s.under[k]?=some o/\o.st=2
 |0,s,m,I,hk,hd=>by
  cases hu:s.under with
  |nil=>rw[hu]at hk;simp at hk
  |cons o l=>
   refine⟨m,o,l,by rw[js];exact I,by rw[js];exact hu,rfl,hd o (by rw[hu];simp)⟩
 |k+1,s,m,I,hk,hd=>by
  cases hu:s.under with
  |nil=>rw[hu]at hk;simp at hk
  |cons o l=>
   have h2:o.st=2:=hd o (by rw[hu];simp)
   have hl:l≠[]:=λh=>by rw[hu,h]at hk;simp at hk
   have h0:o.c.st=0:=AA λh=>by
    have:=I.ch
    rw[hu]at this
    exact hl (this.2.1 ⟨h2,h⟩)
   have I':=zez hM I hu h2 h0
   rw[zce I hu k]
   obtain⟨m',p,l',g1,g2,g3,g4⟩:=zie hM k (pop1 M s o l) (nm m o) I' (by show k<l.length;rw[hu]at hk;simp at hk;omega) (λq hq=>hd q (by rw[hu,ZA];exact Ae _ hq))
   exact⟨m',p,l',g1,g2,by rw[List.getElem?_cons_succ];exact g3,g4⟩
theorem zj6{P:Int}{m:Nat->Int}{o:Dg}{l:List Dg}{fr:List Int}(hd:Dis P m (tos (o::l)++fr))(hk:o.rd<32)(h0:o.rd≠0)(ho:o.old=m o.rd):
  0<=o.old/\o.old<P/\o.old∉fr/\∀r,r<32->mE m (o::l) r≠o.old:=by
 have hr:=hd.rm _ hk
 have hap:=hd.apart _ hk
 rw[zT,if_neg h0,ZJ]at hap hd
 refine⟨by rw[ho];exact hr.1,by rw[ho];exact hr.2,λh=>hap (by rw[<-ho];exact Ae _ (AZ _ h)),λr hr' e=>?_⟩
 have e2:mE m (o::l)=mE (nm m o) l:=rfl
 rw[e2,ho]at e
 rcases za7 l (nm m o) r with⟨r',rfl,h⟩|h
 ·rw[h]at e
  unfold nm at e
  rw[if_neg h0]at e
  unfold Re.Hy.up at e
  split at e
  ·exact hap (by rw[<-e];exact Ag ..)
  ·rename_i hne
   exact hne (hd.inj r' o.rd hr' hk e)
 ·rw[e]at h
  exact hap (Ae _ (Am _ h))
def MS(M:Mc):Prop:=∀{x i} (pc a b:Int) (n:Nat),M.dcd x=some i->ldn i.op=0->(M.dow i pc a b n).many≠0->sts i=true/\(M.dow i pc a b n).many=stn i.op/\fits n (M.dow i pc a b n).pl (stn i.op)=true
theorem zmM{M:Mc}(hM:MOk M)(hS:MS M){s:Cr}{m:Nat->Int}(I:Inv M s m){o:Dg}{l:List Dg}(hu:s.under=o::l)(h2:o.st=2)(hm:o.c.many≠0):sts o.i=true/\o.c.many=stn o.i.op/\fits s.n o.c.pl (stn o.i.op)=true:=by
 have hloc:=zap (l1:=[]) (show Ch M s.n s.wd s.th s.pc m s.f ([]++o::l)from hu▸I.ch)
 by_cases hz:(fet M s.n s.f s.pc).2=0
 ·have hc:=hloc.com h2 hz
  have hin:=hloc.ins
  obtain⟨x,hx⟩:=vC (M:=M) hz
  have hin':o.i=(fet M s.n s.f s.pc).1:=hin
  rw[<-hin']at hx
  unfold comC at hc
  split at hc
  ·unfold qf at hc
   exfalso
   apply hm
   rw[hc]
   split<;>rfl
  ·rename_i h0
   have h0':ldn o.i.op=0:=AA h0
   rw[hc]at hm⊢
   exact hS _ _ _ _ hx h0' hm
 ·have:=(hloc.bad hz).2
  rw[this]at hm
  exact absurd rfl hm
structure Al(M:Mc)(K:Int)(s:Cr)(m:Nat->Int):Prop where
 inv:Inv M s m
 rg:Rg K s
 uq:Uq s.asked
 low:33<=s.phys
 tak:0<=s.tak
 wid:1<=s.wide
 bck:0<=s.bck
theorem Al.mono{M:Mc}{K K':Int}{s:Cr}{m:Nat->Int}(h:Al M K s m)(hk:K<=K'):Al M K' s m:=⟨h.inv,h.rg.mono hk,h.uq,h.low,h.tak,h.wid,h.bck⟩
theorem Al.nms{M:Mc}(hM:MOk M){K:Int}{s:Cr}{m:Nat->Int}(h:Al M K s m):Nms s:=zoQ hM h.inv h.low h.rg.phys
theorem Al.len{M:Mc}{K:Int}{s:Cr}{m:Nat->Int}(h:Al M K s m):s.under.length<=32:=by
 have:=h.rg.len
 rw[h.inv.slo,AB]at this
 exact this
structure LoadI(M:Mc)(K:Int)(qs:List Int)(s:Cr)(m:Nat->Int):Prop where
 al:Al M K s m
 nod:qs.Nodup
 are:∀q∈qs,∀o∈s.under,o.seq=q->o.st=1
theorem zk3{M:Mc}{s:Cr}{m:Nat->Int}(I:Inv M s m){o:Dg}(ho:o∈s.under)(h:o.st=1):ldn o.i.op≠0:=by
 obtain⟨l1,l2,hu,hloc⟩:=xf I.ch ho
 rcases hloc.sta with e|⟨_,e⟩|e
 ·omega
 ·exact e
 ·omega
theorem zk4{M:Mc}(hR:MR M){s:Cr}{m:Nat->Int}(I:Inv M s m){o:Dg}(ho:o∈s.under)(h:o.st≠2):InOk o.i:=by
 obtain⟨l1,l2,hu,hloc⟩:=xf I.ch ho
 by_cases hz:(fet M s.n (fE s.f l1) (pE s.pc l1)).2=0
 ·obtain⟨x,hx⟩:=vC hz
  rw[<-hloc.ins]at hx
  exact hR.dcd hx
 ·exact absurd (hloc.bad hz).1 h
theorem Step.al{M:Mc}{K:Int}{s t:Cr}{m:Nat->Int}{l1 l2:List Dg}{o o':Dg}(h:Al M K s m)(S:Step s t l1 l2 o o')(I:Inv M t m){K':Int}(hR:Rg K' t)(hU:Uq t.asked)(hb:0<=t.bck):Al M K' t m:=
 ⟨I,hR,hU,by rw[S.same.phys];exact h.low,by rw[S.same.tak];exact h.tak,by rw[S.same.wide];exact h.wid,hb⟩
theorem zj7{s:Cr}(q:Int)(h:0<=s.bck):0<=(lodS s q).bck:=by
 unfold lodS
 split
 ·exact h
 ·split
  ·exact h
  ·unfold lod1
   simp only[]
   split
   ·split
    ·exact h
    ·exact jl _ _ _ h
   ·exact jl _ _ _ h
theorem zj8{M:Mc}{s:Cr}(q:Int)(h:0<=s.bck):0<=(staS M s q).bck:=by
 unfold staS
 split
 ·exact h
 ·unfold sta1
  split
  ·exact h
  ·exact jl _ _ _ h
theorem LoadI.step{M:Mc}(hM:MOk M){K:Int}{q:Int}{qs:List Int}{s:Cr}{m:Nat->Int}(h:LoadI M K (q::qs) s m):LoadI M (K+3) qs (lodS s q) m:=by
 obtain⟨hnq,hn2⟩:=Zw.1 h.nod
 have hrg:Rg (K+3) (lodS s q):=zmB h.al.rg λo ho e=>zk3 h.al.inv ho (h.are q (Ag ..) o ho e)
 have huq:=zmG h.al.uq q
 have hbk:=zj7 q h.al.bck
 cases hf:s.under.find? (λp=>decide (p.seq=q))with
 |none=>
  have e:lodS s q=s:=by unfold lodS;rw[hf]
  rw[e]
  exact⟨h.al.mono (by omega),hn2,λp hp=>h.are p (Ae _ hp)⟩
 |some o=>
  obtain⟨l1,l2,hu,rfl⟩:=jN hf
  have h1:=h.are o.seq (Ag ..) o (by rw[hu];simp) rfl
  obtain⟨I',o',S,hs',_⟩:=zbd hM h.al.inv hu h1
  obtain⟨l2',l3,e1,e2⟩:=S.under
  refine⟨S.al h.al I' hrg huq hbk,hn2,λp hp r hr e=>?_⟩
  refine h.are p (Ae _ hp) r ?_ e
  rw[e2]at hr
  rw[hu,e1]
  rcases AL.1 hr with h'|h'
  ·exact Am _ h'
  ·rcases Zn.1 h' with h'|h'
   ·rw[h',hs']at e;exact absurd hp (by rw[<-e];exact hnq)
   ·exact AZ _ (Ae _ (Am _ h'))
theorem LoadI.begin{M:Mc}{K:Int}{s:Cr}{m:Nat->Int}(h:Al M K s m):LoadI M K ((s.under.filter λo=>decide (o.st=1)).map (·.seq)) s m:=by
 refine⟨h,xz h.inv.rise _,λq hq o ho e=>?_⟩
 obtain⟨p,hp,rfl⟩:=AD.1 hq
 obtain⟨hp1,hp2⟩:=AC.1 hp
 rw[jX h.inv.rise ho hp1 e]
 simpa using hp2
structure StartI(M:Mc)(K:Int)(qs:List Int)(s:Cr)(m:Nat->Int):Prop where
 al:Al M K s m
 nod:qs.Nodup
 are:∀q∈qs,∀o∈s.under,o.seq=q->o.st=0/\s.th o.a=true/\s.th o.b=true
theorem zdI{M:Mc}{s:Cr}{l1 l2:List Dg}{o:Dg}(hu:s.under=l1++o::l2)(hr:Rise s.under):staS M s o.seq=sta1 M s o:=by
 unfold staS
 rw[hu,yc (hu▸hr)]
theorem StartI.step{M:Mc}(hM:MOk M)(hR:MR M){K:Int}{q:Int}{qs:List Int}{s:Cr}{m:Nat->Int}(h:StartI M K (q::qs) s m):StartI M (K+2) qs (staS M s q) m:=by
 obtain⟨hnq,hn2⟩:=Zw.1 h.nod
 have hbk:=zj8 (M:=M) q h.al.bck
 cases hf:s.under.find? (λp=>decide (p.seq=q))with
 |none=>
  have e:staS M s q=s:=by unfold staS;rw[hf]
  rw[e]
  exact⟨h.al.mono (by omega),hn2,λp hp=>h.are p (Ae _ hp)⟩
 |some o=>
  obtain⟨l1,l2,hu,rfl⟩:=jN hf
  have ho:o∈s.under:=by rw[hu];simp
  have h1:=h.are o.seq (Ag ..) o ho rfl
  rw[zdI hu h.al.inv.rise]at hbk⊢
  obtain⟨I',o',S,hs',_⟩:=zbe hM h.al.inv hu h1.1 h1.2
  obtain⟨l2',l3,e1,e2⟩:=S.under
  refine⟨S.al h.al I' (zmC hR h.al.rg (h.al.rg.und o ho) (zk4 hR h.al.inv ho (by omega))) (zmH h.al.uq o) hbk,hn2,λp hp r hr e=>?_⟩
  have hm:r∈s.under:=by
   rw[e2]at hr
   rw[hu,e1]
   rcases AL.1 hr with h'|h'
   ·exact Am _ h'
   ·rcases Zn.1 h' with h'|h'
    ·rw[h',hs']at e;exact absurd hp (by rw[<-e];exact hnq)
    ·exact AZ _ (Ae _ (Am _ h'))
  obtain⟨x1,x2,x3⟩:=h.are p (Ae _ hp) r hm e
  exact⟨x1,S.thr _ x2,S.thr _ x3⟩
theorem zoR{M:Mc}{K:Int}{s:Cr}{m:Nat->Int}(h:Al M K s m)(k:List Int):Al M K {s with scr:=k} m:=
 ⟨zhj h.inv k,⟨h.rg.win,h.rg.phys,h.rg.wide,h.rg.n,h.rg.f,h.rg.tb,h.rg.wd,h.rg.und,h.rg.ask,h.rg.fro,h.rg.len,h.rg.lenA,h.rg.bck,h.rg.tak⟩,h.uq,h.low,h.tak,h.wid,h.bck⟩
theorem StartI.begin{M:Mc}{K:Int}{s:Cr}{m:Nat->Int}(h:Al M K s m)(k:List Int)(j:Nat):StartI M K ((turn s (ready s)).take j) {s with scr:=k} m:=by
 refine⟨zoR h k,(zaE (xz h.inv.rise _)).sublist (List.take_sublist _ _),λq hq o ho e=>?_⟩
 have hq:=zex.1 (Zc hq)
 unfold ready at hq
 obtain⟨p,hp,rfl⟩:=AD.1 hq
 obtain⟨hp1,hp2⟩:=AC.1 hp
 have ho:o∈s.under:=ho
 rw[jX h.inv.rise ho hp1 e]
 simp at hp2
 exact⟨hp2.1.1,hp2.1.2,hp2.2⟩
theorem Al.take{M:Mc}(hM:MOk M)(hR:MR M){K:Int}{s:Cr}{m:Nat->Int}(h:Al M K s m)(ho:s.opn=true):Al M (K+3) (tak1 M s).1 m:=by
 obtain⟨g1,g2,g3,_,_,_,_,_,_,_,_,_,gp,gw,gb,_⟩:=yQ hM h.inv ho h.tak
 have ht:0<=(tak1 M s).1.tak:=by
  have:=h.tak
  by_cases h2:(tak1 M s).2=true
  ·obtain⟨o,_,_,e⟩:=g3 h2;omega
  ·rw[(g2 (by simpa using h2)).1];exact this
 exact⟨g1,zmt hR h.rg,zmI h.uq (zmJ h.inv),by rw[gp];exact h.low,ht,by rw[gw];exact h.wid,by rw[gb];exact h.bck⟩
theorem zmN{M:Mc}{s:Cr}(k:Nat)(h:Uq s.asked):Uq (comN M k s).asked:=zcx h _
theorem zaL(M:Mc)(s:Cr):(commit M s).bck=s.bck/\(commit M s).tak=s.tak/\(commit M s).wide=s.wide/\(commit M s).phys=s.phys:=by
 have key:∀(l:List Dg) (s:Cr),(l.foldl (com1 M) s).bck=s.bck/\(l.foldl (com1 M) s).tak=s.tak/\(l.foldl (com1 M) s).wide=s.wide/\(l.foldl (com1 M) s).phys=s.phys:=by
  intro l
  induction l with
  |nil=>intro s;exact⟨rfl,rfl,rfl,rfl⟩
  |cons o l ih=>intro s;exact ih (com1 M s o)
 exact key _ s
theorem LoadI.all{M:Mc}(hM:MOk M):∀{qs:List Int} {K:Int} {s:Cr} {m:Nat->Int},LoadI M K qs s m->Al M (K+3*qs.length) (qs.foldl lodS s) m
 |[],K,s,m,h=>h.al.mono (by simp)
 |q::qs,K,s,m,h=>by
  have:=LoadI.all hM (h.step hM)
  rw[ZK]
  exact this.mono (by simp;omega)
theorem StartI.all{M:Mc}(hM:MOk M)(hR:MR M):∀{qs:List Int} {K:Int} {s:Cr} {m:Nat->Int},StartI M K qs s m->Al M (K+2*qs.length) (qs.foldl (staS M) s) m
 |[],K,s,m,h=>h.al.mono (by simp)
 |q::qs,K,s,m,h=>by
  have:=StartI.all hM hR (h.step hM hR)
  rw[ZK]
  exact this.mono (by simp;omega)
theorem Al.load{M:Mc}(hM:MOk M){K:Int}{s:Cr}{m:Nat->Int}(h:Al M K s m):Al M (K+96) (load s) m:=by
 have:=(LoadI.begin h).all hM
 refine this.mono ?_
 have h1:=AM (λo:Dg=>decide (o.st=1)) s.under
 have h2:=h.len
 rw[AB]
 omega
theorem zeW(M:Mc)(s:Cr):∃k,start M s=((turn s (ready s)).take s.wide.toNat).foldl (staS M) {s with scr:=k}/\((if 1<(ready s).length then chS s else s)={s with scr:=k}):=by
 unfold start
 simp only[]
 split
 ·exact⟨s.scr.tail,rfl,rfl⟩
 ·exact⟨s.scr,rfl,rfl⟩
theorem Al.start{M:Mc}(hM:MOk M)(hR:MR M){K:Int}{s:Cr}{m:Nat->Int}(h:Al M K s m):Al M (K+8) (start M s) m:=by
 obtain⟨k,e,_⟩:=zeW M s
 rw[e]
 refine((StartI.begin h k s.wide.toNat).all hM hR).mono ?_
 have h1:((turn s (ready s)).take s.wide.toNat).length<=s.wide.toNat:=by rw[Au];omega
 have h2:=h.rg.wide
 omega
theorem Al.takes{M:Mc}(hM:MOk M)(hR:MR M):∀(k:Nat) {K:Int} {s:Cr} {m:Nat->Int},Al M K s m->Al M (K+3*k) (takN M k s) m
 |0,K,s,m,h=>h.mono (by omega)
 |k+1,K,s,m,h=>by
  unfold takN
  split
  ·rename_i ho
   split
   ·exact(Al.takes hM hR k (h.take hM hR ho)).mono (by omega)
   ·exact(h.take hM hR ho).mono (by omega)
  ·exact h.mono (by omega)
structure Gd(M:Mc)(h0:Hs)(s:Cr):Prop where
 good:Good M h0 s
 al:s.st=0->∃m,Al M (116*s.cyc) s m
theorem zcA{M:Mc}(hM:MOk M)(hR:MR M){h0:Hs}{K:Int}{s:Cr}{m:Nat->Int}(h:Al M K s m)(hs:s.st=0)(hr:Ref M h0 s)(h1:(commit M s).st=0):∃m',Al M K (commit M s) m':=by
 have hk:=yR s.slots (min s.wide (left s)).toNat
 have hlen:qY s.slots (min s.wide (left s)).toNat<=s.under.length:=by
  have:=hk.2
  rw[h.inv.slo,AB]at this
  rw[h.inv.slo]
  exact this
 have hd:∀o∈s.under.take (qY s.slots (min s.wide (left s)).toNat),o.st=2:=by
  rw[h.inv.slo]
  exact xA s.under _
 obtain⟨_,_,g3,g4⟩:=zbg hM (h:=h0) _ s m h.inv hs hr hlen hd
 obtain⟨m',I'⟩:=g3 h1
 obtain⟨b1,b2,b3,b4⟩:=zaL M s
 exact⟨m',I',zh6 hR h.rg,zmN _ h.uq,by rw[b4];exact h.low,by rw[b2];exact h.tak,by rw[b3];exact h.wid,by rw[b1];exact h.bck⟩
theorem zk5{M:Mc}{K:Int}{s:Cr}{m:Nat->Int}(h:Al M K s m)(x:Int):Al M K {s with cyc:=x} m:=
 ⟨⟨h.inv.base,h.inv.ch,h.inv.reg,h.inv.en,h.inv.dis,h.inv.cnt,h.inv.rise,h.inv.low,h.inv.slo,h.inv.ask,h.inv.lat⟩,⟨h.rg.win,h.rg.phys,h.rg.wide,h.rg.n,h.rg.f,h.rg.tb,h.rg.wd,h.rg.und,h.rg.ask,h.rg.fro,h.rg.len,h.rg.lenA,h.rg.bck,h.rg.tak⟩,h.uq,h.low,h.tak,h.wid,h.bck⟩
theorem zif{M:Mc}{h0:Hs}{s:Cr}(h:Ref M h0 s)(x:Int):Ref M h0 {s with cyc:=x}:=⟨h.is,h.coms,h.runs⟩
theorem zj9{M:Mc}(hM:MOk M)(hR:MR M){h0:Hs}{s:Cr}(G:Gd M h0 s)(hs:s.st=0)(hc6:s.cyc<6000):Gd M h0 (cycle M s):=by
 obtain⟨g1,g2,g3,g4⟩:=yd hM G.good hs hc6
 refine⟨g1,λh=>?_⟩
 obtain⟨m,A⟩:=G.al hs
 have A1:=zk5 A (s.cyc+1)
 rw[g2]
 unfold cycle at h⊢
 simp only[]at h⊢
 by_cases h1:(commit M {s with cyc:=s.cyc+1}).st=0
 ·rw[if_pos h1]
  obtain⟨m',A2⟩:=zcA hM hR A1 hs (zif G.good.ref _) h1
  have hw:=A.rg.wide
  have hw1:=A.wid
  exact⟨m',((((A2.load hM).start hM hR).takes hM hR s.wide.toNat)).mono (by omega)⟩
 ·rw[if_neg h1]at h
  exact absurd h h1
theorem zka{M:Mc}(hM:MOk M)(win phys wide:Int)(n:Nat)(R:Nat->Int)(pc st ca:Int)(f:Nat->Int)(scr:List Int)(hw:1<=win)(hw2:win<=32)(hp:33<=phys)(hp2:phys<=96)(hwi:1<=wide)(hwi2:wide<=4)(hn:n<=4096)(hf:∀i,i<n->0<=f i/\f i<=255)(hR:∀i,i<32->U32 (R i))(hpc:U32 pc):Gd M ⟨R,pc,st,ca,f⟩ (begin win phys wide n R pc st ca f scr):=by
 have g:=zaF (M:=M) win phys wide n R pc st ca f scr hw hp hp2 hwi
 refine⟨g,λh=>?_⟩
 obtain⟨m,I⟩:=g.inv h
 exact⟨m,I,zj4 win phys wide n R pc st ca f scr hw2 hp2 hwi2 hn hf hR hpc,List.nodup_nil,hp,Zm _,hwi,Zm _⟩
end Go.Proofs.YtpiohehijkpghacGreatDoor.Co
namespace Go.Proofs.YtpiohehijkpghacGreatDoor.Co
open Go.RowKit
open Hy
open Wi Od Re.Hy
open Gu.Hy (Tb tcs)
theorem xW{N:Nat}{w:World}{b:Nat}{s:Cr}{L:Sls}(S:St N w b s L):Calls prog 61 #[.pointer (some ⟨b,0,none⟩)] w λe w'=>e=.returned (.int .u64 (chN s))/\∃v,St N w' b (chS s) {L with r:=v}/\To b w L w' {L with r:=v}/\∀g,v.ownBlock=some g->0<(chS s).scr.length->L.r.ownBlock=some g/\0<s.scr.length:=by
 cases h:s.scr with
 |nil=>
  obtain⟨p,c,e,hl⟩:=S.its.ir
  rw[h]at e
  have k336:w.cell? ⟨b,336,none⟩=some (.slice p 0 c):=(zd S.row (by omega)).trans (congrArg some e)
  have e1:chN s=0:=by unfold chN;rw[h]
  have e2:chS s=s:=by unfold chS;rw[h];simp only[List.tail_nil];rw[<-h]
  rw[e1,e2]
  clear hl
  have HS:Hid (St N w b s L):=S
  have HZ:Hid (0<s.scr.length->0<(@List.nil Int).length):=λh0=>by rw[h]at h0;exact h0
  clear S
  go_enter func61,ntmps61
  go_wp2
  go_ret
  exact⟨rfl,L.r,HS.out,To.refl b w L,λg hg h0=>⟨hg,HZ.out h0⟩⟩
 |cons x l=>
  obtain⟨p,c,e,hl⟩:=S.its.ir
  rw[h]at e hl
  obtain⟨g,o,rfl,hlt,hc⟩:=hl.sure (by simp)
  have hle:=hl.le
  simp only[Za]at e hle
  have k336:w.cell? ⟨b,336,none⟩=some (.slice (some ⟨g,o,none⟩) (l.length+1) c):=(zd S.row (by omega)).trans (congrArg some e)
  have kx:w.cell? ⟨g,o,none⟩=some (.int .i64 x):=by simpa[ics]using hc 0 (.int .i64 x) (by simp[ics])
  have fr:w.frozen? ⟨b,336,none⟩=false:=AH _ _ _ _ _ S.row
  have hc1:1<=c:=by omega
  have e1:chN s=x%18446744073709551616:=by unfold chN;rw[h]
  have e2:chS s={s with scr:=l}:=by unfold chS;rw[h];rfl
  rw[e1,e2]
  have HS:Hid (St N w b s L):=S
  have HL:Hid (LC w (some ⟨g,o,none⟩) (x::l).length c 1 (ics (x::l))):=hl
  have HN:Hid (¬own b L g):=S.its.sr g (by rw[e];rfl) (by rw[h];simp)
  have HR:Hid (L.r.ownBlock=some g/\0<s.scr.length):=⟨by rw[e];rfl,by rw[h];simp⟩
  clear S hl hc e h e1 e2 hlt
  have hd:ics l=(ics (x::l)).drop (1*1):=by simp[ics]
  go_enter func61,ntmps61
  go_wp2
  ·go_ret
   refine⟨rfl,.slice (some ⟨g,o,none⟩) l.length 0,St.cell HS.out.row (HS.out.its.setR (l:=l) ⟨_,0,rfl,?_⟩ (λg' hg' h0=>?_)) 336 _ (λj hj=>zoa s L _ j hj),jQ w 336 _ (λg hg=>.inl hg),λg' hg' _=>HR.out.1.trans (by cases hg';rfl)⟩
   ·have hz:l.length=0:=by omega
    obtain rfl:l=[]:=Zd hz
    exact Wi.zet w _ 1
   ·omega
  ·go_ret
   refine⟨rfl,.slice (some ⟨g,o+1,none⟩) l.length (c-1),St.cell HS.out.row (HS.out.its.setR (l:=l) ⟨_,c-1,rfl,?_⟩ (λg' hg' h0=>?_)) 336 _ (λj hj=>zoa s L _ j hj),jQ w 336 _ (λg hg=>.inl hg),λg' hg' _=>HR.out.1.trans (by cases hg';rfl)⟩
   ·rw[hd]
    have:=HL.out.drop 1 (by simp) (a:=some ⟨g,o+1,none⟩) (λ_=>rfl) rfl
    simpa using this
   ·obtain rfl:g=g':=Ai hg'
    exact HN.out
theorem Apt.scr{b q:Nat}{s:Cr}{L:Sls}(A:Apt b q s L){v:Value}{k:List Int}(h:∀g,v.ownBlock=some g->0<k.length->L.r.ownBlock=some g/\0<s.scr.length):Apt b q {s with scr:=k} {L with r:=v}:=
 ⟨A.o,A.m,A.f,A.sl,λg hg h0=>A.r g (h g hg h0).1 (h g hg h0).2,A.g1,A.g2⟩
theorem zfU(x:Int):IntKind.u32.wrap x=x%4294967296:=by rfl
abbrev tbL(t:Tb):List Value:=(rowOf (tat t) 64).toList
theorem St.table{N:Nat}{w:World}{b:Nat}{s:Cr}{L:Sls}(S:St N w b s L):w.rangeAt b 43 (tbL s.tb):=jB S.row (by omega) (zpI s L)
theorem xG(t:Tb):(prog.info? 56).map (·.size)=some (tbL t).length:=by
 rw[Aj,ze]
 exact Gu.yl
theorem zmO{t:Tb}(pc:Int)(hp:U32 pc)(w:World):Calls prog 172 #[.agg (tbL t).toArray,.int .u32 pc] w λe w'=>e=.returned (.tuple #[.bool (brM t pc).1,.int .u32 (brM t pc).2])/\Below w.heap.size w w':=by
 have e:(tbL t).toArray=tcs t:=by rw[yi]
 rw[e]
 exact Gu.gBr t pc hp.1 hp.2 w
theorem zoS{t:Tb}(ht:Gu.TbOk t)(pc:Int)(hp:U32 pc)(w:World):Calls prog 173 #[.agg (tbL t).toArray,.int .u32 pc] w λe w'=>e=.returned (.tuple #[.int .u32 (vaM t pc).1,.bool (vaM t pc).2])/\Below w.heap.size w w':=by
 have e:(tbL t).toArray=tcs t:=by rw[yi]
 rw[e]
 exact Gu.gVa t ht pc hp.1 hp.2 w
theorem zfV{N:Nat}{w:World}{b:Nat}{s:Cr}{L:Sls}(S:St N w b s L)(ht:Gu.TbOk s.tb)(pc k:Int)(hp:U32 pc)(k0:0<=k)(k1:k<=18446744073709551615):
  Calls prog 139 #[.pointer (some ⟨b,0,none⟩),.int .u32 pc,.int .u64 k] w λe w'=>e=.returned (.tuple #[.int .u32 (valO mach s pc k).1,.bool (valO mach s pc k).2])/\Below w.heap.size w w':=by
 have HS:Hid (St N w b s L):=S
 have CV:=λW=>zoS ht pc hp W
 have E:Hid (∀j,j=k%3->valO mach s pc k=if j=1 then(0,false)else if j=2 then(k%4294967296,true)else vaM s.tb pc):=λj hj=>by subst hj;rfl
 obtain⟨r,hr⟩:∃r,r=valO mach s pc k:=⟨_,rfl⟩
 rw[<-hr]at E⊢
 obtain⟨v,hv⟩:∃v,v=vaM s.tb pc:=⟨_,rfl⟩
 rw[<-hv]at E CV
 obtain⟨j,hj⟩:∃j,j=k%3:=⟨_,rfl⟩
 have F:=E.out j hj
 have hj0:0<=j/\j<3:=by omega
 clear S hr hv E
 by_cases h1:j=1
 ·rw[if_pos h1]at F
  have hm:k%3=1:=by omega
  clear hj hj0 h1
  subst F
  go_enter func139,ntmps139
  go_wp2
  go_ret2
  exact⟨rfl,Af _ _⟩
 ·by_cases h2:j=2
  ·rw[if_neg h1,if_pos h2]at F
   have hm:k%3=2:=by omega
   clear hj hj0 h1 h2
   subst F
   go_enter func139,ntmps139
   go_wp2
   go_ret2
   exact⟨rfl,Af _ _⟩
  ·rw[if_neg h1,if_neg h2]at F
   have hm:k%3=0:=by omega
   clear hj hj0 h1 h2
   subst F
   go_enter func139,ntmps139
   go_wp2_with(refine Ax rfl 56 _ rfl b 43 rfl (tbL s.tb) _ HS.out.table underlying56 rfl (xG _) ?_)
   refine(CV _).mono ?_
   rintro e V3 ⟨rfl,hk⟩
   go_wp2
   go_ret2
   exact⟨rfl,hk⟩
theorem zkb{N:Nat}{w:World}{b:Nat}{s:Cr}{L:Sls}(S:St N w b s L)(ht:Gu.TbOk s.tb)(o:Dg)(hp:U32 o.pc)(i0:-2147483648<=o.i.im)(i1:o.i.im<=2147483647):
  Calls prog 138 #[.pointer (some ⟨b,0,none⟩),dgv o] w λe w'=>e=.returned (.int .u32 (wayO mach s o).2)/\∃L',St N w' b (wayO mach s o).1 L'/\To b w L w' L'/\∀q,Apt b q s L->Apt b q (wayO mach s o).1 L':=by
 have CT:=λW=>zaH o.i W
 have CB:=λW=>zmO (t:=s.tb) o.pc hp W
 obtain⟨x,hx⟩:∃x,IntKind.u32.wrap o.i.im=x:=⟨_,rfl⟩
 obtain⟨y,hy⟩:∃y,IntKind.u32.wrap (o.pc+x)=y:=⟨_,rfl⟩
 obtain⟨z,hz⟩:∃z,IntKind.u32.wrap (o.pc+4)=z:=⟨_,rfl⟩
 have ey:(o.pc+o.i.im)%4294967296=y:=by rw[<-hy,<-hx,zfU,zfU];omega
 have ez:(o.pc+4)%4294967296=z:=by rw[<-hz,zfU]
 obtain⟨r,hr⟩:∃r,r=wayO mach s o:=⟨_,rfl⟩
 obtain⟨tk,htk⟩:∃tk,tk=(brM s.tb o.pc).1:=⟨_,rfl⟩
 obtain⟨tg,htg⟩:∃tg,tg=(brM s.tb o.pc).2:=⟨_,rfl⟩
 have HR:Hid (r=if o.i.op=3 then(s,y)else if trn o.i then(chS s,if(tk^^decide (chN s%2=1))then(if o.i.op=4 then tg else y)else z)else(s,z)):=by
  show _=_
  rw[hr,htk,htg,<-ey,<-ez]
  rfl
 rw[<-hr]
 rw[<-htk,<-htg]at CB
 have HS:Hid (St N w b s L):=S
 clear S hr htk htg ey ez
 go_enter func138,ntmps138
 go_upto_region 1 with fail
 refine Wi.zh (Φ:=λW=>ZF _ _ _ _ W) ?_
 intro V hV hVb
 have BV:Hid (Bx V w.heap.size o):=hV
 have SV:Hid (St N V b s L):=HS.out.below hVb
 have TV:Hid (To b w L V L):=zf L hVb
 have HQ:Hid (¬own b L w.heap.size):=λh=>by have:=qR HS.out h;omega
 clear hV hVb HS
 generalize w.heap.size=q at*
 refine zu (S:=λw'=>w'.cell? ⟨q,1,none⟩=some (.int .u32 o.pc)/\w'.cell? ⟨q,6,none⟩=some (.int .i32 o.i.im)) [] (by kernel_rfl) (⟨zl BV.out 1 rfl,zl BV.out 6 rfl⟩) (λhH=>?_)
 refine tU 0 (.pointer (some ⟨q,1,none⟩)) ?_;go_simp
 refine tA 1 (.int .u32 o.pc) ?_;go_simp
 refine tU 2 (.int .u32 z) ?_;go_simp
 refine tU 3 (.pointer (some ⟨q,1,none⟩)) ?_;go_simp
 refine tA 4 (.int .u32 o.pc) ?_;go_simp
 refine tU 5 (.pointer (some ⟨q,2,none⟩)) ?_;go_simp
 refine tU 6 (.pointer (some ⟨q,6,none⟩)) ?_;go_simp
 refine tB 7 (.int .i32 o.i.im) ?_;go_simp
 refine tU 8 (.int .u32 x) ?_;go_simp
 refine tU 9 (.int .u32 y) ?_;go_simp
 refine tU 10 (.int .u32 z) ?_;go_simp
 refine tU 11 (.int .u32 y) ?_;go_simp
 refine zG (by kernel_rfl) ?_ _
 clear hH
 have c2:=zl BV.out 2 (v:=.int .i64 o.i.op) rfl
 have HOP:Hid (∀k,o.i.op=k->o.i.op=k):=λ_ h=>h
 obtain⟨p,hpp⟩:∃p,p=o.i.op:=⟨_,rfl⟩
 rw[<-hpp]at c2 HR
 have HP:Hid (p=o.i.op):=hpp
 clear hpp HOP
 by_cases h3:p=3
 ·have hr:=HR.out
  rw[if_pos h3]at hr
  subst hr h3
  clear HR
  go_wp2
  go_ret
  exact⟨rfl,L,SV.out.dr,TV.out.dr,λq h=>h⟩
 ·have h3':(p==3)=false:=by simpa using h3
  have hr:=HR.out
  rw[if_neg h3]at hr
  have HR2:Hid (r=if trn o.i then(chS s,if(tk^^decide (chN s%2=1))then(if p=4 then tg else y)else z)else(s,z)):=hr
  clear HR hr
  go_wp2_with(refine Ax rfl 78 _ rfl q 2 rfl (ivL o.i).toList _ (xl BV.out) underlying78 rfl (qP _) ?_)
  refine(CT _).mono ?_
  rintro e V2 ⟨rfl,hk⟩
  have B2:Hid (Bx V2 q o):=BV.out.dr.below hk
  have S2:Hid (St N V2 b s L):=SV.out.dr.below hk
  have T2:Hid (To b w L V2 L):=TV.out.dr.trans (zf L hk)
  clear hk CT BV SV TV c2
  cases htr:trn o.i with
  |false=>
   have hr:=HR2.out
   rw[htr]at hr
   simp only[Bool.false_eq_true,if_false]at hr
   subst hr
   clear HR2 htr
   go_wp2
   go_ret
   exact⟨rfl,L,S2.out,T2.out,λq h=>h⟩
  |true=>
   have hr:=HR2.out
   rw[htr]at hr
   simp only[if_true]at hr
   have HR3:Hid (r=(chS s,if(tk^^decide (chN s%2=1))then(if p=4 then tg else y)else z)):=hr
   clear HR2 htr hr
   go_upto_region 6 with fail
   refine zu (S:=λw'=>w'.rangeAt b 43 (tbL s.tb)/\w'.cell? ⟨q,1,none⟩=some (.int .u32 o.pc)) [] (by kernel_rfl) (⟨S2.out.table,zl B2.out 1 rfl⟩) (λhH=>?_)
   refine tU 0 (.pointer (some ⟨b,0,none⟩)) ?_;go_simp
   refine tU 1 (.pointer (some ⟨b,0,none⟩)) ?_;go_simp
   refine tU 2 (.pointer (some ⟨b,43,none⟩)) ?_;go_simp
   refine tS 3 (.agg (tbL s.tb).toArray) rfl (AN (by rfl) 56 _ rfl _ _ rfl (tbL s.tb) _ (λwz hSw=>hSw.1) underlying56 rfl (xG _)) hH ?_;go_simp
   refine tU 4 (.pointer (some ⟨q,1,none⟩)) ?_;go_simp
   refine tB 5 (.int .u32 o.pc) ?_;go_simp
   refine zC 6 rfl (λK hK=>?_)
   go_simp
   refine(CB _).mono ?_
   rintro e V3 ⟨rfl,hk⟩
   have HK:Hid (Below V2.heap.size V2 V3):=zg hk (Aa _)
   go_wp2_with fail
   refine hK.out _ _ (⟨xk hk (hH.1),zn hk (hH.2)⟩) (λhN=>?_)
   clear hK K hH
   have hH:=hN
   clear hN
   try go_simp
   refine tU 7 (.tuple #[.bool tk,.int .u32 tg]) ?_;go_simp
   refine tU 8 (.bool tk) ?_;go_simp
   refine tU 9 (.int .u32 tg) ?_;go_simp
   refine tU 10 (.bool tk) ?_;go_simp
   refine tU 11 (.int .u32 tg) ?_;go_simp
   refine zG (by kernel_rfl) ?_ _
   have S3:Hid (St N V3 b s L):=S2.out.below HK.out
   have B3:Hid (Bx V3 q o):=B2.out.below HK.out
   have T3:Hid (To b w L V3 L):=T2.out.trans (zf L HK.out)
   clear HK hH S2 B2 T2 CB
   go_wp2_with fail
   refine(xW S3.out).mono ?_
   rintro e V4 ⟨rfl,v4,s4,t4,a4⟩
   have S4:Hid (St N V4 b (chS s) {L with r:=v4}):=s4
   have T4:Hid (To b w L V4 {L with r:=v4}):=T3.out.trans t4
   have A4:Hid (∀q,Apt b q s L->Apt b q (chS s) {L with r:=v4}):=λq h=>h.scr a4
   have B4:Hid (Bx V4 q o):=B3.out.to t4 HQ.out
   clear s4 t4 a4 S3 T3 B3
   have c2:V4.cell? ⟨q,2,none⟩=some (.int .i64 p):=zl B4.out 2 (by rw[HP.out];rfl)
   obtain⟨n,hn⟩:∃n,n=chN s:=⟨_,rfl⟩
   rw[<-hn]
   have n0:0<=n:=by rw[hn];exact zbf s
   have hr:=HR3.out
   rw[<-hn]at hr
   clear hn HR3
   rcases(by omega:n%2=1\/n%2=0)with hm|hm
   ·rw[decide_eq_true hm]at hr
    have HR4:Hid (r=(chS s,if(tk^^true)then(if p=4 then tg else y)else z)):=hr
    clear hr
    cases tk with
    |true=>
     have hr:=HR4.out
     subst hr
     clear HR4
     go_wp2
     go_ret
     exact⟨rfl,_,S4.out,T4.out,A4.out⟩
    |false=>
     by_cases h4:p=4
     ·have hr:=HR4.out
      rw[if_pos h4]at hr
      subst hr h4
      clear HR4
      go_wp2
      go_ret
      exact⟨rfl,_,S4.out,T4.out,A4.out⟩
     ·have h4':(p==4)=false:=by simpa using h4
      have hr:=HR4.out
      rw[if_neg h4]at hr
      subst hr
      clear HR4
      go_wp2
      go_ret
      exact⟨rfl,_,S4.out,T4.out,A4.out⟩
   ·rw[decide_eq_false (by omega)]at hr
    have HR4:Hid (r=(chS s,if(tk^^false)then(if p=4 then tg else y)else z)):=hr
    clear hr
    cases tk with
    |false=>
     have hr:=HR4.out
     subst hr
     clear HR4
     go_wp2
     go_ret
     exact⟨rfl,_,S4.out,T4.out,A4.out⟩
    |true=>
     by_cases h4:p=4
     ·have hr:=HR4.out
      rw[if_pos h4]at hr
      subst hr h4
      clear HR4
      go_wp2
      go_ret
      exact⟨rfl,_,S4.out,T4.out,A4.out⟩
     ·have h4':(p==4)=false:=by simpa using h4
      have hr:=HR4.out
      rw[if_neg h4]at hr
      subst hr
      clear HR4
      go_wp2
      go_ret
      exact⟨rfl,_,S4.out,T4.out,A4.out⟩
theorem Bx.nx{w:World}{q:Nat}{o:Dg}(h:Bx w q o)(x:Int):Bx (w.setCell ⟨q,13,none⟩ (.int .u32 x)) q {o with next:=x}:=h.put 13 _ (by omega) rfl
theorem Bx.late{w:World}{q:Nat}{o:Dg}(h:Bx w q o)(x:Int):Bx (w.setCell ⟨q,15,none⟩ (.int .i64 x)) q {o with late:=x}:=h.put 15 _ (by omega) rfl
theorem Bx.car{w:World}{q:Nat}{o:Dg}(h:Bx w q o)(x:Bool):Bx (w.setCell ⟨q,16,none⟩ (.bool x)) q {o with car:=x}:=h.put 16 _ (by omega) rfl
theorem Bx.gsd{w:World}{q:Nat}{o:Dg}(h:Bx w q o)(x:Bool):Bx (w.setCell ⟨q,14,none⟩ (.bool x)) q {o with gs:=x}:=h.put 14 _ (by omega) rfl
theorem Apt.fro{b q:Nat}{s:Cr}{L:Sls}(h:Apt b q s L)(x:Int):Apt b q {s with fro:=x} L:=⟨h.o,h.m,h.f,h.sl,h.r,h.g1,h.g2⟩
theorem Apt.words{b q:Nat}{s:Cr}{L:Sls}(h:Apt b q s L)(x:Int->Int)(y:Int->Bool):Apt b q {s with wd:=x,th:=y} L:=⟨h.o,h.m,h.f,h.sl,h.r,h.g1,h.g2⟩
theorem zbv{N:Nat}{w V:World}{b q:Nat}{s:Cr}{L L':Sls}{o o':Dg}{j:Nat}{v:Value}(S:St N V b s L')(A:Apt b q s L')(T:Toq b q w L V L')(B:Bx (V.setCell ⟨q,j,none⟩ v) q o'):St N (V.setCell ⟨q,j,none⟩ v) b s L'/\Bx (V.setCell ⟨q,j,none⟩ v) q o'/\Toq b q w L (V.setCell ⟨q,j,none⟩ v) L':=
 ⟨S.other (qc V q j v) A,B,T.trans (zaK (qc V q j v))⟩
theorem zk6(s:Cr):chN s<=18446744073709551615:=by
 unfold chN
 split
 ·decide
 ·omega
theorem zfW{N:Nat}{w:World}{b q:Nat}{s:Cr}{L:Sls}{o:Dg}(S:St N w b s L)(B:Bx w q o)(A:Apt b q s L)(ht:Gu.TbOk s.tb)(hp:U32 o.pc)(i0:-2147483648<=o.i.im)(i1:o.i.im<=2147483647)(ht0:0<=o.to)(ht1:o.to<96):
  Calls prog 97 #[.pointer (some ⟨b,0,none⟩),.pointer (some ⟨q,0,none⟩)] w λe w'=>e=.returned (.tuple #[])/\∃L',St N w' b (gueO mach s o).1 L'/\Bx w' q (gueO mach s o).2/\Apt b q (gueO mach s o).1 L'/\Toq b q w L w' L':=by
 have CW:Hid (∀W,Below w.heap.size w W->Calls prog 138 #[.pointer (some ⟨b,0,none⟩),dgv o] W λe w'=>e=.returned (.int .u32 (wayO mach s o).2)/\∃L',St N w' b (wayO mach s o).1 L'/\To b W L w' L'/\∀q,Apt b q s L->Apt b q (wayO mach s o).1 L'):=λW hW=>zkb (S.below hW) ht o hp i0 i1
 obtain⟨r,hr⟩:∃r,r=gueO mach s o:=⟨_,rfl⟩
 obtain⟨s1,hs1⟩:∃s1,s1=(wayO mach s o).1:=⟨_,rfl⟩
 obtain⟨x,hx⟩:∃x,x=(wayO mach s o).2:=⟨_,rfl⟩
 have HR:Hid (r=if ldn o.i.op=0 then({s1 with fro:=x},{o with next:=x})else gueL mach {s1 with fro:=x} {o with next:=x}):=by show _=_;rw[hr,hs1,hx];rfl
 have htb:s1.tb=s.tb:=by
  rw[hs1]
  unfold wayO
  split
  ·rfl
  ·split<;>rfl
 rw[<-hr]
 rw[<-hs1,<-hx]at CW
 have HT:Hid (Gu.TbOk s1.tb):=by rw[htb];exact ht
 have HB:Hid (Bx w q o):=B
 have HA:Hid (Apt b q s L):=A
 have HS:Hid (St N w b s L):=S
 have c28:Hid (w.rangeAt q 0 (dgl o)):=zeS B λi v hi=>by rw[Zs];exact hi
 clear S A hr hs1 hx htb ht B
 go_enter func97,ntmps97
 go_wp2_with(refine Ax rfl 132 _ rfl q 0 rfl (dgl o) _ c28.out underlying132 rfl (zM o) ?_)
 refine(CW.out _ (Af _ _)).mono ?_
 rintro e V1 ⟨rfl,L1,t1,t2,t3⟩
 have S1:Hid (St N V1 b s1 L1):=t1
 have T1:Hid (Toq b q w L V1 L1):=t2.q
 have A1:Hid (Apt b q s1 L1):=t3 q HA.out
 have B1:Hid (Bx V1 q o):=HB.out.to t2 HA.out.o
 have c13:=zl B1.out 13 (v:=.int .u32 o.next) rfl
 have f13:=qA B1.out 13
 clear t1 t2 t3
 go_upto_region 1 with fail
 obtain⟨s2,b2,t2⟩:=zbv (o:=o) S1.out A1.out T1.out (B1.out.nx x)
 have S2:Hid (St N (V1.setCell ⟨q,13,none⟩ (.int .u32 x)) b s1 L1):=s2
 have B2:Hid (Bx (V1.setCell ⟨q,13,none⟩ (.int .u32 x)) q {o with next:=x}):=b2
 have T2:Hid (Toq b q w L (V1.setCell ⟨q,13,none⟩ (.int .u32 x)) L1):=t2
 clear s2 b2 t2 S1 B1 T1 c13 f13 c28 CW HA HB HS
 generalize V1.setCell ⟨q,13,none⟩ (.int .u32 x)=V2 at*
 have c13:V2.cell? ⟨q,13,none⟩=some (.int .u32 x):=zl B2.out 13 rfl
 have k337:V2.cell? ⟨b,337,none⟩=some (.int .u32 s1.fro):=(zd S2.out.row (by omega)).trans rfl
 have f337:=S2.out.frozen 337
 go_upto_region 2 with fail
 obtain⟨s3,t3⟩:=S2.out.setFro x
 have S3:Hid (St N (V2.setCell ⟨b,337,none⟩ (.int .u32 x)) b {s1 with fro:=x} L1):=s3
 have B3:Hid (Bx (V2.setCell ⟨b,337,none⟩ (.int .u32 x)) q {o with next:=x}):=B2.out.to t3 A1.out.o
 have T3:Hid (Toq b q w L (V2.setCell ⟨b,337,none⟩ (.int .u32 x)) L1):=T2.out.trans t3.q
 have A3:Hid (Apt b q {s1 with fro:=x} L1):=A1.out.fro x
 clear s3 t3 S2 B2 T2 A1 c13 k337 f337
 generalize V2.setCell ⟨b,337,none⟩ (.int .u32 x)=V3 at*
 obtain⟨s2,hs2⟩:∃s2:Cr,s2={s1 with fro:=x}:=⟨_,rfl⟩
 obtain⟨o2,ho2⟩:∃o2:Dg,o2={o with next:=x}:=⟨_,rfl⟩
 rw[<-hs2]at S3 A3 HR
 rw[<-ho2]at B3 HR
 have HT2:Hid (Gu.TbOk s2.tb):=by rw[hs2];exact HT.out
 have HO:Hid (o2.pc=o.pc/\o2.i=o.i/\o2.to=o.to):=by rw[ho2];exact⟨rfl,rfl,rfl⟩
 have hop:o.i.op=o2.i.op:=by rw[HO.out.2.1]
 rw[hop]at HR
 have hp2:U32 o2.pc:=by rw[HO.out.1];exact hp
 have to0:0<=o2.to:=by rw[HO.out.2.2];exact ht0
 have to1:o2.to<96:=by rw[HO.out.2.2];exact ht1
 clear HT hs2 ho2 hop HO hp ht0 ht1 i0 i1
 have c2:=zl B3.out 2 (v:=.int .i64 o2.i.op) rfl
 have CL:=λW=>ji o2.i.op W
 obtain⟨ld,hld⟩:∃ld,ld=ldn o2.i.op:=⟨_,rfl⟩
 rw[<-hld]at CL HR
 go_wp2_with fail
 refine(CL _).mono ?_
 rintro e V4 ⟨rfl,hk⟩
 subst hk
 have S4:Hid (St N V4 b s2 L1):=S3.out
 have B4:Hid (Bx V4 q o2):=B3.out
 have T4:Hid (Toq b q w L V4 L1):=T3.out
 clear CL S3 B3 T3 c2
 by_cases h0:ld=0
 ·have hr:=HR.out
  rw[if_pos h0]at hr
  have h0':(ld==0)=true:=by simp[h0]
  clear hld HR
  subst hr
  go_wp2_with fail
  refine bodyPost_ret (AF rfl _ _ _) rfl ⟨rfl,L1,?_⟩
  exact⟨S4.out,B4.out,A3.out,T4.out⟩
 ·have h0':(ld==0)=false:=by simpa using h0
  have hr:=HR.out
  rw[if_neg h0]at hr
  have HR2:Hid (r=gueL mach s2 o2):=hr
  clear hld HR hr h0
  go_wp2_with fail
  refine(xW S4.out).mono ?_
  rintro e V5 ⟨rfl,v5,s5,t5,a5⟩
  have S5:Hid (St N V5 b (chS s2) {L1 with r:=v5}):=s5
  have T5:Hid (Toq b q w L V5 {L1 with r:=v5}):=T4.out.trans t5.q
  have A5:Hid (Apt b q (chS s2) {L1 with r:=v5}):=A3.out.scr a5
  have B5:Hid (Bx V5 q o2):=B4.out.to t5 A3.out.o
  clear s5 t5 a5 S4 T4 B4 A3
  generalize ({L1 with r:=v5}:Sls)=L5 at*
  obtain⟨n,hn⟩:∃n,n=chN s2:=⟨_,rfl⟩
  have n0:0<=n:=by rw[hn];exact zbf s2
  have n1:n<=18446744073709551615:=by rw[hn];exact zk6 s2
  rw[<-hn]
  obtain⟨s3,hs3⟩:∃s3,s3=chS s2:=⟨_,rfl⟩
  have hv3:∀k,valO mach s2 o2.pc k=valO mach s3 o2.pc k:=λk=>by rw[hs3];rfl
  have HT3:Hid (Gu.TbOk s3.tb):=by rw[hs3];exact HT2.out
  have HR3:Hid (r=if(valO mach s3 o2.pc (n/10/2)).2=true/\o2.rd≠0 then({s3 with wd:=upI s3.wd o2.to (valO mach s3 o2.pc (n/10/2)).1,th:=upB s3.th o2.to true},{o2 with late:=n%10,car:=decide (n/10%2=1),gs:=true})else(s3,{o2 with late:=n%10,car:=decide (n/10%2=1)})):=by
   show _=_
   rw[HR2.out,hn]
   unfold gueL
   simp only[hv3]
   rw[hs3]
   rfl
  rw[<-hs3]at S5 A5
  clear HR2 hn hv3 hs3 HT2
  have c15:=zl B5.out 15 (v:=.int .i64 o2.late) rfl
  have f15:=qA B5.out 15
  have m10:0<=n%10/\n%10<10:=by omega
  obtain⟨j,hj⟩:∃j,j=n%10:=⟨_,rfl⟩
  obtain⟨n2,hn2⟩:∃n2,n2=n/10:=⟨_,rfl⟩
  go_upto_region 5 with fail
  rw[<-hj]at m10
  rw[<-hj,<-hn2]at HR3
  simp only[<-hj]
  obtain⟨s6,b6,t6⟩:=zbv (o:=o2) S5.out A5.out T5.out (B5.out.late j)
  have S6:Hid (St N (V5.setCell ⟨q,15,none⟩ (.int .i64 j)) b s3 L5):=s6
  have B6:Hid (Bx (V5.setCell ⟨q,15,none⟩ (.int .i64 j)) q {o2 with late:=j}):=b6
  have T6:Hid (Toq b q w L (V5.setCell ⟨q,15,none⟩ (.int .i64 j)) L5):=t6
  clear s6 b6 t6 S5 B5 T5 c15 f15 hj m10
  generalize V5.setCell ⟨q,15,none⟩ (.int .i64 j)=V6 at*
  have c16:=zl B6.out 16 (v:=.bool o2.car) rfl
  have f16:=qA B6.out 16
  have n20:0<=n2:=by omega
  have n21:n2<=18446744073709551615:=by omega
  go_upto_region 6 with fail
  simp only[<-hn2]
  clear hn2 n0 n1
  obtain⟨cr,hcr⟩:∃cr,cr=decide (n2%2=1):=⟨_,rfl⟩
  obtain⟨n4,hn4⟩:∃n4,n4=n2/2:=⟨_,rfl⟩
  rw[<-hcr,<-hn4]at HR3
  have HcrA:Hid (∀i:Decidable (n2%2=1),@decide (n2%2=1) i=cr):=λi=>by rw[hcr];congr
  have HcrB:Hid ((n2%2==1)=cr):=by show _=_;rw[hcr];rcases(by omega:n2%2=1\/n2%2=0)with h|h<;>rw[h]<;>rfl
  clear hcr
  go_upto_region 7 with fail
  have hcrA:=HcrA.out
  have hcrB:=HcrB.out
  try simp only[hcrA]
  try simp only[hcrB]
  clear hcrA hcrB HcrA HcrB
  obtain⟨s7,b7,t7⟩:=zbv (o:={o2 with late:=j}) S6.out A5.out T6.out (B6.out.car cr)
  have S7:Hid (St N (V6.setCell ⟨q,16,none⟩ (.bool cr)) b s3 L5):=s7
  have B7:Hid (Bx (V6.setCell ⟨q,16,none⟩ (.bool cr)) q {o2 with late:=j,car:=cr}):=b7
  have T7:Hid (Toq b q w L (V6.setCell ⟨q,16,none⟩ (.bool cr)) L5):=t7
  clear s7 b7 t7 S6 B6 T6 c16 f16
  generalize V6.setCell ⟨q,16,none⟩ (.bool cr)=V7 at*
  have c1:=zl B7.out 1 (v:=.int .u32 o2.pc) rfl
  have n40:0<=n4:=by omega
  have n41:n4<=18446744073709551615:=by omega
  have CV:Hid (Calls prog 139 #[.pointer (some ⟨b,0,none⟩),.int .u32 o2.pc,.int .u64 n4] V7 λe w'=>e=.returned (.tuple #[.int .u32 (valO mach s3 o2.pc n4).1,.bool (valO mach s3 o2.pc n4).2])/\Below V7.heap.size V7 w'):=zfV S7.out HT3.out o2.pc n4 hp2 n40 n41
  obtain⟨y,hy⟩:∃y,y=(valO mach s3 o2.pc n4).1:=⟨_,rfl⟩
  obtain⟨ok,hok⟩:∃ok,ok=(valO mach s3 o2.pc n4).2:=⟨_,rfl⟩
  rw[<-hy,<-hok]at CV HR3
  rw[hn4]at CV
  clear hy hok n40 n41 hp2 HT3
  go_wp2_with fail
  refine CV.out.mono ?_
  rintro e V8 ⟨rfl,hk⟩
  have S8:Hid (St N V8 b s3 L5):=S7.out.below hk
  have B8:Hid (Bx V8 q {o2 with late:=j,car:=cr}):=B7.out.below hk
  have T8:Hid (Toq b q w L V8 L5):=T7.out.trans (zf L5 hk).q
  clear hk S7 B7 T7 c1 CV hn4 n20 n21
  obtain⟨k,hk⟩:∃k,k=o2.rd:=⟨_,rfl⟩
  rw[<-hk]at HR3
  have c10:V8.cell? ⟨q,10,none⟩=some (.int .i64 (k:Int)):=zl B8.out 10 (by rw[hk];rfl)
  have HKK:Hid (k=o2.rd):=hk
  clear hk
  by_cases hc:ok=true/\k≠0
  ·obtain⟨rfl,hk0⟩:=hc
   have hb0:((k:Int) != 0)=true:=by simp[hk0]
   have hr:=HR3.out
   rw[if_pos ⟨rfl,hk0⟩]at hr
   have HR4:Hid (r=({s3 with wd:=upI s3.wd o2.to y,th:=upB s3.th o2.to true},{o2 with late:=j,car:=cr,gs:=true})):=by
    show _=_
    rw[hr,HKK.out]
   clear hr HR3 hk0
   obtain⟨z,hz⟩:∃z:Nat,o2.to=(z:Int):=AI to0
   have hz1:z<96:=by omega
   have c14:=zl B8.out 14 (v:=.bool o2.gs) rfl
   have f14:=qA B8.out 14
   go_upto_region 10 with fail
   obtain⟨s9,b9,t9⟩:=zbv (o:={o2 with late:=j,car:=cr}) S8.out A5.out T8.out (B8.out.gsd true)
   have S9:Hid (St N (V8.setCell ⟨q,14,none⟩ (.bool true)) b s3 L5):=s9
   have B9:Hid (Bx (V8.setCell ⟨q,14,none⟩ (.bool true)) q {o2 with late:=j,car:=cr,gs:=true}):=b9
   have T9:Hid (Toq b q w L (V8.setCell ⟨q,14,none⟩ (.bool true)) L5):=t9
   clear s9 b9 t9 S8 B8 T8 c10 c14 f14
   generalize V8.setCell ⟨q,14,none⟩ (.bool true)=V9 at*
   have c11:V9.cell? ⟨q,11,none⟩=some (.int .i64 (z:Int)):=zl B9.out 11 (by rw[<-hz];rfl)
   have cW:=S9.out.wrd z hz1
   have cT:=S9.out.thr z hz1
   have fW:=S9.out.frozen (141+z)
   have fT:=S9.out.frozen (237+z)
   have z0:0<=(z:Int):=by omega
   have z1:(z:Int)<96:=by omega
   have HZ:Hid (o2.to=(z:Int)):=hz
   clear hz
   refine zu (S:=λw'=>w'.cell? ⟨q,11,none⟩=some (.int .i64 (z:Int))) [14,18] (by kernel_rfl) (c11) (λhH=>?_)
   refine tU 0 (.pointer (some ⟨b,0,none⟩)) ?_;go_simp
   refine tU 1 (.pointer (some ⟨q,0,none⟩)) ?_;go_simp
   refine tU 2 (.pointer (some ⟨q,0,none⟩)) ?_;go_simp
   refine tU 3 (.pointer (some ⟨q,11,none⟩)) ?_;go_simp
   refine tS 4 (.int .i64 (z:Int)) rfl (Or.inl ⟨by rfl,by intro wz hSw;have hc:=hSw;go_simp⟩) hH ?_;go_simp
   refine tU 5 (.pointer (some ⟨b,0,none⟩)) ?_;go_simp
   refine tU 6 (.pointer (some ⟨q,0,none⟩)) ?_;go_simp
   refine tU 7 (.pointer (some ⟨q,0,none⟩)) ?_;go_simp
   refine tU 8 (.pointer (some ⟨q,11,none⟩)) ?_;go_simp
   refine tS 9 (.int .i64 (z:Int)) rfl (Or.inl ⟨by rfl,by intro wz hSw;have hc:=hSw;go_simp⟩) hH ?_;go_simp
   refine tU 10 (.int .u32 y) ?_;go_simp
   refine tU 11 (.pointer (some ⟨b,0,none⟩)) ?_;go_simp
   refine tU 12 (.pointer (some ⟨b,141,none⟩)) ?_;go_simp
   refine tU 13 (.pointer (some ⟨b,141+z,none⟩)) ?_;go_simp
   refine tU 15 (.pointer (some ⟨b,0,none⟩)) ?_;go_simp
   refine tU 16 (.pointer (some ⟨b,237,none⟩)) ?_;go_simp
   refine zL 14 rfl (λK hK=>?_)
   go_simp
   refine hK.out _ _ ?_
   clear hK K
   try go_simp
   refine tV 17 (.pointer (some ⟨b,237+z,none⟩)) rfl (λh=>absurd h (by decide)) ?_;go_simp
   refine zL 18 rfl (λK hK=>?_)
   go_simp
   refine hK.out _ _ ?_
   clear hK K
   try go_simp
   refine zG (by kernel_rfl) ?_ _
   clear hH
   go_wp2_with fail
   refine AK (AF rfl _ _ _) rfl ⟨rfl,L5,?_⟩
   have HE:=HR4.out
   have e1:r.1={s3 with wd:=upI s3.wd (z:Int) y,th:=upB s3.th (z:Int) true}:=by rw[HE,HZ.out]
   have e2:r.2={o2 with late:=j,car:=cr,gs:=true}:=by rw[HE]
   rw[e1,e2]
   obtain⟨s10,t10⟩:=S9.out.setWd z hz1 y
   obtain⟨s11,t11⟩:=s10.setTh z hz1 true
   exact⟨s11.dr,((B9.out.to t10 A5.out.o).to t11 A5.out.o).dr,A5.out.words _ _,((T9.out.trans t10.q).trans t11.q).dr⟩
  ·have hr:=HR3.out
   rw[if_neg hc]at hr
   have HR4:Hid (r=(s3,{o2 with late:=j,car:=cr})):=by
    show _=_
    rw[hr,HKK.out]
   clear hr HR3
   cases ok with
   |false=>
    clear hc
    go_wp2_with fail
    refine AK (AF rfl _ _ _) rfl ⟨rfl,L5,?_⟩
    rw[HR4.out]
    exact⟨S8.out,B8.out,A5.out,T8.out⟩
   |true=>
    have hk0:k=0:=AA λh=>hc ⟨rfl,h⟩
    have c10':V8.cell? ⟨q,10,none⟩=some (.int .i64 0):=by rw[c10,hk0];rfl
    clear hc c10 HKK
    go_wp2_with fail
    refine AK (AF rfl _ _ _) rfl ⟨rfl,L5,?_⟩
    rw[HR4.out]
    exact⟨S8.out,B8.out,A5.out,T8.out⟩
def dg0:Dg:=⟨0,0,zin,0,0,0,0,0,0,0,false,0,false,zcm⟩
theorem zcB(w:World)(z:Dg):(w.alloc (.cells (dgl z).toArray 132)).there w.heap.size 0 28:=Bx.there (o:=z) (heap_alloc_new w _) 0 28 (by omega)
theorem zig(w:World)(z o:Dg):Bx ((w.alloc (.cells (dgl z).toArray 132)).setCells w.heap.size 0 (dgl o)) w.heap.size o/\Below w.heap.size w ((w.alloc (.cells (dgl z).toArray 132)).setCells w.heap.size 0 (dgl o)):=by
 have hB:Bx (w.alloc (.cells (dgl z).toArray 132)) w.heap.size z:=heap_alloc_new w _
 have h2:=Bx.puts hB 0 (dgl o) (by rw[zH];omega) (o':=o) (by unfold ov;rw[zH];rfl)
 refine⟨h2,?_⟩
 have hg:=zF (w.alloc (.cells (dgl z).toArray 132)) w.heap.size 0 (dgl o)
 have h0:Below w.heap.size w (w.alloc (.cells (dgl z).toArray 132)):=(Af _ _).alloc (Aa _) _
 exact⟨hg.os.trans h0.os,hg.tape.trans h0.tape,hg.output.trans h0.output,Ao h0.size hg.size,λg hgl=>(hg.block g (by have:=h0.size;omega) (λe=>by have:=Ai e;omega)).trans (h0.block g hgl)⟩
structure TakOk(s:Cr):Prop where
 first:First (above s.tak) s.slots s.slots.length
 low:∀p∈s.slots,p.1<s.tak
 lenS:s.slots.length<=1000
 lenU:s.under.length<=1000
 ask:∀q∈s.asked,q.Ok
 lenA:s.asked.length<=10000000
 fro:U32 s.fro
 tak0:0<=s.tak
 tak1:s.tak<=10000000
 nms:Nms s
 tb:Gu.TbOk s.tb
theorem zp2{t:Tb}(ht:Gu.TbOk t){pc v:Int}(hp:U32 pc)(hv:U32 v):Gu.TbOk (lvM t pc v):=by
 unfold lvM Gu.zdB
 refine⟨ht.G,zeN ht.P hp,zeN ht.A hv,zeN ht.S ?_⟩
 have h:=ht.S (Gu.kw pc) (by unfold Gu.kw;omega)
 unfold Gu.lS
 split
 ·split
  ·exact h
  ·exact umod _
 ·exact u0
theorem jH:MR mach where
 dcd:=vR
 dow:=λpc a b n hi hp ha hb=>zkY hi hp ha hb
 br:=λpc ht hp=>zoo ht pc hp
 va:=λpc ht=>zop ht pc
 lb:=λpc tk _ ht hg=>zpU ht pc tk hg
 lv:=λpc _ ht hp hv=>zp2 ht hp hv
theorem zmP:MS mach:=λ{x i} pc a b n h h0 hm=>by
 have hm:(doW i pc a b n).many≠0:=hm
 show sts i=true/\(doW i pc a b n).many=stn i.op/\fits n (doW i pc a b n).pl (stn i.op)=true
 rcases xj i pc a b n with⟨h1,h2,h3,h4⟩|h4
 ·rw[h4]
  exact⟨by unfold sts;exact decide_eq_true ⟨h1,h2⟩,rfl,h3⟩
 ·exfalso
  apply hm
  rcases h4 with⟨_,_,h4⟩|⟨_,h4⟩|⟨_,h4|h4|h4⟩|⟨_,h4⟩|⟨_,_,_,_,h4⟩<;>rw[h4]<;>rfl
theorem zoT{Φ:World->Prop}(w:World)(z o:Dg)(h:∀V,Bx V w.heap.size o->Below w.heap.size w V->Φ V):Φ (((w.alloc (.cells (dgl z).toArray 132)).drew).setCells w.heap.size 0 (dgl o)):=by
 obtain⟨h1,h2⟩:=zig w.drew z o
 exact h _ h1 (((Af _ w).drew).trans h2)
theorem zmQ{w:World}{p:Nat}{i:In}{t:TypeId}(h:w.heap[p]?=some (.cells (ivL i) t (0,0))):w.rangeAt p 0 (ivL i).toList:=λj v hj=>by
 rw[Av _ _ _ _ _ _ h,Zs,<-Array.getElem?_toList]
 exact hj
theorem Bx.ins{w:World}{q:Nat}{o:Dg}(h:Bx w q o)(i:In)(k:Nat):Bx ((w.setCells q 2 (ivL i).toList).setCell ⟨q,10,none⟩ (.int .i64 (k:Int))) q {o with i:=i,rd:=k}:=
 Bx.put (o:={o with i:=i}) (Bx.puts h 2 _ (by simp[ivL]) rfl) 10 _ (by omega) rfl
theorem zkc(w:World)(q j:Nat)(l:List Value)(v:Value):w.grownBy ((w.setCells q 2 l).setCell ⟨q,j,none⟩ v) (some q):=zE (zF w q 2 l) (qc _ q j v)
theorem zkd(i:In):(ivL i).all (·.oneCell')=true:=(jv i).2.2
theorem zp3(s:Cr)(o:Dg):(namO s o).1.slots=s.slots/\(namO s o).1.tb=s.tb/\(namO s o).1.under=s.under/\(namO s o).2.seq=o.seq/\(namO s o).2.pc=o.pc/\(namO s o).2.i=o.i:=by
 unfold namO
 split<;>exact⟨rfl,rfl,rfl,rfl,rfl,rfl⟩
theorem zoU{s:Cr}{o:Dg}(hN:Nms s)(hf:o.rd≠0->s.free≠[])(h0:o.to=0):0<=(namO s o).2.to/\(namO s o).2.to<96:=by
 unfold namO
 split
 ·show 0<=o.to/\o.to<96
  omega
 ·rename_i h
  have h1:=hN.dis.rf
  have h2:=hN.high
  show 0<=s.free.headD 0/\s.free.headD 0<96
  cases hfr:s.free with
  |nil=>exact absurd hfr (hf h)
  |cons a l=>
   rw[hfr]at h1
   have:=h1 a (Ag ..)
   show 0<=a/\a<96
   omega
theorem zih(M:Mc)(s:Cr)(o:Dg):(gueO M s o).1.under=s.under:=by
 have hw:(wayO M s o).1.under=s.under:=by
  unfold wayO
  split
  ·rfl
  ·split<;>rfl
 unfold gueO
 simp only[]
 split
 ·exact hw
 ·unfold gueL
  simp only[]
  split<;>exact hw
theorem Apt.same{b q:Nat}{s s':Cr}{L L':Sls}(A:Apt b q s L)(ho:¬own b L' q)(h1:L'.m=L.m)(h2:L'.f=L.f)(h3:L'.s=L.s)(h4:L'.r=L.r)(e1:s'.n=s.n)(e2:s'.free=s.free)(e3:s'.slots=s.slots)(e4:s'.scr=s.scr):Apt b q s' L':=
 ⟨ho,by rw[h1,e1];exact A.m,by rw[h2,e2];exact A.f,by rw[h3,e3];exact A.sl,by rw[h4,e4];exact A.r,A.g1,A.g2⟩
theorem yp{w:World}{q:Nat}{o:Dg}(h:Bx w q o):w.rangeAt q 0 (dgl o):=zeS h λi v hi=>by rw[Zs];exact hi
theorem zii(o:Dg):List.foldl (λ(cs:Array Value) (x:Value×Nat)=>cs.setIfInBounds x.snd x.fst) #[.int .i64 0,.int .u32 0,.int .i64 0,.int .i64 0,.int .i64 0,.int .i64 0,.int .i32 0,.int .i64 0,.int .i64 0,.int .i64 0,.int .i64 0,.int .i64 0,.int .i64 0,.int .u32 0,.bool false,.int .i64 0,.bool false,.int .u32 0,.int .u32 0,.int .i64 0,.int .i64 0,.int .i64 0,.int .u32 0,.int .u32 0,.int .i64 0,.int .u32 0,.bool false,.int .u32 0] (dgl o).zipIdx=(dgl o).toArray:=by kernel_rfl
theorem zk7{Φ P:World->Nat->Prop}(x:∀W p,P W p->Φ W p)(W:World)(p:Nat)(h:P W p):Φ W p:=x W p h
theorem zcC{N:Nat}{w:World}{b:Nat}{s:Cr}{L:Sls}(S:St N w b s L)(K:TakOk s):
  Calls prog 64 #[.pointer (some ⟨b,0,none⟩)] w λe w'=>e=.returned (.bool (tak1 mach s).2)/\∃L',St N w' b (tak1 mach s).1 L'/\To b w L w' L':=by
 obtain⟨iU,hi,hz0,hz1,hz2⟩:=ZD zoC
 obtain⟨r,hr⟩:∃r,r=tak1 mach s:=⟨_,rfl⟩
 rw[<-hr]
 have HR:Hid (r=tak1 mach s):=hr
 have HS:Hid (St N w b s L):=S
 have HK:Hid (TakOk s):=K
 obtain⟨a,c,ea,hl0⟩:=S.its.isl
 have k333:w.cell? ⟨b,333,none⟩=some (.slice a s.slots.length c):=(zd S.row (by omega)).trans (congrArg some ea)
 have k0:w.cell? ⟨b,0,none⟩=some (.int .i64 s.win):=(zd S.row (by omega)).trans rfl
 have k41:w.cell? ⟨b,41,none⟩=some (.int .i64 s.tak):=(zd S.row (by omega)).trans rfl
 have EA:Hid (L.s=.slice a s.slots.length c):=ea
 clear S K hr ea hl0
 by_cases hw:s.win<=(s.slots.length:Int)
 ·have CP:Hid (∀W,Calls prog 91 #[.slice a s.slots.length c,.int .i64 s.win,.int .i64 s.tak] W λe w'=>(∃a c,e=.returned (.tuple #[.slice a 0 c,.bool false]))/\Below W.heap.size W w'):=λW=>by
   have:=zfR HS.out hw W
   rw[EA.out]at this
   exact this
  have hr:r=(s,false):=by rw[HR.out];unfold tak1;rw[if_pos hw]
  subst hr
  clear HR HK hw EA
  go_enter func64,ntmps64
  go_upto_region 1 with fail
  refine zu (S:=λw'=>w'.cell? ⟨b,333,none⟩=some (.slice a s.slots.length c)/\w'.cell? ⟨b,0,none⟩=some (.int .i64 s.win)/\w'.cell? ⟨b,41,none⟩=some (.int .i64 s.tak)) [] (by kernel_rfl) (⟨k333,k0,k41⟩) (λhH=>?_)
  refine tU 0 (.pointer (some ⟨b,0,none⟩)) ?_;go_simp
  refine tU 1 (.pointer (some ⟨b,0,none⟩)) ?_;go_simp
  refine tU 2 (.pointer (some ⟨b,333,none⟩)) ?_;go_simp
  refine tA 3 (.slice a s.slots.length c) ?_;go_simp
  refine tU 4 (.pointer (some ⟨b,0,none⟩)) ?_;go_simp
  refine tU 5 (.pointer (some ⟨b,0,none⟩)) ?_;go_simp
  refine tU 6 (.pointer (some ⟨b,0,none⟩)) ?_;go_simp
  refine tU 7 (.pointer (some ⟨b,0,none⟩)) ?_;go_simp
  refine tS 8 (.int .i64 s.win) rfl (Or.inl ⟨by rfl,by intro wz hSw;have hc:=hSw.2.1;go_simp⟩) hH ?_;go_simp
  refine tU 9 (.pointer (some ⟨b,0,none⟩)) ?_;go_simp
  refine tU 10 (.pointer (some ⟨b,0,none⟩)) ?_;go_simp
  refine tU 11 (.pointer (some ⟨b,3,none⟩)) ?_;go_simp
  refine tU 12 (.pointer (some ⟨b,41,none⟩)) ?_;go_simp
  refine tS 13 (.int .i64 s.tak) rfl (Or.inl ⟨by rfl,by intro wz hSw;have hc:=hSw.2.2;go_simp⟩) hH ?_;go_simp
  refine zC 14 rfl (λK hK=>?_)
  go_simp
  refine(CP.out _).mono ?_
  rintro e V1 ⟨⟨a1,c1,rfl⟩,hk⟩
  have HK:Hid (Below w.heap.size w V1):=zg hk (Aa _)
  go_wp2_with fail
  refine hK.out _ _ (⟨zn hk (hH.1),zn hk (hH.2.1),zn hk (hH.2.2)⟩) (λhN=>?_)
  clear hK K hH
  have hH:=hN
  clear hN
  try go_simp
  refine tU 15 (.tuple #[.slice a1 0 c1,.bool false]) ?_;go_simp
  refine tU 16 (.slice a1 0 c1) ?_;go_simp
  refine tU 17 (.bool false) ?_;go_simp
  refine tU 18 (.slice a1 0 c1) ?_;go_simp
  refine tU 19 (.bool false) ?_;go_simp
  refine zG (by kernel_rfl) ?_ _
  go_wp2
  go_ret
  exact⟨rfl,L,HS.out.below HK.out,zf L HK.out⟩
 ·have CP:Hid (∀W,Below w.heap.size w W->Calls prog 91 #[.slice a s.slots.length c,.int .i64 s.win,.int .i64 s.tak] W λe w'=>(∃a c,e=.returned (.tuple #[.slice a (s.slots++[(s.tak,false)]).length c,.bool true])/\LC w' a (s.slots++[(s.tak,false)]).length c 2 (scs (s.slots++[(s.tak,false)]))/\FarC W.heap.size a)/\Below W.heap.size W w'):=λW hW=>by
   have:=zpY HS.out (by omega) HK.out.first (by have:=HK.out.lenS;omega) W hW
   rw[EA.out]at this
   exact this
  obtain⟨sl,hsl⟩:∃sl,sl=s.slots++[(s.tak,false)]:=⟨_,rfl⟩
  have HSL:Hid (sl=s.slots++[(s.tak,false)]):=hsl
  rw[<-hsl]at CP
  have HW:Hid (¬s.win<=(s.slots.length:Int)):=hw
  clear hw hsl EA
  go_enter func64,ntmps64
  go_upto_region 1 with fail
  refine zu (S:=λw'=>w'.cell? ⟨b,333,none⟩=some (.slice a s.slots.length c)/\w'.cell? ⟨b,0,none⟩=some (.int .i64 s.win)/\w'.cell? ⟨b,41,none⟩=some (.int .i64 s.tak)) [] (by kernel_rfl) (⟨k333,k0,k41⟩) (λhH=>?_)
  refine tU 0 (.pointer (some ⟨b,0,none⟩)) ?_;go_simp
  refine tU 1 (.pointer (some ⟨b,0,none⟩)) ?_;go_simp
  refine tU 2 (.pointer (some ⟨b,333,none⟩)) ?_;go_simp
  refine tA 3 (.slice a s.slots.length c) ?_;go_simp
  refine tU 4 (.pointer (some ⟨b,0,none⟩)) ?_;go_simp
  refine tU 5 (.pointer (some ⟨b,0,none⟩)) ?_;go_simp
  refine tU 6 (.pointer (some ⟨b,0,none⟩)) ?_;go_simp
  refine tU 7 (.pointer (some ⟨b,0,none⟩)) ?_;go_simp
  refine tS 8 (.int .i64 s.win) rfl (Or.inl ⟨by rfl,by intro wz hSw;have hc:=hSw.2.1;go_simp⟩) hH ?_;go_simp
  refine tU 9 (.pointer (some ⟨b,0,none⟩)) ?_;go_simp
  refine tU 10 (.pointer (some ⟨b,0,none⟩)) ?_;go_simp
  refine tU 11 (.pointer (some ⟨b,3,none⟩)) ?_;go_simp
  refine tU 12 (.pointer (some ⟨b,41,none⟩)) ?_;go_simp
  refine tS 13 (.int .i64 s.tak) rfl (Or.inl ⟨by rfl,by intro wz hSw;have hc:=hSw.2.2;go_simp⟩) hH ?_;go_simp
  refine zC 14 rfl (λK hK=>?_)
  go_simp
  refine(CP.out _ ((Af _ _).drew)).mono ?_
  rintro e V1 ⟨⟨a1,c1,rfl,hl1,hf1⟩,hk⟩
  have HK1:Hid (Below w.heap.size w V1):=zg hk (Aa _)
  have HL1:Hid (LC V1 a1 sl.length c1 2 (scs sl)/\FarC w.heap.size a1):=⟨hl1,hf1⟩
  clear hl1 hf1
  go_wp2_with fail
  refine hK.out _ _ (⟨zn hk (hH.1),zn hk (hH.2.1),zn hk (hH.2.2)⟩) (λhN=>?_)
  clear hK K hH
  have hH:=hN
  clear hN
  try go_simp
  refine tU 15 (.tuple #[.slice a1 sl.length c1,.bool true]) ?_;go_simp
  refine tU 16 (.slice a1 sl.length c1) ?_;go_simp
  refine tU 17 (.bool true) ?_;go_simp
  refine tU 18 (.slice a1 sl.length c1) ?_;go_simp
  refine tU 19 (.bool true) ?_;go_simp
  refine zG (by kernel_rfl) ?_ _
  have S1:Hid (St N V1 b s L):=HS.out.below HK1.out
  have T1:Hid (To b w L V1 L):=zf L HK1.out
  have HF:Hid (∀x,a1=some x->¬own b L x.block):=ja HS.out (Aa _) HL1.out.2
  have HL:Hid (LC V1 a1 sl.length c1 2 (scs sl)):=HL1.out.1
  clear hH k333 k0 k41 CP HK1 HL1 HS
  have k41:V1.cell? ⟨b,41,none⟩=some (.int .i64 s.tak):=(zd S1.out.row (by omega)).trans rfl
  have k337:V1.cell? ⟨b,337,none⟩=some (.int .u32 s.fro):=(zd S1.out.row (by omega)).trans rfl
  go_upto_region 4 with fail
  refine zu (S:=λw'=>w'.cell? ⟨b,41,none⟩=some (.int .i64 s.tak)/\w'.cell? ⟨b,337,none⟩=some (.int .u32 s.fro)) [11] (by kernel_rfl) (⟨k41,k337⟩) (λhH=>?_)
  refine tU 0 (.pointer (some ⟨b,0,none⟩)) ?_;go_simp
  refine tU 1 (.pointer (some ⟨b,0,none⟩)) ?_;go_simp
  refine tU 2 (.pointer (some ⟨b,3,none⟩)) ?_;go_simp
  refine tU 3 (.pointer (some ⟨b,41,none⟩)) ?_;go_simp
  refine tA 4 (.int .i64 s.tak) ?_;go_simp
  refine tU 5 (.pointer (some ⟨b,0,none⟩)) ?_;go_simp
  refine tU 6 (.pointer (some ⟨b,0,none⟩)) ?_;go_simp
  refine tU 7 (.pointer (some ⟨b,337,none⟩)) ?_;go_simp
  refine tB 8 (.int .u32 s.fro) ?_;go_simp
  refine tU 9 (.agg #[.int .i64 s.tak,.int .u32 s.fro,.int .i64 0,.int .i64 0,.int .i64 0,.int .i64 0,.int .i32 0,.int .i64 0,.int .i64 0,.int .i64 0,.int .i64 0,.int .i64 0,.int .i64 0,.int .u32 0,.bool false,.int .i64 0,.bool false,.int .u32 0,.int .u32 0,.int .i64 0,.int .i64 0,.int .i64 0,.int .u32 0,.int .u32 0,.int .i64 0,.int .u32 0,.bool false,.int .u32 0]) ?_;go_simp
  refine zC 10 rfl (λK hK=>?_)
  go_simp
  refine hK.out _ _ (⟨jG _ (hH.1),jG _ (hH.2)⟩) (λhN=>?_)
  clear hK K hH
  have hH:=hN
  clear hN
  try go_simp
  refine zL 11 rfl (λK hK=>?_)
  rw[if_pos (by rfl)]
  refine ZG 132 _ _ rfl V1.heap.size 0 (dgl ⟨s.tak,s.fro,zin,0,0,0,0,0,0,0,false,0,false,zcm⟩).toArray rfl rfl (zcB V1.drew dg0) (zM _) (jd _) ?_
  refine hK.out _ _ ?_
  clear hK K
  try go_simp
  refine zG (by kernel_rfl) ?_ _
  refine zoT (Φ:=λW=>Exit.then _ _ _ _ W) V1 dg0 ⟨s.tak,s.fro,zin,0,0,0,0,0,0,0,false,0,false,zcm⟩ ?_
  intro V2 b2 k2
  have S2:Hid (St N V2 b s L):=S1.out.below k2
  have B2:Hid (Bx V2 V1.heap.size ⟨s.tak,s.fro,zin,0,0,0,0,0,0,0,false,0,false,zcm⟩):=b2
  have T2:Hid (To b w L V2 L):=T1.out.trans (zf L k2)
  have A2:Hid (Apt b V1.heap.size s L):=S1.out.apt (Aa _)
  have HL2:Hid (LC V2 a1 sl.length c1 2 (scs sl)):=HL.out.below (Aa _) k2
  have HA:Hid (∀g,(WY a1 sl.length c1).ownBlock=some g->0<sl.length->g≠V1.heap.size):=λg hg h0=>by
   cases a1 with
   |none=>cases hg
   |some x=>
    obtain⟨g',o',e,hlt,_⟩:=HL.out.ad x rfl h0
    subst e
    have:g'=g:=Ai hg
    omega
  have HQ:Hid (w.heap.size<=V1.heap.size):=T1.out.size
  clear b2 k2 S1 T1 HL k41 k337 hH
  generalize V1.heap.size=q at*
  obtain⟨i,hi⟩:∃i,i=(rdI mach s).1:=⟨_,rfl⟩
  obtain⟨ca,hca⟩:∃ca,ca=(rdI mach s).2:=⟨_,rfl⟩
  have CR:Hid (Calls prog 92 #[.pointer (some ⟨b,0,none⟩),.int .i64 s.tak] V2 λe w'=>e=.returned (.tuple #[ivI i,.int .i64 ca])/\Below V2.heap.size V2 w'):=by
   rw[hi,hca]
   exact zhT S2.out HK.out.ask (by have:=HK.out.lenA;omega) HK.out.fro
  have HI:Hid (i=(rdI mach s).1/\ca=(rdI mach s).2):=⟨hi,hca⟩
  clear hi hca
  have c0:V2.cell? ⟨q,0,none⟩=some (.int .i64 s.tak):=zl B2.out 0 rfl
  go_wp2_with fail
  refine CR.out.mono ?_
  rintro e V3 ⟨rfl,k3⟩
  go_upto_region 6 with fail
  refine Wi.zh (Φ:=λW=>ZF _ _ _ _ W) ?_
  intro V4 h4 k4
  have k34:=Below.trans k3 (k4.mono k3.size)
  have S4:Hid (St N V4 b s L):=S2.out.below k34
  have B4:Hid (Bx V4 q ⟨s.tak,s.fro,zin,0,0,0,0,0,0,0,false,0,false,zcm⟩):=B2.out.below k34
  have T4:Hid (To b w L V4 L):=T2.out.trans (zf L k34)
  have HL4:Hid (LC V4 a1 sl.length c1 2 (scs sl)):=HL2.out.below (Aa _) k34
  have R4:Hid (V4.rangeAt V3.heap.size 0 (ivL i).toList):=zmQ h4
  have hqp:q≠V3.heap.size:=by have:=B2.out.lt;have:=k3.size;omega
  clear k34 h4 k4 k3 S2 B2 T2 HL2 c0 CR
  generalize V3.heap.size=p at*
  have CG:=λW=>zfG i W
  obtain⟨k,hk⟩:∃k,k=gvs i:=⟨_,rfl⟩
  rw[<-hk]at CG
  have HKK:Hid (k=gvs i):=hk
  clear hk
  refine zu (S:=λw'=>w'.rangeAt p 0 ((ivL i).toList)) [6] (by kernel_rfl) (R4.out) (λhH=>?_)
  refine tS 0 (.agg ((ivL i).toList).toArray) rfl (AN (by rfl) 78 _ rfl _ _ rfl ((ivL i).toList) _ (λwz hSw=>hSw) underlying78 rfl (qP _)) hH ?_;go_simp
  refine tS 1 (.agg ((ivL i).toList).toArray) rfl (AN (by rfl) 78 _ rfl _ _ rfl ((ivL i).toList) _ (λwz hSw=>hSw) underlying78 rfl (qP _)) hH ?_;go_simp
  refine zC 2 rfl (λK hK=>?_)
  go_simp
  refine(CG _).mono ?_
  rintro e V5 ⟨rfl,k5⟩
  have HK5:Hid (Below V4.heap.size V4 V5):=zg k5 (Aa _)
  go_wp2_with fail
  refine hK.out _ _ (xk k5 hH) (λhN=>?_)
  clear hK K hH
  have hH:=hN
  clear hN
  try go_simp
  have B5:Hid (Bx V5 q ⟨s.tak,s.fro,zin,0,0,0,0,0,0,0,false,0,false,zcm⟩):=B4.out.below HK5.out
  refine tU 3 (.pointer (some ⟨q,2,none⟩)) ?_;go_simp
  refine zC 4 rfl (λK hK=>?_)
  rw[if_pos (by rfl)]
  refine ZG 78 _ _ rfl q 2 (ivL i) rfl rfl (B5.out.there 2 5 (by omega)) ((jv i).1) (zkd i) ?_
  refine hK.out _ _ (zoA hH (λh=>hqp h.symm)) (λhN=>?_)
  clear hK K hH
  have hH:=hN
  clear hN
  try go_simp
  refine tU 5 (.pointer (some ⟨q,10,none⟩)) ?_;go_simp
  have B5b:Hid (Bx (V5.setCells q 2 (ivL i).toList) q ⟨s.tak,s.fro,i,0,0,0,0,0,0,0,false,0,false,zcm⟩):=B5.out.puts 2 _ (by simp[ivL]) rfl
  have c10:=zl B5b.out 10 (v:=.int .i64 0) rfl
  have f10:=qA B5b.out 10
  refine zL 6 rfl (λK hK=>?_)
  go_simp
  refine hK.out _ _ ?_
  clear hK K
  try go_simp
  refine zG (by kernel_rfl) ?_ _
  have hg:=zkc V5 q 10 (ivL i).toList (.int .i64 (k:Int))
  have S6:Hid (St N ((V5.setCells q 2 (ivL i).toList).setCell ⟨q,10,none⟩ (.int .i64 (k:Int))) b s L):=(S4.out.below HK5.out).other hg A2.out
  have B6:Hid (Bx ((V5.setCells q 2 (ivL i).toList).setCell ⟨q,10,none⟩ (.int .i64 (k:Int))) q ⟨s.tak,s.fro,i,0,0,0,k,0,0,0,false,0,false,zcm⟩):=B5.out.ins i k
  have T6:Hid (Toq b q w L ((V5.setCells q 2 (ivL i).toList).setCell ⟨q,10,none⟩ (.int .i64 (k:Int))) L):=(T4.out.trans (zf L HK5.out)).q.trans (zaK hg)
  have HL6:Hid (LC ((V5.setCells q 2 (ivL i).toList).setCell ⟨q,10,none⟩ (.int .i64 (k:Int))) a1 sl.length c1 2 (scs sl)):=qM (HL4.out.below (Aa _) HK5.out) hg.size λh0 x hx=>hg.block _ (by
   obtain⟨g',o',e,hlt,_⟩:=(HL4.out.below (Aa _) HK5.out).ad x hx h0
   subst e
   exact hlt) (λe=>HA.out x.block (by rw[hx];rfl) h0 (Ai e))
  clear hg S4 B4 T4 HL4 R4 hqp HK5 B5 B5b c10 f10 hH CG
  generalize (V5.setCells q 2 (ivL i).toList).setCell ⟨q,10,none⟩ (.int .i64 (k:Int))=V6 at*
  have c10:V6.cell? ⟨q,10,none⟩=some (.int .i64 (k:Int)):=zl B6.out 10 rfl
  obtain⟨fa,fc,ef,hfl⟩:=S6.out.its.ifr
  have k140:V6.cell? ⟨b,140,none⟩=some (.slice fa s.free.length fc):=(zd S6.out.row (by omega)).trans (congrArg some ef)
  clear hfl ef
  by_cases hno:k≠0/\s.free=[]
  ·have hr:r=(s,false):=by
    rw[HR.out]
    unfold tak1
    rw[if_neg (by have:=HW.out;omega),<-HI.out.1,<-HKK.out,if_pos hno]
   subst hr
   have hb0:((k:Int) != 0)=true:=by simp[hno.1]
   have k140':V6.cell? ⟨b,140,none⟩=some (.slice fa 0 fc):=by rw[k140,hno.2];rfl
   clear k140 hno HR HI
   go_wp2
   go_ret
   exact⟨rfl,L,S6.out,Toq.to (To.refl b w L) HQ.out T6.out⟩
  ·have HR2:Hid (r=(let m:=namO (askO {s with slots:=sl,tak:=s.tak+1} (⟨s.tak,s.fro,i,0,0,0,k,0,0,0,false,0,false,zcm⟩:Dg)) (⟨s.tak,s.fro,i,0,0,0,k,0,0,0,false,0,false,zcm⟩:Dg);let t:=if ca≠0 then yC m.1 m.2 ca else gueO mach m.1 m.2;({t.1 with under:=t.1.under++[t.2]},true))):=by
    have e1:newO mach s=(⟨s.tak,s.fro,i,0,0,0,k,0,0,0,false,0,false,zcm⟩:Dg):=by unfold newO;rw[HKK.out,HI.out.1]
    show _=_
    rw[HR.out]
    unfold tak1
    rw[if_neg (by have:=HW.out;omega),<-HI.out.1,<-HKK.out,if_neg hno,e1,<-HI.out.2,<-HSL.out]
   have hfr:k≠0->s.free≠[]:=λh h'=>hno ⟨h,h'⟩
   have HIn:Hid (k<32/\ra i<32/\rb i<32/\-2147483648<=i.im/\i.im<=2147483647):=by
    have h:=(zeU jH s).1
    rw[<-HI.out.1]at h
    rw[HKK.out]
    rcases h with h|h
    ·rw[h];exact(by decide:gvs zin<32/\ra zin<32/\rb zin<32/\-2147483648<=zin.im/\zin.im<=2147483647)
    ·refine⟨?_,?_,?_,h.i0,h.i1⟩
     ·unfold gvs;have:=h.lr;split<;>omega
     ·unfold ra;have:=h.l1;split<;>omega
     ·unfold rb;have:=h.l2;split<;>omega
   have k333:V6.cell? ⟨b,333,none⟩=some L.s:=(zd S6.out.row (by omega)).trans rfl
   have f333:=S6.out.frozen 333
   clear HR hno
   have HFR:Hid (k≠0->s.free≠[]):=hfr
   have key:s.free.length=0\/((s.free.length:Int)==0)=false:=by
    by_cases h:s.free.length=0
    ·exact .inl h
    ·refine .inr ?_
     simp
     intro h'
     rw[h']at h
     exact h rfl
   by_cases h0:k=0
   case' pos=>
    have c10':V6.cell? ⟨q,10,none⟩=some (.int .i64 0):=by rw[c10,h0];rfl
    clear c10 key hfr h0
   case' neg=>
    have hb0:((k:Int) != 0)=true:=by simp[h0]
    have hn0:((s.free.length:Int)==0)=false:=key.resolve_left λh=>hfr h0 (Zd h)
    clear key hfr
    obtain⟨fn,hfn⟩:∃fn,fn=s.free.length:=⟨_,rfl⟩
    rw[<-hfn]at k140 hn0
    clear hfn h0
   all_goals
    go_upto_region 10 with fail
    obtain⟨s7,t7⟩:=S6.out.setSlots HL6.out HF.out
    have S7:Hid (St N (V6.setCell ⟨b,333,none⟩ (.slice a1 sl.length c1)) b {s with slots:=sl} {L with s:=.slice a1 sl.length c1}):=s7
    have B7:Hid (Bx (V6.setCell ⟨b,333,none⟩ (.slice a1 sl.length c1)) q (⟨s.tak,s.fro,i,0,0,0,k,0,0,0,false,0,false,zcm⟩:Dg)):=B6.out.to t7 A2.out.o
    have T7:Hid (Toq b q w L (V6.setCell ⟨b,333,none⟩ (.slice a1 sl.length c1)) {L with s:=.slice a1 sl.length c1}):=T6.out.trans t7.q
    have A7:Hid (Apt b q {s with slots:=sl} {L with s:=.slice a1 sl.length c1}):=⟨A2.out.o,A2.out.m,A2.out.f,HA.out,A2.out.r,A2.out.g1,A2.out.g2⟩
    clear s7 t7 S6 B6 T6 HL6 HF k333 f333 k140
    generalize V6.setCell ⟨b,333,none⟩ (.slice a1 sl.length c1)=V7 at*
    generalize ({L with s:=.slice a1 sl.length c1}:Sls)=L7 at*
    have k41:V7.cell? ⟨b,41,none⟩=some (.int .i64 s.tak):=(zd S7.out.row (by omega)).trans rfl
    have f41:=S7.out.frozen 41
    have t0:=HK.out.tak0
    have t1:=HK.out.tak1
    go_upto_region 11 with fail
    obtain⟨s8,t8⟩:=S7.out.setTak (s.tak+1)
    have S8:Hid (St N (V7.setCell ⟨b,41,none⟩ (.int .i64 (s.tak+1))) b {s with slots:=sl,tak:=s.tak+1} L7):=s8
    have B8:Hid (Bx (V7.setCell ⟨b,41,none⟩ (.int .i64 (s.tak+1))) q (⟨s.tak,s.fro,i,0,0,0,k,0,0,0,false,0,false,zcm⟩:Dg)):=B7.out.to t8 A7.out.o
    have T8:Hid (Toq b q w L (V7.setCell ⟨b,41,none⟩ (.int .i64 (s.tak+1))) L7):=T7.out.trans t8.q
    have A8:Hid (Apt b q {s with slots:=sl,tak:=s.tak+1} L7):=⟨A7.out.o,A7.out.m,A7.out.f,A7.out.sl,A7.out.r,A7.out.g1,A7.out.g2⟩
    clear s8 t8 S7 B7 T7 A7 k41 f41 t0 t1 HA
    generalize V7.setCell ⟨b,41,none⟩ (.int .i64 (s.tak+1))=V8 at*
    have CA:Hid (Calls prog 94 #[.pointer (some ⟨b,0,none⟩),dgv (⟨s.tak,s.fro,i,0,0,0,k,0,0,0,false,0,false,zcm⟩:Dg)] V8 λe w'=>e=.returned (.tuple #[])/\∃L',St N w' b (askO {s with slots:=sl,tak:=s.tak+1} (⟨s.tak,s.fro,i,0,0,0,k,0,0,0,false,0,false,zcm⟩:Dg)) L'/\To b V8 L7 w' L'/\L'.m=L7.m/\L'.f=L7.f/\L'.s=L7.s/\L'.r=L7.r):=zj1 S8.out _ (by have:=HK.out.lenA;show s.asked.length<=_;omega)
    obtain⟨s9,hs9⟩:∃s9:Cr,s9=askO {s with slots:=sl,tak:=s.tak+1} (⟨s.tak,s.fro,i,0,0,0,k,0,0,0,false,0,false,zcm⟩:Dg):=⟨_,rfl⟩
    have HN9:Hid (Nms s9):=by rw[hs9];exact⟨HK.out.nms.low,HK.out.nms.high,HK.out.nms.dis⟩
    have HF9:Hid (s9.free=s.free/\s9.slots=sl/\s9.tb=s.tb/\s9.under=s.under/\s9.n=s.n/\s9.scr=s.scr):=by rw[hs9];exact⟨rfl,rfl,rfl,rfl,rfl,rfl⟩
    rw[<-hs9]at CA HR2
    clear hs9
    go_wp2_with(refine Ax rfl 132 _ rfl q 0 rfl (dgl (⟨s.tak,s.fro,i,0,0,0,k,0,0,0,false,0,false,zcm⟩:Dg)) _ (yp B8.out) underlying132 rfl (zM _) ?_)
    refine CA.out.mono ?_
    rintro e V9 ⟨rfl,L9,u1,u2,u3,u4,u5,u6⟩
    have S9:Hid (St N V9 b s9 L9):=u1
    have B9:Hid (Bx V9 q (⟨s.tak,s.fro,i,0,0,0,k,0,0,0,false,0,false,zcm⟩:Dg)):=B8.out.to u2 A8.out.o
    have T9:Hid (Toq b q w L V9 L9):=T8.out.trans u2.q
    have A9:Hid (Apt b q s9 L9):=A8.out.same (B8.out.not u2 A8.out.o) u3 u4 u5 u6 HF9.out.2.2.2.2.1 HF9.out.1 HF9.out.2.1 HF9.out.2.2.2.2.2
    clear u1 u2 u3 u4 u5 u6 S8 B8 T8 A8 CA
    go_wp2_with fail
    refine(zhY S9.out B9.out A9.out HN9.out HIn.out.1 HIn.out.2.1 HIn.out.2.2.1 (by rw[HF9.out.1];exact HFR.out)).mono ?_
    rintro e V10 ⟨rfl,L10,u1,u2,u3,u4⟩
    have S10:Hid (St N V10 b (namO s9 (⟨s.tak,s.fro,i,0,0,0,k,0,0,0,false,0,false,zcm⟩:Dg)).1 L10):=u1
    have B10:Hid (Bx V10 q (namO s9 (⟨s.tak,s.fro,i,0,0,0,k,0,0,0,false,0,false,zcm⟩:Dg)).2):=u2
    have A10:Hid (Apt b q (namO s9 (⟨s.tak,s.fro,i,0,0,0,k,0,0,0,false,0,false,zcm⟩:Dg)).1 L10):=u3
    have T10:Hid (Toq b q w L V10 L10):=T9.out.trans u4
    obtain⟨f1,f2,f3,f4,f5,f6⟩:=zp3 s9 (⟨s.tak,s.fro,i,0,0,0,k,0,0,0,false,0,false,zcm⟩:Dg)
    have hto:=zoU (s:=s9) (o:=(⟨s.tak,s.fro,i,0,0,0,k,0,0,0,false,0,false,zcm⟩:Dg)) HN9.out (by rw[HF9.out.1];exact HFR.out) rfl
    obtain⟨m1,hm1⟩:∃m1,m1=(namO s9 (⟨s.tak,s.fro,i,0,0,0,k,0,0,0,false,0,false,zcm⟩:Dg)).1:=⟨_,rfl⟩
    obtain⟨m2,hm2⟩:∃m2,m2=(namO s9 (⟨s.tak,s.fro,i,0,0,0,k,0,0,0,false,0,false,zcm⟩:Dg)).2:=⟨_,rfl⟩
    have HR3:Hid (r=(let t:=if ca≠0 then yC m1 m2 ca else gueO mach m1 m2;({t.1 with under:=t.1.under++[t.2]},true))):=by show _=_;rw[HR2.out,hm1,hm2]
    rw[<-hm1]at S10 A10 f1 f2 f3
    rw[<-hm2]at B10 f4 f5 f6 hto
    have HM:Hid (m1.slots=sl/\m1.tb=s.tb/\m1.under=s.under/\m2.seq=s.tak/\m2.pc=s.fro/\m2.i=i/\0<=m2.to/\m2.to<96):=⟨f1.trans HF9.out.2.1,f2.trans HF9.out.2.2.1,f3.trans HF9.out.2.2.2.1,f4,f5,f6,hto.1,hto.2⟩
    clear u1 u2 u3 u4 S9 B9 A9 T9 HN9 HR2 hm1 hm2 f1 f2 f3 f4 f5 f6 hto HF9 HFR
    by_cases hc:ca=0
    case' pos=>
     have hc':(ca != 0)=false:=by simp[hc]
     obtain⟨t1,ht1⟩:∃t1,t1=gueO mach m1 m2:=⟨_,rfl⟩
     have HR4:Hid (r=({t1.1 with under:=t1.1.under++[t1.2]},true)):=by show _=_;rw[HR3.out,ht1];simp only[hc,ne_eq,not_true_eq_false,if_false]
     have CGu:Hid (∀W,W=V10->Calls prog 97 #[.pointer (some ⟨b,0,none⟩),.pointer (some ⟨q,0,none⟩)] W λe w'=>e=.returned (.tuple #[])/\∃L',St N w' b t1.1 L'/\Bx w' q t1.2/\Apt b q t1.1 L'/\Toq b q V10 L10 w' L'):=λW hW=>by
      subst hW
      rw[ht1]
      exact zfW S10.out B10.out A10.out (by rw[HM.out.2.1];exact HK.out.tb) (by rw[HM.out.2.2.2.2.1];exact HK.out.fro) (by rw[HM.out.2.2.2.2.2.1];exact HIn.out.2.2.2.1) (by rw[HM.out.2.2.2.2.2.1];exact HIn.out.2.2.2.2) HM.out.2.2.2.2.2.2.1 HM.out.2.2.2.2.2.2.2
     have HU:Hid (t1.1.under=s.under):=by show _=_;rw[ht1,zih,HM.out.2.2.1]
     clear ht1 HR3
     go_wp2_with fail
     refine(CGu.out _ rfl).mono ?_
     rintro e V ⟨rfl,L11,u1,u2,u3,u4⟩
     have SV:Hid (St N V b t1.1 L11):=u1
     have BV:Hid (Bx V q t1.2):=u2
     have TV:Hid (Toq b q w L V L11):=T10.out.trans u4
     have HNO:Hid (¬own b L11 q):=u3.o
     clear u1 u2 u4 u3 S10 B10 A10 T10 CGu HM
    case' neg=>
     have hc':(ca != 0)=true:=by simp[hc]
     obtain⟨t1,ht1⟩:∃t1,t1=yC m1 m2 ca:=⟨_,rfl⟩
     have HR4:Hid (r=({t1.1 with under:=t1.1.under++[t1.2]},true)):=by show _=_;rw[HR3.out,ht1];simp only[hc,ne_eq,not_false_eq_true,if_true]
     have CGu:Hid (∀W,W=V10->Calls prog 96 #[.pointer (some ⟨b,0,none⟩),.pointer (some ⟨q,0,none⟩),.int .i64 ca] W λe w'=>e=.returned (.tuple #[])/\∃L',St N w' b t1.1 L'/\Bx w' q t1.2/\Toq b q V10 L10 w' L'):=λW hW=>by
      subst hW
      rw[ht1]
      exact zhX S10.out B10.out A10.out ca s.slots.length (by rw[HM.out.1,HM.out.2.2.2.1,HSL.out];exact zic HK.out.low) (by rw[HM.out.1,HSL.out];have:=HK.out.lenS;simp;omega)
     have HU:Hid (t1.1.under=s.under):=by show _=_;rw[ht1];exact HM.out.2.2.1
     have HNB:Hid (¬own b L10 q):=A10.out.o
     clear ht1 HR3
     go_wp2_with fail
     refine(CGu.out _ rfl).mono ?_
     rintro e V ⟨rfl,L11,u1,u2,u4⟩
     have SV:Hid (St N V b t1.1 L11):=u1
     have BV:Hid (Bx V q t1.2):=u2
     have TV:Hid (Toq b q w L V L11):=T10.out.trans u4
     have HNO:Hid (¬own b L11 q):=λh=>by
      rcases u4.fresh q h with h|h
      ·exact HNB.out h
      ·have:=B10.out.lt;omega
     clear u1 u2 u4 S10 B10 A10 T10 CGu HM
    all_goals
     have hnq:L11.u.ownBlock≠some q:=λh=>HNO.out (.inr (.inr (.inl h)))
     have hlen:t1.1.under.length<=1000:=by rw[HU.out];exact HK.out.lenU
     obtain⟨t2,ht2⟩:∃t2,t2=t1.2:=⟨_,rfl⟩
     obtain⟨t0,ht0⟩:∃t0,t0=t1.1:=⟨_,rfl⟩
     rw[<-ht2]at BV
     rw[<-ht0]at SV hlen
     rw[<-ht2,<-ht0]at HR4
     clear ht2 ht0 HU
     go_upto_region 16 with fail
     obtain⟨a5,c5,ea⟩:=SV.out.its.iu.slice
     have kA:V.cell? ⟨b,334,none⟩=some (.slice a5 (t0.under.length) c5):=(zd SV.out.row (by omega)).trans (congrArg some ea)
     have HU:Hid (Us V 132 28 (.slice a5 (t0.under.length) c5) (t0.under.length) (flat dgl t0.under)):=by have:=SV.out.its.iu;rw[ea]at this;exact this
     have hnb:(WY a5 (t0.under.length) c5).ownBlock≠some b:=λh=>(SV.out.apart.2.1 b (by rw[ea];exact h)).2.2 rfl
     have hlt0:∀g,(WY a5 (t0.under.length) c5).ownBlock=some g->g<V.heap.size:=λg h=>SV.out.its.lt (.inr (.inl (by rw[ea];exact h)))
     refine zu (S:=λw'=>w'.cell? ⟨b,334,none⟩=some (.slice a5 (t0.under.length) c5)/\w'.rangeAt q 0 (dgl t2)) [10] (by kernel_rfl) (⟨kA,yp BV.out⟩) (λhH=>?_)
     refine tU 0 (.pointer (some ⟨b,0,none⟩)) ?_;go_simp
     refine tU 1 (.pointer (some ⟨b,0,none⟩)) ?_;go_simp
     refine tU 2 (.pointer (some ⟨b,0,none⟩)) ?_;go_simp
     refine tU 3 (.pointer (some ⟨b,334,none⟩)) ?_;go_simp
     refine tA 4 (.slice a5 (t0.under.length) c5) ?_;go_simp
     refine tS 5 (.agg (dgl t2).toArray) rfl (AN (by rfl) 132 _ rfl _ _ rfl (dgl t2) _ (λwz hSw=>hSw.2) underlying132 rfl (zM _)) hH ?_;go_simp
     refine zC 6 rfl (λK hK=>?_)
     go_simp
     rw[zii]
     refine hK.out _ _ (⟨jG _ (hH.1),zcw _ (hH.2)⟩) (λhN=>?_)
     clear hK K hH
     have hH:=hN
     clear hN
     try go_simp
     refine zC 7 rfl (λK hK=>?_)
     rw[if_pos (by rfl)]
     refine qT _ _ 63 rfl 132 iU _ 28 192 underlying63 hi hz0 hz1 hz2 rfl (by decide) _ (t0.under.length) _ rfl (HU.out.below ((Af _ _).drew.alloc (Aa _) _)) V.heap.size (dgl t2) rfl rfl (λj u hj=>jR (w:=V.drew) j u hj) (zbm _) (by omega) (by omega) ?_
     intro v1 w1 hU1 hG1 hF1
     obtain⟨p1,c1,rfl⟩:=hU1.slice
     have fA:w1.frozen? ⟨b,334,none⟩=false:=AH _ _ _ _ _ ((hG1.block b (by have:=SV.out.lt;simp;omega) (λh=>hnb h.symm)).trans ((Zp _ _ _ SV.out.lt).trans SV.out.row))
     have HU1:Hid (Us w1 132 28 (.slice p1 ((t0.under.length)+1) c1) ((t0.under.length)+1) (flat dgl t0.under++dgl t2)):=hU1
     have HG1:Hid (V.grownBy w1 L11.u.ownBlock):=by rw[ea];exact qL (jw hG1 (λg hg=>hlt0 g hg))
     have HF1:Hid (∀g,(WY p1 ((t0.under.length)+1) c1).ownBlock=some g->L11.u.ownBlock=some g\/V.heap.size<=g):=λg hg=>(hF1 g hg).imp (λh=>by rw[ea];exact h) (λh=>Ao (by simp) h)
     refine hK.out _ _ (⟨zaq hG1 (hH.1) (hnb),zk0 hG1 (hH.2) (by rw[<-ea];exact hnq)⟩) (λhN=>?_)
     clear hK K hH
     have hH:=hN
     clear hN
     try go_simp
     have cA:=hH.1
     clear hU1 hG1 hF1 HU hnb hlt0 kA
     refine tU 8 (.pointer (some ⟨b,0,none⟩)) ?_;go_simp
     refine tU 9 (.pointer (some ⟨b,334,none⟩)) ?_;go_simp
     refine zL 10 rfl (λK hK=>?_)
     go_simp
     refine hK.out _ _ ?_
     clear hK K
     try go_simp
     refine zG (by kernel_rfl) ?_ _
     obtain⟨S1,T1⟩:=St.appU SV.out (t2) HU1.out HG1.out HF1.out
     clear HU1 HG1 HF1 hH cA fA
     generalize w1.setCell ⟨b,334,none⟩ (.slice p1 ((t0.under.length)+1) c1)=W1 at*
     generalize WY p1 ((t0.under.length)+1) c1=v1 at*
     have T12:=TV.out.trans T1.q
     clear T1 SV TV BV
     go_wp2
     go_ret
     have HE:=HR4.out
     refine⟨by rw[HE];rfl,_,by rw[HE];exact S1,Toq.to (To.refl b w L) HQ.out T12⟩
theorem zij{P:Program}(w:World)(t e ty:TypeId)(i:TypeInfo)(z:Value)(ht:P.underlying t=some (.slice e))(hi:P.info? e=some i)(hz:i.zero=some z)(h1:∀u∈(An z.cells 1).toList,True)(g off n c:Nat)(hn:0<n)
  (hone:∀u∈(An z.cells n).toList,u.oneCell'=true) (hth:w.there g off (n*z.cells.size)):
  (Zy #[t] ty #[.slice (some ⟨g,off,none⟩) n c]).run P w=.ok (.tuple #[]) (w.setCells g off (An z.cells n).toList):=by
 have hlen:(An z.cells n).toList.length=n*z.cells.size:=by simp[An]
 have hst:=run_storeCells_cells (P:=P) g off (An z.cells n).toList 0 w (λj hj=>by simpa using(hth j (by rw[hlen]at hj;exact hj)).1) (λj hj=>by simpa using(hth j (by rw[hlen]at hj;exact hj)).2) hone
 have hv:(zeroValue e).run P w=.ok z w:=by simp[zeroValue,typeInfo,hi,hz]
 simp only[AV]at hst
 obtain⟨m,rfl⟩:∃m,n=m+1:=⟨n-1,by omega⟩
 simp[Zy,run_underlying ht,hv,hst]
theorem zeX{z:Value}{n:Nat}(h0:0<z.cells.size)(h:∀u∈z.cells.toList,u.oneCell'=true):∀u∈(An z.cells n).toList,u.oneCell'=true:=by
 intro u hu
 simp only[An,Array.toList_map,AD]at hu
 obtain⟨j,_,rfl⟩:=hu
 have hj:j%z.cells.size<z.cells.size:=Nat.mod_lt _ h0
 rw[getElem!_pos z.cells (j%z.cells.size) hj]
 exact h _ (by simp)
theorem clears{P:Program}(w:World)(t e:TypeId)(i:TypeInfo)(z:Value)(size:Nat)(ht:P.underlying t=some (.slice e))(hi:P.info? e=some i)(hz:i.zero=some z)(hzs:z.cells.size=size)(hsz:0<size)(h1:∀u∈z.cells.toList,u.oneCell'=true)
  (g off n c:Nat) (hn:0<n) (hth:w.there g off (n*size)):
  ∃zs:List Value,zs.length=n*size/\(∀u∈zs,u.oneCell'=true)/\∀ty,(Zy #[t] ty #[.slice (some ⟨g,off,none⟩) n c]).run P w=.ok (.tuple #[]) (w.setCells g off zs):=
 ⟨_,by simp[An,hzs],zeX (by omega) h1,λty=>zij (P:=P) w t e ty i z ht hi hz (λ_ _=>trivial) g off n c hn (zeX (by omega) h1) (by rw[hzs];exact hth)⟩
theorem qN{w w1 w2:World}{row:Option Nat}(h:w.grownBy w1 row)(k:Below w1.heap.size w1 w2):w.grownBy w2 row:=
 ⟨k.os.trans h.os,k.tape.trans h.tape,k.output.trans h.output,Ao h.size k.size,λg hg hn=>(k.block g (AJ hg h.size)).trans (h.block g hg hn)⟩
theorem Us.take{w:World}{e size:Nat}{n cap g o:Nat}{xs:List Value}(h:Us w e size (.slice (some ⟨g,o,none⟩) n cap) n xs)(m:Nat)(hm:m<=n):Us w e size (.slice (some ⟨g,o,none⟩) m cap) m (xs.take (m*size)):=by
 have hl:=h.len
 have hms:m*size<=n*size:=Ze _ hm
 refine⟨by rw[Au];omega,λu hu=>h.one u (Zc hu),.inr ?_⟩
 rcases h.is with⟨h1,_⟩|⟨g',o',cap',cur,h1,h2,h3,h4,h5,h6⟩
 ·cases h1
 ·obtain⟨rfl,rfl,rfl⟩:g=g'/\o=o'/\cap=cap':=by injection h1 with a b c;injection a with a;injection a with a1 a2;exact⟨a1,a2,c⟩
  refine⟨g,o,cap,cur,rfl,h2,by omega,h4,h5,?_⟩
  rw[<-h6,ZM,Nat.min_eq_left hms]
theorem zaa{α:Type}{g:α->List Value}{size:Nat}(hg:∀x,(g x).length=size):∀(l:List α) (m:Nat),m<=l.length->flat g (l.take m)=(flat g l).take (m*size)
 |l,0,_=>by simp[flat]
 |[],m+1,h=>by simp at h
 |x::l,m+1,h=>by
  have:=zaa hg l m (by simpa using h)
  rw[ZA]
  show g x++flat g (l.take m)=(g x++flat g l).take ((m+1)*size)
  rw[this,List.take_append,AX (l:=g x) (by rw[hg,Zf];omega),hg,show(m+1)*size-size=m*size by rw[Zf];omega]
theorem zik{xs news:List Value}{off:Nat}(h:off<=xs.length):(ov xs off news).take off=xs.take off:=by
 unfold ov
 rw[List.append_assoc,List.take_append_of_le_length (by rw[Au];omega),ZM,Nat.min_self]
theorem zcD(p:Dg->Bool):∀l,∃m,FirstD p l m
 |[]=>⟨0,Aa _,λj q h=>absurd h (by omega),λq h=>by simp at h⟩
 |q::l=>by
  cases hq:p q with
  |true=>exact⟨0,ZP _,λj q h=>absurd h (by omega),λr h=>by simp at h;subst h;exact hq⟩
  |false=>
   obtain⟨m,h⟩:=zcD p l
   refine⟨m+1,by have:=h.le;simp;omega,λj r hj hr=>?_,λr hr=>h.yes r (by simpa using hr)⟩
   cases j with
   |zero=>simp at hr;subst hr;exact hq
   |succ j=>exact h.no j r (by omega) (by simpa using hr)
theorem zab(q:Ac):(cel q).length=7:=rfl
theorem zac:(prog.info? 135).map (·.size)=some 7:=by kernel_rfl
structure KptD(p:Dg->Bool)(l c:List Dg)(i j:Nat):Prop where
 len:c.length=l.length
 kept:c.take i=(l.take j).filter (λo=>!p o)
 rest:c.drop j=l.drop j
 le:i<j
 hj:j<=l.length
theorem KptD.start{p:Dg->Bool}{l:List Dg}{m:Nat}(h:FirstD p l m)(hm:m<l.length):KptD p l l m (m+1):=by
 refine⟨rfl,?_,rfl,by omega,by omega⟩
 have hp:p l[m]=true:=h.yes _ (Ab hm)
 rw[WZ,Ab hm,Ak]
 have h1:(l.take m).filter (λo=>!p o)=l.take m:=AR.2 λo ho=>by
  obtain⟨j,hj⟩:=AG ho
  have hjm:j<m:=by have:=(Ad.1 hj).1;rw[Au]at this;omega
  rw[Zo hjm]at hj
  rw[h.no j o hjm hj]
  rfl
 rw[h1]
 simp[hp]
theorem KptD.at{p:Dg->Bool}{l c:List Dg}{i j:Nat}(h:KptD p l c i j){x:Dg}(hx:l[j]?=some x):c[j]?=some x:=by
 have:=congrArg (λk:List Dg=>k[0]?) h.rest
 simp only[ZE,AV]at this
 rw[this,hx]
theorem KptD.skip{p:Dg->Bool}{l c:List Dg}{i j:Nat}(h:KptD p l c i j){x:Dg}(hx:l[j]?=some x)(hp:p x=true):KptD p l c i (j+1):=by
 have hj:=(Ad.1 hx).1
 refine⟨h.len,?_,?_,by have:=h.le;omega,by omega⟩
 ·rw[WZ,hx,Ak,h.kept]
  simp[hp]
 ·have:=congrArg (λk:List Dg=>k.drop 1) h.rest
  simpa[Zj,AW]using this
theorem KptD.keep{p:Dg->Bool}{l c:List Dg}{i j:Nat}(h:KptD p l c i j){x:Dg}(hx:l[j]?=some x)(hp:p x=false):KptD p l (c.set i x) (i+1) (j+1):=by
 have hj:=(Ad.1 hx).1
 have hl:=h.len
 have hi:=h.le
 refine⟨by rw[AS];exact hl,?_,?_,by omega,by omega⟩
 ·have e1:l.take (j+1)=l.take j++[x]:=by rw[WZ,hx];rfl
  have e2:(c.set i x).take (i+1)=c.take i++[x]:=by rw[WZ,AP,if_pos rfl,if_pos (by omega),ZB (Aa _)];rfl
  rw[e1,e2,Ak,h.kept]
  simp[hp]
 ·have:=congrArg (λk:List Dg=>k.drop 1) h.rest
  rw[ZC (by omega)]
  simpa[Zj,AW]using this
theorem KptD.done{p:Dg->Bool}{l c:List Dg}{i:Nat}(h:KptD p l c i l.length):c.take i=l.filter (λo=>!p o)/\i=(l.filter (λo=>!p o)).length:=by
 have h1:=h.kept
 rw[AX (Aa _)]at h1
 refine⟨h1,?_⟩
 rw[<-h1,Au]
 have:=h.le
 have:=h.len
 omega
theorem zdJ(g bq:Nat)(p:Dg->Bool)(eg:∀args w,(callFunc g args).run prog w=.ok (.enter g args) w)(Kp:World->Prop){w:World}{v:Value}{l:List Dg}(hU:Us w 132 28 v l.length (flat dgl l))(hn:l.length<=100000000)
  (hKB:Hid (∀W W',Kp W->W.heap.size<=W'.heap.size->(∀h,h<W.heap.size->v.ownBlock≠some h->W'.heap[h]?=W.heap[h]?)->Kp W'))
  (hA:Hid (∀W o,Kp W->Calls prog g #[dgv o,.pointer (some ⟨bq,0,none⟩)] W λe w'=>e=.returned (.bool (p o))/\Below W.heap.size W w')) (hK:Hid (Kp w)):
  Calls prog 163 #[v,.func (.func g) #[] #[.pointer (some ⟨bq,0,none⟩)]] w λe w'=>∃v',e=.returned v'/\Us w' 132 28 v' (l.filter (λo=>!p o)).length (flat dgl (l.filter (λo=>!p o)))/\w.grownBy w' v.ownBlock/\v'.ownBlock=v.ownBlock:=by
 obtain⟨iX,hi,hz0,hz1,hz2⟩:=ZD zoC
 obtain⟨m,hm⟩:=zcD p l
 obtain⟨a,c,ea⟩:=hU.slice
 have hLC:LC w a l.length c 28 (flat dgl l):=by rw[ea]at hU;exact hU.lc
 have hAs:zma g bq p w:=λW o hW=>hA.out W o (hKB.out w W hK.out hW.size (λh hh _=>hW.block h hh))
 by_cases hlt:m<l.length
 ·have CI:Hid (Calls prog 83 #[.slice a l.length c,.func (.func g) #[] #[.pointer (some ⟨bq,0,none⟩)]] w λe w'=>e=.returned (.int .i64 (m:Int))/\Below w.heap.size w w'):=jE g bq p eg a l.length c (by omega) l m hm (m:Int) (by show _=_;rw[if_pos hlt]) w hLC hAs
  have hK0:Hid (KptD p l l m (m+1)):=KptD.start hm hlt
  obtain⟨gb,o,cap,ev,hcap,hcm,hgb,hcs,hfr⟩:=hU.at (by omega)
  obtain⟨rfl,rfl⟩:a=some ⟨gb,o,none⟩/\c=cap:=by rw[ev]at ea;injection ea with h1 h2 h3;exact⟨h1.symm,h3.symm⟩
  subst ev
  have HU:Hid (Us w 132 28 (.slice (some ⟨gb,o,none⟩) l.length c) l.length (flat dgl l)):=hU
  obtain⟨n,hnl⟩:∃n,n=l.length:=⟨_,rfl⟩
  have HN:Hid (n=l.length):=hnl
  rw[<-hnl]at CI HU hn hlt hcap⊢
  clear hU hLC hAs hm hcs hfr ea hnl
  go_enter func163,ntmps163
  go_wp2_with fail
  refine CI.out.mono ?_
  rintro e V1 ⟨rfl,hk1⟩
  have HU1:Hid (Us V1 132 28 (.slice (some ⟨gb,o,none⟩) n c) n (flat dgl l)):=HU.out.below hk1
  have HG1:Hid (w.grownBy V1 (some gb)):=⟨hk1.os,hk1.tape,hk1.output,hk1.size,λh hh _=>hk1.block h hh⟩
  have HK1:Hid (Kp V1):=hKB.out w V1 hK.out hk1.size (λh hh _=>hk1.block h hh)
  clear hk1 CI HU hK
  have hm0:((m:Int)==-1)=false:=by simp
  go_wp2_with fail
  go_loopw [5,6] (λu5 u6 wr=>∃i j:Nat,∃cc:List Dg,u5=.int .i64 (i:Int)/\u6=.int .i64 (j:Int)/\j<=n/\i<j/\Hid (KptD p l cc i j)/\Hid (Us wr 132 28 (.slice (some ⟨gb,o,none⟩) n c) n (flat dgl cc))/\Hid (w.grownBy wr (some gb))/\Hid (Kp wr))
   (λ_ u6 _=>n-(intOf u6).toNat)
  case atStart=>exact⟨m,m+1,l,rfl,by go_num,by omega,by omega,hK0,HU1,HG1,HK1⟩
  case round=>
   obtain⟨i,j,cc,rfl,rfl,hjn,hij,HKp,HU2,HG2,HK2⟩:=hrel
   clear HU1 HG1 HK1 hK0 hm0
   by_cases hjl:j<n
   ·obtain⟨x,hx⟩:∃x,l[j]?=some x:=⟨_,Ab (by rw[<-HN.out];exact hjl)⟩
    have hx2:=HKp.out.at hx
    have HR:Hid (wr.rangeAt gb (o+j*28) (dgl x)):=by
     obtain⟨gb',o',cap',ev,_,_,_,hcs,_⟩:=HU2.out.at (by omega)
     obtain⟨rfl,rfl⟩:gb=gb'/\o=o':=by injection ev with h1 _ _;injection h1 with h1;injection h1 with h1 h2;exact⟨h1,h2⟩
     intro k u hu
     rw[ZN]
     exact hcs _ _ (qK zH hx2 hu)
    obtain⟨D,hD⟩:∃D,D=(dgl x).toArray:=⟨_,rfl⟩
    have HD:Hid (D=(dgl x).toArray):=hD
    have HI:Hid ((prog.info? 132).map (·.size)=some D.size/\28=D.size/\D.all (·.oneCell')=true):=by rw[hD];exact⟨zM x,rfl,jd x⟩
    have HA2:Hid (∀W,Kp W->Calls prog g #[.agg D,.pointer (some ⟨bq,0,none⟩)] W λe w'=>e=.returned (.bool (p x))/\Below W.heap.size W w'):=by rw[hD];exact λW hW=>hA.out W x hW
    have hcell:i<c:=by omega
    clear hD
    go_upto_region 8 with(first|(refine Ax rfl 132 _ rfl gb (o+j*28) rfl (dgl x) _ HR.out underlying132 rfl qw ?_;rw[<-HD.out])|(refine Zq rfl 132 _ _ rfl _ _ rfl rfl 132 _ (heap_alloc_new _ _) HI.out.1 HI.out.2.1 HI.out.2.2 ?_;rw[Zv]))
    refine Wi.zh (Φ:=λW=>ZF _ _ _ _ W) ?_
    intro U hUr hUb
    have HUr:Hid (U.heap[wr.heap.size]?=some (.cells D 132 (0,0))):=hUr
    have hqU:wr.heap.size<U.heap.size:=(Ah.1 hUr).1
    have HU3:Hid (Us U 132 28 (.slice (some ⟨gb,o,none⟩) n c) n (flat dgl cc)):=HU2.out.below hUb
    have HG3:Hid (w.grownBy U (some gb)):=qN HG2.out hUb
    have HK3:Hid (Kp U):=hKB.out wr U HK2.out hUb.size (λh hh _=>hUb.block h hh)
    clear hUr hUb HR HU2 HG2 HK2
    generalize wr.heap.size=z at*
    go_wp2_with(refine Zi rfl 132 _ rfl _ rfl 132 _ (0,0) _ HUr.out underlying132 rfl HI.out.1 ?_)
    have hcall:=HA2.out U HK3.out
    cases hp:p x with
    |true=>
     rw[hp]at hcall
     have HKn:Hid (KptD p l cc i (j+1)):=HKp.out.skip hx hp
     clear hp hx hx2 HA2 HKp
     refine hcall.mono ?_
     rintro e U2 ⟨rfl,hb2⟩
     have HU4:Hid (Us U2 132 28 (.slice (some ⟨gb,o,none⟩) n c) n (flat dgl cc)):=HU3.out.below hb2
     have HG4:Hid (w.grownBy U2 (some gb)):=qN HG3.out hb2
     have HK4:Hid (Kp U2):=hKB.out U U2 HK3.out hb2.size (λh hh _=>hb2.block h hh)
     clear hcall hb2 HU3 HG3 HK3 HUr HI hqU
     go_wp2_with fail
     exact⟨⟨i,j+1,cc,rfl,by go_num,by omega,by omega,HKn,HU4,HG4,HK4⟩,by simp[intOf];omega⟩
    |false=>
     rw[hp]at hcall
     have HKn:Hid (KptD p l (cc.set i x) (i+1) (j+1)):=HKp.out.keep hx hp
     have hcl:i<cc.length:=by have:=HKp.out.len;have:=HN.out;omega
     clear hp hx hx2 HA2
     refine hcall.mono ?_
     rintro e U2 ⟨rfl,hb2⟩
     have HU4:Hid (Us U2 132 28 (.slice (some ⟨gb,o,none⟩) n c) n (flat dgl cc)):=HU3.out.below hb2
     have HG4:Hid (w.grownBy U2 (some gb)):=qN HG3.out hb2
     have HK4:Hid (Kp U2):=hKB.out U U2 HK3.out hb2.size (λh hh _=>hb2.block h hh)
     have HUr2:Hid (U2.heap[z]?=some (.cells D 132 (0,0))):=(hb2.block z hqU).trans HUr.out
     clear hcall hb2 HU3 HG3 HK3 HUr hqU
     have hoff:i*28+D.toList.length<=n*28:=by
      have e1:D.toList.length=28:=by rw[Aj];exact HI.out.2.1.symm
      rw[e1]
      have:=Ze 28 (show i+1<=n by omega)
      rw[Zf]at this
      omega
     have HTH:Hid (U2.there gb (o+i*28) D.size):=HU4.out.there (i*28) D.size (by rw[<-Aj];exact hoff)
     have HU5:Hid (Us (U2.setCells gb (o+i*28) D.toList) 132 28 (.slice (some ⟨gb,o,none⟩) n c) n (flat dgl (cc.set i x))):=by
      have h:=HU4.out.puts (i*28) D.toList hoff (λu hu=>by rw[HD.out]at hu;exact zbm x u (by simpa using hu))
      have e:=vM zH (l:=cc) (k:=i) (j:=0) (x:=cc[i]) (y:=x) (news:=D.toList) (Ab hcl) (by rw[Aj,<-HI.out.2.1];omega) (by rw[HD.out];unfold ov;simp[zH])
      rw[AV]at e
      rw[e]at h
      exact h
     have HG5:Hid (w.grownBy (U2.setCells gb (o+i*28) D.toList) (some gb)):=zE HG4.out (zF _ _ _ _)
     have HK5:Hid (Kp (U2.setCells gb (o+i*28) D.toList)):=hKB.out U2 _ HK4.out (zF _ _ _ _).size (λh hh hne=>(zF U2 gb (o+i*28) D.toList).block h hh (λe=>hne e.symm))
     clear HU4 HG4 HK4 hoff
     go_upto_region 10 with(first|(refine Zi rfl 132 _ rfl _ rfl 132 _ (0,0) _ HUr2.out underlying132 rfl HI.out.1 ?_)|(refine Zr rfl 132 _ _ rfl gb (o+i*28) D rfl rfl HTH.out HI.out.1 HI.out.2.2 ?_))
     clear HTH HUr2 HI HD
     generalize U2.setCells gb (o+i*28) D.toList=U3 at*
     go_wp2_with fail
     exact⟨⟨i+1,j+1,cc.set i x,by go_num,by go_num,by omega,by omega,HKn,HU5,HG5,HK5⟩,by simp[intOf];omega⟩
   ·have hjn':j=l.length:=by have:=HN.out;omega
    have hd:=HKp.out
    rw[hjn']at hd
    obtain⟨d1,d2⟩:=hd.done
    have HE:Hid (cc.take i=l.filter (λo=>!p o)/\i=(l.filter (λo=>!p o)).length):=⟨d1,d2⟩
    have HCL:Hid (cc.length=n):=HKp.out.len.trans HN.out.symm
    clear d1 d2 hd hjn' HKp
    have hin:i<n:=by omega
    have hic:i<c:=by omega
    have hmul:i*28+(n-i)*28=n*28:=by rw[<-Zf,show i+(n-i)=n by omega]
    have HTH:Hid (wr.there gb (o+i*28) ((n-i)*28)):=HU2.out.there (i*28) ((n-i)*28) (by omega)
    have HFIN:Hid (∀zs:List Value,zs.length=(n-i)*28->(∀u∈zs,u.oneCell'=true)->Us (wr.setCells gb (o+i*28) zs) 132 28 (.slice (some ⟨gb,o,none⟩) i c) i (flat dgl (l.filter (λo=>!p o)))/\w.grownBy (wr.setCells gb (o+i*28) zs) (some gb)):=λzs hz1 hz2=>by
     have h:=(HU2.out.puts (i*28) zs (by omega) hz2).take i (by omega)
     have hfl:(flat dgl cc).length=n*28:=by rw[kH zH,HCL.out]
     rw[zik (by rw[hfl];omega),<-zaa zH cc i (by rw[HCL.out];omega),HE.out.1]at h
     exact⟨h,zE HG2.out (zF _ _ _ _)⟩
    clear hmul
    obtain⟨zs,hzs1,hzs2,hcl⟩:=clears wr 63 132 iX _ 28 underlying63 hi hz0 rfl (by decide) (zbm _) gb (o+i*28) (n-i) (c-i) (by omega) HTH.out
    have HZ1:Hid (zs.length=(n-i)*28/\∀u∈zs,u.oneCell'=true):=⟨hzs1,hzs2⟩
    clear hzs1 hzs2 HTH
    go_wp2
    all_goals go_ret
    all_goals exact⟨_,rfl,by rw[<-HE.out.2];exact(HFIN.out _ HZ1.out.1 HZ1.out.2).1,(HFIN.out _ HZ1.out.1 HZ1.out.2).2,rfl⟩
 ·have hml:m=l.length:=by have:=hm.le;omega
  have CI:Hid (Calls prog 83 #[.slice a l.length c,.func (.func g) #[] #[.pointer (some ⟨bq,0,none⟩)]] w λe w'=>e=.returned (.int .i64 (-1))/\Below w.heap.size w w'):=jE g bq p eg a l.length c (by omega) l m hm (-1) (by show _=_;rw[if_neg hlt]) w hLC hAs
  have hall:l.filter (λo=>!p o)=l:=AR.2 λo ho=>by
   obtain⟨j,hj⟩:=AG ho
   rw[hm.no j o (by have:=(Ad.1 hj).1;omega) hj]
   rfl
  have HU:Hid (Us w 132 28 v l.length (flat dgl l)):=hU
  have HF:Hid (l.filter (λo=>!p o)=l):=hall
  have HV:Hid (v=.slice a l.length c):=ea
  rw[ea]
  clear hU hLC hAs hm hall hml hlt ea
  go_enter func163,ntmps163
  go_wp2_with fail
  refine CI.out.mono ?_
  rintro e V1 ⟨rfl,hk1⟩
  have HB:Hid (Below w.heap.size w V1):=hk1
  clear hk1
  go_wp2_with fail
  go_ret
  refine⟨_,rfl,?_,⟨HB.out.os,HB.out.tape,HB.out.output,HB.out.size,λh hh _=>HB.out.block h hh⟩,rfl⟩
  have h:=HU.out.below HB.out
  rw[HV.out]at h
  rw[HF.out]
  exact h
structure KptA(p:Ac->Bool)(l c:List Ac)(i j:Nat):Prop where
 len:c.length=l.length
 kept:c.take i=(l.take j).filter (λo=>!p o)
 rest:c.drop j=l.drop j
 le:i<j
 hj:j<=l.length
theorem KptA.start{p:Ac->Bool}{l:List Ac}{m:Nat}(h:FirstA p l m)(hm:m<l.length):KptA p l l m (m+1):=by
 refine⟨rfl,?_,rfl,by omega,by omega⟩
 have hp:p l[m]=true:=h.yes _ (Ab hm)
 rw[WZ,Ab hm,Ak]
 have h1:(l.take m).filter (λo=>!p o)=l.take m:=AR.2 λo ho=>by
  obtain⟨j,hj⟩:=AG ho
  have hjm:j<m:=by have:=(Ad.1 hj).1;rw[Au]at this;omega
  rw[Zo hjm]at hj
  rw[h.no j o hjm hj]
  rfl
 rw[h1]
 simp[hp]
theorem KptA.at{p:Ac->Bool}{l c:List Ac}{i j:Nat}(h:KptA p l c i j){x:Ac}(hx:l[j]?=some x):c[j]?=some x:=by
 have:=congrArg (λk:List Ac=>k[0]?) h.rest
 simp only[ZE,AV]at this
 rw[this,hx]
theorem KptA.skip{p:Ac->Bool}{l c:List Ac}{i j:Nat}(h:KptA p l c i j){x:Ac}(hx:l[j]?=some x)(hp:p x=true):KptA p l c i (j+1):=by
 have hj:=(Ad.1 hx).1
 refine⟨h.len,?_,?_,by have:=h.le;omega,by omega⟩
 ·rw[WZ,hx,Ak,h.kept]
  simp[hp]
 ·have:=congrArg (λk:List Ac=>k.drop 1) h.rest
  simpa[Zj,AW]using this
theorem KptA.keep{p:Ac->Bool}{l c:List Ac}{i j:Nat}(h:KptA p l c i j){x:Ac}(hx:l[j]?=some x)(hp:p x=false):KptA p l (c.set i x) (i+1) (j+1):=by
 have hj:=(Ad.1 hx).1
 have hl:=h.len
 have hi:=h.le
 refine⟨by rw[AS];exact hl,?_,?_,by omega,by omega⟩
 ·have e1:l.take (j+1)=l.take j++[x]:=by rw[WZ,hx];rfl
  have e2:(c.set i x).take (i+1)=c.take i++[x]:=by rw[WZ,AP,if_pos rfl,if_pos (by omega),ZB (Aa _)];rfl
  rw[e1,e2,Ak,h.kept]
  simp[hp]
 ·have:=congrArg (λk:List Ac=>k.drop 1) h.rest
  rw[ZC (by omega)]
  simpa[Zj,AW]using this
theorem KptA.done{p:Ac->Bool}{l c:List Ac}{i:Nat}(h:KptA p l c i l.length):c.take i=l.filter (λo=>!p o)/\i=(l.filter (λo=>!p o)).length:=by
 have h1:=h.kept
 rw[AX (Aa _)]at h1
 refine⟨h1,?_⟩
 rw[<-h1,Au]
 have:=h.le
 have:=h.len
 omega
theorem zeY(q:Ac):(prog.info? 135).map (·.size)=some (cel q).toArray.size:=by rw[zac];rfl
theorem zeZ(q:Ac):(cel q).toArray.all (·.oneCell')=true:=Zz (xe q)
theorem xX(g bq:Nat)(p:Ac->Bool)(eg:∀args w,(callFunc g args).run prog w=.ok (.enter g args) w)(Kp:World->Prop){w:World}{v:Value}{l:List Ac}(hU:Us w 135 7 v l.length (flat cel l))(hn:l.length<=100000000)
  (hKB:Hid (∀W W',Kp W->W.heap.size<=W'.heap.size->(∀h,h<W.heap.size->v.ownBlock≠some h->W'.heap[h]?=W.heap[h]?)->Kp W'))
  (hA:Hid (∀W o,Kp W->Calls prog g #[acv o,.pointer (some ⟨bq,0,none⟩)] W λe w'=>e=.returned (.bool (p o))/\Below W.heap.size W w')) (hK:Hid (Kp w)):
  Calls prog 53 #[v,.func (.func g) #[] #[.pointer (some ⟨bq,0,none⟩)]] w λe w'=>∃v',e=.returned v'/\Us w' 135 7 v' (l.filter (λo=>!p o)).length (flat cel (l.filter (λo=>!p o)))/\w.grownBy w' v.ownBlock/\v'.ownBlock=v.ownBlock:=by
 obtain⟨iX,hi,hz0,hz1,hz2⟩:=ZD zmo
 obtain⟨m,hm⟩:=kt p l
 obtain⟨a,c,ea⟩:=hU.slice
 have hLC:LC w a l.length c 7 (flat cel l):=by rw[ea]at hU;exact hU.lc
 have hAs:Od.Asks g bq p w:=λW o hW=>hA.out W o (hKB.out w W hK.out hW.size (λh hh _=>hW.block h hh))
 by_cases hlt:m<l.length
 ·have CI:Hid (Calls prog 81 #[.slice a l.length c,.func (.func g) #[] #[.pointer (some ⟨bq,0,none⟩)]] w λe w'=>e=.returned (.int .i64 (m:Int))/\Below w.heap.size w w'):=qh g bq p eg a l.length c (by omega) l m hm (m:Int) (by show _=_;rw[if_pos hlt]) w (by rw[xD];exact hLC) hAs
  have hK0:Hid (KptA p l l m (m+1)):=KptA.start hm hlt
  obtain⟨gb,o,cap,ev,hcap,hcm,hgb,hcs,hfr⟩:=hU.at (by omega)
  obtain⟨rfl,rfl⟩:a=some ⟨gb,o,none⟩/\c=cap:=by rw[ev]at ea;injection ea with h1 h2 h3;exact⟨h1.symm,h3.symm⟩
  subst ev
  have HU:Hid (Us w 135 7 (.slice (some ⟨gb,o,none⟩) l.length c) l.length (flat cel l)):=hU
  obtain⟨n,hnl⟩:∃n,n=l.length:=⟨_,rfl⟩
  have HN:Hid (n=l.length):=hnl
  rw[<-hnl]at CI HU hn hlt hcap⊢
  clear hU hLC hAs hm hcs hfr ea hnl
  go_enter func53,ntmps53
  go_wp2_with fail
  refine CI.out.mono ?_
  rintro e V1 ⟨rfl,hk1⟩
  have HU1:Hid (Us V1 135 7 (.slice (some ⟨gb,o,none⟩) n c) n (flat cel l)):=HU.out.below hk1
  have HG1:Hid (w.grownBy V1 (some gb)):=⟨hk1.os,hk1.tape,hk1.output,hk1.size,λh hh _=>hk1.block h hh⟩
  have HK1:Hid (Kp V1):=hKB.out w V1 hK.out hk1.size (λh hh _=>hk1.block h hh)
  clear hk1 CI HU hK
  have hm0:((m:Int)==-1)=false:=by simp
  go_wp2_with fail
  go_loopw [5,6] (λu5 u6 wr=>∃i j:Nat,∃cc:List Ac,u5=.int .i64 (i:Int)/\u6=.int .i64 (j:Int)/\j<=n/\i<j/\Hid (KptA p l cc i j)/\Hid (Us wr 135 7 (.slice (some ⟨gb,o,none⟩) n c) n (flat cel cc))/\Hid (w.grownBy wr (some gb))/\Hid (Kp wr))
   (λ_ u6 _=>n-(intOf u6).toNat)
  case atStart=>exact⟨m,m+1,l,rfl,by go_num,by omega,by omega,hK0,HU1,HG1,HK1⟩
  case round=>
   obtain⟨i,j,cc,rfl,rfl,hjn,hij,HKp,HU2,HG2,HK2⟩:=hrel
   clear HU1 HG1 HK1 hK0 hm0
   by_cases hjl:j<n
   ·obtain⟨x,hx⟩:∃x,l[j]?=some x:=⟨_,Ab (by rw[<-HN.out];exact hjl)⟩
    have hx2:=HKp.out.at hx
    have HR:Hid (wr.rangeAt gb (o+j*7) (cel x)):=by
     obtain⟨gb',o',cap',ev,_,_,_,hcs,_⟩:=HU2.out.at (by omega)
     obtain⟨rfl,rfl⟩:gb=gb'/\o=o':=by injection ev with h1 _ _;injection h1 with h1;injection h1 with h1 h2;exact⟨h1,h2⟩
     intro k u hu
     rw[ZN]
     exact hcs _ _ (qK zab hx2 hu)
    obtain⟨D,hD⟩:∃D,D=(cel x).toArray:=⟨_,rfl⟩
    have HD:Hid (D=(cel x).toArray):=hD
    have HI:Hid ((prog.info? 135).map (·.size)=some D.size/\7=D.size/\D.all (·.oneCell')=true):=by rw[hD];exact⟨zeY x,rfl,zeZ x⟩
    have HA2:Hid (∀W,Kp W->Calls prog g #[.agg D,.pointer (some ⟨bq,0,none⟩)] W λe w'=>e=.returned (.bool (p x))/\Below W.heap.size W w'):=by rw[hD];exact λW hW=>hA.out W x hW
    have hcell:i<c:=by omega
    clear hD
    go_upto_region 8 with(first|(refine Ax rfl 135 _ rfl gb (o+j*7) rfl (cel x) _ HR.out underlying135 rfl zac ?_;rw[<-HD.out])|(refine Zq rfl 135 _ _ rfl _ _ rfl rfl 135 _ (heap_alloc_new _ _) HI.out.1 HI.out.2.1 HI.out.2.2 ?_;rw[Zv]))
    refine Wi.zh (Φ:=λW=>ZF _ _ _ _ W) ?_
    intro U hUr hUb
    have HUr:Hid (U.heap[wr.heap.size]?=some (.cells D 135 (0,0))):=hUr
    have hqU:wr.heap.size<U.heap.size:=(Ah.1 hUr).1
    have HU3:Hid (Us U 135 7 (.slice (some ⟨gb,o,none⟩) n c) n (flat cel cc)):=HU2.out.below hUb
    have HG3:Hid (w.grownBy U (some gb)):=qN HG2.out hUb
    have HK3:Hid (Kp U):=hKB.out wr U HK2.out hUb.size (λh hh _=>hUb.block h hh)
    clear hUr hUb HR HU2 HG2 HK2
    generalize wr.heap.size=z at*
    go_wp2_with(refine Zi rfl 135 _ rfl _ rfl 135 _ (0,0) _ HUr.out underlying135 rfl HI.out.1 ?_)
    have hcall:=HA2.out U HK3.out
    cases hp:p x with
    |true=>
     rw[hp]at hcall
     have HKn:Hid (KptA p l cc i (j+1)):=HKp.out.skip hx hp
     clear hp hx hx2 HA2 HKp
     refine hcall.mono ?_
     rintro e U2 ⟨rfl,hb2⟩
     have HU4:Hid (Us U2 135 7 (.slice (some ⟨gb,o,none⟩) n c) n (flat cel cc)):=HU3.out.below hb2
     have HG4:Hid (w.grownBy U2 (some gb)):=qN HG3.out hb2
     have HK4:Hid (Kp U2):=hKB.out U U2 HK3.out hb2.size (λh hh _=>hb2.block h hh)
     clear hcall hb2 HU3 HG3 HK3 HUr HI hqU
     go_wp2_with fail
     exact⟨⟨i,j+1,cc,rfl,by go_num,by omega,by omega,HKn,HU4,HG4,HK4⟩,by simp[intOf];omega⟩
    |false=>
     rw[hp]at hcall
     have HKn:Hid (KptA p l (cc.set i x) (i+1) (j+1)):=HKp.out.keep hx hp
     have hcl:i<cc.length:=by have:=HKp.out.len;have:=HN.out;omega
     clear hp hx hx2 HA2
     refine hcall.mono ?_
     rintro e U2 ⟨rfl,hb2⟩
     have HU4:Hid (Us U2 135 7 (.slice (some ⟨gb,o,none⟩) n c) n (flat cel cc)):=HU3.out.below hb2
     have HG4:Hid (w.grownBy U2 (some gb)):=qN HG3.out hb2
     have HK4:Hid (Kp U2):=hKB.out U U2 HK3.out hb2.size (λh hh _=>hb2.block h hh)
     have HUr2:Hid (U2.heap[z]?=some (.cells D 135 (0,0))):=(hb2.block z hqU).trans HUr.out
     clear hcall hb2 HU3 HG3 HK3 HUr hqU
     have hoff:i*7+D.toList.length<=n*7:=by
      have e1:D.toList.length=7:=by rw[Aj];exact HI.out.2.1.symm
      rw[e1]
      have:=Ze 7 (show i+1<=n by omega)
      rw[Zf]at this
      omega
     have HTH:Hid (U2.there gb (o+i*7) D.size):=HU4.out.there (i*7) D.size (by rw[<-Aj];exact hoff)
     have HU5:Hid (Us (U2.setCells gb (o+i*7) D.toList) 135 7 (.slice (some ⟨gb,o,none⟩) n c) n (flat cel (cc.set i x))):=by
      have h:=HU4.out.puts (i*7) D.toList hoff (λu hu=>by rw[HD.out]at hu;exact xe x u (by simpa using hu))
      have e:=vM zab (l:=cc) (k:=i) (j:=0) (x:=cc[i]) (y:=x) (news:=D.toList) (Ab hcl) (by rw[Aj,<-HI.out.2.1];omega) (by rw[HD.out];unfold ov;simp[zab])
      rw[AV]at e
      rw[e]at h
      exact h
     have HG5:Hid (w.grownBy (U2.setCells gb (o+i*7) D.toList) (some gb)):=zE HG4.out (zF _ _ _ _)
     have HK5:Hid (Kp (U2.setCells gb (o+i*7) D.toList)):=hKB.out U2 _ HK4.out (zF _ _ _ _).size (λh hh hne=>(zF U2 gb (o+i*7) D.toList).block h hh (λe=>hne e.symm))
     clear HU4 HG4 HK4 hoff
     go_upto_region 10 with(first|(refine Zi rfl 135 _ rfl _ rfl 135 _ (0,0) _ HUr2.out underlying135 rfl HI.out.1 ?_)|(refine Zr rfl 135 _ _ rfl gb (o+i*7) D rfl rfl HTH.out HI.out.1 HI.out.2.2 ?_))
     clear HTH HUr2 HI HD
     generalize U2.setCells gb (o+i*7) D.toList=U3 at*
     go_wp2_with fail
     exact⟨⟨i+1,j+1,cc.set i x,by go_num,by go_num,by omega,by omega,HKn,HU5,HG5,HK5⟩,by simp[intOf];omega⟩
   ·have hjn':j=l.length:=by have:=HN.out;omega
    have hd:=HKp.out
    rw[hjn']at hd
    obtain⟨d1,d2⟩:=hd.done
    have HE:Hid (cc.take i=l.filter (λo=>!p o)/\i=(l.filter (λo=>!p o)).length):=⟨d1,d2⟩
    have HCL:Hid (cc.length=n):=HKp.out.len.trans HN.out.symm
    clear d1 d2 hd hjn' HKp
    have hin:i<n:=by omega
    have hic:i<c:=by omega
    have hmul:i*7+(n-i)*7=n*7:=by rw[<-Zf,show i+(n-i)=n by omega]
    have HTH:Hid (wr.there gb (o+i*7) ((n-i)*7)):=HU2.out.there (i*7) ((n-i)*7) (by omega)
    have HFIN:Hid (∀zs:List Value,zs.length=(n-i)*7->(∀u∈zs,u.oneCell'=true)->Us (wr.setCells gb (o+i*7) zs) 135 7 (.slice (some ⟨gb,o,none⟩) i c) i (flat cel (l.filter (λo=>!p o)))/\w.grownBy (wr.setCells gb (o+i*7) zs) (some gb)):=λzs hz1 hz2=>by
     have h:=(HU2.out.puts (i*7) zs (by omega) hz2).take i (by omega)
     have hfl:(flat cel cc).length=n*7:=by rw[kH zab,HCL.out]
     rw[zik (by rw[hfl];omega),<-zaa zab cc i (by rw[HCL.out];omega),HE.out.1]at h
     exact⟨h,zE HG2.out (zF _ _ _ _)⟩
    clear hmul
    obtain⟨zs,hzs1,hzs2,hcl⟩:=clears wr 64 135 iX _ 7 underlying64 hi hz0 rfl (by decide) (xe _) gb (o+i*7) (n-i) (c-i) (by omega) HTH.out
    have HZ1:Hid (zs.length=(n-i)*7/\∀u∈zs,u.oneCell'=true):=⟨hzs1,hzs2⟩
    clear hzs1 hzs2 HTH
    go_wp2
    all_goals go_ret
    all_goals exact⟨_,rfl,by rw[<-HE.out.2];exact(HFIN.out _ HZ1.out.1 HZ1.out.2).1,(HFIN.out _ HZ1.out.1 HZ1.out.2).2,rfl⟩
 ·have hml:m=l.length:=by have:=hm.le;omega
  have CI:Hid (Calls prog 81 #[.slice a l.length c,.func (.func g) #[] #[.pointer (some ⟨bq,0,none⟩)]] w λe w'=>e=.returned (.int .i64 (-1))/\Below w.heap.size w w'):=qh g bq p eg a l.length c (by omega) l m hm (-1) (by show _=_;rw[if_neg hlt]) w (by rw[xD];exact hLC) hAs
  have hall:l.filter (λo=>!p o)=l:=AR.2 λo ho=>by
   obtain⟨j,hj⟩:=AG ho
   rw[hm.no j o (by have:=(Ad.1 hj).1;omega) hj]
   rfl
  have HU:Hid (Us w 135 7 v l.length (flat cel l)):=hU
  have HF:Hid (l.filter (λo=>!p o)=l):=hall
  have HV:Hid (v=.slice a l.length c):=ea
  rw[ea]
  clear hU hLC hAs hm hall hml hlt ea
  go_enter func53,ntmps53
  go_wp2_with fail
  refine CI.out.mono ?_
  rintro e V1 ⟨rfl,hk1⟩
  have HB:Hid (Below w.heap.size w V1):=hk1
  clear hk1
  go_wp2_with fail
  go_ret
  refine⟨_,rfl,?_,⟨HB.out.os,HB.out.tape,HB.out.output,HB.out.size,λh hh _=>HB.out.block h hh⟩,rfl⟩
  have h:=HU.out.below HB.out
  rw[HV.out]at h
  rw[HF.out]
  exact h
theorem St.newU{N:Nat}{w:World}{b:Nat}{s:Cr}{L:Sls}(S:St N w b s L){w1:World}{v1:Value}(l:List Dg)(hU:Us w1 132 28 v1 l.length (flat dgl l))(hG:w.grownBy w1 L.u.ownBlock)(hF:∀g,v1.ownBlock=some g->L.u.ownBlock=some g\/w.heap.size<=g):
  St N (w1.setCell ⟨b,334,none⟩ v1) b {s with under:=l} {L with u:=v1}/\To b w L (w1.setCell ⟨b,334,none⟩ v1) {L with u:=v1}:=by
 obtain⟨dc,du,da⟩:=S.apart
 have hf:∀g,own b {L with u:=v1} g->own b L g\/w.heap.size<=g:=λg hg=>by
  rcases hg with h|h|h|h
  ·exact .inl (.inl h)
  ·exact .inl (.inr (.inl h))
  ·exact(hF g h).imp (λh=>.inr (.inr (.inl h))) id
  ·exact .inl (.inr (.inr (.inr h)))
 have T1:To b w L w1 {L with u:=v1}:=xb hG (λg hg=>.inr (.inr (.inl hg))) hf
 have row:w1.heap[b]?=some (.cells (rowOf (kat s L) 339) 66 (0,0)):=(hG.block b S.lt (λh=>(du b h.symm).2.2 rfl)).trans S.row
 have hc1:∀g,L.c.ownBlock=some g->w1.heap[g]?=w.heap[g]?:=λg hg=>hG.block g (S.its.lt (.inl hg)) (λh=>(dc g hg).1 h.symm)
 have ha1:∀g,L.a.ownBlock=some g->w1.heap[g]?=w.heap[g]?:=λg hg=>hG.block g (S.its.lt (.inr (.inr hg))) (λh=>(da g hg).2.1 h.symm)
 have I1:Its N w1 b {s with coms:=s.coms,under:=l,asked:=s.asked} {L with u:=v1}:=S.its.own T1 rfl rfl rfl rfl (S.its.ic.move hc1) hU (S.its.ia.move ha1)
 exact⟨St.cell row I1 334 v1 (λj hj=>zn8 _ L v1 j hj),T1.put 334 v1⟩
theorem St.newA{N:Nat}{w:World}{b:Nat}{s:Cr}{L:Sls}(S:St N w b s L){w1:World}{v1:Value}(l:List Ac)(hU:Us w1 135 7 v1 l.length (flat cel l))(hG:w.grownBy w1 L.a.ownBlock)(hF:∀g,v1.ownBlock=some g->L.a.ownBlock=some g\/w.heap.size<=g):
  St N (w1.setCell ⟨b,335,none⟩ v1) b {s with asked:=l} {L with a:=v1}/\To b w L (w1.setCell ⟨b,335,none⟩ v1) {L with a:=v1}:=by
 obtain⟨dc,du,da⟩:=S.apart
 have hf:∀g,own b {L with a:=v1} g->own b L g\/w.heap.size<=g:=λg hg=>by
  rcases hg with h|h|h|h
  ·exact .inl (.inl h)
  ·exact .inl (.inr (.inl h))
  ·exact .inl (.inr (.inr (.inl h)))
  ·exact(hF g h).imp (λh=>.inr (.inr (.inr h))) id
 have T1:To b w L w1 {L with a:=v1}:=xb hG (λg hg=>.inr (.inr (.inr hg))) hf
 have row:w1.heap[b]?=some (.cells (rowOf (kat s L) 339) 66 (0,0)):=(hG.block b S.lt (λh=>(da b h.symm).2.2 rfl)).trans S.row
 have hc1:∀g,L.c.ownBlock=some g->w1.heap[g]?=w.heap[g]?:=λg hg=>hG.block g (S.its.lt (.inl hg)) (λh=>(dc g hg).2.1 h.symm)
 have hu1:∀g,L.u.ownBlock=some g->w1.heap[g]?=w.heap[g]?:=λg hg=>hG.block g (S.its.lt (.inr (.inl hg))) (λh=>(du g hg).2.1 h.symm)
 have I1:Its N w1 b {s with coms:=s.coms,under:=s.under,asked:=l} {L with a:=v1}:=S.its.own T1 rfl rfl rfl rfl (S.its.ic.move hc1) (S.its.iu.move hu1) hU
 exact⟨St.cell row I1 335 v1 (λj hj=>zn9 _ L v1 j hj),T1.put 335 v1⟩
theorem zdK{b:Nat}{w w':World}{L L':Sls}{a:Option Addr}{n c size:Nat}{cs:List Value}(h:LC w a n c size cs)(T:To b w L w' L')(h0:0<n)(ho:∀x,a=some x->¬own b L x.block):∀x,a=some x->¬own b L' x.block:=λx hx=>by
 obtain⟨g,o,e,hlt,_⟩:=h.ad x hx h0
 subst e
 exact qp T.fresh (ho _ hx) hlt
theorem jy{b:Nat}{w w':World}{L L':Sls}{z:Nat}{v:Value}(h:w.cell? ⟨z,0,none⟩=some v)(T:To b w L w' L')(hz:¬own b L z):w'.cell? ⟨z,0,none⟩=some v:=
 (AE (w:=w) (a:=⟨z,0,none⟩) (T.block z (Ap _ _ h) hz)).trans h
theorem zke:∀args w,(callFunc 164 args).run prog w=.ok (.enter 164 args) w:=enters_of func164 (by kernel_rfl) rfl
theorem zkf:∀args w,(callFunc 165 args).run prog w=.ok (.enter 165 args) w:=enters_of func165 (by kernel_rfl) rfl
theorem zfX:∀args w,(callFunc 159 args).run prog w=.ok (.enter 159 args) w:=enters_of func159 (by kernel_rfl) rfl
theorem zfY(B:Nat)(q:Int)(W:World)(o:Dg)(hc':W.cell? ⟨B,0,none⟩=some (.int .i64 q)):Calls prog 164 #[dgv o,.pointer (some ⟨B,0,none⟩)] W λe w'=>e=.returned (.bool (decide (q<=o.seq)))/\Below W.heap.size W w':=by
 have hB':B<W.heap.size:=Ap _ _ hc'
 obtain⟨D,hD⟩:∃D,D=(dgl o).toArray:=⟨_,rfl⟩
 have d0:D[0]?=some (.int .i64 o.seq):=by rw[hD];rfl
 show Calls _ _ #[.agg (dgl o).toArray,_] _ _
 rw[<-hD]
 generalize o.seq=x at*
 clear hD
 go_enter func164,ntmps164
 go_wp2
 go_ret
 exact⟨rfl,(Af _ _).alloc (Aa _) _⟩
theorem zfZ(B:Nat)(q:Int)(W:World)(o:Ac)(hc':W.cell? ⟨B,0,none⟩=some (.int .i64 q)):Calls prog 165 #[acv o,.pointer (some ⟨B,0,none⟩)] W λe w'=>e=.returned (.bool (decide (q<=o.seq)))/\Below W.heap.size W w':=by
 have hB':B<W.heap.size:=Ap _ _ hc'
 go_enter func165,ntmps165
 go_wp2
 go_ret
 exact⟨rfl,(Af _ _).alloc (Aa _) _⟩
theorem zcE(B:Nat)(q:Int)(W:World)(o:Ac)(hc':W.cell? ⟨B,0,none⟩=some (.int .i64 q)):Calls prog 159 #[acv o,.pointer (some ⟨B,0,none⟩)] W λe w'=>e=.returned (.bool (o.st&&decide (o.seq=q)))/\Below W.heap.size W w':=by
 have hB':B<W.heap.size:=Ap _ _ hc'
 obtain⟨x,st,kn,pl,many,data,done⟩:=o
 cases st with
 |false=>
  go_enter func159,ntmps159
  go_wp2
  go_ret
  exact⟨rfl,(Af _ _).alloc (Aa _) _⟩
 |true=>
  by_cases e:x=q
  ·subst e
   go_enter func159,ntmps159
   go_wp2
   go_ret
   exact⟨by simp,(Af _ _).alloc (Aa _) _⟩
  ·have e':(x==q)=false:=beq_eq_false_iff_ne.2 e
   go_enter func159,ntmps159
   go_wp2
   go_ret
   exact⟨by simp[e],(Af _ _).alloc (Aa _) _⟩
structure BackOk(s:Cr)(m:Nat->Int):Prop where
 bk:Bk s m
 dis:Dis s.phys m (tos s.under++s.free)
 rd:∀o∈s.under,o.rd<32
 low:33<=s.phys
 high:s.phys<=96
 lenU:s.under.length<=1000
 lenA:s.asked.length<=10000000
 bck0:0<=s.bck
 bck1:s.bck<=10000000
def unS(s:Cr)(m:Nat->Int)(l t:List Dg):Cr:={s with regs:=mE m l,free:=tos t++s.free}
theorem zil{s:Cr}{m:Nat->Int}(h:BackOk s m):unS s m s.under []=s:=by
 unfold unS
 rw[h.bk.reg]
 rfl
theorem zmR{s:Cr}{m:Nat->Int}(h:BackOk s m){l t:List Dg}(hu:s.under=l++t):Nms (unS s m l t):=
 ⟨h.low,h.high,Dis.mE (l1:=l) (l2:=t) (fr:=s.free) (m:=m) (by rw[<-hu];exact h.dis) (λq hq=>h.rd q (by rw[hu];exact Am _ hq))⟩
theorem zkg{s:Cr}{m:Nat->Int}(h:BackOk s m){l t:List Dg}{o:Dg}(hu:s.under=l++o::t):
  (o.rd=0->unS s m l (o::t)=unS s m (l++[o]) t)/\(o.rd≠0->o.rd<32/\0<=o.old/\o.old<s.phys/\o.old∉(unS s m (l++[o]) t).free/\(∀r,r<32->(unS s m (l++[o]) t).regs r≠o.old)/\unS s m l (o::t)={unS s m (l++[o]) t with regs:=up (unS s m (l++[o]) t).regs o.rd o.old,free:=(unS s m (l++[o]) t).regs o.rd::(unS s m (l++[o]) t).free}):=by
 have hrd:=h.rd o (by rw[hu];simp)
 have hd:=Dis.mE (l1:=l) (l2:=o::t) (fr:=s.free) (m:=m) (by rw[<-hu];exact h.dis) (λq hq=>h.rd q (by rw[hu];exact Am _ hq))
 have ho2:Olds (mE m l) (o::t):=(xx.1 (hu▸h.bk.olds)).2
 have ho:o.rd≠0->o.old=mE m l o.rd:=ho2.1
 have e:mE m (l++[o])=nm (mE m l) o:=by rw[kD];rfl
 refine⟨λh0=>?_,λh0=>?_⟩
 ·unfold unS
  rw[e,zT,if_pos h0]
  unfold nm
  rw[if_pos h0]
 ·obtain⟨u1,u2,u3,u4,u5,u6,u7⟩:=zj5 hd hrd h0 (ho h0)
  refine⟨hrd,u2,u3,u4,?_,?_⟩
  ·unfold unS
   simp only[e]
   exact u5
  ·unfold unS
   simp only[e]
   rw[u6,u7,zT,if_neg h0]
   rfl
theorem zmS{s:Cr}{m:Nat->Int}(h:BackOk s m){l1 l2:List Dg}(hu:s.under=l1++l2){q:Int}(h1:∀o∈l1,o.seq<q)(h2:∀o∈l2,q<=o.seq):cutS s.slots q=(l2.map (·.seq)).reverse/\vo s.slots q=l1.map slot:=by
 have f1:=xg (p:=λo=>decide (q<=o.seq)) (l1:=l1) (l2:=l2) (λo ho=>by have:=h1 o ho;simp;omega) (λo ho=>by have:=h2 o ho;simp;omega)
 rw[h.bk.slo,hu]
 unfold cutS vo
 rw[ZL,ZL]
 refine⟨?_,congrArg _ f1.2⟩
 have:(l1++l2).filter ((λq':Sl=>decide (q<=q'.1))∘slot)=l2:=f1.1
 rw[this,List.map_map]
 rfl
theorem rev_at{l2:List Dg}{k:Nat}(hk:k<l2.length):∃la o t,l2=la++o::t/\t.length=k/\(l2.map (·.seq)).reverse[k]?=some o.seq:=by
 refine⟨l2.take (l2.length-1-k),l2[l2.length-1-k],l2.drop (l2.length-1-k+1),?_,?_,?_⟩
 ·rw[<-Zl (by omega),Zx]
 ·rw[ZI];omega
 ·rw[List.getElem?_reverse (by rw[AB];exact hk),AB,AO,Ab (by omega)]
  rfl
theorem zmT{s:Cr}{m:Nat->Int}(h:BackOk s m){l1 l2:List Dg}(hu:s.under=l1++l2){q:Int}(pc:Int)(h1:∀o∈l1,o.seq<q)(h2:∀o∈l2,q<=o.seq):
  back s q pc={unS s m l1 l2 with slots:=l1.map slot,under:=s.under.filter (λo=>!decide (q<=o.seq)),asked:=s.asked.filter (λa=>!decide (q<=a.seq)),bck:=if l2=[]then s.bck else s.bck+1,fro:=pc,opn:=true}:=by
 rw[zbb h.bk hu q pc h1 h2]
 have f1:=xg (p:=λo=>decide (q<=o.seq)) (l1:=l1) (l2:=l2) (λo ho=>by have:=h1 o ho;simp;omega) (λo ho=>by have:=h2 o ho;simp;omega)
 rw[hu,f1.2]
 rfl
end Go.Proofs.YtpiohehijkpghacGreatDoor.Co
