/- What a core asks: the program. -/
import Derived.Test.YtpiohehijkpghacGreatDoorD18
open Array renaming getElem?_eq_some_iff->Aa
open Go renaming frozen_of_row->Ak,cell_of_row->An
open Go.RowKit.Below renaming refl->Ae,heap_alloc->Am
open Go.Value renaming slice->Ab
open Go.World renaming cell?_of_block->Aj
open Int renaming eq_ofNat_of_zero_le->Ah
open List renaming getElem?_eq_some_iff->Ad,length_append->Ag,append_nil->Ai,length_set->Ao
open Nat renaming le_refl->Af,le_trans->WZ
set_option maxHeartbeats 1000000
set_option maxRecDepth 20000
set_option linter.unusedSimpArgs false
set_option linter.unusedVariables false
open Go.Proofs.Tryz
namespace Go.Proofs.YtpiohehijkpghacGreatDoor.Co
open Go.RowKit
open Hy
open Wi Od Re.Hy
open Gu.Hy (Tb tcs)
def bt(x:Int)(j:Nat):Int:=x/p256 j%256
theorem bt_le{g:Nat->Int}{m:Nat}(hm:m<=4)(h:∀i,i<m->0<=g i/\g i<=255):∀j,j<m->bt (le g m) j=g j:=by
 intro j hj
 unfold bt
 rcases(by omega:m=1\/m=2\/m=3\/m=4)with rfl|rfl|rfl|rfl
 ·have:=h 0 (by omega)
  obtain rfl:j=0:=by omega
  simp[le,p256];omega
 ·have:=h 0 (by omega);have:=h 1 (by omega)
  rcases(by omega:j=0\/j=1)with rfl|rfl<;>simp[le,p256]<;>omega
 ·have:=h 0 (by omega);have:=h 1 (by omega);have:=h 2 (by omega)
  rcases(by omega:j=0\/j=1\/j=2)with rfl|rfl|rfl<;>simp[le,p256]<;>omega
 ·have:=h 0 (by omega);have:=h 1 (by omega);have:=h 2 (by omega);have:=h 3 (by omega)
  rcases(by omega:j=0\/j=1\/j=2\/j=3)with rfl|rfl|rfl|rfl<;>simp[le,p256]<;>omega
theorem zbd(op x:Int)(hx:U32 x)(ho:ldn op≠0)(w:World):Calls prog 89 #[.int .i64 op,.int .u32 x] w fun e w'=>e=.returned (.int .u32 (ldv op (bt x)))/\Below w.heap.size w w':=by
 obtain⟨x0,x1⟩:=hx
 have hl:=jZ op
 have CL:∀W:World,W.heap[w.heap.size]?=some (.cells #[.int .u8 (x%256),.int .u8 (x/256%256),.int .u8 (x/65536%256),.int .u8 (x/16777216)] 5 (0,0))->Calls prog 98 #[.slice (some ⟨w.heap.size,0,none⟩) 4 4,.int .i64 op,.int .u32 0] W fun e w'=>e=.returned (.tuple #[.int .u32 (ldv op (bt x)),.bool true])/\w'=W:=fun W hW=>by
  have hB:Bys W (some ⟨w.heap.size,0,none⟩) 4 4 (bt x):=by
   refine⟨by omega,by omega,fun _=>⟨w.heap.size,0,rfl,fun i hi=>?_⟩,fun i hi=>by unfold bt;omega⟩
   rw[An _ _ _ _ _ _ hW]
   rcases(by omega:i=0\/i=1\/i=2\/i=3)with rfl|rfl|rfl|rfl<;>simp[bt,p256]<;>omega
  have:=jp hB op 0 (by omega) ⟨by omega,by rcases hl with h|h|h|h<;>rw[h]<;>rfl,by omega⟩ W (Ae _ _)
  simpa using this
 go_enter func89,ntmps89
 go_wp2_with fail
 refine(CL _ (heap_alloc_new _ _)).mono ?_
 rintro e w' ⟨rfl,rfl⟩
 go_wp2_with fail
 go_ret
 exact⟨rfl,(Ae _ _).alloc (Af _) _⟩
theorem zpo(pc k:Int)(w:World):Calls prog 99 #[.int .u32 pc,.int .i64 k] w fun e w'=>e=.returned (cvC (qj pc k))/\Below w.heap.size w w':=jo pc k w
theorem zlO(i:In)(pc v:Int)(hp:U32 pc)(w:World)(ok:Bool):Calls prog 88 #[ivI i,.int .u32 pc,.int .u32 v,.bool ok] w fun e w'=>e=.returned (cvC (if ok then onC pc i.rd v else qj pc 3))/\Below w.heap.size w w':=by
 cases ok with
 |false=>exact jg i.op i.rd i.s1 i.s2 i.im pc v w
 |true=>
  rw[if_pos rfl]
  by_cases h:i.rd=0
  ·rw[zn0 pc v h]
   have:=qx i.op i.im pc v _ i.rd i.s1 i.s2 w (fun W=>zG pc hp.1 hp.2 W) 0 0 (fun W=>by rw[h];exact zeg pc _ v W)
   exact this
  ·rw[zlN pc v h]
   exact qx i.op i.im pc v _ i.rd i.s1 i.s2 w (fun W=>zG pc hp.1 hp.2 W) i.rd v (fun W=>zbY pc _ v i.rd (by simpa using h) W)
theorem zhw(R:Nat->Int)(pc st ca a b c:Int):(((rowOf (hat R pc st ca) 35).setIfInBounds 32 (.int .u32 a)).setIfInBounds 33 (.int .i64 b)).setIfInBounds 34 (.int .i64 c)=rowOf (hat R a b c) 35:=by
 rw[jM,jM,jM]
 refine qk fun i hi=>?_
 unfold hat
 by_cases h4:i=34
 ·subst h4;rfl
 by_cases h3:i=33
 ·subst h3;rfl
 by_cases h2:i=32
 ·subst h2;rfl
 simp only[h4,h3,h2,if_false]
 rw[if_pos (by omega),if_pos (by omega)]
theorem zn1(R:Nat->Int)(pc st ca v:Int)(rd:Nat)(h:rd<32):(rowOf (hat R pc st ca) 35).setIfInBounds rd (.int .u32 v)=rowOf (hat (up R rd v) pc st ca) 35:=by
 rw[jM]
 refine qk fun i hi=>?_
 unfold hat up
 by_cases e:i=rd
 ·subst e;rw[if_pos rfl,if_pos h,if_pos rfl]
 ·simp only[e,if_false]
theorem ja(f:Nat->Value)(n:Nat)(h:∀i,i<n->(f i).oneCell'=true):(rowOf f n).all (·.oneCell')=true:=by
 refine all_oneCell_toArray fun u hu=>?_
 obtain⟨i,hi,rfl⟩:=List.mem_map.1 hu
 exact h i (List.mem_range.1 hi)
theorem zbe(R:Nat->Int)(pc st ca:Int)(i:Nat):(hat R pc st ca i).oneCell'=true:=by
 unfold hat
 split
 ·rfl
 ·split
  ·rfl
  ·split<;>rfl
theorem zlP(R:Nat->Int)(pc st ca:Int)(c:Cm)(hr:c.rd<32)(w:World):Calls prog 66 #[.agg (rowOf (hat R pc st ca) 35),cvC c] w fun e w'=>e=.returned (.agg (rowOf (hat (updC R c) c.next c.st c.ca) 35))/\Below w.heap.size w w':=by
 have h32:∃z,(rowOf (hat R pc st ca) 35)[32]?=some (.int .u32 z):=⟨_,zu _ (by omega)⟩
 have h33:∃z,(rowOf (hat R pc st ca) 35)[33]?=some (.int .i64 z):=⟨_,zu _ (by omega)⟩
 have h34:∃z,(rowOf (hat R pc st ca) 35)[34]?=some (.int .i64 z):=⟨_,zu _ (by omega)⟩
 have ho:Ones (rowOf (hat R pc st ca) 35):=ja _ _ fun i _=>zbe _ _ _ _ i
 unfold updC
 by_cases h:c.rd=0
 ·rw[if_pos h,<-zhw R pc st ca]
  show Calls _ _ #[_,cv c.pc c.next c.st c.ca c.rd c.val c.pl c.many c.data c.out c.told] _ _
  rw[h]
  exact zb0 _ c.pc c.next c.st c.ca c.val c.pl c.many c.data c.told c.out (zf _ _) ho h32 h33 h34 w
 ·rw[if_neg h,<-zn1 R _ _ _ c.val c.rd hr,<-zhw R pc st ca]
  refine zb1 _ c.pc c.next c.st c.ca c.val c.pl c.many c.data c.told c.rd (R c.rd) c.out (zf _ _) ho h32 h33 h34 ?_ hr (by simpa using h) w
  rw[zu _ (by omega)]
  unfold hat
  rw[if_pos hr]
theorem zn2{w:World}{p:Option Addr}{n c:Nat}{f:Nat->Int}(B:Bys w p n c f)(i:In)(x d:Int)(hs:sts i=true)(hx:U32 x)(hd:U32 d)(hf:fits n x (stn i.op)=true)(W:World)(hW:Below w.heap.size w W):
  Calls prog 78 #[.slice p n c,.int .i64 i.op,.int .u32 x,.int .u32 d] W fun e w'=>(∃h cap,e=.returned (.tuple #[.slice (some ⟨h,0,none⟩) n cap,.bool true])/\Bys w' (some ⟨h,0,none⟩) n cap (sto f x.toNat d (stn i.op).toNat)/\W.heap.size<=h)/\Below W.heap.size W w':=by
 have hb:=B.below hW
 have h1:16<=i.op/\i.op<=18:=by simpa[sts]using hs
 have h2:=zep h1
 obtain⟨k0,k1,k2⟩:=jw hf
 obtain⟨a,rfl⟩:=Ah hx.1
 obtain⟨m,hm⟩:=Ah (show 0<=stn i.op by omega)
 rw[hm]at k1 k2 h2⊢
 have hn:=hb.hn
 obtain⟨g,o,rfl,hl⟩:=hb.hm (by omega)
 refine(zhv g o n c i.op a m d f hm (by omega) (by have:=hx.2;omega) (by omega) (by omega) (by omega) hb.hnc hd.1 hd.2 W hl).mono ?_
 rintro e w' ⟨⟨h,cap,rfl,hc,F⟩,hb'⟩
 refine⟨⟨h,cap,rfl,⟨hn,hc,fun _=>⟨h,0,rfl,fun i hi=>?_⟩,fun i hi=>?_⟩,F.base⟩,hb'⟩
 ·rw[Nat.zero_add];exact F.cell i hi
 ·unfold sto
  split
  ·omega
  ·exact hb.hf i hi
theorem zae{w w':World}{row:Option Nat}{a:Addr}{v:Value}(hg:w.grownBy w' row)(h:w.cell? a=some v)(hne:row≠some a.block):w'.cell? a=some v:=
 (Aj (w:=w) (a:=a) (hg.block a.block (World.block_lt_of_cell? _ _ h) (fun e=>hne e.symm))).trans h
theorem vJ{w:World}{b i:Nat}{a:Addr}{v u:Value}(h:w.cell? a=some v)(hne:b≠a.block):(w.setCell ⟨b,i,none⟩ u).cell? a=some v:=
 (World.cell?_setCell_far w ⟨b,i,none⟩ a u hne).trans h
theorem zjw{w:World}{b i:Nat}{a:Addr}{v u:Value}(h:w.cell? a=some v)(hne:(⟨b,i,none⟩:Addr)≠a):(w.setCell ⟨b,i,none⟩ u).cell? a=some v:=
 (World.cell?_setCell_other w ⟨b,i,none⟩ a u hne).trans h
theorem jD{w:World}{a:Addr}{v:Value}(o:Obj)(h:w.cell? a=some v):(w.alloc o).cell? a=some v:=zn ((Ae _ _).alloc (Af _) _) h
theorem zpp{w:World}{b o:Nat}{vs:List Value}{a:Addr}{v:Value}(h:w.cell? a=some v)(hne:a.block≠b):(w.setCells b o vs).cell? a=some v:=
 (Aj (w:=w) (a:=a) (zY w b o vs hne)).trans h
theorem zn3{w:World}{b o b' o':Nat}{vs cs:List Value}(h:w.rangeAt b' o' cs)(hne:b'≠b):(w.setCells b o vs).rangeAt b' o' cs:=fun j v hj=>zpp (h j v hj) hne
theorem zn4{w:World}{b i b' o':Nat}{u:Value}{cs:List Value}(h:w.rangeAt b' o' cs)(hne:b≠b'):(w.setCell ⟨b,i,none⟩ u).rangeAt b' o' cs:=fun j v hj=>vJ (h j v hj) hne
theorem zks{w w':World}{row:Option Nat}{b o:Nat}{cs:List Value}(hg:w.grownBy w' row)(h:w.rangeAt b o cs)(hne:row≠some b):w'.rangeAt b o cs:=fun j v hj=>zae hg (h j v hj) hne
theorem zcd{w:World}{b o:Nat}{cs:List Value}(ob:Obj)(h:w.rangeAt b o cs):(w.alloc ob).rangeAt b o cs:=xg ((Ae _ _).alloc (Af _) _) h
theorem St.apart{N:Nat}{w:World}{b:Nat}{s:Cr}{L:Sls}(S:St N w b s L):(∀g,L.c.ownBlock=some g->L.u.ownBlock≠some g/\L.a.ownBlock≠some g/\g≠b)/\(∀g,L.u.ownBlock=some g->L.c.ownBlock≠some g/\L.a.ownBlock≠some g/\g≠b)/\(∀g,L.a.ownBlock=some g->L.c.ownBlock≠some g/\L.u.ownBlock≠some g/\g≠b):=by
 have c:=fun{g} h=>S.its.ic.block (g:=g) h
 have u:=fun{g} h=>S.its.iu.block (g:=g) h
 have a:=fun{g} h=>S.its.ia.block (g:=g) h
 have r:=S.row
 refine⟨fun g hg=>?_,fun g hg=>?_,fun g hg=>?_⟩
 ·obtain⟨x,hx⟩:=c hg
  refine⟨fun h=>?_,fun h=>?_,fun h=>?_⟩
  ·obtain⟨y,hy⟩:=u h;rw[hx]at hy;cases hy
  ·obtain⟨y,hy⟩:=a h;rw[hx]at hy;cases hy
  ·subst h;rw[hx]at r;cases r
 ·obtain⟨x,hx⟩:=u hg
  refine⟨fun h=>?_,fun h=>?_,fun h=>?_⟩
  ·obtain⟨y,hy⟩:=c h;rw[hx]at hy;cases hy
  ·obtain⟨y,hy⟩:=a h;rw[hx]at hy;cases hy
  ·subst h;rw[hx]at r;cases r
 ·obtain⟨x,hx⟩:=a hg
  refine⟨fun h=>?_,fun h=>?_,fun h=>?_⟩
  ·obtain⟨y,hy⟩:=c h;rw[hx]at hy;cases hy
  ·obtain⟨y,hy⟩:=u h;rw[hx]at hy;cases hy
  ·subst h;rw[hx]at r;cases r
theorem St.lt{N:Nat}{w:World}{b:Nat}{s:Cr}{L:Sls}(S:St N w b s L):b<w.heap.size:=(Aa.1 S.row).1
theorem qG{w w1:World}{row:Option Nat}(h:w.drew.grownBy w1 row):w.grownBy w1 row:=⟨h.os,h.tape,h.output,h.size,h.block⟩
theorem jr{w w1:World}{o:Obj}{row:Option Nat}(h:(w.alloc o).grownBy w1 row)(hr:∀g,row=some g->g<w.heap.size):w.grownBy w1 row:=by
 have hb:Below w.heap.size w (w.alloc o):=(Ae _ _).alloc (Af _) _
 refine⟨h.os.trans hb.os,h.tape.trans hb.tape,h.output.trans hb.output,WZ hb.size h.size,fun g hg hn=>?_⟩
 rw[h.block g (Nat.lt_of_lt_of_le hg hb.size) hn,hb.block g hg]
theorem jX{b:Nat}{w w1:World}{L L':Sls}{row:Option Nat}(hG:w.grownBy w1 row)(hr:∀g,row=some g->own b L g)(hf:∀g,own b L' g->own b L g\/w.heap.size<=g):To b w L w1 L':=
 ⟨hG.os,hG.tape,hG.output,hG.size,fun g hg hn=>hG.block g hg (fun e=>hn (hr g e.symm)),hf⟩
theorem To.put{b:Nat}{w w1:World}{L L':Sls}(h:To b w L w1 L')(i:Nat)(v:Value):To b w L (w1.setCell ⟨b,i,none⟩ v) L':=
 h.trans (jN w1 i v fun g hg=>.inl hg)
theorem St.appA{N:Nat}{w:World}{b:Nat}{s:Cr}{L:Sls}(S:St N w b s L){w1:World}{v1:Value}(e:Ac)(hU:Us w1 135 7 v1 (s.asked.length+1) (flat cel s.asked++cel e))(hG:w.grownBy w1 L.a.ownBlock)(hF:∀g,v1.ownBlock=some g->L.a.ownBlock=some g\/w.heap.size<=g):
  St N (w1.setCell ⟨b,335,none⟩ v1) b {s with asked:=s.asked++[e]} {L with a:=v1}/\To b w L (w1.setCell ⟨b,335,none⟩ v1) {L with a:=v1}:=by
 obtain⟨dc,du,da⟩:=S.apart
 have hf:∀g,own b {L with a:=v1} g->own b L g\/w.heap.size<=g:=fun g hg=>by
  rcases hg with h|h|h|h
  ·exact .inl (.inl h)
  ·exact .inl (.inr (.inl h))
  ·exact .inl (.inr (.inr (.inl h)))
  ·exact(hF g h).imp (fun h=>.inr (.inr (.inr h))) id
 have T1:To b w L w1 {L with a:=v1}:=jX hG (fun g hg=>.inr (.inr (.inr hg))) hf
 have row:w1.heap[b]?=some (.cells (rowOf (kat s L) 339) 66 (0,0)):=(hG.block b S.lt (fun h=>(da b h.symm).2.2 rfl)).trans S.row
 have hc1:∀g,L.c.ownBlock=some g->w1.heap[g]?=w.heap[g]?:=fun g hg=>hG.block g (S.its.lt (.inl hg)) (fun h=>(dc g hg).2.1 h.symm)
 have hu1:∀g,L.u.ownBlock=some g->w1.heap[g]?=w.heap[g]?:=fun g hg=>hG.block g (S.its.lt (.inr (.inl hg))) (fun h=>(du g hg).2.1 h.symm)
 have I1:Its N w1 b {s with coms:=s.coms,under:=s.under,asked:=s.asked++[e]} {L with a:=v1}:=S.its.own T1 rfl rfl rfl rfl (S.its.ic.move hc1) (S.its.iu.move hu1) (by
  rw[kt,Ag]
  show Us w1 135 7 v1 (s.asked.length+1) (flat cel s.asked++(cel e++[]))
  rw[Ai]
  exact hU)
 exact⟨St.cell row I1 335 v1 (fun j hj=>znC _ L v1 j hj),T1.put 335 v1⟩
theorem St.appU{N:Nat}{w:World}{b:Nat}{s:Cr}{L:Sls}(S:St N w b s L){w1:World}{v1:Value}(e:Dg)(hU:Us w1 132 28 v1 (s.under.length+1) (flat dgl s.under++dgl e))(hG:w.grownBy w1 L.u.ownBlock)(hF:∀g,v1.ownBlock=some g->L.u.ownBlock=some g\/w.heap.size<=g):
  St N (w1.setCell ⟨b,334,none⟩ v1) b {s with under:=s.under++[e]} {L with u:=v1}/\To b w L (w1.setCell ⟨b,334,none⟩ v1) {L with u:=v1}:=by
 obtain⟨dc,du,da⟩:=S.apart
 have hf:∀g,own b {L with u:=v1} g->own b L g\/w.heap.size<=g:=fun g hg=>by
  rcases hg with h|h|h|h
  ·exact .inl (.inl h)
  ·exact .inl (.inr (.inl h))
  ·exact(hF g h).imp (fun h=>.inr (.inr (.inl h))) id
  ·exact .inl (.inr (.inr (.inr h)))
 have T1:To b w L w1 {L with u:=v1}:=jX hG (fun g hg=>.inr (.inr (.inl hg))) hf
 have row:w1.heap[b]?=some (.cells (rowOf (kat s L) 339) 66 (0,0)):=(hG.block b S.lt (fun h=>(du b h.symm).2.2 rfl)).trans S.row
 have hc1:∀g,L.c.ownBlock=some g->w1.heap[g]?=w.heap[g]?:=fun g hg=>hG.block g (S.its.lt (.inl hg)) (fun h=>(dc g hg).1 h.symm)
 have ha1:∀g,L.a.ownBlock=some g->w1.heap[g]?=w.heap[g]?:=fun g hg=>hG.block g (S.its.lt (.inr (.inr hg))) (fun h=>(da g hg).2.1 h.symm)
 have I1:Its N w1 b {s with coms:=s.coms,under:=s.under++[e],asked:=s.asked} {L with u:=v1}:=S.its.own T1 rfl rfl rfl rfl (S.its.ic.move hc1) (by
  rw[kt,Ag]
  show Us w1 132 28 v1 (s.under.length+1) (flat dgl s.under++(dgl e++[]))
  rw[Ai]
  exact hU) (S.its.ia.move ha1)
 exact⟨St.cell row I1 334 v1 (fun j hj=>znB _ L v1 j hj),T1.put 334 v1⟩
theorem St.appC{N:Nat}{w:World}{b:Nat}{s:Cr}{L:Sls}(S:St N w b s L){w1:World}{v1:Value}(e:Cm)(hU:Us w1 68 11 v1 (s.coms.length+1) (flat cml s.coms++cml e))(hG:w.grownBy w1 L.c.ownBlock)(hF:∀g,v1.ownBlock=some g->L.c.ownBlock=some g\/w.heap.size<=g):
  St N (w1.setCell ⟨b,3,none⟩ v1) b {s with coms:=s.coms++[e]} {L with c:=v1}/\To b w L (w1.setCell ⟨b,3,none⟩ v1) {L with c:=v1}:=by
 obtain⟨dc,du,da⟩:=S.apart
 have hf:∀g,own b {L with c:=v1} g->own b L g\/w.heap.size<=g:=fun g hg=>by
  rcases hg with h|h|h|h
  ·exact .inl (.inl h)
  ·exact(hF g h).imp (fun h=>.inr (.inl h)) id
  ·exact .inl (.inr (.inr (.inl h)))
  ·exact .inl (.inr (.inr (.inr h)))
 have T1:To b w L w1 {L with c:=v1}:=jX hG (fun g hg=>.inr (.inl hg)) hf
 have row:w1.heap[b]?=some (.cells (rowOf (kat s L) 339) 66 (0,0)):=(hG.block b S.lt (fun h=>(dc b h.symm).2.2 rfl)).trans S.row
 have hu1:∀g,L.u.ownBlock=some g->w1.heap[g]?=w.heap[g]?:=fun g hg=>hG.block g (S.its.lt (.inr (.inl hg))) (fun h=>(du g hg).1 h.symm)
 have ha1:∀g,L.a.ownBlock=some g->w1.heap[g]?=w.heap[g]?:=fun g hg=>hG.block g (S.its.lt (.inr (.inr hg))) (fun h=>(da g hg).1 h.symm)
 have I1:Its N w1 b {s with coms:=s.coms++[e],under:=s.under,asked:=s.asked} {L with c:=v1}:=S.its.own T1 rfl rfl rfl rfl (by
  rw[kt,Ag]
  show Us w1 68 11 v1 (s.coms.length+1) (flat cml s.coms++(cml e++[]))
  rw[Ai]
  exact hU) (S.its.iu.move hu1) (S.its.ia.move ha1)
 exact⟨St.cell row I1 3 v1 (fun j hj=>zpa _ L v1 j hj),T1.put 3 v1⟩
theorem St.putU{N:Nat}{w:World}{b:Nat}{s:Cr}{L:Sls}(S:St N w b s L){k j:Nat}{x y:Dg}{news:List Value}(hk:s.under[k]?=some x)(hj:j+news.length<=28)(he:dgl y=ov (dgl x) j news)(h1:∀u∈news,u.oneCell'=true):
  ∃g o cap,L.u=.slice (some ⟨g,o,none⟩) s.under.length cap/\w.there g (o+(k*28+j)) news.length/\St N (w.setCells g (o+(k*28+j)) news) b {s with under:=s.under.set k y} L/\To b w L (w.setCells g (o+(k*28+j)) news) L:=by
 obtain⟨dc,du,da⟩:=S.apart
 have hkl:k<s.under.length:=(Ad.1 hk).1
 obtain⟨g,o,cap,e,_⟩:=S.its.iu.at (by omega)
 have hU:=S.its.iu
 rw[e]at hU
 have hlt:k*28+28<=s.under.length*28:=by omega
 have hog:L.u.ownBlock=some g:=by rw[e];rfl
 have T1:To b w L (w.setCells g (o+(k*28+j)) news) L:=jX (zD w g _ news) (fun g' hg'=>by cases hg';exact .inr (.inr (.inl hog))) (fun g hg=>.inl hg)
 refine⟨g,o,cap,e,hU.there _ _ (by omega),?_,T1⟩
 have hP:=hU.puts (k*28+j) news (by omega) h1
 rw[vB zF hk hj he,<-e]at hP
 have mv:∀g',g'≠g->(w.setCells g (o+(k*28+j)) news).heap[g']?=w.heap[g']?:=fun g' h=>zY w g _ news h
 have hgb:g≠b:=(du g hog).2.2
 refine⟨(mv b (fun h=>hgb h.symm)).trans S.row,?_⟩
 have I:=S.its.own (co:=s.coms) (un:=s.under.set k y) (ak:=s.asked) T1 rfl rfl rfl rfl (S.its.ic.move fun g' hg'=>mv g' (fun h=>(dc g' hg').1 (h▸hog))) (by rw[Ao];exact hP) (S.its.ia.move fun g' hg'=>mv g' (fun h=>(da g' hg').2.1 (h▸hog)))
 exact I
theorem St.putA{N:Nat}{w:World}{b:Nat}{s:Cr}{L:Sls}(S:St N w b s L){k:Nat}{x y:Ac}(hk:s.asked[k]?=some x)(h1:∀u∈cel y,u.oneCell'=true):
  ∃g o cap,L.a=.slice (some ⟨g,o,none⟩) s.asked.length cap/\w.there g (o+k*7) 7/\St N (w.setCells g (o+k*7) (cel y)) b {s with asked:=s.asked.set k y} L/\To b w L (w.setCells g (o+k*7) (cel y)) L:=by
 obtain⟨dc,du,da⟩:=S.apart
 have hkl:k<s.asked.length:=(Ad.1 hk).1
 obtain⟨g,o,cap,e,_⟩:=S.its.ia.at (by omega)
 have hU:=S.its.ia
 rw[e]at hU
 have hlt:k*7+7<=s.asked.length*7:=by omega
 have hog:L.a.ownBlock=some g:=by rw[e];rfl
 have hl7:∀z:Ac,(cel z).length=7:=fun _=>rfl
 have T1:To b w L (w.setCells g (o+k*7) (cel y)) L:=jX (zD w g _ _) (fun g' hg'=>by cases hg';exact .inr (.inr (.inr hog))) (fun g hg=>.inl hg)
 refine⟨g,o,cap,e,hU.there _ _ (by omega),?_,T1⟩
 have hP:=hU.puts (k*7) (cel y) (by rw[hl7];omega) h1
 have hfo:=vB (g:=cel) hl7 (j:=0) (y:=y) (news:=cel y) hk (by rw[hl7];omega) (by unfold ov;rw[hl7,List.drop_eq_nil_of_le (by rw[hl7];omega)];simp)
 rw[Nat.add_zero]at hfo
 rw[hfo,<-e]at hP
 have mv:∀g',g'≠g->(w.setCells g (o+k*7) (cel y)).heap[g']?=w.heap[g']?:=fun g' h=>zY w g _ _ h
 have hgb:g≠b:=(da g hog).2.2
 refine⟨(mv b (fun h=>hgb h.symm)).trans S.row,?_⟩
 exact S.its.own (co:=s.coms) (un:=s.under) (ak:=s.asked.set k y) T1 rfl rfl rfl rfl (S.its.ic.move fun g' hg'=>mv g' (fun h=>(dc g' hg').2.1 (h▸hog))) (S.its.iu.move fun g' hg'=>mv g' (fun h=>(du g' hg').2.1 (h▸hog))) (by rw[Ao];exact hP)
def Bx(w:World)(q:Nat)(o:Dg):Prop:=w.heap[q]?=some (.cells (dgl o).toArray 132 (0,0))
theorem Bx.below{w w':World}{q:Nat}{o:Dg}(h:Bx w q o)(hb:Below w.heap.size w w'):Bx w' q o:=(hb.block q (Aa.1 h).1).trans h
theorem Bx.to{b:Nat}{w w':World}{L L':Sls}{q:Nat}{o:Dg}(h:Bx w q o)(hT:To b w L w' L')(hq:¬own b L q):Bx w' q o:=(hT.block q (Aa.1 h).1 hq).trans h
theorem Bx.lt{w:World}{q:Nat}{o:Dg}(h:Bx w q o):q<w.heap.size:=(Aa.1 h).1
theorem Bx.not{b:Nat}{w w':World}{L L':Sls}{q:Nat}{o:Dg}(h:Bx w q o)(hT:To b w L w' L')(hq:¬own b L q):¬own b L' q:=qm hT.fresh hq h.lt
theorem zl{w:World}{q:Nat}{o:Dg}(h:Bx w q o)(j:Nat){v:Value}(hj:(dgl o)[j]?=some v):w.cell? ⟨q,j,none⟩=some v:=by
 rw[An _ _ _ _ _ _ h]
 simpa using hj
theorem zew{w:World}{q:Nat}{o:Dg}(h:Bx w q o){j:Nat}{cs:List Value}(hj:∀i v,cs[i]?=some v->(dgl o)[j+i]?=some v):w.rangeAt q j cs:=fun i v hi=>zl h (j+i) (hj i v hi)
theorem qw{w:World}{q:Nat}{o:Dg}(h:Bx w q o)(j:Nat):w.frozen? ⟨q,j,none⟩=false:=Ak _ _ _ _ _ h
theorem Bx.puts{w:World}{q:Nat}{o o':Dg}(h:Bx w q o)(j:Nat)(news:List Value)(hj:j+news.length<=28)(e:dgl o'=ov (dgl o) j news):Bx (w.setCells q j news) q o':=by
 obtain⟨cur,h1,h2,h3⟩:=yG news (off:=j) h (by simpa[zF]using hj)
 unfold Bx
 rw[h1,e]
 congr 2
 apply Array.ext_getElem?
 intro i
 rw[h3]
 have:=znL (xs:=dgl o) (news:=news) (off:=j) (by rw[zF];exact hj) i
 simpa using this.symm
theorem Bx.put{w:World}{q:Nat}{o o':Dg}(h:Bx w q o)(j:Nat)(v:Value)(hj:j<28)(e:dgl o'=ov (dgl o) j [v]):Bx (w.setCell ⟨q,j,none⟩ v) q o':=h.puts j [v] (by simp only[List.length_cons,List.length_nil];omega) e
theorem zlQ:(prog.info? 135).map (fun i=>(i.zero,i.size,i.bytes))=some (some (.agg (cel ⟨0,false,false,0,0,0,false⟩).toArray),7,32):=by kernel_rfl
theorem zn5:(prog.info? 132).map (fun i=>(i.zero,i.size,i.bytes))=some (some (dgv ⟨0,0,zin,0,0,0,0,0,0,0,false,0,false,zcm⟩),28,192):=by kernel_rfl
theorem zpq:(prog.info? 68).map (fun i=>(i.zero,i.size,i.bytes))=some (some (cvC zcm),11,64):=by kernel_rfl
theorem xa(q:Ac):∀u∈cel q,u.oneCell'=true:=by
 intro u hu
 simp only[cel,List.mem_cons,List.not_mem_nil,or_false]at hu
 rcases hu with rfl|rfl|rfl|rfl|rfl|rfl|rfl<;>rfl
theorem jO{w:World}{cs:List Value}{t:TypeId}(j:Nat)(u:Value)(h:cs[j]?=some u):(w.alloc (.cells cs.toArray t)).cell? ⟨w.heap.size,j,none⟩=some u:=by
 rw[An _ _ _ _ _ _ (heap_alloc_new w _)]
 simpa using h
theorem Us.below{w w':World}{e size:Nat}{v:Value}{n:Nat}{xs:List Value}(h:Us w e size v n xs)(hb:Below w.heap.size w w'):Us w' e size v n xs:=
 h.move fun g hg=>hb.block g (by obtain⟨cur,e⟩:=h.block hg;exact(Aa.1 e).1)
theorem xh{w:World}{q:Nat}{o:Dg}(h:Bx w q o):w.rangeAt q 2 (ivL o.i).toList:=zew h fun i v hi=>by
 have hl:i<5:=by have:=(Ad.1 hi).1;simpa[ivL]using this
 rcases(by omega:i=0\/i=1\/i=2\/i=3\/i=4)with rfl|rfl|rfl|rfl|rfl<;>exact hi
theorem qK(i:In):(prog.info? 78).map (·.size)=some (ivL i).toList.length:=zev
theorem zjx{N:Nat}{w:World}{b:Nat}{s:Cr}{L:Sls}(S:St N w b s L)(o:Dg)(hn:s.asked.length<=100000000):Calls prog 94 #[.pointer (some ⟨b,0,none⟩),dgv o] w fun e w'=>e=.returned (.tuple #[])/\∃L',St N w' b (askO s o) L'/\To b w L w' L'/\L'.m=L.m/\L'.f=L.f/\L'.s=L.s/\L'.r=L.r:=by
 obtain⟨iA,hi,hz0,hz1,hz2⟩:=info_parts zlQ
 have CS:=fun w=>vA o.i w
 go_enter func94,ntmps94
 go_upto_region 1 with fail
 refine Wi.zj (Φ:=fun W=>Code.wp _ _ _ _ W) ?_
 intro V hV hVb
 have BV:Hid (Bx V w.heap.size o):=hV
 have SV:Hid (St N V b s L):=S.below hVb
 have TV:Hid (To b w L V L):=ze L hVb
 have hqo:¬own b L w.heap.size:=fun h=>by have:=qN S h;omega
 clear hV hVb S
 generalize w.heap.size=q at*
 have HQO:Hid (¬own b L q):=hqo
 have hnq:L.a.ownBlock≠some q:=fun h=>hqo (.inr (.inr (.inr h)))
 have hqb:q≠b:=fun h=>hqo (.inl h)
 clear hqo
 obtain⟨a,c,ea⟩:=SV.out.its.ia.slice
 have kA:V.cell? ⟨b,335,none⟩=some (.slice a (s.asked.length) c):=(zd SV.out.row (by omega)).trans (congrArg some ea)
 have HU:Hid (Us V 135 7 (.slice a (s.asked.length) c) (s.asked.length) (flat cel s.asked)):=by have:=SV.out.its.ia;rw[ea]at this;exact this
 have hnb:(Ab a (s.asked.length) c).ownBlock≠some b:=fun h=>(SV.out.apart.2.2 b (by rw[ea];exact h)).2.2 rfl
 have hlt0:∀g,(Ab a (s.asked.length) c).ownBlock=some g->g<V.heap.size:=fun g h=>SV.out.its.lt (.inr (.inr (by rw[ea];exact h)))
 refine zq (S:=fun w'=>w'.cell? ⟨b,335,none⟩=some (.slice a (s.asked.length) c)/\w'.cell? ⟨q,0,none⟩=some (.int .i64 o.seq)/\w'.cell? ⟨q,1,none⟩=some (.int .u32 o.pc)) [14] (by kernel_rfl) (⟨kA,zl BV.out 0 rfl,zl BV.out 1 rfl⟩) (fun hH=>?_)
 refine tU 0 (.pointer (some ⟨b,0,none⟩)) ?_;go_simp
 refine tU 1 (.pointer (some ⟨b,0,none⟩)) ?_;go_simp
 refine tU 2 (.pointer (some ⟨b,0,none⟩)) ?_;go_simp
 refine tU 3 (.pointer (some ⟨b,335,none⟩)) ?_;go_simp
 refine tA 4 (.slice a (s.asked.length) c) ?_;go_simp
 refine tU 5 (.pointer (some ⟨q,0,none⟩)) ?_;go_simp
 refine tS 6 (.int .i64 o.seq) rfl (Or.inl ⟨by rfl,by intro wz hSw;have hc:=hSw.2.1;go_simp⟩) hH ?_;go_simp
 refine tU 7 (.pointer (some ⟨q,1,none⟩)) ?_;go_simp
 refine tS 8 (.int .u32 o.pc) rfl (Or.inl ⟨by rfl,by intro wz hSw;have hc:=hSw.2.2;go_simp⟩) hH ?_;go_simp
 refine tU 9 (.agg #[.int .i64 o.seq,.bool false,.bool true,.int .u32 o.pc,.int .i64 4,.int .u32 0,.bool true]) ?_;go_simp
 refine zC 10 rfl (fun K hK=>?_)
 go_simp
 refine hK.out _ _ (⟨jD _ (hH.1),jD _ (hH.2.1),jD _ (hH.2.2)⟩) (fun hN=>?_)
 clear hK K hH
 have hH:=hN
 clear hN
 try go_simp
 refine zC 11 rfl (fun K hK=>?_)
 rw[if_pos (by rfl)]
 refine qP _ _ 64 rfl 135 iA _ 7 32 underlying64 hi hz0 hz1 hz2 rfl (by decide) _ (s.asked.length) _ rfl (HU.out.below ((Ae _ _).drew.alloc (Af _) _)) V.heap.size (cel (ownA o)) rfl rfl (fun j u hj=>jO (w:=V.drew) j u hj) (xa _) (by omega) (by omega) ?_
 intro v1 w1 hU1 hG1 hF1
 obtain⟨p1,c1,rfl⟩:=hU1.slice
 have fA:w1.frozen? ⟨b,335,none⟩=false:=Ak _ _ _ _ _ ((hG1.block b (by have:=SV.out.lt;simp;omega) (fun h=>hnb h.symm)).trans ((Am _ _ _ SV.out.lt).trans SV.out.row))
 have HU1:Hid (Us w1 135 7 (.slice p1 ((s.asked.length)+1) c1) ((s.asked.length)+1) (flat cel s.asked++cel (ownA o))):=hU1
 have HG1:Hid (V.grownBy w1 L.a.ownBlock):=by rw[ea];exact qG (jr hG1 (fun g hg=>hlt0 g hg))
 have HF1:Hid (∀g,(Ab p1 ((s.asked.length)+1) c1).ownBlock=some g->L.a.ownBlock=some g\/V.heap.size<=g):=fun g hg=>(hF1 g hg).imp (fun h=>by rw[ea];exact h) (fun h=>WZ (by simp) h)
 refine hK.out _ _ (⟨zae hG1 (hH.1) (hnb),zae hG1 (hH.2.1) (by rw[<-ea];exact hnq),zae hG1 (hH.2.2) (by rw[<-ea];exact hnq)⟩) (fun hN=>?_)
 clear hK K hH
 have hH:=hN
 clear hN
 try go_simp
 have cA:=hH.1
 clear hU1 hG1 hF1 HU hnb hlt0 kA
 refine tU 12 (.pointer (some ⟨b,0,none⟩)) ?_;go_simp
 refine tU 13 (.pointer (some ⟨b,335,none⟩)) ?_;go_simp
 refine zL 14 rfl (fun K hK=>?_)
 go_simp
 refine hK.out _ _ ?_
 clear hK K
 try go_simp
 refine zE (by kernel_rfl) ?_ _
 obtain⟨S1,T1⟩:=St.appA SV.out (ownA o) HU1.out HG1.out HF1.out
 clear HU1 HG1 HF1 hH cA fA
 generalize w1.setCell ⟨b,335,none⟩ (.slice p1 ((s.asked.length)+1) c1)=W1 at*
 generalize Ab p1 ((s.asked.length)+1) c1=v1 at*
 have B1:Hid (Bx W1 q o):=BV.out.to T1 HQO.out
 have HQ1:Hid (¬own b {L with a:=v1} q):=BV.out.not T1 HQO.out
 have T1':Hid (To b w L W1 {L with a:=v1}):=TV.out.trans T1
 have S1':Hid (St N W1 b {s with asked:=s.asked++[ownA o]} {L with a:=v1}):=S1
 have hnq:v1.ownBlock≠some q:=fun h=>HQ1.out (.inr (.inr (.inr h)))
 clear S1 T1 TV SV BV HQO ea
 go_wp2_with(refine wpList_load_mid rfl 78 _ rfl q 2 rfl (ivL o.i).toList _ (xh B1.out) underlying78 rfl (qK _) ?_)
 refine(CS _).mono ?_
 rintro e V2 ⟨rfl,hk2⟩
 have B2:Hid (Bx V2 q o):=B1.out.below hk2
 have SV:Hid (St N V2 b {s with asked:=s.asked++[ownA o]} {L with a:=v1}):=S1'.out.below hk2
 have T2:Hid (To b w L V2 {L with a:=v1}):=T1'.out.trans (ze _ hk2)
 clear hk2 B1 S1' T1' CS
 cases hst:sts o.i with
 |false=>
  have HE:Hid (askO s o={s with asked:=s.asked++[ownA o]}):=by show _=_;unfold askO;rw[hst];rfl
  clear hst
  go_wp2_with fail
  refine bodyPost_end (results_none rfl _ _ _) rfl ?_
  exact⟨rfl,_,by rw[HE.out];exact SV.out,T2.out,rfl,rfl,rfl,rfl⟩
 |true=>
  have e1:askO s o={s with asked:=s.asked++[ownA o]++[st0 o.seq]}:=by unfold askO;rw[hst];simp
  clear hst
  obtain⟨s',hs'⟩:∃s':Cr,s'={s with asked:=s.asked++[ownA o]}:=⟨_,rfl⟩
  obtain⟨L',hL'⟩:∃L':Sls,L'={L with a:=v1}:=⟨_,rfl⟩
  have HE:Hid (askO s o={s' with asked:=s'.asked++[st0 o.seq]}):=by show _=_;rw[e1,hs']
  have hn':s'.asked.length<=100000001:=by rw[hs'];simp;omega
  have hnq':L'.a.ownBlock≠some q:=by rw[hL'];exact hnq
  have HSm:Hid (L'.m=L.m/\L'.f=L.f/\L'.s=L.s/\L'.r=L.r):=by rw[hL'];exact⟨rfl,rfl,rfl,rfl⟩
  rw[<-hs',<-hL']at SV
  rw[<-hL']at T2
  clear e1 hs' hL' hnq HQ1
  go_upto_region 3 with fail
  obtain⟨a2,c2,ea⟩:=SV.out.its.ia.slice
  have kA:V2.cell? ⟨b,335,none⟩=some (.slice a2 (s'.asked.length) c2):=(zd SV.out.row (by omega)).trans (congrArg some ea)
  have HU:Hid (Us V2 135 7 (.slice a2 (s'.asked.length) c2) (s'.asked.length) (flat cel s'.asked)):=by have:=SV.out.its.ia;rw[ea]at this;exact this
  have hnb:(Ab a2 (s'.asked.length) c2).ownBlock≠some b:=fun h=>(SV.out.apart.2.2 b (by rw[ea];exact h)).2.2 rfl
  have hlt0:∀g,(Ab a2 (s'.asked.length) c2).ownBlock=some g->g<V2.heap.size:=fun g h=>SV.out.its.lt (.inr (.inr (by rw[ea];exact h)))
  refine zq (S:=fun w'=>w'.cell? ⟨b,335,none⟩=some (.slice a2 (s'.asked.length) c2)/\w'.cell? ⟨q,0,none⟩=some (.int .i64 o.seq)) [12] (by kernel_rfl) (⟨kA,zl B2.out 0 rfl⟩) (fun hH=>?_)
  refine tU 0 (.pointer (some ⟨b,0,none⟩)) ?_;go_simp
  refine tU 1 (.pointer (some ⟨b,0,none⟩)) ?_;go_simp
  refine tU 2 (.pointer (some ⟨b,0,none⟩)) ?_;go_simp
  refine tU 3 (.pointer (some ⟨b,335,none⟩)) ?_;go_simp
  refine tA 4 (.slice a2 (s'.asked.length) c2) ?_;go_simp
  refine tU 5 (.pointer (some ⟨q,0,none⟩)) ?_;go_simp
  refine tB 6 (.int .i64 o.seq) ?_;go_simp
  refine tU 7 (.agg #[.int .i64 o.seq,.bool true,.bool false,.int .u32 0,.int .i64 0,.int .u32 0,.bool false]) ?_;go_simp
  refine zC 8 rfl (fun K hK=>?_)
  go_simp
  refine hK.out _ _ (⟨jD _ (hH.1),jD _ (hH.2)⟩) (fun hN=>?_)
  clear hK K hH
  have hH:=hN
  clear hN
  try go_simp
  refine zC 9 rfl (fun K hK=>?_)
  rw[if_pos (by rfl)]
  refine qP _ _ 64 rfl 135 iA _ 7 32 underlying64 hi hz0 hz1 hz2 rfl (by decide) _ (s'.asked.length) _ rfl (HU.out.below ((Ae _ _).drew.alloc (Af _) _)) V2.heap.size (cel (st0 o.seq)) rfl rfl (fun j u hj=>jO (w:=V2.drew) j u hj) (xa _) (by omega) (by omega) ?_
  intro v1 w1 hU1 hG1 hF1
  obtain⟨p1,c1,rfl⟩:=hU1.slice
  have fA:w1.frozen? ⟨b,335,none⟩=false:=Ak _ _ _ _ _ ((hG1.block b (by have:=SV.out.lt;simp;omega) (fun h=>hnb h.symm)).trans ((Am _ _ _ SV.out.lt).trans SV.out.row))
  have HU1:Hid (Us w1 135 7 (.slice p1 ((s'.asked.length)+1) c1) ((s'.asked.length)+1) (flat cel s'.asked++cel (st0 o.seq))):=hU1
  have HG1:Hid (V2.grownBy w1 L'.a.ownBlock):=by rw[ea];exact qG (jr hG1 (fun g hg=>hlt0 g hg))
  have HF1:Hid (∀g,(Ab p1 ((s'.asked.length)+1) c1).ownBlock=some g->L'.a.ownBlock=some g\/V2.heap.size<=g):=fun g hg=>(hF1 g hg).imp (fun h=>by rw[ea];exact h) (fun h=>WZ (by simp) h)
  refine hK.out _ _ (⟨zae hG1 (hH.1) (hnb),zae hG1 (hH.2) (by rw[<-ea];exact hnq')⟩) (fun hN=>?_)
  clear hK K hH
  have hH:=hN
  clear hN
  try go_simp
  have cA:=hH.1
  clear hU1 hG1 hF1 HU hnb hlt0 kA
  refine tU 10 (.pointer (some ⟨b,0,none⟩)) ?_;go_simp
  refine tU 11 (.pointer (some ⟨b,335,none⟩)) ?_;go_simp
  refine zL 12 rfl (fun K hK=>?_)
  go_simp
  refine hK.out _ _ ?_
  clear hK K
  try go_simp
  refine zE (by kernel_rfl) ?_ _
  obtain⟨S1,T1⟩:=St.appA SV.out (st0 o.seq) HU1.out HG1.out HF1.out
  clear HU1 HG1 HF1 hH cA fA
  generalize w1.setCell ⟨b,335,none⟩ (.slice p1 ((s'.asked.length)+1) c1)=W3 at*
  generalize Ab p1 ((s'.asked.length)+1) c1=v1 at*
  have T3:=T2.out.trans T1
  clear T1 T2 SV
  go_wp2_with fail
  refine bodyPost_end (results_none rfl _ _ _) rfl ?_
  exact⟨rfl,_,by rw[HE.out];exact S1,T3,HSm.out⟩
end Go.Proofs.YtpiohehijkpghacGreatDoor.Co
