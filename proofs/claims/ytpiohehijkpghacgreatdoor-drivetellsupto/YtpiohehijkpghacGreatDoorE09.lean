/- The program's commit, ; Step, where nothing is to be done: walked. -/
import Derived.Test.YtpiohehijkpghacGreatDoorE08
open Go renaming setRow_other->Ad,wpList_store_row->Ae,run_loadVar_row->Af,setRow_heap->Ah,wpList_load_row->WY,bodyPost_ret->Am,wpAnyH_ready->Ap,heap_alloc2_new->WX,cell_of_row->WW,results_cell_row->Av
open Go.Act renaming put->Ak
open Go.AllReadyH renaming cons->An,nil->Ao
open Go.RowKit.Below renaming heap_alloc->Ai,refl->Aj
open List renaming setIfInBounds_toArray->Aa,set_cons_zero->Ab,set_cons_succ->WZ,getElem_cons_succ->Aq,getElem_cons_zero->Ar,getElem_toArray->Au
open Nat renaming le_refl->Ag
set_option maxHeartbeats 4000000
set_option maxRecDepth 20000
set_option linter.unusedSimpArgs false
set_option linter.unusedVariables false
open Go.Proofs.Tryz
namespace Go.Proofs.YtpiohehijkpghacGreatDoor
open Go.RowKit
open Hy
theorem znc(H:Array Value)(pc X:Int)(p:Option Addr)(n c:Nat)(w:World)(h32:H[32]?=some (.int .u32 pc))
  (CL:∀W,Below w.heap.size w W->Calls prog 98 #[.slice p n c,.int .i64 13,.int .u32 pc] W λe w'=>e=.returned (.tuple #[.int .u32 X,.bool false])/\w'=W):
  Calls prog 65 #[.agg H,.slice p n c] w λe w'=>e=.returned (cv pc pc 2 1 0 0 0 0 0 false 0)/\Below w.heap.size w w':=by
 go_enter func65,ntmps65
 go_wp2_with fail
 refine(CL _ (((Aj _ _).alloc (Ag _) _).alloc (by simp) _)).mono ?_
 rintro e w' ⟨rfl,rfl⟩
 go_wp2_with fail
 refine(jt pc 1 _).mono ?_
 rintro e w2 ⟨rfl,hk⟩
 have hs:=hk.size
 simp at hs
 have hr:=(hk.block (w.heap.size+1) (by simp)).trans (WX _ _ _)
 go_wp2_with(refine Ae rfl 68 _ _ rfl _ _ rfl rfl 68 _ hr za rfl (qv _ _ _ _ _ _ _ _ _ _ _) ?_)
 exact Am (v:=cv pc pc 2 1 0 0 0 0 0 false 0) (Av results65 _ _ _ 68 _ (0,0) _ rfl (Ah _ _ _ _ _ _ hr) underlying68 rfl za) rfl ⟨rfl,zc ((((Aj _ _).alloc (Ag _) _).alloc (by simp) _).trans (hk.mono (by simp;omega))) (by simp) _⟩
theorem zo6(H:Array Value)(pc X:Int)(p:Option Addr)(n c:Nat)(w:World)(h32:H[32]?=some (.int .u32 pc))
  (CL:∀W,Below w.heap.size w W->Calls prog 98 #[.slice p n c,.int .i64 13,.int .u32 pc] W λe w'=>e=.returned (.tuple #[.int .u32 X,.bool true])/\w'=W)
  (CD:∀W,Below w.heap.size w W->Calls prog 19 #[.int .u32 X] W λe w'=>e=.returned (.tuple #[iv 0 0 0 0 0,.bool false])/\Below W.heap.size W w'):
  Calls prog 65 #[.agg H,.slice p n c] w λe w'=>e=.returned (cv pc pc 2 2 0 0 0 0 0 false 0)/\Below w.heap.size w w':=by
 go_enter func65,ntmps65
 go_wp2_with fail
 refine(CL _ (((Aj _ _).alloc (Ag _) _).alloc (by simp) _)).mono ?_
 rintro e w' ⟨rfl,rfl⟩
 go_wp2_with fail
 refine(CD _ (((Aj _ _).alloc (Ag _) _).alloc (by simp) _)).mono ?_
 rintro e w2 ⟨rfl,hk⟩
 have hs2:=hk.size
 simp at hs2
 have hrow:w2.heap[w.heap.size]?=some (.cells H 27 (0,0)):=(hk.block _ (by simp;omega)).trans (heap_alloc2_old _ _ _)
 have HZ:Hid (w2.heap[w.heap.size+1]?=some (.cells (ccs 0 0 0 0 0 0 0 0 0 false 0) 68 (0,0))):=(hk.block _ (by simp)).trans (WX _ _ _)
 have hb0:Below w.heap.size w w2:=(((Aj _ _).alloc (Ag _) _).alloc (by simp) _).trans (hk.mono (by simp;omega))
 have k32:=(WW w2 w.heap.size 32 _ _ _ hrow).trans h32
 have hs3:w.heap.size<w2.heap.size:=by omega
 have hs4:w.heap.size+1<w2.heap.size:=by omega
 clear hk hrow h32 CL CD hs2
 go_wp2_with fail
 refine(jt pc 2 _).mono ?_
 rintro e w3 ⟨rfl,hk3⟩
 have HZ3:Hid (w3.heap[w.heap.size+1]?=some (.cells (ccs 0 0 0 0 0 0 0 0 0 false 0) 68 (0,0))):=(hk3.block _ (by simp;omega)).trans ((Ai _ _ _ hs4).trans HZ.out)
 have hb3:Below w.heap.size w w3:=(hb0.alloc (by omega) _).trans (hk3.mono (by simp;omega))
 clear hk3
 go_wp2_with(refine Ae rfl 68 _ _ rfl _ _ rfl rfl 68 (ccs 0 0 0 0 0 0 0 0 0 false 0) HZ3.out za rfl (qv _ _ _ _ _ _ _ _ _ _ _) ?_)
 exact Am (v:=cv pc pc 2 2 0 0 0 0 0 false 0) (Av results65 _ _ _ 68 _ (0,0) _ rfl (Ah _ _ _ _ _ _ HZ3.out) underlying68 rfl za) rfl ⟨rfl,zc hb3 (by omega) _⟩
theorem zb{P:Program}{ops:Array Oper}{S:World->Prop}{op:Oper}{a:Act}(hw:Region.wanted op (yielded ops a.tmps)=true)(ty:TypeId)(x:Operand)(ho:op.op=.load ty x)
  (b:Nat) (hx:a.eval x=.pointer (some ⟨b,0,none⟩)) (t:TypeId) (cs:Array Value) (fr:Nat×Nat) (d:TypeDesc) (hS:∀w,S w->w.heap[b]?=some (.cells cs t fr))
  (hu:P.underlying ty=some d) (hd:(match d with|.struct _|.array _ _=>true|_=>false)=true) (hi:(P.info? ty).map (·.size)=some cs.size):YieldsIf P ops S op (.agg cs) a:=
 .inl ⟨hw,λw hw'=>by
  unfold execOp
  simp only[ho,hx,Instr.loadAt,Instr.sureAddr,Sem.run_bind,Sem.run_pure,Result.andThen_ok,Af w b t ty cs fr d (hS w hw') hu hd hi]⟩
theorem yq(w:World)(A B C:Obj):(((w.alloc A).alloc B).alloc C).heap[w.heap.size+1+1]?=some C:=xh w A B C
theorem zah(w:World)(A B C:Obj):(((w.alloc A).alloc B).alloc C).heap[w.heap.size+1]?=some B:=(Ai _ _ _ (by simp)).trans (WX _ _ _)
theorem jo(w:World)(A B C:Obj):(((w.alloc A).alloc B).alloc C).heap[w.heap.size]?=some A:=vH w A B C
theorem ziF(H H2 C:Array Value)(pc:Int)(p:Option Addr)(n c:Nat)(f':Nat->Int)(hn:n<=4096)(w:World)(hI:Hid (H.size=35))(hI2:Hid (H2.size=35/\Ones H2))(hC:Hid (C.size=11/\Ones C))(h33:H[33]?=some (.int .i64 0))
  (CM:∀W,Calls prog 25 #[.agg H] W λe w'=>e=.returned (.bool true)/\Below W.heap.size W w')
  (CC:∀W,Below w.heap.size w W->Calls prog 65 #[.agg H,.slice p n c] W λe w'=>e=.returned (.agg C)/\Below W.heap.size W w')
  (CB:∀W,Calls prog 66 #[.agg H,.agg C] W λe w'=>e=.returned (.agg H2)/\Below W.heap.size W w')
  (CW:∀W,Below w.heap.size w W->Calls prog 67 #[.slice p n c,.agg C] W λe w'=>(∃p' cap,e=.returned (.slice p' n cap)/\n<=cap/\Own w' W.heap.size p' n f')/\Below W.heap.size W w'):
  Calls prog 36 #[.agg H,.slice p n c] w λe w'=>(∃p' cap,e=.returned (.tuple #[.agg C,.agg H2,.slice p' n cap,.bool true])/\n<=cap/\Own w' w.heap.size p' n f')/\Below w.heap.size w w':=by
 have hle:decide ((4096:Int)<(n:Int))=false:=decide_eq_false (by omega)
 go_enter func36,ntmps36
 go_wp2_with(refine WY rfl 27 _ rfl _ rfl 27 _ (0,0) _ (jo _ _ _ _) underlying27 rfl (zW hI.out) ?_)
 refine(CM _).mono ?_
 rintro e w2 ⟨rfl,hk⟩
 have hs2:=hk.size
 simp at hs2
 have r34:w2.heap[w.heap.size]?=some (.cells H 27 (0,0)):=(hk.block _ (by simp;omega)).trans (jo _ _ _ _)
 have R38:Hid (w2.heap[w.heap.size+1]?=some (.cells (ccs 0 0 0 0 0 0 0 0 0 false 0) 68 (0,0))):=(hk.block _ (by simp)).trans (zah _ _ _ _)
 obtain⟨Z,hZ,hres⟩:∃Z:Array Value,Z.size=35/\w2.heap[w.heap.size+1+1]?=some (.cells Z 27 (0,0)):=⟨_,rfl,(hk.block _ (by simp)).trans (yq _ _ _ _)⟩
 have HZ:Hid (Z.size=35/\w2.heap[w.heap.size+1+1]?=some (.cells Z 27 (0,0))):=⟨hZ,hres⟩
 have R34:Hid (w2.heap[w.heap.size]?=some (.cells H 27 (0,0))):=r34
 have k33:=(WW w2 w.heap.size 33 _ _ _ r34).trans h33
 have hb2:Below w.heap.size w w2:=((((Aj _ _).alloc (Ag _) _).alloc (by simp) _).alloc (by simp;omega) _).trans (hk.mono (by simp;omega))
 have hs3:w.heap.size+1+1<w2.heap.size:=by omega
 clear hk r34 hZ hres CM h33 hs2
 go_wp2_with(refine WY rfl 27 _ rfl _ rfl 27 _ (0,0) _ R34.out underlying27 rfl (zW hI.out) ?_)
 refine(CC _ hb2).mono ?_
 rintro e w3 ⟨rfl,hk3⟩
 have hs4:=hk3.size
 have R34:Hid (w3.heap[w.heap.size]?=some (.cells H 27 (0,0))):=(hk3.block _ (by omega)).trans R34.out
 have R38:Hid (w3.heap[w.heap.size+1]?=some (.cells (ccs 0 0 0 0 0 0 0 0 0 false 0) 68 (0,0))):=(hk3.block _ (by omega)).trans R38.out
 have HZ:Hid (Z.size=35/\w3.heap[w.heap.size+1+1]?=some (.cells Z 27 (0,0))):=⟨HZ.out.1,(hk3.block _ (by omega)).trans HZ.out.2⟩
 have hb3:Below w.heap.size w w3:=hb2.trans (hk3.mono (by omega))
 have hs5:w.heap.size+1+1<w3.heap.size:=by omega
 clear hk3 hb2 hs3 hs4 k33 CC
 go_wp2_with(refine Ae rfl 68 _ _ rfl _ _ rfl rfl 68 (ccs 0 0 0 0 0 0 0 0 0 false 0) (heap_alloc_new _ _) (za.trans (congrArg some hC.out.1.symm)) hC.out.1.symm hC.out.2 ?_)
 rw[World.setRow_alloc_new]
 try simp only[Ak]
 obtain⟨W,hW⟩:∃W:World,W=w3.alloc (.cells C 68):=⟨_,rfl⟩
 rw[<-hW]
 have rC:W.heap[w3.heap.size]?=some (.cells C 68 (0,0)):=by rw[hW];exact heap_alloc_new _ _
 have rH:W.heap[w.heap.size]?=some (.cells H 27 (0,0)):=by rw[hW];exact(Ai _ _ _ (by omega)).trans R34.out
 have rR:Hid (W.heap[w.heap.size+1]?=some (.cells (ccs 0 0 0 0 0 0 0 0 0 false 0) 68 (0,0))):=by rw[hW];exact(Ai _ _ _ (by omega)).trans R38.out
 have rZ:Hid (W.heap[w.heap.size+1+1]?=some (.cells Z 27 (0,0))):=by rw[hW];exact(Ai _ _ _ (by omega)).trans HZ.out.2
 have RC:Hid (W.heap[w3.heap.size]?=some (.cells C 68 (0,0))):=rC
 have RH:Hid (W.heap[w.heap.size]?=some (.cells H 27 (0,0))):=rH
 have hsz:w3.heap.size+1<=W.heap.size:=by rw[hW];simp
 have hb:Below w.heap.size w W:=by rw[hW];exact hb3.alloc (by omega) _
 clear hW rC rH R34 R38
 refine wp_region_held_drew (S:=λw'=>∀b,b<w3.heap.size+1->b≠w.heap.size+1->b≠w.heap.size+1+1->w'.heap[b]?=W.heap[b]?) (by kernel_rfl) (λ_ _ _ _=>rfl) (λhH=>?_)
 refine Co.tH 0 (.agg C) rfl (zb (by rfl) 68 _ rfl _ rfl 68 _ (0,0) _ (λw hSw=>(hSw _ (by omega) (by omega) (by omega)).trans RC.out) underlying68 rfl (za.trans (congrArg some hC.out.1.symm))) hH ?_
 try simp only[Ak,Aa,Ab,WZ]
 refine Co.tH 1 (.agg H) rfl (zb (by rfl) 27 _ rfl _ rfl 27 _ (0,0) _ (λw hSw=>(hSw _ (by omega) (by omega) (by omega)).trans RH.out) underlying27 rfl (zW hI.out)) hH ?_
 try simp only[Ak,Aa,Ab,WZ]
 refine Co.tH 2 (.agg C) rfl (zb (by rfl) 68 _ rfl _ rfl 68 _ (0,0) _ (λw hSw=>(hSw _ (by omega) (by omega) (by omega)).trans RC.out) underlying68 rfl (za.trans (congrArg some hC.out.1.symm))) hH ?_
 try simp only[Ak,Aa,Ab,WZ]
 refine Co.tI 4 (.slice p n c) ?_
 try simp only[Ak,Aa,Ab,WZ]
 refine Co.tH 5 (.agg C) rfl (zb (by rfl) 68 _ rfl _ rfl 68 _ (0,0) _ (λw hSw=>(hSw _ (by omega) (by omega) (by omega)).trans RC.out) underlying68 rfl (za.trans (congrArg some hC.out.1.symm))) hH ?_
 try simp only[Ak,Aa,Ab,WZ]
 refine Ap (rs:=[3]) (by kernel_rfl) (by simp) ?_
 refine An rfl (λK hK=>?_) Ao
 go_simp
 refine(CB _).mono ?_
 rintro e w4 ⟨rfl,hk4⟩
 have hB4:Below W.heap.size W w4:=zg hk4 (Ag _)
 go_wp2_with fail
 refine hK.out _ _ (λb hb _ _=>hB4.block b (by omega)) (λhH=>?_)
 clear hK K
 try simp only[Ak,Aa,Ab,WZ]
 refine Ap (rs:=[6]) (by kernel_rfl) (by simp) ?_
 refine An rfl (λK hK=>?_) Ao
 go_simp
 refine(CW _ (hb.trans (hB4.mono (by omega)))).mono ?_
 rintro e w5 ⟨⟨p',cap,rfl,hcap,hm⟩,hk5⟩
 have hB5:Below W.heap.size W w5:=xB hB4 hk5 (Ag _)
 have HM:Hid (Own w5 w4.heap.size p' n f'):=hm
 clear hm
 go_wp2_with fail
 refine hK.out _ _ (λb hb _ _=>hB5.block b (by omega)) (λhH=>?_)
 clear hK K
 try simp only[Ak,Aa,Ab,WZ]
 refine Ap (rs:=[7]) (by kernel_rfl) (by simp) ?_
 refine An rfl (λK hK=>?_) Ao
 rw[if_pos (by rfl)]
 refine wp_store_row 68 _ _ rfl _ _ rfl rfl 68 (ccs 0 0 0 0 0 0 0 0 0 false 0) (zP hB5 (by omega) rR.out) (za.trans (congrArg some hC.out.1.symm)) hC.out.1.symm hC.out.2 ?_
 refine hK.out _ _ (λb hb hn _=>(Ad _ _ _ _ hn).trans (hB5.block b (by omega))) (λhH=>?_)
 clear hK K
 try simp only[Ak,Au,Aq,Ar]
 refine Ap (rs:=[8]) (by kernel_rfl) (by simp) ?_
 refine An rfl (λK hK=>?_) Ao
 rw[if_pos (by rfl)]
 refine wp_store_row 27 _ _ rfl _ _ rfl rfl 27 Z ((Ad _ _ _ _ (by omega)).trans (zP hB5 (by omega) rZ.out)) (zW hI2.out.1) (HZ.out.1.trans hI2.out.1.symm) hI2.out.2 ?_
 refine hK.out _ _ (λb hb hn hn2=>(Ad _ _ _ _ hn2).trans ((Ad _ _ _ _ hn).trans (hB5.block b (by omega)))) (λhH=>?_)
 clear hK K
 try simp only[Ak,Au,Aq,Ar]
 refine Co.tI 9 (.slice p' n cap) ?_
 try simp only[Ak,Aa,Ab,WZ]
 refine Co.tI 10 (.bool true) ?_
 try simp only[Ak,Aa,Ab,WZ]
 refine wpAnyH_done (by kernel_rfl) ?_ _
 change Exit.then _ _ Exit.normal {tmps:=#[.agg H,.slice p n c,.pointer (some ⟨w.heap.size,0,none⟩),undef,.pointer (some ⟨w.heap.size+1,0,none⟩),.pointer (some ⟨w.heap.size+1+1,0,none⟩),.slice p' n cap,.bool true,.pointer (some ⟨w3.heap.size,0,none⟩),.agg H,.bool true,.bool false,.bool false,.pointer (some ⟨w.heap.size,33,none⟩),.int .i64 0,.bool false,.bool false,.bool false,.slice p n c,.int .i64 n,.bool false,.bool false,undef,undef,.agg H,.slice p n c,.agg C,.agg C,.agg H,.agg C,.agg H2,.slice p n c,.agg C,.slice p' n cap],defers:=[]} _
 go_wp2_with fail
 have f1:((w5.setRow (w.heap.size+1) C).setRow (w.heap.size+1+1) H2).heap[w.heap.size+1]?=some (.cells C 68 (0,0)):=(Ad _ _ _ _ (by omega)).trans (Ah _ _ _ _ _ _ (zP hB5 (by omega) rR.out))
 have f2:((w5.setRow (w.heap.size+1) C).setRow (w.heap.size+1+1) H2).heap[w.heap.size+1+1]?=some (.cells H2 27 (0,0)):=Ah _ _ _ _ _ _ ((Ad _ _ _ _ (by omega)).trans (zP hB5 (by omega) rZ.out))
 refine Am (v:=.tuple #[.agg C,.agg H2,.slice p' n cap,.bool true]) ?_ rfl ⟨⟨p',cap,rfl,hcap,λh0=>?_⟩,zc (zc (hb.trans (hB5.mono (by omega))) (by omega) _) (by omega) _⟩
 ·have L1:=Af (P:=prog) _ _ 68 68 C (0,0) _ f1 underlying68 rfl (za.trans (congrArg some hC.out.1.symm))
  have L2:=Af (P:=prog) _ _ 27 27 H2 (0,0) _ f2 underlying27 rfl (zW hI2.out.1)
  simp[results,results36,asAddr,L1,L2]
 ·obtain⟨g,hp,hl⟩:=HM.out h0
  have hg:=hl.base
  have hg2:=hB4.size
  exact⟨g,hp,hl.moved (by omega) ((Ad _ _ _ _ (by omega)).trans (Ad _ _ _ _ (by omega))) (by simp)⟩
theorem zai:Ones (hcs (λ_=>0) 0 0 0):=by unfold Ones;simp[Value.oneCell']
theorem ze6{P:Program}{fn:Func}{q u a b:Tmp}{t1 t2:TypeId}(h:fn.results=#[.cell q t1,.cell u t2,.tmp a,.tmp b]){tmps:Array Value}{w:World}{A1 A2:Addr}{v1 v2:Value}{x y:Value}
  (h1:tmps.getD q undef=.pointer (some A1)) (h2:tmps.getD u undef=.pointer (some A2)) (h3:tmps.getD a undef=x) (h4:tmps.getD b undef=y)
  (L1:(loadVar t1 A1).run P w=.ok v1 w) (L2:(loadVar t2 A2).run P w=.ok v2 w):(results fn tmps).run P w=.ok (.tuple #[v1,v2,x,y]) w:=by
 simp only[Array.getD_eq_getD_getElem?]at h1 h2 h3 h4
 simp[results,h,h1,h2,h3,h4,asAddr,L1,L2]
theorem zo7(H:Array Value)(st:Int)(p:Option Addr)(n c:Nat)(w:World)(hI:Hid (H.size=35))(h33:H[33]?=some (.int .i64 st))
  (CM:∀W,Calls prog 25 #[.agg H] W λe w'=>e=.returned (.bool false)/\Below W.heap.size W w'):
  Calls prog 36 #[.agg H,.slice p n c] w λe w'=>e=.returned (.tuple #[cv 0 0 0 0 0 0 0 0 0 false 0,hv (λ_=>0) 0 0 0,.slice none 0 0,.bool false])/\Below w.heap.size w w':=by
 go_enter func36,ntmps36
 go_wp2_with(refine WY rfl 27 _ rfl _ rfl 27 _ (0,0) _ (jo _ _ _ _) underlying27 rfl (zW hI.out) ?_)
 refine(CM _).mono ?_
 rintro e w2 ⟨rfl,hk⟩
 have hs2:=hk.size
 simp at hs2
 have r34:w2.heap[w.heap.size]?=some (.cells H 27 (0,0)):=(hk.block _ (by simp;omega)).trans (jo _ _ _ _)
 have R38:Hid (w2.heap[w.heap.size+1]?=some (.cells (ccs 0 0 0 0 0 0 0 0 0 false 0) 68 (0,0))):=(hk.block _ (by simp)).trans (zah _ _ _ _)
 have RZ:Hid (w2.heap[w.heap.size+1+1]?=some (.cells (hcs (λ_=>0) 0 0 0) 27 (0,0))):=(hk.block _ (by simp)).trans (yq _ _ _ _)
 have k33:=(WW w2 w.heap.size 33 _ _ _ r34).trans h33
 have hb2:Below w.heap.size w w2:=((((Aj _ _).alloc (Ag _) _).alloc (by simp) _).alloc (by simp;omega) _).trans (hk.mono (by simp;omega))
 have hs3:w.heap.size+1+1<w2.heap.size:=by omega
 clear hk r34 CM h33 hs2
 go_upto_region 2 with fail
 go_wp2_with(first|(refine Ae rfl 68 _ _ rfl _ _ rfl rfl 68 (ccs 0 0 0 0 0 0 0 0 0 false 0) R38.out za rfl (qv _ _ _ _ _ _ _ _ _ _ _) ?_)|(refine Ae rfl 27 _ _ rfl _ _ rfl rfl 27 (hcs (λ_=>0) 0 0 0) ((Ad _ _ _ _ (by omega)).trans RZ.out) zq rfl zai ?_))
 have f1:((w2.setRow (w.heap.size+1) (ccs 0 0 0 0 0 0 0 0 0 false 0)).setRow (w.heap.size+1+1) (hcs (λ_=>0) 0 0 0)).heap[w.heap.size+1]?=some (.cells (ccs 0 0 0 0 0 0 0 0 0 false 0) 68 (0,0)):=(Ad _ _ _ _ (by omega)).trans (Ah _ _ _ _ _ _ R38.out)
 have f2:((w2.setRow (w.heap.size+1) (ccs 0 0 0 0 0 0 0 0 0 false 0)).setRow (w.heap.size+1+1) (hcs (λ_=>0) 0 0 0)).heap[w.heap.size+1+1]?=some (.cells (hcs (λ_=>0) 0 0 0) 27 (0,0)):=Ah _ _ _ _ _ _ ((Ad _ _ _ _ (by omega)).trans RZ.out)
 have L1:=Af (P:=prog) _ _ 68 68 _ (0,0) _ f1 underlying68 rfl za
 have L2:=Af (P:=prog) _ _ 27 27 _ (0,0) _ f2 underlying27 rfl zq
 refine Am (v:=.tuple #[cv 0 0 0 0 0 0 0 0 0 false 0,hv (λ_=>0) 0 0 0,.slice none 0 0,.bool false]) ?_ rfl ⟨rfl,zc (zc hb2 (by omega) _) (by omega) _⟩
 exact ze6 results36 rfl rfl rfl rfl L1 L2
theorem zgd(H:Array Value)(st:Int)(p:Option Addr)(n c:Nat)(w:World)(hI:Hid (H.size=35))(h33:H[33]?=some (.int .i64 st))(hz:(st != 0)=true)
  (CM:∀W,Calls prog 25 #[.agg H] W λe w'=>e=.returned (.bool true)/\Below W.heap.size W w'):
  Calls prog 36 #[.agg H,.slice p n c] w λe w'=>e=.returned (.tuple #[cv 0 0 0 0 0 0 0 0 0 false 0,hv (λ_=>0) 0 0 0,.slice none 0 0,.bool false])/\Below w.heap.size w w':=by
 go_enter func36,ntmps36
 go_wp2_with(refine WY rfl 27 _ rfl _ rfl 27 _ (0,0) _ (jo _ _ _ _) underlying27 rfl (zW hI.out) ?_)
 refine(CM _).mono ?_
 rintro e w2 ⟨rfl,hk⟩
 have hs2:=hk.size
 simp at hs2
 have r34:w2.heap[w.heap.size]?=some (.cells H 27 (0,0)):=(hk.block _ (by simp;omega)).trans (jo _ _ _ _)
 have R38:Hid (w2.heap[w.heap.size+1]?=some (.cells (ccs 0 0 0 0 0 0 0 0 0 false 0) 68 (0,0))):=(hk.block _ (by simp)).trans (zah _ _ _ _)
 have RZ:Hid (w2.heap[w.heap.size+1+1]?=some (.cells (hcs (λ_=>0) 0 0 0) 27 (0,0))):=(hk.block _ (by simp)).trans (yq _ _ _ _)
 have k33:=(WW w2 w.heap.size 33 _ _ _ r34).trans h33
 have hb2:Below w.heap.size w w2:=((((Aj _ _).alloc (Ag _) _).alloc (by simp) _).alloc (by simp;omega) _).trans (hk.mono (by simp;omega))
 have hs3:w.heap.size+1+1<w2.heap.size:=by omega
 clear hk r34 CM h33 hs2
 go_upto_region 2 with fail
 go_wp2_with(first|(refine Ae rfl 68 _ _ rfl _ _ rfl rfl 68 (ccs 0 0 0 0 0 0 0 0 0 false 0) R38.out za rfl (qv _ _ _ _ _ _ _ _ _ _ _) ?_)|(refine Ae rfl 27 _ _ rfl _ _ rfl rfl 27 (hcs (λ_=>0) 0 0 0) ((Ad _ _ _ _ (by omega)).trans RZ.out) zq rfl zai ?_))
 have f1:((w2.setRow (w.heap.size+1) (ccs 0 0 0 0 0 0 0 0 0 false 0)).setRow (w.heap.size+1+1) (hcs (λ_=>0) 0 0 0)).heap[w.heap.size+1]?=some (.cells (ccs 0 0 0 0 0 0 0 0 0 false 0) 68 (0,0)):=(Ad _ _ _ _ (by omega)).trans (Ah _ _ _ _ _ _ R38.out)
 have f2:((w2.setRow (w.heap.size+1) (ccs 0 0 0 0 0 0 0 0 0 false 0)).setRow (w.heap.size+1+1) (hcs (λ_=>0) 0 0 0)).heap[w.heap.size+1+1]?=some (.cells (hcs (λ_=>0) 0 0 0) 27 (0,0)):=Ah _ _ _ _ _ _ ((Ad _ _ _ _ (by omega)).trans RZ.out)
 have L1:=Af (P:=prog) _ _ 68 68 _ (0,0) _ f1 underlying68 rfl za
 have L2:=Af (P:=prog) _ _ 27 27 _ (0,0) _ f2 underlying27 rfl zq
 refine Am (v:=.tuple #[cv 0 0 0 0 0 0 0 0 0 false 0,hv (λ_=>0) 0 0 0,.slice none 0 0,.bool false]) ?_ rfl ⟨rfl,zc (zc hb2 (by omega) _) (by omega) _⟩
 exact ze6 results36 rfl rfl rfl rfl L1 L2
end Go.Proofs.YtpiohehijkpghacGreatDoor
