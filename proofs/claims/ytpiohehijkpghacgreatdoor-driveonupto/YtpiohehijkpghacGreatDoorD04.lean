/- That an answer goes on: DriveOn walked, by the layers' answers. -/
import Derived.Test.YtpiohehijkpghacGreatDoorD03
open Array renaming getElem?_eq_some_iff->Aa,length_toList->Af,toArray_toList->Ah,mem_of_getElem?->An
open Go renaming cell_of_row->Ac,wpAnyH_ready->Ai,frozen_of_row->Ao,wpList_load_mid->Ar
open Go.AllReadyH renaming cons->Ad,nil->Ag
open Go.Builtin renaming append_->As
open Go.Lib renaming byteCells->Ak
open Go.RowKit.Below renaming refl->Al
open Go.Value renaming ownBlock->Ab
open Go.World renaming ownsRow_nil->Aj,ownsRow->Av
open List renaming getElem?_eq_some_iff->Ae,length_append->Ap,append_nil->Au
open Nat renaming le_refl->Aq,zero_le->Aw
open Option renaming map_eq_some_iff->Am
set_option maxHeartbeats 4000000
set_option maxRecDepth 100000
set_option linter.unusedSimpArgs false
set_option linter.unusedVariables false
open Go.Proofs.Tryz
namespace Go.Proofs.YtpiohehijkpghacGreatDoor.Dr
open Go.RowKit
theorem ziv{N b:Nat}{p:Ps}{M C:Value}(w:World)(h:PW 82 N w b p M C)(l y:List UInt8)(d:Bool)(n:Nat)(hn:n<4294967296)(O:Ou)(CR:Hid (∀W,Below w.heap.size w W->Calls prog 6 #[cfD p,hvD p,M,C,.int .i64 (n:Int)] W fun e w'=>RanC w' e O/\Below W.heap.size W w'))(CA:Hid (∀W v H,Below w.heap.size w W->Tells W v H O->Calls prog 46 #[v,.agg H,.int .i64 O.er] W fun e w'=>e=.returned (sv (ranL O))/\Below W.heap.size W w'))(C1:Hid (Cu w l [114,117,110] y d))(C2:Hid (Nu w b M C y d [n])):vZ N b w M C l (ranL O) (p):=by
 have HH:Hid (PW 82 N w b p M C):=h
 clear h
 go_enter func22,ntmps22
 go_upto_region 5 with(first|(go_at_call 20;refine(C1.out _ (Al _ _)).mono ?_;rintro e w1 ⟨rfl,hb1⟩)|(go_at_call 41;refine(C2.out _ hb1).mono ?_;rintro e w2 ⟨⟨v,rfl,ha⟩,hb2⟩))
 have B2:Hid (Below w.heap.size w w2):=hb1.trans (hb2.mono hb1.size)
 have P2:Hid (PW 82 N w2 b p M C):=HH.out.below B2.out
 have A2:Hid (Args w2 b M C v [n]):=ha
 clear hb1 hb2 ha C1 C2 HH
 obtain⟨a,c,rfl,hcell⟩:=A2.out
 obtain⟨g,o,rfl,hgw,_,hcl⟩:=hcell (by simp)
 have c0:w2.cell? ⟨g,o,none⟩=some (.int .u32 (n:Int)):=hcl 0 n rfl
 clear hcl hcell
 have wn:=zcE hn
 have HR:Hid (∀W,Below w2.heap.size w2 W->W.rangeAt b 0 (rowD (hatD p) 35).toList):=fun W hW=>(P2.out.below hW).hart
 obtain⟨L,hL⟩:∃L,L=(rowD (hatD p) 35).toList:=⟨_,rfl⟩
 have HL:Hid ((prog.info? 27).map (·.size)=some L.length):=by rw[hL,zgb];exact zp
 have CR:Hid (∀W,Below w2.heap.size w2 W->Calls prog 6 #[cfD p,.agg L.toArray,M,C,.int .i64 (n:Int)] W fun e w'=>RanC w' e O/\Below W.heap.size W w'):=fun W hW=>by rw[hL,Ah];exact CR.out W (B2.out.trans (hW.mono B2.out.size))
 have CA:Hid (∀W v H,Below w2.heap.size w2 W->Tells W v H O->Calls prog 46 #[v,.agg H,.int .i64 O.er] W fun e w'=>e=.returned (sv (ranL O))/\Below W.heap.size W w'):=fun W v H hW ht=>CA.out W v H (B2.out.trans (hW.mono B2.out.size)) ht
 rw[<-hL]at HR
 have k35:w2.cell? ⟨b,35,none⟩=some M:=P2.out.cell 35 (by omega)
 have k39:w2.cell? ⟨b,39,none⟩=some C:=P2.out.cell 39 (by omega)
 have k36:w2.cell? ⟨b,36,none⟩=some (.int .i64 p.wi):=P2.out.cell 36 (by omega)
 have k37:w2.cell? ⟨b,37,none⟩=some (.int .i64 p.ph):=P2.out.cell 37 (by omega)
 have k38:w2.cell? ⟨b,38,none⟩=some (.int .i64 p.wd):=P2.out.cell 38 (by omega)
 have hbw:b<w2.heap.size:=P2.out.lt
 have BB:Hid (Below w.heap.size w w2/\PW 82 N w2 b p M C):=⟨B2.out,P2.out⟩
 clear hL A2 P2 B2 hn
 obtain⟨er,her⟩:∃er,er=O.er:=⟨_,rfl⟩
 have HE:Hid (er=O.er):=her
 clear her
 go_upto_region 20 with fail
 refine wp_region_held_drew (S:=fun w'=>Below w2.heap.size w2 w') (by kernel_rfl) ((Al _ _).drew) (fun hH=>?_)
 generalize w2.drew=W0 at hH⊢
 refine tI 0 (.pointer (some ⟨b,0,none⟩)) ?_;go_simp
 refine tI 1 (.pointer (some ⟨b,0,none⟩)) ?_;go_simp
 refine tI 2 (.pointer (some ⟨b,36,none⟩)) ?_;go_simp
 refine tH 3 (.agg #[.int .i64 p.wi,.int .i64 p.ph,.int .i64 p.wd]) rfl (Or.inl ⟨by rfl,by intro wz hSw;have hc0:=(hSw.cell (p:=⟨b,36,none⟩) hbw).trans k36;have hc1:=(hSw.cell (p:=⟨b,37,none⟩) hbw).trans k37;have hc2:=(hSw.cell (p:=⟨b,38,none⟩) hbw).trans k38;go_simp⟩) hH ?_;go_simp
 refine tI 4 (.pointer (some ⟨b,0,none⟩)) ?_;go_simp
 refine tI 5 (.pointer (some ⟨b,0,none⟩)) ?_;go_simp
 refine tI 6 (.pointer (some ⟨b,0,none⟩)) ?_;go_simp
 refine tH 7 (.agg (L).toArray) rfl (yieldsIf_load_mid (by rfl) 27 _ rfl b 0 rfl (L) _ (fun wz hSw=>HR.out wz hSw) underlying27 rfl HL.out) hH ?_;go_simp
 refine tI 8 (.pointer (some ⟨b,0,none⟩)) ?_;go_simp
 refine tI 9 (.pointer (some ⟨b,0,none⟩)) ?_;go_simp
 refine tI 10 (.pointer (some ⟨b,35,none⟩)) ?_;go_simp
 refine tH 11 (M) rfl (Or.inl ⟨by rfl,by intro wz hSw;have hc:=(hSw.cell (p:=⟨b,35,none⟩) hbw).trans k35;go_simp⟩) hH ?_;go_simp
 refine tI 12 (.pointer (some ⟨b,0,none⟩)) ?_;go_simp
 refine tI 13 (.pointer (some ⟨b,0,none⟩)) ?_;go_simp
 refine tI 14 (.pointer (some ⟨b,39,none⟩)) ?_;go_simp
 refine tH 15 (C) rfl (Or.inl ⟨by rfl,by intro wz hSw;have hc:=(hSw.cell (p:=⟨b,39,none⟩) hbw).trans k39;go_simp⟩) hH ?_;go_simp
 refine tI 16 (.slice (some ⟨g,o,none⟩) 1 c) ?_;go_simp
 refine tI 17 (.pointer (some ⟨g,o,none⟩)) ?_;go_simp
 refine tH 18 (.int .u32 (n:Int)) rfl (Or.inl ⟨by rfl,by intro wz hSw;have hc:=(hSw.cell (p:=⟨g,o,none⟩) hgw).trans c0;go_simp⟩) hH ?_;go_simp
 refine tI 19 (.int .i64 (n:Int)) ?_;go_simp
 refine Ai (rs:=[20,24]) (by kernel_rfl) (by simp) ?_
 refine(Ad rfl (fun K hK=>?_) (Ad rfl (fun K hK=>?_) Ag))
 ·go_simp
  refine(CR.out _ hH).mono ?_
  rintro e W3 ⟨⟨Y,v,H,rfl,hY1,hY2,hY3,hY4,ht⟩,hk⟩
  rw[<-HE.out]
  go_wp2_with fail
  refine hK.out _ _ (hH.trans (hk.mono hH.size)) (fun hH=>?_)
  clear hK K
  try go_simp
  have HT:Hid (Tells W3 v H O):=ht
  have HY:Hid (Y.size=40/\Y.all (·.oneCell')=true/\Y[0]?=some v/\∀j,j<35->Y[1+j]?=H[j]?):=⟨hY1,hY2,hY3,hY4⟩
  clear ht hY1 hY2 hY3 hY4
  refine tI 21 (.tuple #[.agg Y,.int .i64 er]) ?_;go_simp
  refine tI 22 (.agg Y) ?_;go_simp
  refine tI 23 (.int .i64 er) ?_;go_simp
  refine Ai (rs:=[24]) (by kernel_rfl) (by simp) ?_
  refine(Ad rfl (fun K hK=>?_) Ag)
  have hzs:w2.heap.size<=W3.heap.size:=hH.size
  go_simp
  refine hK.out _ _ (hH.alloc hH.size _) (fun hH2=>?_)
  clear hK K hH
  try go_simp
  revert hH2
  refine zj (Φ:=fun W=>Below _ _ W->wpAnyH _ _ _ _ _ _ _ _ W) ?_
  intro W4 eZ hz hH
  have HT:Hid (Tells W4 v H O):=HT.out.below hz
  clear hz
  have HZ:Hid (w2.heap.size<=W3.heap.size):=hzs
  refine Ai (rs:=[25]) (by kernel_rfl) (by simp) ?_
  refine(Ad rfl (fun K hK=>?_) Ag)
  rw[if_pos (by rfl)]
  refine wp_store_row 32 _ _ rfl _ _ rfl rfl 32 _ eZ (by rw[HY.out.1];exact qo) (by rw[HY.out.1];rfl) HY.out.2.1 ?_
  refine hK.out _ _ (zc hH HZ.out _) (fun hH=>?_)
  clear hK K
  try go_simp
  have RZ:Hid ((W4.setRow W3.heap.size Y).heap[W3.heap.size]?=some (.cells Y 32 (0,0))):=setRow_heap _ _ _ _ _ _ eZ
  have TZ:Hid (Tells (W4.setRow W3.heap.size Y) v H O):=HT.out.set eZ (fun i bb h=>by have:=An h;simp at this) Y
  refine tI 26 (.int .i64 er) ?_;go_simp
  refine wpAnyH_done (by kernel_rfl) ?_ _
  try go_simp
  generalize W4.setRow W3.heap.size Y=V at hH RZ TZ⊢
  obtain⟨z,hz⟩:∃z,z=W3.heap.size:=⟨_,rfl⟩
  rw[<-hz]at RZ⊢
  clear hz
  have CE:Calls prog 46 #[v,.agg H.toList.toArray,.int .i64 er] V fun e w'=>e=.returned (sv (ranL O))/\Below V.heap.size V w':=by rw[HE.out,Ah];exact CA.out V v H hH TZ.out
  have HI:Hid ((prog.info? 27).map (·.size)=some H.toList.length):=by show _=_;rw[Af,TZ.out.size];exact zp
  have HG:Hid (V.rangeAt z 1 H.toList):=fun j u hu=>by
   have hj:j<35:=by have:=(Ae.1 hu).1;rw[Af,TZ.out.size]at this;exact this
   rw[Ac _ _ _ _ _ _ RZ.out,HY.out.2.2.2 j hj]
   simpa using hu
  have kz:V.cell? ⟨z,0,none⟩=some v:=by rw[Ac _ _ _ _ _ _ RZ.out];exact HY.out.2.2.1
  clear eZ HT
  go_upto_region 21 with fail
  go_wp2_with(first|(go_at_call 46;refine CE.mono ?_;rintro e w5 ⟨rfl,hb5⟩)|(refine Ar rfl 27 _ rfl z 1 rfl H.toList _ HG.out underlying27 rfl HI.out ?_))
  go_ret
  exact⟨rfl,PTo.ahead BB.out.1 (PTo.same BB.out.2 (hH.trans (hb5.mono hH.size)))⟩
 ·have hzs:w2.heap.size<=W0.heap.size:=hH.size
  go_simp
  refine hK.out _ _ (hH.alloc hH.size _) (fun hH2=>?_)
  clear hK K hH
  try go_simp
  revert hH2
  refine zj (Φ:=fun W=>Below _ _ W->wpAnyH _ _ _ _ _ _ _ _ W) ?_
  intro W1 eZ hz hH
  clear hz
  refine Ai (rs:=[20]) (by kernel_rfl) (by simp) ?_
  refine(Ad rfl (fun K hK=>?_) Ag)
  go_simp
  refine(CR.out _ hH).mono ?_
  rintro e W3 ⟨⟨Y,v,H,rfl,hY1,hY2,hY3,hY4,ht⟩,hk⟩
  rw[<-HE.out]
  go_wp2_with fail
  refine hK.out _ _ (hH.trans (hk.mono hH.size)) (fun hH=>?_)
  clear hK K
  try go_simp
  have HT:Hid (Tells W3 v H O):=ht
  have HY:Hid (Y.size=40/\Y.all (·.oneCell')=true/\Y[0]?=some v/\∀j,j<35->Y[1+j]?=H[j]?):=⟨hY1,hY2,hY3,hY4⟩
  clear ht hY1 hY2 hY3 hY4
  refine tI 21 (.tuple #[.agg Y,.int .i64 er]) ?_;go_simp
  refine tI 22 (.agg Y) ?_;go_simp
  refine tI 23 (.int .i64 er) ?_;go_simp
  have eZ:=(hk.block W0.heap.size (Aa.1 eZ).1).trans eZ
  skip
  have HZ:Hid (w2.heap.size<=W0.heap.size):=hzs
  refine Ai (rs:=[25]) (by kernel_rfl) (by simp) ?_
  refine(Ad rfl (fun K hK=>?_) Ag)
  rw[if_pos (by rfl)]
  refine wp_store_row 32 _ _ rfl _ _ rfl rfl 32 _ eZ (by rw[HY.out.1];exact qo) (by rw[HY.out.1];rfl) HY.out.2.1 ?_
  refine hK.out _ _ (zc hH HZ.out _) (fun hH=>?_)
  clear hK K
  try go_simp
  have RZ:Hid ((W3.setRow W0.heap.size Y).heap[W0.heap.size]?=some (.cells Y 32 (0,0))):=setRow_heap _ _ _ _ _ _ eZ
  have TZ:Hid (Tells (W3.setRow W0.heap.size Y) v H O):=HT.out.set eZ (fun i bb h=>by have:=An h;simp at this) Y
  refine tI 26 (.int .i64 er) ?_;go_simp
  refine wpAnyH_done (by kernel_rfl) ?_ _
  try go_simp
  generalize W3.setRow W0.heap.size Y=V at hH RZ TZ⊢
  obtain⟨z,hz⟩:∃z,z=W0.heap.size:=⟨_,rfl⟩
  rw[<-hz]at RZ⊢
  clear hz
  have CE:Calls prog 46 #[v,.agg H.toList.toArray,.int .i64 er] V fun e w'=>e=.returned (sv (ranL O))/\Below V.heap.size V w':=by rw[HE.out,Ah];exact CA.out V v H hH TZ.out
  have HI:Hid ((prog.info? 27).map (·.size)=some H.toList.length):=by show _=_;rw[Af,TZ.out.size];exact zp
  have HG:Hid (V.rangeAt z 1 H.toList):=fun j u hu=>by
   have hj:j<35:=by have:=(Ae.1 hu).1;rw[Af,TZ.out.size]at this;exact this
   rw[Ac _ _ _ _ _ _ RZ.out,HY.out.2.2.2 j hj]
   simpa using hu
  have kz:V.cell? ⟨z,0,none⟩=some v:=by rw[Ac _ _ _ _ _ _ RZ.out];exact HY.out.2.2.1
  clear eZ HT
  go_upto_region 21 with fail
  go_wp2_with(first|(go_at_call 46;refine CE.mono ?_;rintro e w5 ⟨rfl,hb5⟩)|(refine Ar rfl 27 _ rfl z 1 rfl H.toList _ HG.out underlying27 rfl HI.out ?_))
  go_ret
  exact⟨rfl,PTo.ahead BB.out.1 (PTo.same BB.out.2 (hH.trans (hb5.mono hH.size)))⟩
end Go.Proofs.YtpiohehijkpghacGreatDoor.Dr
namespace Go.Proofs.YtpiohehijkpghacGreatDoor.Dr
open Go.RowKit
def zkQ{S:Type}(f:S->List UInt8->S×List UInt8):Nat->S->List (List UInt8)->List UInt8
 |0,_,_=>[]
 |k+1,_,[]=>[]
 |k+1,p,x::l=>(f p x).2++10::zkQ f k (f p x).1 l
def xW(l:List (List UInt8)):List (List UInt8):=if l.getLast?=some []then l.dropLast else l
theorem zgc(c:UInt8):∀l,(cutL c l).2.2=false->(cutL c l).1=l/\(cutL c l).2.1=[]
 |[],_=>⟨rfl,rfl⟩
 |x::l,h=>by
  unfold cutL at h⊢
  split at h
  ·cases h
  ·rename_i e
   rw[if_neg e]
   obtain⟨h1,h2⟩:=zgc c l h
   exact⟨by rw[h1],h2⟩
theorem ziw{S:Type}(f:S->List UInt8->S×List UInt8):∀(k:Nat) (p:S) (s:List UInt8),goL f k p s=zkQ f k p (xW (zH 10 s))
 |0,p,s=>rfl
 |k+1,p,s=>by
  by_cases h0:s=[]
  ·subst h0
   rfl
  ·have e1:goL f (k+1) p s=(f p (cutL 10 s).1).2++10::goL f k (f p (cutL 10 s).1).1 (cutL 10 s).2.1:=if_neg h0
   rw[e1,ziw f k,yL 10 s]
   cases hb:(cutL 10 s).2.2 with
   |false=>
    obtain⟨h1,h2⟩:=zgc 10 s hb
    rw[h2]
    have e2:xW ((cutL 10 s).1::if false=true then zH 10 []else[])=[(cutL 10 s).1]:=by
     show xW [(cutL 10 s).1]=_
     unfold xW
     rw[if_neg (by rw[h1];simpa using h0)]
    rw[e2]
    show _=(f p (cutL 10 s).1).2++10::zkQ f k _ []
    have e3:xW (zH 10 [])=[]:=rfl
    rw[e3]
   |true=>
    have hne:=zdS 10 (cutL 10 s).2.1
    have e2:xW ((cutL 10 s).1::if true=true then zH 10 (cutL 10 s).2.1 else[])=(cutL 10 s).1::xW (zH 10 (cutL 10 s).2.1):=by
     show xW ((cutL 10 s).1::zH 10 (cutL 10 s).2.1)=_
     cases hs:zH 10 (cutL 10 s).2.1 with
     |nil=>exact absurd hs hne
     |cons y m=>
      unfold xW
      rw[List.getLast?_cons_cons]
      split
      ·rfl
      ·rfl
    rw[e2]
    rfl
def zkR:List (List UInt8)->Option (List Nat)
 |[]=>some []
 |t::l=>match numK t with
  |none=>none
  |some n=>(zkR l).map (n::·)
theorem zeU:∀(k:Nat) (t:List UInt8) (b:Bool),t.length+2<=k->numsL k t b=zkR (if b then zH 32 t else[])
 |0,t,b,h=>absurd h (by omega)
 |k+1,t,b,h=>by
  cases b with
  |false=>rfl
  |true=>
   have e1:numsL (k+1) t true=match xD (cutL 32 t).1 with|none=>none|some n=>(numsL k (cutL 32 t).2.1 (cutL 32 t).2.2).map (n::·):=rfl
   rw[e1,if_pos rfl,yL 32 t]
   show _=match numK (cutL 32 t).1 with|none=>none|some n=>(zkR (if(cutL 32 t).2.2=true then zH 32 (cutL 32 t).2.1 else[])).map (n::·)
   rw[zf3]
   by_cases ht:t=[]
   ·subst ht
    have:xD (cutL 32 []).1=none:=by decide
    rw[this]
   ·have:=zdL 32 t ht
    cases xD (cutL 32 t).1 with
    |none=>rfl
    |some n=>simp only[];rw[zeU k _ _ (by omega)]
end Go.Proofs.YtpiohehijkpghacGreatDoor.Dr
namespace Go.Proofs.YtpiohehijkpghacGreatDoor.Dr
open Go.RowKit
structure Lay(w0:World)(mo co:Ps->Nat->Ou)(dec:Nat->Option In5)(may:Int->Int->Int->Bool):Prop where
 errs:Errs w0
 pow:Pow w0
 may0:may 8 64 2=true
 moOk:∀p x,POk may p->x<4294967296->OuOk (mo p x)
 coOk:∀p x,POk may p->x<4294967296->OuOk (co p x)
 lmo:∀W,Below w0.heap.size w0 W->∀(N:Nat) (p:Ps) (M:Value) (x:Nat),POk may p->x<4294967296->W.ownsRow N 5 1 M p.mem.length (ucb p.mem)->Calls prog 17 #[hvD p,M,.int .i64 (x:Int)] W fun e w'=>RanM w' e (mo p x)/\Below W.heap.size W w'
 lco:∀W,Below w0.heap.size w0 W->∀(N:Nat) (p:Ps) (M C:Value) (x:Nat),POk may p->x<4294967296->W.ownsRow N 5 1 M p.mem.length (ucb p.mem)->W.ownsRow N 3 1 C p.ch.length (ici p.ch)->Calls prog 6 #[cfD p,hvD p,M,C,.int .i64 (x:Int)] W fun e w'=>RanC w' e (co p x)/\Below W.heap.size W w'
 lde:∀W,Below w0.heap.size w0 W->∀(x:Nat),x<4294967296->Calls prog 19 #[.int .u32 (x:Int)] W fun e w'=>DecP e (dec x)/\Below W.heap.size W w'
 decOk:∀(x:Nat) i,x<4294967296->dec x=some i->(0<=i.op/\i.op<=4294967295)/\(0<=i.rd/\i.rd<=4294967295)/\(0<=i.r1/\i.r1<=4294967295)/\(0<=i.r2/\i.r2<=4294967295)/\-2147483648<=i.im/\i.im<=2147483647
 lma:∀W a b c,Calls prog 16 #[.agg #[.int .i64 a,.int .i64 b,.int .i64 c]] W fun e w'=>e=.returned (.bool (may a b c))/\Below W.heap.size W w'
theorem Args.of{w w2:World}{b B:Nat}{p:Ps}{M C v:Value}{T:TypeId}{N:Nat}{ns:List Nat}(h:PW T N w b p M C)(hB:w.heap.size<=B)(ho:w2.ownsRow B 24 1 v ns.length (ucs ns)):Args w2 b M C v ns:=by
 obtain⟨pp,c,rfl⟩:=qA ho
 refine⟨pp,c,rfl,fun h0=>?_⟩
 have hh:=ho
 rcases ho.2 with⟨_,hz⟩|⟨g,cap,cur,hv,hBg,hg,_⟩
 ·omega
 ·injection hv with e1 e2 e3
  subst e1
  refine⟨g,0,rfl,(Aa.1 hg).1,fun hm=>?_,fun j x hx=>?_⟩
  ·have:=(h.mine g hm).2
   omega
  ·have h1:=hh.cells (g:=g) rfl j (.int .u32 (x:Int)) (by simp[hx])
   have hadd:(⟨g,0,none⟩:Addr).add j=⟨g,j,none⟩:=by unfold Addr.add;split<;>simp_all
   rw[hadd]at h1
   rw[Nat.zero_add]
   exact h1
theorem zaI{ns:List Nat}(h:one? ns=none):((ns.length:Int)==1)=false:=by
 rcases ns with _|⟨x,_|⟨y,r⟩⟩
 ·rfl
 ·cases h
 ·rw[beq_eq_false_iff_ne];simp;omega
theorem zkS{ns:List Nat}(h:two? ns=none):((ns.length:Int)==2)=false:=by
 rcases ns with _|⟨x,_|⟨y,_|⟨z,r⟩⟩⟩
 ·rfl
 ·rfl
 ·cases h
 ·rw[beq_eq_false_iff_ne];simp;omega
theorem zkT{ns:List Nat}(h:tri? ns=none):((ns.length:Int)==3)=false:=by
 rcases ns with _|⟨x,_|⟨y,_|⟨z,_|⟨u,r⟩⟩⟩⟩
 ·rfl
 ·rfl
 ·rfl
 ·cases h
 ·rw[beq_eq_false_iff_ne];simp;omega
theorem yT{ns:List Nat}{x:Nat}(h:one? ns=some x):ns=[x]:=by
 rcases ns with _|⟨x,_|⟨y,r⟩⟩
 ·cases h
 ·cases h;rfl
 ·cases h
theorem zmS{ns:List Nat}{x y:Nat}(h:two? ns=some (x,y)):ns=[x,y]:=by
 rcases ns with _|⟨x,_|⟨y,_|⟨z,r⟩⟩⟩
 ·cases h
 ·cases h
 ·cases h;rfl
 ·cases h
theorem zmT{ns:List Nat}{x y z:Nat}(h:tri? ns=some (x,y,z)):ns=[x,y,z]:=by
 rcases ns with _|⟨x,_|⟨y,_|⟨z,_|⟨u,r⟩⟩⟩⟩
 ·cases h
 ·cases h
 ·cases h
 ·cases h;rfl
 ·cases h
theorem zgd{w0:World}{mo co:Ps->Nat->Ou}{dec:Nat->Option In5}{may:Int->Int->Int->Bool}(L:Lay w0 mo co dec may)(W:World)(hW:Below w0.heap.size w0 W)(x:Nat)(hx:x<4294967296):
  Calls prog 47 #[.int .u32 (x:Int)] W fun e w'=>e=.returned (sv (whL dec x))/\Below W.heap.size W w':=by
 have CD:=L.lde W hW x hx
 unfold whL
 cases hd:dec x with
 |none=>
  rw[hd]at CD
  exact ziu x W CD
 |some i=>
  rw[hd]at CD
  simp only[DecP]at CD
  obtain⟨a,b,c,d,e,f⟩:=L.decOk x i hx hd
  have h:=zf8 x i.op i.rd i.r1 i.r2 i.im W (L.pow.below hW) a b c d e f (CD.mono fun e w' ⟨⟨h1,_⟩,h2⟩=>⟨h1,h2⟩)
  rw[zdT]at h
  exact h
theorem zix{w0:World}{mo co:Ps->Nat->Ou}{dec:Nat->Option In5}{may:Int->Int->Int->Bool}(L:Lay w0 mo co dec may){b:Nat}{p:Ps}{M C:Value}(w:World)(hB:Below w0.heap.size w0 w)(h:PW 82 w0.heap.size w b p M C)(hp:POk may p)(l:List UInt8)(hl:l.length<=2999000):
  Calls prog 22 #[.pointer (some ⟨b,0,none⟩),sv l] w fun e w'=>e=.returned (sv (qL mo co (whL dec) may p l).2)/\PTo 82 w0.heap.size b w M C w' (qL mo co (whL dec) may p l).1:=by
 have up:∀W,Below w.heap.size w W->Below w0.heap.size w0 W:=fun W hW=>hB.trans (hW.mono hB.size)
 have upN:∀W,Below w.heap.size w W->∀V,Below w0.heap.size W V->Pow V:=fun W hW V hV=>L.pow.below ((up W hW).trans hV)
 obtain⟨x,y,d,hc⟩:∃x y d,cutL 32 l=(x,y,d):=⟨_,_,_,rfl⟩
 have hy:y.length<=l.length:=by have:=xJ 32 l;rw[hc]at this;exact this
 have C1:Hid (Cu w l x y d):=fun W _=>(zaD l 32 (by omega) W).mono fun e w' ⟨h1,k,h2⟩=>⟨by rw[h1,hc],by rw[h2];exact xK _ _⟩
 have CN:=fun W (hW:Below w.heap.size w W)=>zbs y d (by omega) W (L.errs.below (up W hW))
 unfold qL
 rw[hc]
 simp only[]
 cases hn:numsL (y.length+2) y d with
 |none=>
  rw[hn]at CN
  exact zga w h l x y d C1 (fun W hW=>CN W hW)
 |some ns=>
  rw[hn]at CN
  have C2:Hid (Nu w b M C y d ns):=fun W hW=>(CN W hW).mono fun e w' ⟨⟨v,he,ho⟩,hb⟩=>⟨⟨v,he,Args.of h hW.size ho⟩,hb⟩
  have hr:=yr _ _ _ ns hn
  have hnl:ns.length<=3000000:=by have:=yt _ _ _ ns hn;omega
  clear CN hn hc
  show Calls prog 22 _ w fun e w'=>e=.returned (sv (cmdL mo co (whL dec) may p x ns).2)/\PTo 82 w0.heap.size b w M C w' (cmdL mo co (whL dec) may p x ns).1
  unfold cmdL
  by_cases h0:x=[119,111,114,100,115]
  ·subst h0
   rw[if_pos rfl]
   by_cases hm:4096<p.mem.length+4*ns.length
   ·rw[if_pos hm]
    exact zah w h l y d ns _ _ (fun W v hW ha=>zf7 W (h.below hW) v ns hp.hm (by obtain⟨a,c,rfl,_⟩:=ha;exact⟨a,c,rfl⟩) hm hnl) C1 C2
   ·rw[if_neg hm]
    exact zah w h l y d ns _ _ (fun W v hW ha=>zeS W (h.below hW) v ns hp.hm (by omega) hr (upN W hW) ha) C1 C2
  rw[if_neg h0]
  by_cases h1:x=[112,99]
  ·subst h1
   rw[if_pos rfl]
   cases ho:one? ns with
   |none=>exact yR w h l _ y d ns (.inl ⟨rfl,zaI ho⟩) C1 C2
   |some n=>
    obtain rfl:=yT ho
    exact zkP w h l y d n (hr n (by simp)) C1 C2
  rw[if_neg h1]
  by_cases h2:x=[115,101,116]
  ·subst h2
   rw[if_pos rfl]
   cases ho:two? ns with
   |none=>exact yR w h l _ y d ns (.inr (.inl ⟨rfl,zkS ho⟩)) C1 C2
   |some q=>
    obtain⟨r,n⟩:=q
    obtain rfl:=zmS ho
    show Calls prog 22 _ w fun e w'=>e=.returned (sv (if 1<=r/\r<=31 then(({p with R:=fun i=>if i=r then(n:Int)else p.R i}:Ps),tOk)else(p,jz)).2)/\PTo 82 w0.heap.size b w M C w' (if 1<=r/\r<=31 then(({p with R:=fun i=>if i=r then(n:Int)else p.R i}:Ps),tOk)else(p,jz)).1
    by_cases hrr:1<=r/\r<=31
    ·rw[if_pos hrr]
     exact zdV w h l y d r n (hr r (by simp)) (hr n (by simp)) _ _ (fun W hW=>zip W (h.below hW) r n hrr.1 hrr.2 (hr n (by simp))) C1 C2
    ·rw[if_neg hrr]
     exact zdV w h l y d r n (hr r (by simp)) (hr n (by simp)) _ _ (fun W hW=>zkL W (h.below hW) r n hrr (hr r (by simp)) (hr n (by simp))) C1 C2
  rw[if_neg h2]
  by_cases h3:x=[99,111,114,101]
  ·subst h3
   rw[if_pos rfl]
   cases ho:tri? ns with
   |none=>exact yR w h l _ y d ns (.inr (.inr (.inl ⟨rfl,zkT ho⟩))) C1 C2
   |some q=>
    obtain⟨q1,q2,q3⟩:=q
    obtain rfl:=zmT ho
    show Calls prog 22 _ w fun e w'=>e=.returned (sv (if may q1 q2 q3=true then(({p with wi:=q1,ph:=q2,wd:=q3}:Ps),tOk)else(p,jz)).2)/\PTo 82 w0.heap.size b w M C w' (if may q1 q2 q3=true then(({p with wi:=q1,ph:=q2,wd:=q3}:Ps),tOk)else(p,jz)).1
    have CM:=fun W=>L.lma W q1 q2 q3
    cases hmy:may q1 q2 q3 with
    |true=>
     rw[hmy]at CM
     rw[if_pos rfl]
     exact zbx w h l y d q1 q2 q3 (hr q1 (by simp)) (hr q2 (by simp)) (hr q3 (by simp)) _ _ (fun W hW=>zcB W (h.below hW) q1 q2 q3 CM) C1 C2
    |false=>
     rw[hmy]at CM
     rw[if_neg (by decide)]
     exact zbx w h l y d q1 q2 q3 (hr q1 (by simp)) (hr q2 (by simp)) (hr q3 (by simp)) _ _ (fun W hW=>zeR W (h.below hW) q1 q2 q3 CM) C1 C2
  rw[if_neg h3]
  by_cases h4:x=[99,104,111,111,115,101]
  ·subst h4
   rw[if_pos rfl]
   exact zcF w h l y d ns _ _ (fun W v hW ha=>zcD W (h.below hW) v ns hnl hr (upN W hW) ha) C1 C2
  rw[if_neg h4]
  by_cases h5:x=[109,111,100,101,108]
  ·subst h5
   rw[if_pos rfl]
   cases ho:one? ns with
   |none=>exact yR w h l _ y d ns (.inr (.inr (.inr (.inl ⟨rfl,zaI ho⟩)))) C1 C2
   |some n=>
    obtain rfl:=yT ho
    have hn:=hr n (by simp)
    exact zeT w h l y d n hn (mo p n) (fun W hW=>L.lmo W (up W hW) w0.heap.size p M n hp hn (h.below hW).mem) (fun W v H hW ht=>zdW (L.moOk p n hp hn) v H W (L.pow.below (up W hW)) ht) C1 C2
  rw[if_neg h5]
  by_cases h6:x=[114,117,110]
  ·subst h6
   rw[if_pos rfl]
   cases ho:one? ns with
   |none=>exact yR w h l _ y d ns (.inr (.inr (.inr (.inr (.inl ⟨rfl,zaI ho⟩))))) C1 C2
   |some n=>
    obtain rfl:=yT ho
    have hn:=hr n (by simp)
    exact ziv w h l y d n hn (co p n) (fun W hW=>L.lco W (up W hW) w0.heap.size p M C n hp hn (h.below hW).mem (h.below hW).ch) (fun W v H hW ht=>zdW (L.coOk p n hp hn) v H W (L.pow.below (up W hW)) ht) C1 C2
  rw[if_neg h6]
  by_cases h7:x=[119,104,97,116]
  ·subst h7
   rw[if_pos rfl]
   cases ho:one? ns with
   |none=>exact yR w h l _ y d ns (.inr (.inr (.inr (.inr (.inr (.inl ⟨rfl,zaI ho⟩)))))) C1 C2
   |some n=>
    obtain rfl:=yT ho
    have hn:=hr n (by simp)
    exact zf9 w h l y d n hn (whL dec n) (fun W hW=>zgd L W (up W hW) n hn) C1 C2
  rw[if_neg h7]
  exact yR w h l x y d ns (.inr (.inr (.inr (.inr (.inr (.inr ⟨by simpa using h0,by simpa using h1,by simpa using h2,by simpa using h3,by simpa using h4,by simpa using h5,by simpa using h6,by simpa using h7⟩)))))) C1 C2
theorem yi:(prog.info? 85).map (·.size)=some 2:=by kernel_rfl
theorem zby:liesAt prog prog.depth 85 (2/prog.cellsOf 85) 0 85 1=true:=by kernel_rfl
theorem zaa(b:Nat)(w:World)(h0:w.cell? ⟨b,0,none⟩=some (.pointer (some ⟨b,0,none⟩))):
  Calls prog 40 #[.pointer (some ⟨b,0,none⟩)] w fun e w'=>e=.returned (.tuple #[])/\w'=w:=by
 obtain⟨j,hj,_⟩:=Am.1 yi
 go_enter func40,ntmps40
 go_wp2
 rw[Lib.run_neq_ptr_same w _ underlying83 hj]
 go_wp2
 go_end0
 exact⟨rfl,rfl⟩
theorem yU(b:Nat)(w:World)(h0:w.cell? ⟨b,0,none⟩=some (.pointer none))(hsh:w.shape? b=some (85,2))(hfz:w.frozen? ⟨b,0,none⟩=false):
  Calls prog 40 #[.pointer (some ⟨b,0,none⟩)] w fun e w'=>e=.returned (.tuple #[])/\w'=w.setCell ⟨b,0,none⟩ (.pointer (some ⟨b,0,none⟩)):=by
 obtain⟨j,hj,hjs⟩:=Am.1 yi
 go_enter func40,ntmps40
 go_wp2
 rw[Lib.run_to_unsafe w ⟨b,0,none⟩ underlying83 underlying152 hj (by rw[hjs];decide) hsh (Nat.zero_lt_succ 1)]
 simp only[Result.andThen]
 rw[Oper.upon_value]
 go_wp2
 rw[run_callFunc_extern func71 (by kernel_rfl) (by kernel_rfl) (by kernel_rfl) (e:=Extern.AbiNoEscape.same) (by kernel_rfl)]
 rw[Lib.run_noEscape]
 simp only[Result.andThen]
 rw[Oper.upon_value]
 go_wp2
 rw[Lib.run_from_unsafe w ⟨b,0,none⟩ underlying152 underlying83 hj hsh zby]
 simp only[Result.andThen]
 rw[Oper.upon_value]
 go_wp2
 go_end0
 exact⟨rfl,rfl⟩
section
variable {P:Program} (w:World)
theorem zab(base:Nat)(t u ty e:TypeId)(i:TypeInfo)(ht:P.underlying t=some (.slice e))(hu:P.underlying u=some .string)(hi:P.info? e=some i)(hz:i.zero=some (.int .u8 0))
  (hsize:i.size=1) (hby:i.bytes=1) (v:Value) (n:Nat) (xs:List Value) (hown:w.ownsRow base e 1 v n xs) (s:ByteArray)
  (h63:n+s.size<=maxLen) (hbytes:n+s.size<=140737488355328) {v':Value} {w':World} (hrun:(As #[t,u] ty #[v,.string s]).run P w=.ok v' w'):
  ∀k,v'.ownBlock=some k->v.ownBlock=some k\/k=w.heap.size:=by
 have hsmall:n+s.size<=9223372036854775807:=by simp only[maxLen]at h63;omega
 have hxl:xs.length=n:=by simpa using hown.1
 rcases hown.2 with⟨rfl,rfl⟩|⟨g,cap,cur,rfl,hbg,hg,hnc,hcm,hcs,htake⟩
 ·by_cases hm:s.size=0
  ·have hf:=Lib.run_firstCells_string (P:=P) w 1 s
   rw[hm]at hf
   simp[As,run_underlying ht,run_underlying hu,sizeOf,typeInfo,hi,hsize,Builtin.lenOf,hm,hf]at hrun
   obtain⟨rfl,_⟩:=hrun
   intro k hk
   simp[Ab]at hk
  ·have hr:=run_append_nil_string (P:=P) w t u ty e i (.int .u8 0) ht hu hi hz s (by omega) (by omega) (by rw[hby];omega)
   rw[hr]at hrun
   injection hrun with h1 _
   subst h1
   intro k hk
   simp[Ab]at hk
   exact .inr hk.symm
 ·by_cases hroom:n+s.size<=cap
  ·have hcs':cur.size=cap:=by simpa using hcs
   have hr:=Lib.run_append_room_string (P:=P) w t u ty e i ht hu hi hsize g n cap cur hg s hroom (by omega)
   rw[hr]at hrun
   injection hrun with h1 _
   subst h1
   intro k hk
   simp[Ab]at hk
   exact .inl (by simp[Ab,hk])
  ·have holds:∀j u,xs[j]?=some u->w.cell? ((⟨g,0,none⟩:Addr).add j)=some u:=hown.cells (g:=g) rfl
   have hr:=Lib.run_append_grow_string (P:=P) w t u ty e i (.int .u8 0) ht hu hi hz ⟨g,0,none⟩ n cap xs (by rw[hsize];simpa using hxl) holds s (by omega) (by omega) (by rw[hby];exact growslice_fits (by omega) (by omega))
   rw[hr]at hrun
   injection hrun with h1 _
   subst h1
   intro k hk
   simp[Ab]at hk
   exact .inr hk.symm
theorem kJ{ops:Array Oper}{rest:List Oper}{o:Oper}{a:Act}{Q:Exit->Act->World->Prop}(hgd:o.guard=none)(sl x:Operand)(t u:TypeId)
  (ho:o.op=.call {callee:=.builtin .append,args:=#[sl,x],argTypes:=#[t,u]})
  (base:Nat) (e:TypeId) (i:TypeInfo) (ht:P.underlying t=some (.slice e)) (hu:P.underlying u=some .string) (hi:P.info? e=some i) (hz:i.zero=some (.int .u8 0)) (hsize:i.size=1) (hby:i.bytes=1)
  (v:Value) (n:Nat) (xs:List Value) (hs:a.eval sl=v) (hown:w.ownsRow base e 1 v n xs) (s:ByteArray) (hx:a.eval x=.string s)
  (h63:n+s.size<=maxLen) (hbytes:n+s.size<=140737488355328) (hbase:base<=w.heap.size)
  (h:∀v' w',w'.ownsRow base e 1 v' (n+s.size) (xs++Lib.strCells s)->w.grownBy w' v.ownBlock->(∀k,v'.ownBlock=some k->v.ownBlock=some k\/k=w.heap.size)->wpList P ops Q rest (a.put o.dst v') w'):wpList P ops Q (o::rest) a w:=by
 refine wpList_plain hgd fun K hK=>?_
 obtain⟨v',w',hr,h2,h3,_⟩:=Lib.run_append_own_string (P:=P) w base t u o.type e i ht hu hi hz hsize hby v n xs hown s h63 hbytes hbase
 have h4:=zab (P:=P) w base t u o.type e i ht hu hi hz hsize hby v n xs hown s h63 hbytes hr
 unfold Oper.wp execOp
 simp only[ho,resolve,invoke,builtin,Sem.run_bind,Sem.run_pure,Result.andThen_ok,List.map_toArray,List.map_cons,List.map_nil,hs,hx,hr]
 exact hK _ _ (h v' w' h2 h3 h4)
end
structure BW(N:Nat)(w:World)(b:Nat)(l:List UInt8)(v:Value):Prop where
 base:N<=b
 row:∃p,(p=.pointer none\/p=.pointer (some ⟨b,0,none⟩))/\w.heap[b]?=some (.cells #[p,v] 85 (0,0))
 own:w.ownsRow N 5 1 v l.length (bcs l)
def kK(b:Nat)(v:Value)(k:Nat):Prop:=k=b\/v.ownBlock=some k
theorem BW.lt{N:Nat}{w:World}{b:Nat}{l:List UInt8}{v:Value}(h:BW N w b l v):b<w.heap.size:=by
 obtain⟨p,_,hr⟩:=h.row
 exact(Aa.1 hr).1
theorem BW.mine{N:Nat}{w:World}{b:Nat}{l:List UInt8}{v:Value}(h:BW N w b l v):∀k,kK b v k->N<=k/\k<w.heap.size:=fun k hk=>by
 rcases hk with rfl|hk
 ·exact⟨h.base,h.lt⟩
 ·exact h.own.lt k hk
theorem BW.keeps{N:Nat}{w w':World}{b:Nat}{l:List UInt8}{v:Value}(h:BW N w b l v){S:Nat->Prop}(hf:Frm S w w')(hS:∀k,kK b v k->¬S k):BW N w' b l v:=by
 obtain⟨p,hp,hr⟩:=h.row
 exact⟨h.base,⟨p,hp,(hf.block b h.lt (hS b (.inl rfl))).trans hr⟩,qn h.own fun g hg=>hf.block g (h.own.lt g hg).2 (hS g (.inr hg))⟩
theorem xX{N:Nat}{b:Nat}{l:List UInt8}{v:Value}(w:World)(h:BW N w b l v):
  Calls prog 40 #[.pointer (some ⟨b,0,none⟩)] w fun e w'=>e=.returned (.tuple #[])/\(BW N w' b l v/\w'.heap[b]?=some (.cells #[.pointer (some ⟨b,0,none⟩),v] 85 (0,0)))/\Frm (fun k=>k=b) w w':=by
 obtain⟨p,hp,hr⟩:=h.row
 have hc:w.cell? ⟨b,0,none⟩=some p:=by rw[Ac _ _ _ _ _ _ hr];rfl
 rcases hp with rfl|rfl
 ·refine(yU b w hc (by simp[World.shape?,hr]) (Ao _ _ _ _ _ hr)).mono fun e w' ⟨he,hw⟩=>⟨he,?_,by rw[hw];exact Frm.set _ _ _ _⟩
  rw[hw]
  have hr2:(w.setCell ⟨b,0,none⟩ (.pointer (some ⟨b,0,none⟩))).heap[b]?=some (.cells #[.pointer (some ⟨b,0,none⟩),v] 85 (0,0)):=xL hr
  exact⟨⟨h.base,⟨_,.inr rfl,hr2⟩,qn h.own fun g hg=>(Frm.set w b 0 _).block g (h.own.lt g hg).2 fun e=>zV h.own hr (by decide) (by rw[hg,e])⟩,hr2⟩
 ·refine(zaa b w hc).mono fun e w' ⟨he,hw⟩=>⟨he,?_,by rw[hw];exact Frm.of (Al _ _)⟩
  rw[hw]
  exact⟨h,hr⟩
def BTo(N b:Nat)(w:World)(v:Value)(w':World)(l':List UInt8):Prop:=
 ∃v',BW N w' b l' v'/\Frm (kK b v) w w'/\∀k,v'.ownBlock=some k->v.ownBlock=some k\/w.heap.size<=k
theorem yV{N:Nat}{b:Nat}{l:List UInt8}{v:Value}(w:World)(h:BW N w b l v)(t:List UInt8)(hl:l.length<=100000000)(ht:t.length<=100000000):
  Calls prog 21 #[.pointer (some ⟨b,0,none⟩),sv t] w fun e w'=>(∃x,e=.returned x)/\BTo N b w v w' (l++t):=by
 have CC:=xX w h
 have HH:Hid (BW N w b l v):=h
 obtain⟨i0,hi,hz0,hz1,hz2⟩:=info_parts zdU
 have hsz:=yN t
 clear h
 go_enter func21,ntmps21
 go_upto_region 2 with(go_at_call 40;refine CC.mono ?_;rintro e w1 ⟨rfl,⟨hb1,hr1⟩,hf1⟩)
 have B1:Hid (BW N w1 b l v):=hb1
 have F1:Hid (Frm (fun k=>k=b) w w1):=hf1
 have k1:w1.cell? ⟨b,1,none⟩=some v:=by rw[Ac _ _ _ _ _ _ hr1];rfl
 have R1:Hid (w1.heap[b]?=some (.cells #[.pointer (some ⟨b,0,none⟩),v] 85 (0,0))):=hr1
 have hN:Hid (N<=w1.heap.size):=by have:=hb1.lt;have:=hb1.base;show _<=_;omega
 clear hb1 hr1 hf1 CC
 go_wp2_with(at_builtin;refine kJ _ rfl _ _ 28 9 rfl N 5 i0 underlying28 underlying9 hi hz0 hz1 hz2 v l.length (bcs l) rfl B1.out.own ⟨t.toArray⟩ rfl ?q1 ?q2 hN.out ?_)
 case q1=>rw[hsz];unfold maxLen;omega
 case q2=>rw[hsz];omega
 intro v2 w2 ho2 hg2 hv2
 have F2:Hid (Frm (fun k=>v.ownBlock=some k) w1 w2):=Frm.grown hg2
 have R2:Hid (w2.heap[b]?=some (.cells #[.pointer (some ⟨b,0,none⟩),v] 85 (0,0))):=(F2.out.block b B1.out.lt fun e=>zV B1.out.own R1.out (by decide) e).trans R1.out
 have O2:Hid (w2.ownsRow N 5 1 v2 (l++t).length (bcs (l++t))):=by
  rw[zcA]at ho2
  show Av _ _ _ _ _ _ _
  rw[Ap,show bcs (l++t)=bcs l++bcs t by simp[bcs]]
  exact ho2
 have HV:Hid (∀k,v2.ownBlock=some k->v.ownBlock=some k\/w.heap.size<=k):=fun k hk=>(hv2 k hk).imp id fun e=>by rw[e];exact F1.out.size
 have k2:w2.cell? ⟨b,1,none⟩=some v:=by rw[Ac _ _ _ _ _ _ R2.out];rfl
 have f2:w2.frozen? ⟨b,1,none⟩=false:=Ao _ _ _ _ _ R2.out
 obtain⟨vp,vc,rfl⟩:=qA ho2
 clear ho2 hg2 hv2 k1
 go_wp2_with fail
 go_ret2
 refine⟨⟨_,rfl⟩,_,⟨B1.out.base,⟨_,.inr rfl,xL R2.out⟩,qn O2.out fun g hg=>(Frm.set w2 b 1 _).block g (O2.out.lt g hg).2 fun e=>zV O2.out R2.out (by decide) (by rw[hg,e])⟩,?_,HV.out⟩
 exact(((F1.out.mono fun k hk=>.inl hk).trans F2.out fun i hi=>.inl (.inr hi)).trans (Frm.set w2 b 1 _) fun i hi=>.inl (.inl hi))
theorem zaJ{N:Nat}{b:Nat}{l:List UInt8}{v:Value}(w:World)(h:BW N w b l v)(hl:l.length<=100000000):
  Calls prog 23 #[.pointer (some ⟨b,0,none⟩),.int .u8 10] w fun e w'=>(∃x,e=.returned x)/\BTo N b w v w' (l++[10]):=by
 have CC:=xX w h
 have HH:Hid (BW N w b l v):=h
 obtain⟨i0,hi,hz0,hz1,hz2⟩:=info_parts zdU
 clear h
 go_enter func23,ntmps23
 go_upto_region 2 with(go_at_call 40;refine CC.mono ?_;rintro e w1 ⟨rfl,⟨hb1,hr1⟩,hf1⟩)
 have B1:Hid (BW N w1 b l v):=hb1
 have F1:Hid (Frm (fun k=>k=b) w w1):=hf1
 have k1:w1.cell? ⟨b,1,none⟩=some v:=by rw[Ac _ _ _ _ _ _ hr1];rfl
 have R1:Hid (w1.heap[b]?=some (.cells #[.pointer (some ⟨b,0,none⟩),v] 85 (0,0))):=hr1
 have hN:Hid (N<=w1.heap.size):=by have:=hb1.lt;have:=hb1.base;show _<=_;omega
 clear hb1 hr1 hf1 CC
 go_wp2_with(at_builtin;refine jY _ rfl _ _ 28 rfl N 5 i0 _ 1 1 underlying28 hi hz0 hz1 hz2 rfl (by decide) v l.length (bcs l) rfl ?q1 ⟨w1.heap.size,0,none⟩ 1 1 [.int .u8 10] rfl rfl ?q3 ?q4 ?q5 ?q6 ?q7 ?_)
 case q1=>exact ji B1.out.own ((Al _ _).alloc (Aq _) _)
 case q3=>
  intro j u hu
  have hj:j=0:=by have:=(Ae.1 hu).1;simp at this;omega
  subst hj
  have hadd:(⟨w1.heap.size,0,none⟩:Addr).add 0=⟨w1.heap.size,0,none⟩:=by unfold Addr.add;split<;>simp_all
  rw[hadd,Ac _ w1.heap.size 0 _ _ (0,0) (heap_alloc_new w1 _)]
  simpa using hu
 case q4=>intro u hu;simp at hu;subst hu;rfl
 case q5=>unfold maxLen;omega
 case q6=>omega
 case q7=>have:=hN.out;simp;omega
 intro v2 w2 ho2 hg2 hv2
 have F2:Hid (Frm (fun k=>v.ownBlock=some k) w1 w2):=Frm.alloc_grown hg2
 have R2:Hid (w2.heap[b]?=some (.cells #[.pointer (some ⟨b,0,none⟩),v] 85 (0,0))):=(F2.out.block b B1.out.lt fun e=>zV B1.out.own R1.out (by decide) e).trans R1.out
 have O2:Hid (w2.ownsRow N 5 1 v2 (l++[10]).length (bcs (l++[10]))):=by
  show Av _ _ _ _ _ _ _
  rw[Ap,show bcs (l++[10])=bcs l++[.int .u8 10] by simp[bcs]]
  exact ho2
 have HV:Hid (∀k,v2.ownBlock=some k->v.ownBlock=some k\/w.heap.size<=k):=fun k hk=>(hv2 k hk).imp id fun e=>by rw[e];have:=F1.out.size;simp;omega
 have k2:w2.cell? ⟨b,1,none⟩=some v:=by rw[Ac _ _ _ _ _ _ R2.out];rfl
 have f2:w2.frozen? ⟨b,1,none⟩=false:=Ao _ _ _ _ _ R2.out
 obtain⟨vp,vc,rfl⟩:=qA ho2
 clear ho2 hg2 hv2 k1
 go_wp2_with fail
 go_ret
 refine⟨⟨_,rfl⟩,_,⟨B1.out.base,⟨_,.inr rfl,xL R2.out⟩,qn O2.out fun g hg=>(Frm.set w2 b 1 _).block g (O2.out.lt g hg).2 fun e=>zV O2.out R2.out (by decide) (by rw[hg,e])⟩,?_,HV.out⟩
 exact(((F1.out.mono fun k hk=>.inl hk).trans F2.out fun i hi=>.inl (.inr hi)).trans (Frm.set w2 b 1 _) fun i hi=>.inl (.inl hi))
theorem qC{P:Program}{ops:Array Oper}{rest:List Oper}{o:Oper}{a:Act}{w:World}{Q:Exit->Act->World->Prop}(hg:o.guard=none)(t:TypeId)(parts:Array (Nat×Operand))(ho:o.op=.build t parts)(cells:Array Value)
  (hb:P.built t (parts.map fun(i,x)=>(i,a.eval x)).toList=some cells)
  (h:wpList P ops Q rest (a.put o.dst (.agg cells)) w):wpList P ops Q (o::rest) a w:=
 wpList_build hg t parts ho (by rw[hb];rfl) (by rw[hb];exact h)
theorem zaK{P:Program}{ops:Array Oper}{rest:List Oper}{o:Oper}{a:Act}{w:World}{Q:Exit->Act->World->Prop}(hg:o.guard=none)(t:TypeId)(i0:Nat)(x0:Operand)(ho:o.op=.build t #[(i0,x0)])
  (v0:Value) (e0:a.eval x0=v0) (cells:Array Value) (hb:P.built t [(i0,v0)]=some cells)
  (h:wpList P ops Q rest (a.put o.dst (.agg cells)) w):wpList P ops Q (o::rest) a w:=
 qC hg t _ ho cells (by simp[e0,hb]) h
theorem zbz:prog.built 82 [(2,.agg #[.int .i64 8,.int .i64 64,.int .i64 2])]=some (rowD (patD ps0 (.slice none 0 0) (.slice none 0 0)) 40):=by kernel_rfl
theorem zmU{w:World}{mo co:Ps->Nat->Ou}{dec:Nat->Option In5}{may:Int->Int->Int->Bool}(L:Lay w mo co dec may){x:Nat}(hx:x<4294967296):(whL dec x).length<=1000000:=by
 unfold whL
 cases hd:dec x with
 |none=>simp
 |some i=>
  obtain⟨a,b,c,d,e,f⟩:=L.decOk x i hx hd
  have h:=ju [105,115] [i.op,i.rd,i.r1,i.r2,i.im%4294967296] (fun n hn=>by simp at hn;omega)
  simp at h
  show(zx [105,115] [i.op,i.rd,i.r1,i.r2,i.im%4294967296]).length<=1000000
  omega
theorem zj9{n:Nat}(h:n<=4294967296):(zx tOk [(n:Int)]).length<=1000000:=by
 have h:=ju tOk [(n:Int)] (fun m hm=>by simp at hm;omega)
 simp[tOk]at h
 simp only[tOk]
 omega
theorem ziy{w:World}{mo co:Ps->Nat->Ou}{dec:Nat->Option In5}{may:Int->Int->Int->Bool}(L:Lay w mo co dec may){p:Ps}(hp:POk may p)(l:List UInt8)(hl:l.length<=2999000):(qL mo co (whL dec) may p l).2.length<=1000000:=by
 have hy:=xJ 32 l
 have hno:jz.length<=1000000:=by decide
 have hok:tOk.length<=1000000:=by decide
 have hm:=hp.hm
 unfold qL
 split
 ·exact hno
 ·rename_i ns hns
  have hr:=yr _ _ _ ns hns
  have hnl:=yt _ _ _ ns hns
  unfold cmdL
  split
  ·split
   ·exact hno
   ·exact zj9 (by omega)
  split
  ·split
   ·exact hok
   ·exact hno
  split
  ·split
   ·split
    ·exact hok
    ·exact hno
   ·exact hno
  split
  ·split
   ·split
    ·exact hok
    ·exact hno
   ·exact hno
  split
  ·exact zj9 (by omega)
  split
  ·split
   ·rename_i x hx
    obtain rfl:=yT hx
    exact zf5 (L.moOk p x hp (hr x (by simp)))
   ·exact hno
  split
  ·split
   ·rename_i x hx
    obtain rfl:=yT hx
    exact zf5 (L.coOk p x hp (hr x (by simp)))
   ·exact hno
  split
  ·split
   ·rename_i x hx
    obtain rfl:=yT hx
    exact zmU L (hr x (by simp))
   ·exact hno
  ·exact hno
theorem pok0{w:World}{mo co:Ps->Nat->Ou}{dec:Nat->Option In5}{may:Int->Int->Int->Bool}(L:Lay w mo co dec may):POk may ps0:=
 ⟨rfl,fun i=>by show(0:Int)<=0/\(0:Int)<=_;omega,by show(0:Int)<=0/\(0:Int)<=_;omega,by show([]:List Int).length<=_;simp,(fun b hb=>by cases hb),L.may0,(fun b hb=>by cases hb),by show([]:List Int).length<=_;simp⟩
structure At(may:Int->Int->Int->Bool)(w0:World)(w:World)(b:Nat)(p:Ps)(bb:Nat)(acc:List UInt8):Prop where
 ex:∃M C V,PW 82 w0.heap.size w b p M C/\BW w0.heap.size w bb acc V/\∀k,Mine b M C k->¬kK bb V k
 ok:POk may p
 below:Below w0.heap.size w0 w
theorem zkU{b q:Nat}{M C M' C' V:Value}{n:Nat}(hap:∀k,Mine b M C k->¬kK q V k)(hlt:∀k,kK q V k->k<n)(hM:∀k,M'.ownBlock=some k->M.ownBlock=some k\/n<=k)(hC:∀k,C'.ownBlock=some k->C.ownBlock=some k\/n<=k):∀k,Mine b M' C' k->¬kK q V k:=fun k hk hv=>by
 have h1:=hlt k hv
 rcases hk with rfl|hk|hk
 ·exact hap _ (.inl rfl) hv
 ·rcases hM k hk with h|h
  ·exact hap k (.inr (.inl h)) hv
  ·omega
 ·rcases hC k hk with h|h
  ·exact hap k (.inr (.inr h)) hv
  ·omega
theorem zdX{b q:Nat}{M C V V':Value}{n:Nat}(hap:∀k,Mine b M C k->¬kK q V k)(hlt:∀k,Mine b M C k->k<n)(hV:∀k,V'.ownBlock=some k->V.ownBlock=some k\/n<=k):∀k,Mine b M C k->¬kK q V' k:=fun k hk hv=>by
 have h1:=hlt k hk
 rcases hv with rfl|hv
 ·exact hap _ hk (.inl rfl)
 ·rcases hV k hv with h|h
  ·exact hap k hk (.inr h)
  ·omega
theorem zcG:(prog.info? 82).map (·.size)=some 40:=by kernel_rfl
theorem ziz:(rowD (patD ps0 (.slice none 0 0) (.slice none 0 0)) 40).all (·.oneCell')=true:=by kernel_rfl
theorem zaL{mo co:Ps->Nat->Ou}{dec:Nat->Option In5}{may:Int->Int->Int->Bool}(w:World)(L:Lay w mo co dec may)(s:List UInt8)(hl:s.length<=2999000):
  Calls prog 10 #[sv s] w fun e w'=>e=.returned (sv (goL (qL mo co (whL dec) may) 40 ps0 s))/\Below w.heap.size w w':=by
 have LL:Hid (Lay w mo co dec may):=L
 clear L
 go_enter func10,ntmps10
 obtain⟨Y,hY⟩:∃Y,Y=rowD (patD ps0 (.slice none 0 0) (.slice none 0 0)) 40:=⟨_,rfl⟩
 have HB:Hid (prog.built 82 [(2,.agg #[.int .i64 8,.int .i64 64,.int .i64 2])]=some Y):=by rw[hY];exact zbz
 have HI:Hid ((prog.info? 82).map (·.size)=some Y.size/\40=Y.size/\Y.all (·.oneCell')=true):=by rw[hY,jF];exact⟨zcG,rfl,ziz⟩
 have HY:Hid (Y=rowD (patD ps0 (.slice none 0 0) (.slice none 0 0)) 40):=hY
 clear hY
 go_upto_region 2 with(first|(refine zaK rfl 82 2 _ rfl _ rfl Y HB.out ?_)|(refine wpList_store_row rfl 82 _ _ rfl _ _ rfl rfl 82 _ (heap_alloc_new _ _) HI.out.1 HI.out.2.1 HI.out.2.2 ?_;rw[World.setRow_alloc_new]))
 refine zj (Φ:=fun W=>Code.wp _ _ _ _ W) ?_
 intro V1 eV1 hb1
 have P1:Hid (PW 82 w.heap.size V1 w.heap.size ps0 (.slice none 0 0) (.slice none 0 0)):=⟨Aq _,by rw[eV1,HY.out],Aj _ _ _ _,Aj _ _ _ _⟩
 have B1:Hid (Below w.heap.size w V1):=hb1
 have hlt:w.heap.size<V1.heap.size:=(Aa.1 eV1).1
 obtain⟨b,hbb⟩:∃b,b=w.heap.size:=⟨_,rfl⟩
 have HBB:Hid (b=w.heap.size):=hbb
 rw[<-hbb]
 rw[<-hbb]at hlt
 clear eV1 hb1 HB HI HY hbb
 go_upto_region 3 with fail
 refine zj (Φ:=fun W=>Code.wp _ _ _ _ W) ?_
 intro V2 eV2 hb2
 have A0:Hid (At may w V2 b ps0 V1.heap.size []):=by
  refine⟨⟨.slice none 0 0,.slice none 0 0,.slice none 0 0,?_,?_,?_⟩,pok0 LL.out,B1.out.trans (hb2.mono B1.out.size)⟩
  ·rw[HBB.out]
   exact P1.out.below hb2
  ·exact⟨B1.out.size,⟨_,.inl rfl,eV2⟩,Aj _ _ _ _⟩
  ·intro k hk hk2
   rcases hk with rfl|hk|hk
   ·rcases hk2 with h|h
    ·omega
    ·simp[Ab]at h
   ·simp[Ab]at hk
   ·simp[Ab]at hk
 obtain⟨q,hq⟩:∃q,q=V1.heap.size:=⟨_,rfl⟩
 rw[<-hq]at A0⊢
 clear eV2 hb2 P1 B1 hlt hq HBB
 go_wp2_with fail
 go_loopw [0,8] (fun st ct wr=>∃(k:Nat) (t acc:List UInt8) (p:Ps),ct=.int .i64 (k:Int)/\st=sv t/\k<=40/\t.length<=s.length/\acc.length<=1000001*k/\Hid (At may w wr b p q acc/\goL (qL mo co (whL dec) may) 40 ps0 s=acc++goL (qL mo co (whL dec) may) (40-k) p t)) (fun _ ct _=>40-(intOf ct).toNat)
 case atStart=>exact⟨0,s,[],ps0,rfl,rfl,Aw _,Aq _,Aw _,A0.out,rfl⟩
 case round=>
  clear A0
  obtain⟨k,t,acc,p,rfl,rfl,hk,ht,hacc,hrel⟩:=hrel
  obtain⟨⟨M,C,V,hP,hW,hap⟩,hok,hbe⟩:=hrel.out.1
  have HP:Hid (PW 82 w.heap.size wr b p M C):=hP
  have HW:Hid (BW w.heap.size wr q acc V):=hW
  have HA:Hid (∀k,Mine b M C k->¬kK q V k):=hap
  have HO:Hid (POk may p):=hok
  have HB:Hid (Below w.heap.size w wr):=hbe
  have HE:Hid (goL (qL mo co (whL dec) may) 40 ps0 s=acc++goL (qL mo co (whL dec) may) (40-k) p t):=hrel.out.2
  clear hP hW hap hok hbe hrel
  have CE:goL (qL mo co (whL dec) may) 40 ps0 s=acc->Calls prog 24 #[.pointer (some ⟨q,0,none⟩)] wr fun e w'=>e=.returned (sv (goL (qL mo co (whL dec) may) 40 ps0 s))/\Below w.heap.size w w':=fun he=>by
   obtain⟨pp,hpp,hr⟩:=HW.out.row
   have hib:Lib.IsBuilder 85 5 w.heap.size q (Ak acc) wr:=by
    have hl:(Ak acc).length=acc.length:=by simp[Ak]
    have hat:Lib.BuilderAt 85 5 w.heap.size q pp (Ak acc) wr:=⟨HW.out.base,V,hr,by rw[hl];exact HW.out.own,fun e=>zV HW.out.own hr (by decide) e⟩
    rcases hpp with rfl|rfl
    ·exact .inl hat
    ·exact .inr hat
   exact(Builder_String_any w.heap.size q acc wr hib HB.out.size).mono fun e w' ⟨h1,h2⟩=>⟨by rw[he];exact h1,HB.out.trans h2⟩
  by_cases h40:k<40
  ·by_cases hte:t=[]
   ·subst hte
    have he:goL (qL mo co (whL dec) may) 40 ps0 s=acc:=by
     rw[HE.out]
     obtain⟨j,hj⟩:∃j,40-k=j+1:=⟨40-k-1,by omega⟩
     rw[hj,show goL (qL mo co (whL dec) may) (j+1) p []=[]from if_pos rfl,Au]
    have CE:=CE he
    clear he
    go_wp2_with(go_at_call 24;refine CE.mono ?_;rintro e w5 ⟨rfl,hb5⟩)
    go_ret
    exact⟨rfl,hb5⟩
   ·clear CE
    have hte':(t==[])=false:=by simpa using hte
    obtain⟨x,y,d,hc⟩:∃x y d,cutL 10 t=(x,y,d):=⟨_,_,_,rfl⟩
    have hy:y.length<=t.length:=by have:=xJ 10 t;rw[hc]at this;exact this
    have hx:x.length<=t.length:=by have:=zcx 10 t;rw[hc]at this;exact this
    have C1:=(zaD t 10 (by omega) wr).mono (R':=fun e w'=>e=.returned (.tuple #[sv x,sv y,.bool d])/\Below wr.heap.size wr w') fun e w' ⟨h1,k,h2⟩=>⟨by rw[h1,hc],by rw[h2];exact xK _ _⟩
    obtain⟨r,hr⟩:∃r,r=qL mo co (whL dec) may p x:=⟨_,rfl⟩
    have hE2:Hid (goL (qL mo co (whL dec) may) 40 ps0 s=acc++r.2++[10]++goL (qL mo co (whL dec) may) (40-(k+1)) r.1 y):=by
     show _=_
     rw[HE.out]
     obtain⟨j,hj⟩:∃j,40-k=j+1:=⟨40-k-1,by omega⟩
     rw[hj,show 40-(k+1)=j by omega,hr]
     have e:goL (qL mo co (whL dec) may) (j+1) p t=(qL mo co (whL dec) may p (cutL 10 t).1).2++10::goL (qL mo co (whL dec) may) j (qL mo co (whL dec) may p (cutL 10 t).1).1 (cutL 10 t).2.1:=if_neg hte
     rw[e,hc]
     simp
    have hrl:r.2.length<=1000000:=by rw[hr];exact ziy LL.out HO.out x (by omega)
    have HR:Hid (POk may r.1):=by rw[hr];exact zkK HO.out x (by omega)
    have CP:Hid (∀W,Below wr.heap.size wr W->Calls prog 22 #[.pointer (some ⟨b,0,none⟩),sv x] W fun e w'=>e=.returned (sv r.2)/\PTo 82 w.heap.size b W M C w' r.1):=fun W hW=>by
     rw[hr]
     exact zix LL.out W (HB.out.trans (hW.mono HB.out.size)) (HP.out.below hW) HO.out x (by omega)
    obtain⟨p',a'⟩:=r
    simp only at hrl hE2 HR CP
    clear hr hc hte HE
    go_upto_region 8 with(go_at_call 20;refine C1.mono ?_;rintro e w1 ⟨rfl,hb1⟩)
    have HB1:Hid (Below wr.heap.size wr w1):=hb1
    have CP1:=CP.out w1 hb1
    clear CP C1 hb1
    go_upto_region 9 with(first|(go_at_call 22;refine CP1.mono ?_;rintro e w2 ⟨rfl,hp2⟩;have HP2:Hid (PTo 82 w.heap.size b w1 M C w2 p'):=hp2;have HW2:Hid (BW w.heap.size w2 q acc V):=(HW.out.keeps (Frm.of (S:=fun _=>False) HB1.out) (fun _ _ h=>h)).keeps hp2.frm (fun k hk h=>HA.out k h hk);have CW:=yV w2 HW2.out a' (by omega) (by omega))|(go_at_call 21;refine CW.mono ?_;rintro e w3 ⟨⟨z,rfl⟩,hw3⟩))
    obtain⟨M2,C2,hP2,hF2,hM2,hC2⟩:=HP2.out
    obtain⟨V3,hB3,hF3,hV3⟩:=hw3
    have apA:∀k,Mine b M2 C2 k->¬kK q V k:=zkU HA.out (fun k hk=>Nat.lt_of_lt_of_le (HW.out.mine k hk).2 HB1.out.size) hM2 hC2
    have hP3:PW 82 w.heap.size w3 b p' M2 C2:=hP2.keeps hF3 fun k hk h=>apA k hk h
    have apB:∀k,Mine b M2 C2 k->¬kK q V3 k:=zdX apA (fun k hk=>(hP2.mine k hk).2) hV3
    have HP3:Hid (PW 82 w.heap.size w3 b p' M2 C2):=hP3
    have HB3:Hid (BW w.heap.size w3 q (acc++a') V3):=hB3
    have HA3:Hid (∀k,Mine b M2 C2 k->¬kK q V3 k):=apB
    have B3:Hid (Below w.heap.size w w3):=by
     have h1:Below w.heap.size w w1:=HB.out.trans (HB1.out.mono HB.out.size)
     have h2:Below w.heap.size w1 w2:=PTo.lower (HP.out.below HB1.out) HP2.out
     have h3:Below w.heap.size w2 w3:=hF3.below (h1.trans h2).size fun k hk=>(HW2.out.mine k hk).1
     exact(h1.trans h2).trans h3
    have CB:=zaJ w3 hB3 (by simp;omega)
    clear hP2 hF2 hM2 hC2 hB3 hF3 hV3 apA apB hP3 HP2 HW2 CW CP1 hp2 HB1 HB HA HW HP HO
    go_upto_region 10 with(go_at_call 23;refine CB.mono ?_;rintro e w4 ⟨⟨z4,rfl⟩,hw4⟩)
    have A4:Hid (At may w w4 b p' q (acc++a'++[10])):=by
     obtain⟨V4,hB4,hF4,hV4⟩:=hw4
     exact⟨⟨M2,C2,V4,HP3.out.keeps hF4 fun k hk h=>HA3.out k hk h,hB4,zdX HA3.out (fun k hk=>(HP3.out.mine k hk).2) hV4⟩,HR.out,B3.out.trans (hF4.below B3.out.size fun k hk=>(HB3.out.mine k hk).1)⟩
    clear hw4 CB HP3 HB3 HA3 B3
    go_wp2_with fail
    go_roundw
    case rel=>exact⟨k+1,y,acc++a'++[10],p',by go_num,rfl,by omega,by omega,by simp;omega,A4.out,hE2.out⟩
    case measure=>simp[intOf];omega
  ·obtain rfl:k=40:=by omega
   have CE:=CE (by rw[HE.out];exact Au _)
   go_wp2_with(go_at_call 24;refine CE.mono ?_;rintro e w5 ⟨rfl,hb5⟩)
   go_ret
   exact⟨rfl,hb5⟩
theorem Lay.below{w W:World}{mo co:Ps->Nat->Ou}{dec:Nat->Option In5}{may:Int->Int->Int->Bool}(L:Lay w mo co dec may)(h:Below w.heap.size w W):Lay W mo co dec may:=
 ⟨L.errs.below h,L.pow.below h,L.may0,L.moOk,L.coOk,fun W' hW=>L.lmo W' (h.trans (hW.mono h.size)),fun W' hW=>L.lco W' (h.trans (hW.mono h.size)),fun W' hW=>L.lde W' (h.trans (hW.mono h.size)),L.decOk,L.lma⟩
theorem go_q{mo co:Ps->Nat->Ou}{wh:Nat->List UInt8}{may:Int->Int->Int->Bool}:goL (qL mo co wh may) 40 ps0 [63]=[63,10]:=rfl
theorem driveOn_walk{mo co:Ps->Nat->Ou}{dec:Nat->Option In5}{may:Int->Int->Int->Bool}(a b:List UInt8)(ha:a.length<=1048576)(hb:b.length<=1048576)(w:World)(L:Lay w mo co dec may):
  Calls prog 5 #[sv a,sv b] w fun e w'=>e=.returned (.bool true)/\Below w.heap.size w w':=by
 obtain⟨s,hs⟩:∃s,s=goL (qL mo co (whL dec) may) 40 ps0 (a++[10]):=⟨_,rfl⟩
 obtain⟨t,ht⟩:=zj6 (qL mo co (whL dec) may) b 40 ps0 (a++[10]) (.inr ⟨a,rfl⟩)
 rw[<-hs]at ht
 have C1:Hid (∀W,Below w.heap.size w W->Calls prog 10 #[sv (a++[10])] W fun e w'=>e=.returned (sv s)/\Below W.heap.size W w'):=fun W hW=>by rw[hs];exact zaL W (L.below hW) (a++[10]) (by simp;omega)
 have C2:Hid (∀W,Below w.heap.size w W->Calls prog 10 #[sv (a++[10]++b)] W fun e w'=>e=.returned (sv (s++t))/\Below W.heap.size W w'):=fun W hW=>by rw[<-ht];exact zaL W (L.below hW) (a++[10]++b) (by simp;omega)
 have C3:Hid (∀W,Below w.heap.size w W->Calls prog 10 #[sv [63]] W fun e w'=>e=.returned (sv [63,10])/\Below W.heap.size W w'):=fun W hW=>by have h:=zaL W (L.below hW) [63] (by decide);rw[go_q]at h;exact h
 obtain⟨x,hx⟩:∃x,x=a++[10]:=⟨_,rfl⟩
 obtain⟨z,hz⟩:∃z,z=x++b:=⟨_,rfl⟩
 obtain⟨u,hu⟩:∃u,u=s++t:=⟨_,rfl⟩
 rw[<-hx]at C1 C2
 rw[<-hz,<-hu]at C2
 have e1:(⟨a.toArray⟩:ByteArray)++⟨#[10]⟩=⟨x.toArray⟩:=by rw[hx];exact ByteArray.mk_append_mk a [10]
 have e2:(⟨x.toArray⟩:ByteArray)++⟨b.toArray⟩=⟨z.toArray⟩:=by rw[hz];exact ByteArray.mk_append_mk x b
 have e3:(⟨u.toArray⟩:ByteArray).extract 0 s.length=⟨s.toArray⟩:=by rw[zdN,hu];simp
 have hxl:x.length<=1048577:=by rw[hx];simp;omega
 have hul:s.length<=u.length:=by rw[hu];simp
 clear ht hs L hx hz hu
 go_enter func5,ntmps5
 go_upto_region 3 with(go_at_call 10;refine(C1.out _ (Al _ _)).mono ?_;rintro e w1 ⟨rfl,hb1⟩)
 have B1:Hid (Below w.heap.size w w1):=hb1
 clear hb1
 go_upto_region 4 with(go_at_call 10;refine(C2.out _ B1.out).mono ?_;rintro e w2 ⟨rfl,hb2⟩)
 have B2:Hid (Below w.heap.size w w2):=B1.out.trans (hb2.mono B1.out.size)
 clear hb2 B1
 go_wp2_with(go_at_call 10;refine(C3.out _ B2.out).mono ?_;rintro e w3 ⟨rfl,hb3⟩)
 go_ret
 exact⟨rfl,B2.out.trans (hb3.mono B2.out.size)⟩
end Go.Proofs.YtpiohehijkpghacGreatDoor.Dr
