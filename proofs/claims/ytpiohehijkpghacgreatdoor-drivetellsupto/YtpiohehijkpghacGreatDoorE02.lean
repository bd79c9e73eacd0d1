/- The keeper: what a run has told. -/
import Derived.Test.YtpiohehijkpghacGreatDoorE01
open Go renaming wpAnyH_ready->Af,cell_of_row->Ag
open Go.AllReadyH renaming cons->Ab,nil->Ae
open Go.Lib renaming itoa->Aa
open Go.RowKit.Below renaming refl->Ah
open Go.Value renaming int->WY
open List renaming getElem?_eq_some_iff->WZ,getElem?_eq_getElem->Ad
open Nat renaming add_assoc->Ai,zero_le->Aj,le_refl->Ak
set_option maxHeartbeats 4000000
set_option maxRecDepth 20000
set_option linter.unusedSimpArgs false
set_option linter.unusedVariables false
open Go.Proofs.Tryz
namespace Go.Proofs.YtpiohehijkpghacGreatDoor.Dr
open Go.RowKit
def NumQ(e:Ending)(r:Option Nat):Prop:=∃n:Int,e=.returned (.tuple #[.int .u32 n,.bool r.isSome])/\∀u,r=some u->n=(u:Int)
theorem at_i{l:List UInt8}{i:Nat}{x:UInt8}(hx:l[i]?=some x):∃hl,(⟨l.toArray⟩:ByteArray)[i]'hl=x:=
 ⟨by rw[jT];exact(WZ.1 hx).1,(WZ.1 hx).2⟩
theorem zfg(l:List UInt8)(h:¬(l.length<1\/10<l.length\/(1<l.length/\l.head?=some 48)))(w:World):
  Calls prog 14 #[sv l] w λe w'=>NumQ e (numK l)/\w'=w:=by
 have hsz:=jT l
 have hK:Hid (numK l=match valL 0 l with|some u=>if u<4294967296 then some u else none|none=>none):=if_neg h
 obtain⟨x0,hx0⟩:∃x,l[0]?=some x:=⟨_,Ad (by omega)⟩
 have hhd:l.head?=some x0:=by rw[List.head?_eq_getElem?];exact hx0
 have h1:1<=l.length:=by omega
 have h2:l.length<=10:=by omega
 have h3:((x0.toNat:Int)==48)=false\/(((x0.toNat:Int)==48)=true/\l.length<=1):=by
  by_cases e:x0=48
  ·right;subst e;refine⟨rfl,?_⟩;exact Classical.byContradiction λhn=>h (.inr (.inr ⟨by omega,hhd⟩))
  ·left;rw[beq_eq_false_iff_ne];intro e2;exact e (UInt8.toNat_inj.1 (show x0.toNat=48 by omega))
 obtain⟨hz,hxi⟩:=at_i hx0
 clear h hhd hx0
 rcases h3 with h3|⟨h3,h4⟩
 all_goals
  go_enter func14,ntmps14
  go_wp2_with fail
  try clear h3
  go_loopw [4,5] (λnv ct wr=>∃(i:Nat) (N:Int),ct=.int .i64 (i:Int)/\nv=.int .i64 N/\i<=l.length/\0<=N/\N<=9999999999/\Hid (wr=w/\valL 0 (l.take i)=some N.toNat)) (λ_ ct _=>l.length-(intOf ct).toNat)
  case atStart=>exact⟨0,0,rfl,rfl,Aj _,by omega,by omega,rfl,rfl⟩
  case round=>
   obtain⟨i,N,rfl,rfl,hil,hN0,hN1,hrel⟩:=hrel
   obtain⟨hwr,hv0⟩:=hrel.out
   subst hwr
   clear hrel
   have hrel:Hid (valL 0 (l.take i)=some N.toNat):=hv0
   clear hv0
   clear hxi hz
   by_cases hlt:i<l.length
   ·obtain⟨x,hx⟩:∃x,l[i]?=some x:=⟨_,Ad hlt⟩
    obtain⟨hz,hxi⟩:=at_i hx
    have hv:=zi0 hx
    rw[hrel.out]at hv
    have hv:Hid (valL 0 (l.take (i+1))=if 48<=x.toNat/\x.toNat<=57 then some (N.toNat*10+(x.toNat-48))else none):=hv
    have hx8:x.toNat<256:=x.toNat_lt
    obtain⟨X,hX⟩:∃X,X=x.toNat:=⟨_,rfl⟩
    by_cases hd:48<=x.toNat/\x.toNat<=57
    ·have HN:Hid (valL 0 (l.take (i+1))=some (10*N+((x.toNat:Int)-48)).toNat):=by
      show _=_
      rw[hv.out,if_pos hd]
      congr 1
      omega
     have HB:10*N+((x.toNat:Int)-48)<=9999999999:=by
      have h4:=zkD _ _ _ HN.out
      have h5:10^(l.take (i+1)).length<=10^10:=Nat.pow_le_pow_right (by decide) (by rw[List.length_take];omega)
      have h6:(10:Nat)^10=10000000000:=by decide
      omega
     have hd0:=hd.1
     have hd1:=hd.2
     clear hx hv hrel hd
     go_wp2_with fail
     go_roundw
     case rel=>exact⟨i+1,_,by go_num,rfl,by omega,by omega,HB,by first|exact rfl|trivial,HN.out⟩
     case measure=>simp[intOf];omega
    ·have HN:Hid (numK l=none):=by
      show _=_
      rw[hK.out,zgC l 0 (i+1) (by rw[hv.out,if_neg hd])]
     have hd0:x.toNat<48\/(48<=x.toNat/\57<x.toNat):=by omega
     clear hx hv hrel hd hX
     rcases hd0 with hd0|⟨hd0,hd1⟩
     all_goals
      go_wp2_with fail
      go_ret2
      exact⟨⟨0,by rw[HN.out];rfl,λu hu=>by rw[HN.out]at hu;cases hu⟩,rfl⟩
   ·have HN:Hid (numK l=if N<4294967296 then some N.toNat else none):=by
     show _=_
     have e:=hrel.out
     rw[List.take_of_length_le (by omega)]at e
     rw[hK.out,e]
     show(if N.toNat<4294967296 then some N.toNat else none)=_
     by_cases h:N<4294967296
     ·rw[if_pos h,if_pos (by omega)]
     ·rw[if_neg h,if_neg (by omega)]
    have hr:Int.tmod N 4294967296=N%4294967296:=Int.tmod_eq_emod_of_nonneg hN0
    by_cases hs:N<4294967296
    ·go_wp2_with fail
     go_ret2
     exact⟨⟨N%4294967296,by rw[HN.out,if_pos hs];rfl,λu hu=>by rw[HN.out,if_pos hs]at hu;cases hu;omega⟩,rfl⟩
    ·go_wp2_with fail
     go_ret2
     exact⟨⟨N%4294967296,by rw[HN.out,if_neg (Int.not_lt.2 hs)];rfl,λu hu=>by rw[HN.out,if_neg (Int.not_lt.2 hs)]at hu;cases hu⟩,rfl⟩
theorem zfh(l:List UInt8)(hl:l.length<=3000000)(w:World):Calls prog 14 #[sv l] w λe w'=>NumQ e (numK l)/\w'=w:=by
 by_cases h:l.length<1\/10<l.length\/(1<l.length/\l.head?=some 48)
 ·have hK:numK l=none:=if_pos h
  rw[hK]
  exact(zgB l hl h w).mono λe w' ⟨h1,h2⟩=>⟨⟨0,h1,λu hu=>by cases hu⟩,h2⟩
 ·exact zfg l h w
theorem zi1(v:Value)(H:Array Value)(er:Int)(hH:Hid (H.size=35))(he:(er != 0)=true)(e0:0<=er)(e1:er<=3)(w:World):
  Calls prog 18 #[v,.agg H,.int .i64 er] w λe w'=>e=.returned (sv (zp [98,97,100] [er]))/\Below w.heap.size w w':=by
 go_enter func18,ntmps18
 go_upto_region 2 with fail
 refine zh (Φ:=λW=>Code.wp _ _ _ _ W) ?_
 intro V eV hb
 have HB:Hid (Below w.heap.size w V):=hb
 have CT:=xq [98,97,100] [er] _ (V.alloc (.cells (([er]:List Int).map λx=>WY .i64 x).toArray 2)) (by decide) (by simp) (λx hx=>by simp at hx;subst hx;omega) (qd V .i64 [er] 2)
 clear eV hb
 go_wp2_with(go_at_call 15;refine CT.mono ?_;rintro e w3 ⟨rfl,hb3⟩)
 go_ret
 exact⟨rfl,HB.out.trans ((((Ah _ _).alloc (Ak _) _).trans (hb3.mono (by simp))).mono HB.out.size)⟩
theorem zei{ot:Nat->Bool}{tl:Nat->Int}{i n:Nat}(h:i<=n){x:Int}(hx:x∈zA ot tl i):x∈zA ot tl n:=by
 induction n with
 |zero=>
  obtain rfl:i=0:=by omega
  exact hx
 |succ n ih=>
  by_cases e:i=n+1
  ·rw[<-e];exact hx
  ·exact List.mem_append_left _ (ih (by omega))
theorem zi2{ot:Nat->Bool}{tl:Nat->Int}{i n:Nat}(h:i<n)(ho:ot i=true):tl i∈zA ot tl n:=
 zei (show i+1<=n from h) (List.mem_append_right _ (by simp[ho]))
theorem zi3(v:Value)(H:Array Value)(pc st ca:Int)(n:Nat)(ot:Nat->Bool)(tl:Nat->Int)(hH:Hid (H.size=35))(h32:H[32]?=some (.int .u32 pc))(h33:H[33]?=some (.int .i64 st))(h34:H[34]?=some (.int .i64 ca))(hn:n<=24000)
  (p0:0<=pc/\pc<=4294967295) (s0:0<=st/\st<=6) (c0:0<=ca/\ca<=6) (ht:∀x∈zA ot tl n,0<=x/\x<=4294967295) (w:World) (hv:ComP w v n ot tl):
  Calls prog 18 #[v,.agg H,.int .i64 0] w λe w'=>e=.returned (sv (zp (zp (Aa n) [st,ca]) (pc::zA ot tl n)))/\Below w.heap.size w w':=by
 have HT:Hid (∀x∈zA ot tl n,0<=x/\x<=4294967295):=ht
 have HV:Hid (ComP w v n ot tl):=hv
 obtain⟨a,c,g,rfl,hnc,_⟩:=hv
 have hEnd:Hid (zp (zp (Aa n) [st,ca]) (pc::zA ot tl n)=zp (zp (Aa n) [st,ca,pc]) (zA ot tl n)):=by show _=_;rw[ke,ke];rfl
 rw[hEnd.out]
 have hit:=Lib.itoa_length_le (n:Int) (by omega) (by omega)
 have CD:Hid (∀W,Calls prog 33 #[.int .i64 (n:Int)] W λe w'=>e=.returned (sv (Aa n))/\Below W.heap.size W w'):=λW=>zbR n (by omega) (by omega) W
 have CT:Hid (∀W v,qG W v .i64 [st,ca,pc]->Calls prog 15 #[sv (Aa n),v] W λe w'=>e=.returned (sv (zp (Aa n) [st,ca,pc]))/\Below W.heap.size W w'):=λW v hv=>xq (Aa n) [st,ca,pc] v W (by omega) (by simp) (λx hx=>by simp at hx;omega) hv
 have hbl:Hid ((zp (Aa n) [st,ca,pc]).length<=100):=by
  have h2:=qF (Aa n) [st,ca,pc] (λx hx=>by simp at hx;omega)
  simp at h2
  show _<=_
  omega
 obtain⟨tn,htn⟩:∃tn,tn=Aa (n:Int):=⟨_,rfl⟩
 rw[<-htn]at CD CT hbl⊢
 obtain⟨t2,ht2⟩:∃t2,t2=zp tn [st,ca,pc]:=⟨_,rfl⟩
 rw[<-ht2]at CT hbl⊢
 have hwp:IntKind.i64.wrap pc=pc:=by simp[IntKind.wrap,IntKind.bits,IntKind.signed];omega
 clear ht hEnd htn ht2 hit
 go_enter func18,ntmps18
 go_upto_region 3 with fail
 refine zh (Φ:=λW=>Code.wp _ _ _ _ W) ?_
 intro V eV hb
 have HB:Hid (Below w.heap.size w V):=hb
 have k32:V.cell? ⟨w.heap.size,32,none⟩=some (.int .u32 pc):=by rw[Ag _ _ _ _ _ _ eV];exact h32
 have k33:V.cell? ⟨w.heap.size,33,none⟩=some (.int .i64 st):=by rw[Ag _ _ _ _ _ _ eV];exact h33
 have k34:V.cell? ⟨w.heap.size,34,none⟩=some (.int .i64 ca):=by rw[Ag _ _ _ _ _ _ eV];exact h34
 have hqV:w.heap.size<V.heap.size:=(Array.getElem?_eq_some_iff.1 eV).1
 obtain⟨q,hq⟩:∃q,q=w.heap.size:=⟨_,rfl⟩
 rw[<-hq]at k32 k33 k34 hqV⊢
 have HC:Hid (ComP V (.slice a n c) n ot tl):=HV.out.below hb
 clear eV hb hq HV
 refine wp_region_held_drew (S:=λw'=>Below V.heap.size V w') (by kernel_rfl) ((Ah _ _).drew) (λhH=>?_)
 refine tI 0 (.slice a n c) ?_;go_simp
 refine tI 1 (.int .i64 (n:Int)) ?_;go_simp
 refine tI 3 (.pointer (some ⟨q,33,none⟩)) ?_;go_simp
 refine tH 4 (.int .i64 st) rfl (Or.inl ⟨by rfl,by intro wz hSw;have hc:=(hSw.cell (p:=⟨q,33,none⟩) hqV).trans k33;go_simp⟩) hH ?_;go_simp
 refine tI 5 (.pointer (some ⟨q,34,none⟩)) ?_;go_simp
 refine tH 6 (.int .i64 ca) rfl (Or.inl ⟨by rfl,by intro wz hSw;have hc:=(hSw.cell (p:=⟨q,34,none⟩) hqV).trans k34;go_simp⟩) hH ?_;go_simp
 refine tI 7 (.pointer (some ⟨q,32,none⟩)) ?_;go_simp
 refine tH 8 (.int .u32 pc) rfl (Or.inl ⟨by rfl,by intro wz hSw;have hc:=(hSw.cell (p:=⟨q,32,none⟩) hqV).trans k32;go_simp⟩) hH ?_;go_simp
 refine tI 9 (.int .i64 pc) ?_;go_simp
 refine Af (rs:=[2,10]) (by kernel_rfl) (by simp) ?_
 refine(Ab rfl (λK hK=>?_) (Ab rfl (λK hK=>?_) Ae))
 case' _=>
  go_simp
  refine(CD.out _).mono ?_
  rintro e W1 ⟨rfl,hk⟩
  go_wp2_with fail
  refine hK.out _ _ (hH.trans (hk.mono hH.size)) (λhH=>?_)
  clear hK K
  try go_simp
  refine Af (rs:=[10]) (by kernel_rfl) (by simp) ?_
  refine(Ab rfl (λK hK=>?_) Ae)
  go_simp
  refine hK.out _ _ (hH.alloc hH.size _) (λhH2=>?_)
  have hN:=qd W1 .i64 [st,ca,pc] 2
  clear hK K hH
  have hH:=hH2
  clear hH2
 rotate_left
 case' _=>
  go_simp
  refine hK.out _ _ (hH.alloc hH.size _) (λhH2=>?_)
  have hN:=qd V.drew .i64 [st,ca,pc] 2
  clear hK K hH
  have hH:=hH2
  clear hH2
  try go_simp
  refine Af (rs:=[2]) (by kernel_rfl) (by simp) ?_
  refine(Ab rfl (λK hK=>?_) Ae)
  go_simp
  refine(CD.out _).mono ?_
  rintro e W1 ⟨rfl,hk⟩
  have hN:=hN.below hk
  go_wp2_with fail
  refine hK.out _ _ (hH.trans (hk.mono hH.size)) (λhH=>?_)
  clear hK K
 rotate_left
 all_goals
  try go_simp
  refine Af (rs:=[11]) (by kernel_rfl) (by simp) ?_
  refine(Ab rfl (λK hK=>?_) Ae)
  go_simp
  refine(CT.out _ _ hN).mono ?_
  rintro e W4 ⟨rfl,hk⟩
  go_wp2_with fail
  refine hK.out _ _ (hH.trans (hk.mono hH.size)) (λhH=>?_)
  clear hK K hN
  try go_simp
  refine tI 12 (sv t2) ?_;go_simp
  refine wpAnyH_done (by kernel_rfl) ?_ _
  try go_simp
  have HW4:Hid (Below V.heap.size V W4):=hH
  clear hH hk
  go_wp2_with fail
  go_loopw [7,8] (λtv ct wr=>∃(i:Nat) (y:List UInt8),ct=.int .i64 (i:Int)/\i<=n/\tv=sv y/\Hid (y=zp t2 (zA ot tl i)/\Below V.heap.size V wr)) (λ_ ct _=>n-(intOf ct).toNat)
  case atStart=>exact⟨0,t2,rfl,Aj _,rfl,by simp[zA,zp],HW4.out⟩
  case round=>
   obtain⟨i,y,rfl,hil,rfl,hrel⟩:=hrel
   have qb:Hid (Below V.heap.size V wr):=hrel.out.2
   by_cases hlt:i<n
   ·obtain⟨a',c',g,e,_,hp,hg,h1⟩:=HC.out
    injection e with e1 e2 e3
    subst e1
    subst e3
    obtain⟨b,o,rfl,hbV,hcell⟩:=hp (by omega)
    have k9:wr.cell? ⟨b,o+i*11+9,none⟩=some (.bool (ot i)):=by rw[Ai,<-(hg i hlt).1];exact(qb.out.cell (p:=⟨b,o+(i*11+9),none⟩) hbV).trans (hcell i 9 hlt (by omega))
    have k10:wr.cell? ⟨b,o+i*11+10,none⟩=some (.int .u32 (tl i)):=by rw[Ai,<-(hg i hlt).2];exact(qb.out.cell (p:=⟨b,o+(i*11+10),none⟩) hbV).trans (hcell i 10 hlt (by omega))
    clear hcell h1 hg hp
    cases hot:ot i with
    |false=>
     rw[hot]at k9
     have HE:Hid (y=zp t2 (zA ot tl (i+1))):=by show _=_;rw[hrel.out.1];show _=zp t2 (zA ot tl i++(if ot i then[tl i]else[]));rw[hot];simp
     clear hot hrel
     go_wp2_with fail
     go_roundw
     case rel=>exact⟨i+1,y,by go_num,by omega,rfl,HE.out,qb.out⟩
     case measure=>simp[intOf];omega
    |true=>
     rw[hot]at k9
     have e:zA ot tl (i+1)=zA ot tl i++[tl i]:=by show zA ot tl i++(if ot i then[tl i]else[])=_;rw[hot];simp
     obtain⟨z,hz⟩:∃z,z=zp y [tl i]:=⟨_,rfl⟩
     have HE:Hid (z=zp t2 (zA ot tl (i+1))):=by show _=_;rw[hz,e,<-ke,<-hrel.out.1]
     have ht0:=HT.out (tl i) (zi2 hlt hot)
     have hyl:y.length<=1000000:=by
      have h2:=qF t2 (zA ot tl i) (λx hx=>by have:=HT.out x (zei hil hx);omega)
      have h3:=xo ot tl i
      have h4:=hbl.out
      rw[<-hrel.out.1]at h2
      omega
     have CS:=xq y [tl i] _ (wr.alloc (.cells (([tl i]:List Int).map λx=>WY .i64 x).toArray 2)) (by omega) (by simp) (λx hx=>by simp at hx;subst hx;omega) (qd wr .i64 [tl i] 2)
     rw[<-hz]at CS
     clear hot hrel hz e
     go_wp2_with(go_at_call 15;refine CS.mono ?_;rintro e w3 ⟨rfl,hb3⟩)
     go_roundw
     case rel=>exact⟨i+1,z,by go_num,by omega,rfl,HE.out,qb.out.trans ((((Ah _ _).alloc (Ak _) _).trans (hb3.mono (by simp))).mono qb.out.size)⟩
     case measure=>simp[intOf];omega
   ·obtain rfl:i=n:=by omega
    have e:=hrel.out.1
    clear hrel
    subst e
    go_wp2_with fail
    go_ret
    exact⟨rfl,HB.out.trans (qb.out.mono HB.out.size)⟩
theorem zej{o:Ou}(h:OuOk o)(v:Value)(H:Array Value)(W:World)(ht:Tells W v H o):Calls prog 18 #[v,.agg H,.int .i64 o.er] W λe w'=>e=.returned (sv (ranL o))/\Below W.heap.size W w':=by
 unfold ranL
 by_cases he:o.er=0
 ·rw[if_pos he,he]
  obtain⟨ot,tl,hc,e1,h32,h33,h34⟩:=ht.yes he
  have h1:=h.told
  rw[e1]at h1⊢
  exact zi3 v H o.pc o.st o.ca o.many ot tl ht.size h32 h33 h34 h.many h.pc h.st h.ca h1 W hc
 ·rw[if_neg he]
  exact zi1 v H o.er ht.size (by simpa using he) h.er.1 h.er.2 W
end Go.Proofs.YtpiohehijkpghacGreatDoor.Dr
