/- The keeper holds a script's answer against the lines' own: DriveTells walked, by the layers' answers. -/
import Derived.Test.YtpiohehijkpghacGreatDoorE03
import Derived.Test.YtpiohehijkpghacGreatDoorE02
open Array renaming getElem?_eq_some_iff->Ae,toArray_toList->Am,mem_of_getElem?->Ar,length_toList->WW
open Go renaming cell_of_row->Af,wpAnyH_ready->Ah,wp_region_held_drew->WX,yieldsIf_load_mid->Aw,info_parts->AB
open Go.AllReadyH renaming cons->Ab,nil->Ag
open Go.ByteArray renaming mk_append_mk->Aq
open Go.IntKind renaming signed->AC,wrap->AE,bits->AF
open Go.RowKit.Below renaming refl->Aa,heap_alloc->Az
open Go.Value renaming int->AD,slice->AH
open Go.World renaming ownsRow_nil->Ak,ownsRow->Av
open List renaming getElem?_eq_some_iff->WZ,getElem?_eq_getElem->Ad,mem_of_getElem?->Ai,length_append->Aj,drop_eq_getElem_cons->Ao,drop_eq_nil_of_le->Ap,mem_cons->Au,length_take->Ax,take_length->Ay,append_nil->AA
open Nat renaming le_refl->WY,lt_of_lt_of_le->An,zero_le->AG
set_option maxHeartbeats 4000000
set_option maxRecDepth 20000
set_option linter.unusedSimpArgs false
set_option linter.unusedVariables false
open Go.Proofs.Tryz
namespace Go.Proofs.YtpiohehijkpghacGreatDoor.Dr
open Go.RowKit
theorem zge(mo co:Ps->Nat->Ou)(wh:Nat->List UInt8)(may:Int->Int->Int->Bool)(p:Ps)(l:List UInt8):∃x rest,zr 32 l=x::rest/\x.length<=l.length/\qy mo co wh may p l=match jp rest with|none=>(p,qW)|some ns=>cmdL mo co wh may p x ns:=by
 refine⟨_,_,kd 32 l,zaR 32 l,?_⟩
 unfold qy
 rw[zau _ _ _ (WY _)]
 cases jp (if(cutL 32 l).2.2=true then zr 32 (cutL 32 l).2.1 else[])<;>rfl
theorem zak(c:UInt8):∀l,(zr c l).length<=l.length+1
 |[]=>by simp[zr]
 |x::l=>by
  have h:=zak c l
  have hne:=yF c l
  unfold zr
  split
  ·simp;omega
  ·split
   ·rename_i y m hs
    rw[hs]at h
    simp at h⊢
    omega
   ·simp
theorem yr(c:UInt8):∀l,∀x∈zr c l,x.length<=l.length
 |[],x,h=>by simp[zr]at h;simp[h]
 |y::l,x,h=>by
  have ih:=yr c l
  unfold zr at h
  split at h
  ·rcases Au.1 h with rfl|h
   ·simp
   ·have:=ih x h;simp;omega
  ·split at h
   ·rename_i z m hs
    rw[hs]at ih
    rcases Au.1 h with rfl|h
    ·have:=ih z (by simp);simp;omega
    ·have:=ih x (by simp[h]);simp;omega
   ·simp at h;simp[h]
theorem ziK:∀(l:List (List UInt8)) (ns:List Nat),jp l=some ns->ns.length=l.length
 |[],ns,h=>by cases h;rfl
 |t::l,ns,h=>by
  unfold jp at h
  split at h
  ·cases h
  ·cases hm:jp l with
   |none=>rw[hm]at h;cases h
   |some m=>rw[hm]at h;cases h;simp[ziK l m hm]
theorem zcP:∀(l:List (List UInt8)) (ns:List Nat),jp l=some ns->∀n∈ns,n<4294967296
 |[],ns,h=>by cases h;simp
 |t::l,ns,h=>by
  unfold jp at h
  split at h
  ·cases h
  ·rename_i n hn
   cases hm:jp l with
   |none=>rw[hm]at h;cases h
   |some m=>
    rw[hm]at h
    cases h
    intro x hx
    rcases Au.1 hx with rfl|hx
    ·exact zea (by rw[<-zcS];exact hn)
    ·exact zcP l m hm x hx
theorem zcQ{w:World}{B:Nat}{v:Value}{l:List (List UInt8)}(h:w.ownsRow B 9 1 v l.length (svs l))(h0:0<l.length):∃g c,v=.slice (some ⟨g,0,none⟩) l.length c/\B<=g/\g<w.heap.size/\∀(i:Nat) x,l[i]?=some x->w.cell? ⟨g,i,none⟩=some (sv x):=by
 have hh:=h
 rcases h.2 with⟨_,hz⟩|⟨g,cap,cur,hv,hB,hg,_⟩
 ·omega
 ·refine⟨g,cap,hv,hB,(Ae.1 hg).1,λi x hx=>?_⟩
  subst hv
  have h1:=hh.cells (g:=g) rfl i (sv x) (by simp[svs,hx])
  have hadd:(⟨g,0,none⟩:Addr).add i=⟨g,i,none⟩:=by unfold Addr.add;split<;>simp_all
  rw[hadd]at h1
  exact h1
theorem PW.setF{T:TypeId}{N:Nat}{w:World}{b:Nat}{p:Ps}{M C:Value}(h:PW T N w b p M C)(h5:T≠5)(h3:T≠3)(x y z:Int):PTo T N b w M C (((w.setCell ⟨b,36,none⟩ (.int .i64 x)).setCell ⟨b,37,none⟩ (.int .i64 y)).setCell ⟨b,38,none⟩ (.int .i64 z)) {p with wi:=x,ph:=y,wd:=z}:=by
 have p1:=h.put h5 h3 36 (.int .i64 x) {p with wi:=x} rfl rfl λj hj=>by unfold patD;by_cases e:j=36<;>simp[e]
 have p2:=p1.put h5 h3 37 (.int .i64 y) {p with wi:=x,ph:=y} rfl rfl λj hj=>by unfold patD;by_cases e:j=37<;>simp[e]
 have p3:=p2.put h5 h3 38 (.int .i64 z) {p with wi:=x,ph:=y,wd:=z} rfl rfl λj hj=>by unfold patD;by_cases e:j=38<;>simp[e]
 exact⟨M,C,p3,(((Frm.set w b 36 _).trans (Frm.set _ b 37 _) λi hi=>.inl hi).trans (Frm.set _ b 38 _) λi hi=>.inl hi).mono λk hk=>.inl hk,λk hk=>.inl hk,λk hk=>.inl hk⟩
theorem ziL(x:Nat){k:Nat}(h:k<4):(jz x).take (k+1)=(jz x).take k++[((x/256^k%256:Nat):Int)]:=by
 have:k=0\/k=1\/k=2\/k=3:=by omega
 rcases this with rfl|rfl|rfl|rfl<;>simp[jz]
theorem zkA(x k:Nat):x/256^k/256=x/256^(k+1):=by rw[Nat.div_div_eq_div_mul,Nat.pow_succ]
theorem args_at{w:World}{b:Nat}{M C:Value}{a:Option Addr}{n c:Nat}{ns:List Nat}(h:Args w b M C (.slice a n c) ns)(h0:0<ns.length):
  ∃g o,a=some ⟨g,o,none⟩/\g<w.heap.size/\¬Mine b M C g/\∀(j x:Nat),ns[j]?=some x->w.cell? ⟨g,o+j,none⟩=some (.int .u32 (x:Int)):=by
 obtain⟨a',c',e,h⟩:=h
 injection e with e1 e2 e3
 subst e1
 exact h h0
theorem zkB{w0:World}{mo co:Ps->Nat->Ou}{dec:Nat->Option In5}{may:Int->Int->Int->Bool}(L:Lay w0 mo co dec may){b:Nat}{p:Ps}{M C:Value}(w:World)(hB:Below w0.heap.size w0 w)(h:PW 42 w0.heap.size w b p M C)(hp:POk may p)(l:List UInt8)(hl:l.length<=2999000):
  Calls prog 9 #[.pointer (some ⟨b,0,none⟩),sv l] w λe w'=>e=.returned (sv (qy mo co (whL dec) may p l).2)/\PTo 42 w0.heap.size b w M C w' (qy mo co (whL dec) may p l).1:=by
 obtain⟨x,rest,hs,hxl,hline⟩:=zge mo co (whL dec) may p l
 obtain⟨r,hr⟩:∃r,r=qy mo co (whL dec) may p l:=⟨_,rfl⟩
 rw[<-hr]at hline⊢
 have HR:Hid (r=match jp rest with|none=>(p,qW)|some ns=>cmdL mo co (whL dec) may p x ns):=hline
 have C1:=zbQ l 32 (by omega) w
 have hlen:=zak 32 l
 have HPL:Hid (∀x∈zr 32 l,x.length<=l.length):=yr 32 l
 rw[hs]at C1 hlen HPL
 have HH:Hid (PW 42 w0.heap.size w b p M C):=h
 have HP:Hid (POk may p):=hp
 have HB:Hid (Below w0.heap.size w0 w):=hB
 have LL:Hid (Lay w0 mo co dec may):=L
 obtain⟨i0,hi,hz0,hz1,hz2⟩:=AB zgk
 clear hr hline hs L h hp hB
 go_enter func9,ntmps9
 go_upto_region 2 with(go_at_call 8;refine C1.mono ?_;rintro e w1 ⟨⟨v1,rfl,ho1⟩,hb1⟩)
 obtain⟨g1,c1,rfl,hg1,hgw1,hcl1⟩:=zcQ ho1 (by simp)
 have B1:Hid (Below w.heap.size w w1):=hb1
 have HC1:Hid (∀(i:Nat) y,(x::rest)[i]?=some y->w1.cell? ⟨g1,i,none⟩=some (sv y)):=hcl1
 obtain⟨m,hm⟩:∃m,m=(x::rest).length:=⟨_,rfl⟩
 have hm1:m=rest.length+1:=hm
 rw[<-hm]
 rw[<-hm]at hlen
 have HM:Hid (m=rest.length+1):=hm1
 have hm0:1<=m:=by omega
 clear ho1 hb1 hcl1 C1 hm hm1
 go_wp2_with fail
 go_loopw [6,7] (λlv ct wr=>∃(i:Nat) (ns:List Nat),ct=.int .i64 (i:Int)/\1<=i/\i<=m/\Hid (ns.length=i-1/\jp rest=(jp (rest.drop (i-1))).map (ns++·)/\wr.ownsRow w1.heap.size 24 1 lv ns.length (ucs ns)/\Below w1.heap.size w1 wr)) (λ_ ct _=>m-(intOf ct).toNat)
 case atStart=>exact⟨1,[],rfl,WY _,hm0,rfl,by simp,Ak _ _ _ _,Aa _ _⟩
 case round=>
  obtain⟨i,ns,rfl,hi1,him,hrel⟩:=hrel
  have q6:Hid (wr.ownsRow w1.heap.size 24 1 u6 ns.length (ucs ns)):=hrel.out.2.2.1
  have qb:Hid (Below w1.heap.size w1 wr):=hrel.out.2.2.2
  have HN:Hid (ns.length=i-1/\jp rest=(jp (rest.drop (i-1))).map (ns++·)):=⟨hrel.out.1,hrel.out.2.1⟩
  clear hrel
  by_cases hlt:i<m
  ·obtain⟨t,ht⟩:∃t,rest[i-1]?=some t:=⟨_,Ad (by have:=HM.out;omega)⟩
   have ht2:(x::rest)[i]?=some t:=by rw[show i=(i-1)+1 by omega];exact ht
   have hct:wr.cell? ⟨g1,i,none⟩=some (sv t):=(qb.out.cell (p:=⟨g1,i,none⟩) hgw1).trans (HC1.out i t ht2)
   have htl:t.length<=l.length:=HPL.out t (Ai ht2)
   have hd:rest.drop (i-1)=t::rest.drop (i-1+1):=by rw[Ao (WZ.1 ht).1,(WZ.1 ht).2]
   have CN:=zfh t (by omega) wr
   have HN2:Hid (jp rest=(match numK t with|none=>none|some n=>(jp (rest.drop (i-1+1))).map (n::·)).map (ns++·)):=by
    show _=_
    rw[HN.out.2,hd]
    rfl
   clear ht ht2 hd
   cases hk:numK t with
   |none=>
    rw[hk]at CN HN2
    have HE:Hid (r=(p,qW)):=by show _=_;rw[HR.out,HN2.out];rfl
    go_wp2_with(go_at_call 14;refine CN.mono ?_;rintro e w2 ⟨⟨n,rfl,_⟩,rfl⟩)
    go_ret
    have hE:=HE.out
    subst hE
    exact⟨rfl,PTo.same HH.out (B1.out.trans (qb.out.mono B1.out.size))⟩
   |some u=>
    rw[hk]at CN HN2
    have CN:Calls prog 14 #[sv t] wr λe w'=>e=.returned (.tuple #[.int .u32 (u:Int),.bool true])/\w'=wr:=CN.mono λe w' ⟨⟨n,h1,h2⟩,h3⟩=>⟨by rw[h1,h2 u rfl];rfl,h3⟩
    have hnl:ns.length<=3000000:=by have:=HN.out.1;omega
    have hu0:Hid (w1.heap.size<=wr.heap.size):=qb.out.size
    go_wp2_with(first|(go_at_call 14;refine CN.mono ?_;rintro e w2 ⟨rfl,rfl⟩)|(at_builtin;refine xR _ (.int .u32 (u:Int)) rfl _ _ 69 rfl w1.heap.size 24 i0 _ 4 underlying69 hi hz0 hz1 hz2 rfl u6 ns.length (ucs ns) rfl q6.out rfl rfl (by omega) (by omega) hu0.out ?_;intro v' w5 hown5 hf5 _))
    have B5:Hid (Below w1.heap.size w1 w5):=qb.out.trans (hf5.below hu0.out λk hk=>(q6.out.lt k hk).1)
    have O5:Hid (w5.ownsRow w1.heap.size 24 1 v' (ns++[u]).length (ucs (ns++[u]))):=by
     show Av _ _ _ _ _ _ _
     rw[Aj,show ucs (ns++[u])=ucs ns++[.int .u32 (u:Int)] by simp[ucs]]
     exact hown5
    have HN5:Hid ((ns++[u]).length=i+1-1/\jp rest=(jp (rest.drop (i+1-1))).map ((ns++[u])++·)):=by
     refine⟨by have:=HN.out.1;simp;omega,?_⟩
     rw[HN2.out,show i+1-1=i-1+1 by omega]
     cases jp (rest.drop (i-1+1))<;>simp
    clear hown5 hf5
    go_wp2_with fail
    go_roundw
    case rel=>exact⟨i+1,ns++[u],by go_num,by omega,by omega,HN5.out.1,HN5.out.2,O5.out,B5.out⟩
    case measure=>simp[intOf];omega
  ·have hns:jp rest=some ns:=by
    have h1:=HN.out.2
    rw[Ap (by have:=HM.out;omega)]at h1
    simpa[jp]using h1
   have HE:Hid (r=cmdL mo co (whL dec) may p x ns):=by show _=_;rw[HR.out,hns]
   have HNR:Hid (∀n∈ns,n<4294967296):=zcP rest ns hns
   have hnl:ns.length<=3000000:=by have:=HN.out.1;omega
   have BW:Hid (Below w.heap.size w wr):=B1.out.trans (qb.out.mono B1.out.size)
   have PR:Hid (PW 42 w0.heap.size wr b p M C):=HH.out.below BW.out
   have AR:Hid (Args wr b M C u6 ns):=Args.of HH.out B1.out.size q6.out
   have hc0:wr.cell? ⟨g1,0,none⟩=some (sv x):=(qb.out.cell (p:=⟨g1,0,none⟩) hgw1).trans (HC1.out 0 x rfl)
   have BU:Hid (Below w0.heap.size w0 wr):=HB.out.trans (BW.out.mono HB.out.size)
   clear hns HR HN q6 qb B1 HC1 HPL HM HH HB
   obtain⟨a6,c6,rfl,hcell⟩:=AR.out
   clear hcell
   have hcs:=zbN mo co (whL dec) may p x ns HE.out
   clear HE
   rcases hcs with⟨hq,HE⟩|⟨rfl,hbig,HE⟩|⟨rfl,hbig,HE⟩|⟨n,rfl,rfl,HE⟩|⟨q,n,rfl,rfl,hq,HE⟩|⟨q,n,rfl,rfl,hq0,hq1,HE⟩|⟨q1,q2,q3,rfl,rfl,hco⟩|⟨rfl,HE⟩|⟨n,rfl,rfl,HE⟩|⟨n,rfl,rfl,HE⟩|⟨n,rfl,rfl,HE⟩
   ·have HE2:Hid (r=(p,qW)):=HE
    clear HE
    rcases hq with⟨rfl,hf⟩|⟨rfl,hf⟩|⟨rfl,hf⟩|⟨rfl,hf⟩|⟨rfl,hf⟩|⟨rfl,hf⟩|⟨e0,e1,e2,e3,e4,e5,e6,e7⟩
    all_goals
     go_wp2_with fail
     go_ret
     have hE:=HE2.out
     subst hE
     exact⟨rfl,PTo.ahead BW.out (PTo.same PR.out (Aa _ _))⟩
   ·subst HE
    obtain⟨mp,mc,hM⟩:=zU PR.out.mem
    have k35:wr.cell? ⟨b,35,none⟩=some (.slice mp p.mem.length mc):=(PR.out.cell 35 (by omega)).trans (congrArg some hM)
    have hml:=HP.out.hm
    clear hM
    go_wp2_with fail
    go_ret
    exact⟨rfl,PTo.ahead BW.out (PTo.same PR.out (Aa _ _))⟩
   ·subst HE
    have hml:=HP.out.hm
    obtain⟨mp,mc,hM⟩:=zU PR.out.mem
    have k35:wr.cell? ⟨b,35,none⟩=some (.slice mp p.mem.length mc):=(PR.out.cell 35 (by omega)).trans (congrArg some hM)
    obtain⟨j0,hj,hy0,hy1,hy2⟩:=AB zbL
    obtain⟨W2,rfl⟩:∃W2,W2=wr:=⟨_,rfl⟩
    clear hM
    go_wp2_with fail
    clear k35
    go_loopw [11] (λct w'=>∃q:Nat,ct=.int .i64 (q:Int)/\q<=ns.length/\Hid (PTo 42 w0.heap.size b W2 M C w' {p with mem:=addL p.mem (ns.take q)})) (λct _=>ns.length-(intOf ct).toNat)
    case atStart=>exact⟨0,rfl,AG _,by have e:addL p.mem (ns.take 0)=p.mem:=(by simp[addL]);show PTo _ _ _ _ _ _ _ _;rw[e];exact PTo.same PR.out (Aa _ _)⟩
    case round=>
     obtain⟨q,rfl,hql,hrel⟩:=hrel
     by_cases hlq:q<ns.length
     ·obtain⟨g,o,rfl,hgw,hcl⟩:=Args.at AR.out hrel.out.frm (by omega)
      obtain⟨x,hx⟩:∃x,ns[q]?=some x:=⟨_,Ad hlq⟩
      have hxr:=HNR.out x (Ai hx)
      have hcx:wr.cell? ⟨g,o+q,none⟩=some (.int .u32 (x:Int)):=hcl q x hx
      have HX:Hid (ns[q]?=some x):=hx
      have wx:=vf hxr
      obtain⟨W3,rfl⟩:∃W3,W3=wr:=⟨_,rfl⟩
      have HR0:Hid (PTo 42 w0.heap.size b W2 M C W3 {p with mem:=addL p.mem (ns.take q)}):=hrel
      clear hcl hx hrel
      go_wp2_with fail
      go_loopw [12,13] (λdv ct w'=>∃k d:Nat,ct=.int .i64 (k:Int)/\dv=.int .i64 (d:Int)/\k<=4/\d<4294967296/\Hid (d=x/256^k/\PTo 42 w0.heap.size b W2 M C w' {p with mem:=addL p.mem (ns.take q)++(jz x).take k})) (λ_ ct _=>4-(intOf ct).toNat)
      case atStart=>exact⟨0,x,rfl,rfl,by omega,hxr,by simp,by have h:=HR0.out;simpa using h⟩
      case round=>
       clear HR0 hcx wx
       obtain⟨k,d,rfl,rfl,hk4,hd4,hrel⟩:=hrel
       obtain⟨M',C',P',F',m',c'⟩:=hrel.out.2
       by_cases hk:k<4
       ·have P1:Hid (PW 42 w0.heap.size wr b {p with mem:=addL p.mem (ns.take q)++(jz x).take k} M' C'):=P'
        have F1:Hid (Frm (Mine b M C) W2 wr):=F'
        have HM1:Hid ((∀k,M'.ownBlock=some k->M.ownBlock=some k\/W2.heap.size<=k)/\(∀k,C'.ownBlock=some k->C.ownBlock=some k\/W2.heap.size<=k)):=⟨m',c'⟩
        have HS:Hid ((jz x).take (k+1)=(jz x).take k++[((d%256:Nat):Int)]):=by rw[hrel.out.1];exact ziL x hk
        have HD:Hid (d/256=x/256^(k+1)):=by rw[hrel.out.1];exact zkA x k
        have hlm:(addL p.mem (ns.take q)++(jz x).take k).length<=10000:=by rw[Aj,vb,Ax,Ax];have:(jz x).length=4:=rfl;omega
        have k35:wr.cell? ⟨b,35,none⟩=some M':=P1.out.cell 35 (by omega)
        have ht1:Int.tmod (d:Int) 256=((d%256:Nat):Int):=by rw[Int.tmod_eq_emod_of_nonneg (by omega)];omega
        have ht2:Int.tdiv (d:Int) 256=((d/256:Nat):Int):=by rw[Int.tdiv_eq_ediv_of_nonneg (by omega)];omega
        obtain⟨e,he⟩:∃e,e=d%256:=⟨_,rfl⟩
        obtain⟨f,hf⟩:∃f,f=d/256:=⟨_,rfl⟩
        have he4:e<256:=by omega
        have hf4:f<4294967296:=by omega
        rw[<-he]at ht1 HS
        rw[<-hf]at ht2 HD
        clear P' F' m' c' hrel he hf
        obtain⟨cur,hcur⟩:∃cur,cur=addL p.mem (ns.take q)++(jz x).take k:=⟨_,rfl⟩
        have HC:Hid (cur=addL p.mem (ns.take q)++(jz x).take k):=hcur
        rw[<-hcur]at P1 hlm
        have hO:Hid (wr.ownsRow w0.heap.size 5 1 M' cur.length (ucb cur)):=P1.out.mem
        have hN:Hid (w0.heap.size<=wr.heap.size):=by have:=P1.out.lt;have:=P1.out.base;show _<=_;omega
        clear hcur
        go_upto_region 23 with(at_builtin;refine xR wr (.int .u8 (e:Int)) rfl _ _ 28 rfl w0.heap.size 5 j0 _ 1 underlying28 hj hy0 hy1 hy2 rfl M' cur.length (ucb cur) rfl hO.out rfl rfl (by omega) (by omega) hN.out ?_;intro v' w5 hown5 hf5 hst5;have k35':w5.cell? ⟨b,35,none⟩=some M':=(zR (hf5.block b P1.out.lt λe=>zQ P1.out.mem P1.out.row (by decide) e)).trans k35;have f35':w5.frozen? ⟨b,35,none⟩=false:=frozen_of_row _ _ _ _ _ ((hf5.block b P1.out.lt λe=>zQ P1.out.mem P1.out.row (by decide) e).trans P1.out.row);obtain⟨vp,vc,rfl⟩:=zU hown5)
        have HG5:Hid (Frm (λk=>M'.ownBlock=some k) wr w5):=hf5
        have HV5:Hid (∀k,(AH vp (cur.length+1) vc).ownBlock=some k->M'.ownBlock=some k\/wr.heap.size<=k):=hst5
        have HO5:Hid (w5.ownsRow w0.heap.size 5 1 (.slice vp (cur.length+1) vc) (cur++[(e:Int)]).length (ucb (cur++[(e:Int)]))):=by
         show Av _ _ _ _ _ _ _
         rw[Aj,show ucb (cur++[(e:Int)])=ucb cur++[.int .u8 (e:Int)] by simp[ucb]]
         exact hown5
        clear hown5 hf5 hst5 k35 k35' f35'
        go_wp2_with fail
        go_roundw
        case rel=>
         refine⟨k+1,f,by go_num,rfl,by omega,hf4,HD.out,?_⟩
         rw[HS.out,<-List.append_assoc,<-HC.out]
         exact PTo.setM P1.out F1.out HM1.out.1 HM1.out.2 (by decide) (by decide) HG5.out _ _ HO5.out HV5.out
        case measure=>simp[intOf];omega
       ·obtain rfl:k=4:=by omega
        have HP4:Hid (PTo 42 w0.heap.size b W2 M C wr {p with mem:=addL p.mem (ns.take (q+1))}):=by
         show PTo _ _ _ _ _ _ _ _
         rw[zeb p.mem HX.out]
         exact⟨M',C',P',F',m',c'⟩
        clear P' F' m' c' hrel
        go_wp2_with fail
        go_roundw
        case rel=>exact⟨q+1,by go_num,by omega,HP4.out⟩
        case measure=>simp[intOf];omega
     ·obtain rfl:q=ns.length:=by omega
      obtain⟨M',C',P',F',m',c'⟩:=hrel.out
      rw[Ay]at P'
      have PE:Hid (PW 42 w0.heap.size wr b {p with mem:=addL p.mem ns} M' C'):=P'
      have FE:Hid (Frm (Mine b M C) W2 wr/\(∀k,M'.ownBlock=some k->M.ownBlock=some k\/W2.heap.size<=k)/\(∀k,C'.ownBlock=some k->C.ownBlock=some k\/W2.heap.size<=k)):=⟨F',m',c'⟩
      have hle:(addL p.mem ns).length=p.mem.length+4*ns.length:=vb _ _
      obtain⟨mp',mc',hM'⟩:=zU PE.out.mem
      have k35:wr.cell? ⟨b,35,none⟩=some (.slice mp' (addL p.mem ns).length mc'):=(PE.out.cell 35 (by omega)).trans (congrArg some hM')
      have CT:=xq tOk [((p.mem.length+4*ns.length:Nat):Int)] _ (wr.alloc (.cells (([((p.mem.length+4*ns.length:Nat):Int)]:List Int).map λx=>AD .i64 x).toArray 2)) (by decide) (by simp) (λx hx=>by simp at hx;subst hx;omega) (qd wr .i64 [((p.mem.length+4*ns.length:Nat):Int)] 2)
      rw[hle]at k35
      clear hle P' F' m' c' hrel hM'
      go_wp2_with(go_at_call 15;refine CT.mono ?_;rintro e w3 ⟨rfl,hb3⟩)
      go_ret
      exact⟨rfl,PTo.ahead BW.out (PTo.behind ⟨_,C',PE.out,FE.out.1,FE.out.2.1,FE.out.2.2⟩ (((Aa _ _).alloc (WY _) _).trans (hb3.mono (by simp))))⟩
   ·subst HE
    have hn:=HNR.out n (by simp)
    obtain⟨g,o,rfl,hgw,hgm,hcl⟩:=args_at AR.out (by simp)
    have c0:wr.cell? ⟨g,o,none⟩=some (.int .u32 (n:Int)):=hcl 0 n rfl
    have k32:wr.cell? ⟨b,32,none⟩=some (.int .u32 p.pc):=PR.out.cell 32 (by omega)
    have f32:wr.frozen? ⟨b,32,none⟩=false:=PR.out.fro 32
    clear hcl
    go_wp2_with fail
    go_ret
    refine⟨rfl,PTo.ahead BW.out (PTo.put (w':=wr) PR.out (by decide) (by decide) 32 _ _ rfl rfl λj hj=>?_)⟩
    unfold patD
    by_cases e:j=32<;>simp[e]
   ·subst HE
    have hn:=HNR.out q (by simp)
    obtain⟨g,o,rfl,hgw,hgm,hcl⟩:=args_at AR.out (by simp)
    have c0:wr.cell? ⟨g,o,none⟩=some (.int .u32 (q:Int)):=hcl 0 q rfl
    clear hcl
    have h3:q<1\/(1<=q/\31<q):=by omega
    clear hq
    rcases h3 with h3|⟨h3,h4⟩
    all_goals
     go_wp2_with fail
     go_ret
     exact⟨rfl,PTo.ahead BW.out (PTo.same PR.out (Aa _ _))⟩
   ·subst HE
    have hn:=HNR.out q (by simp)
    have hn2:=HNR.out n (by simp)
    obtain⟨g,o,rfl,hgw,hgm,hcl⟩:=args_at AR.out (by simp)
    have c0:wr.cell? ⟨g,o,none⟩=some (.int .u32 (q:Int)):=hcl 0 q rfl
    have c1:wr.cell? ⟨g,o+1,none⟩=some (.int .u32 (n:Int)):=hcl 1 n rfl
    have kq:wr.cell? ⟨b,q,none⟩=some (.int .u32 (p.R q)):=by rw[PR.out.cell q (by omega),patR p M C (by omega)]
    have fq:wr.frozen? ⟨b,q,none⟩=false:=PR.out.fro q
    clear hcl
    go_upto_region 31 with fail
    go_region
    go_wp2_with fail
    go_ret
    refine⟨rfl,PTo.ahead (BW.out.trans ((Aa _ _).drew.mono BW.out.size)) (PTo.put (w':=wr.drew) (PR.out.below (Aa _ _).drew) (by decide) (by decide) q _ _ rfl rfl λj hj=>?_)⟩
    unfold patD
    by_cases e:j=q
    ·subst e
     have h32:j<32:=by omega
     simp[h32]
    ·simp[e]
   ·have n1:=HNR.out q1 (by simp)
    have n2:=HNR.out q2 (by simp)
    have n3:=HNR.out q3 (by simp)
    obtain⟨g,o,rfl,hgw,hgm,hcl⟩:=args_at AR.out (by simp)
    have c0:wr.cell? ⟨g,o,none⟩=some (.int .u32 (q1:Int)):=hcl 0 q1 rfl
    have c1:wr.cell? ⟨g,o+1,none⟩=some (.int .u32 (q2:Int)):=hcl 1 q2 rfl
    have c2:wr.cell? ⟨g,o+2,none⟩=some (.int .u32 (q3:Int)):=hcl 2 q3 rfl
    have CM:=λW=>LL.out.lma W q1 q2 q3
    clear hcl
    go_upto_region 35 with fail
    go_region
    obtain⟨V,hVe⟩:∃V,V=(wr.alloc (.cells #[.int .i64 (q1:Int),.int .i64 (q2:Int),.int .i64 (q3:Int)] 23)).drew:=⟨_,rfl⟩
    have eV:Hid (V.heap[wr.heap.size]?=some (.cells #[.int .i64 (q1:Int),.int .i64 (q2:Int),.int .i64 (q3:Int)] 23 (0,0))):=by rw[hVe];exact heap_alloc_new wr _
    have BV:Hid (Below wr.heap.size wr V):=by rw[hVe];exact((Aa _ _).alloc (WY _) _).drew
    have j0:V.cell? ⟨wr.heap.size,0,none⟩=some (.int .i64 (q1:Int)):=by rw[Af _ _ _ _ _ _ eV.out];rfl
    have j1:V.cell? ⟨wr.heap.size,1,none⟩=some (.int .i64 (q2:Int)):=by rw[Af _ _ _ _ _ _ eV.out];rfl
    have j2:V.cell? ⟨wr.heap.size,2,none⟩=some (.int .i64 (q3:Int)):=by rw[Af _ _ _ _ _ _ eV.out];rfl
    rw[<-hVe]
    clear hVe c0 c1 c2
    rcases hco with⟨hmy,HE⟩|⟨hmy,HE⟩
    ·rw[hmy]at CM
     subst HE
     go_wp2_with(go_at_call 16;refine(CM _).mono ?_;rintro e w3 ⟨rfl,hb3⟩)
     go_ret
     exact⟨rfl,PTo.ahead BW.out (PTo.same PR.out (BV.out.trans (hb3.mono BV.out.size)))⟩
    ·rw[hmy]at CM
     subst HE
     have hlV:wr.heap.size<V.heap.size:=(Ae.1 eV.out).1
     go_upto_region 37 with(go_at_call 16;refine(CM _).mono ?_;rintro e w3 ⟨rfl,hb3⟩)
     have B3:Hid (Below w.heap.size w w3):=BW.out.trans ((BV.out.trans (hb3.mono BV.out.size)).mono BW.out.size)
     have P3:Hid (PW 42 w0.heap.size w3 b p M C):=PR.out.below (BV.out.trans (hb3.mono BV.out.size))
     have m0:w3.cell? ⟨wr.heap.size,0,none⟩=some (.int .i64 (q1:Int)):=(hb3.cell (p:=⟨wr.heap.size,0,none⟩) hlV).trans j0
     have m1:w3.cell? ⟨wr.heap.size,1,none⟩=some (.int .i64 (q2:Int)):=(hb3.cell (p:=⟨wr.heap.size,1,none⟩) hlV).trans j1
     have m2:w3.cell? ⟨wr.heap.size,2,none⟩=some (.int .i64 (q3:Int)):=(hb3.cell (p:=⟨wr.heap.size,2,none⟩) hlV).trans j2
     have k0:w3.cell? ⟨b,36,none⟩=some (.int .i64 p.wi):=P3.out.cell 36 (by omega)
     have k1:w3.cell? ⟨b,37,none⟩=some (.int .i64 p.ph):=P3.out.cell 37 (by omega)
     have k2:w3.cell? ⟨b,38,none⟩=some (.int .i64 p.wd):=P3.out.cell 38 (by omega)
     have f0:w3.frozen? ⟨b,36,none⟩=false:=P3.out.fro 36
     have f1:w3.frozen? ⟨b,37,none⟩=false:=P3.out.fro 37
     have f2:w3.frozen? ⟨b,38,none⟩=false:=P3.out.fro 38
     clear hb3 j0 j1 j2
     go_wp2_with fail
     go_ret
     exact⟨rfl,PTo.ahead B3.out (P3.out.setF (by decide) (by decide) q1 q2 q3)⟩
   ·subst HE
    obtain⟨j0,hj,hy0,hy1,hy2⟩:=AB zkE
    have k39:wr.cell? ⟨b,39,none⟩=some C:=PR.out.cell 39 (by omega)
    have f39:wr.frozen? ⟨b,39,none⟩=false:=PR.out.fro 39
    obtain⟨W2,rfl⟩:∃W2,W2=wr:=⟨_,rfl⟩
    go_wp2_with fail
    have PT0:Hid (PTo 42 w0.heap.size b W2 M C (W2.setCell ⟨b,39,none⟩ (.slice none 0 0)) {p with ch:=(ns.take 0).map λ(n:Nat)=>(n:Int)}):=PTo.setC PR.out (Frm.of (Aa _ _)) (λk hk=>.inl hk) (λk hk=>.inl hk) (by decide) (by decide) (Frm.of (Aa _ _)) _ _ (Ak _ _ _ _) (λk hk=>by cases hk)
    clear k39 f39
    go_loopw [15] (λct w'=>∃q:Nat,ct=.int .i64 (q:Int)/\q<=ns.length/\Hid (PTo 42 w0.heap.size b W2 M C w' {p with ch:=(ns.take q).map λ(n:Nat)=>(n:Int)})) (λct _=>ns.length-(intOf ct).toNat)
    case atStart=>exact⟨0,rfl,AG _,PT0.out⟩
    case round=>
     clear PT0
     obtain⟨q,rfl,hql,hrel⟩:=hrel
     by_cases hlq:q<ns.length
     ·obtain⟨g,o,rfl,hgw,hgm,_⟩:=args_at AR.out (by omega)
      have hcl:∀(j x:Nat),ns[j]?=some x->wr.cell? ⟨g,o+j,none⟩=some (.int .u32 (x:Int)):=λj x hx=>by obtain⟨g',o',e,_,hc⟩:=Args.at AR.out hrel.out.frm (by omega);cases e;exact hc j x hx
      obtain⟨x,hx⟩:∃x,ns[q]?=some x:=⟨_,Ad hlq⟩
      have hxr:=HNR.out x (Ai hx)
      have hcx:wr.cell? ⟨g,o+q,none⟩=some (.int .u32 (x:Int)):=hcl q x hx
      have HX:Hid ((ns.take (q+1)).map (λ(n:Nat)=>(n:Int))=(ns.take q).map (λ(n:Nat)=>(n:Int))++[(x:Int)]):=by show _=_;rw[List.take_add_one,hx];simp
      have wx:=vf hxr
      obtain⟨M',C',P',F',m',c'⟩:=hrel.out
      have P1:Hid (PW 42 w0.heap.size wr b {p with ch:=(ns.take q).map λ(n:Nat)=>(n:Int)} M' C'):=P'
      have F1:Hid (Frm (Mine b M C) W2 wr):=F'
      have HM1:Hid ((∀k,M'.ownBlock=some k->M.ownBlock=some k\/W2.heap.size<=k)/\(∀k,C'.ownBlock=some k->C.ownBlock=some k\/W2.heap.size<=k)):=⟨m',c'⟩
      have k39:wr.cell? ⟨b,39,none⟩=some C':=P1.out.cell 39 (by omega)
      have hlm:((ns.take q).map λ(n:Nat)=>(n:Int)).length<=3000000:=by simp;omega
      obtain⟨cur,hcur⟩:∃cur,cur=(ns.take q).map λ(n:Nat)=>(n:Int):=⟨_,rfl⟩
      have HC:Hid (cur=(ns.take q).map λ(n:Nat)=>(n:Int)):=hcur
      rw[<-hcur]at P1 hlm
      have hO:Hid (wr.ownsRow w0.heap.size 3 1 C' cur.length (ici cur)):=P1.out.ch
      have hN:Hid (w0.heap.size<=wr.heap.size):=by have:=P1.out.lt;have:=P1.out.base;show _<=_;omega
      clear hcl hx P' F' m' c' hrel hcur
      have hbw:b<wr.heap.size:=P1.out.lt
      have hgW:g<wr.heap.size:=An hgw F1.out.size
      have nb:Hid (C'.ownBlock≠some b):=zQ P1.out.ch P1.out.row (by decide)
      have ng:Hid (C'.ownBlock≠some g):=λe=>(HM1.out.2 g e).elim (λh=>hgm (.inr (.inr h))) λh=>by omega
      go_upto_region 44 with fail
      refine Co.zu (S:=λw'=>w'.cell? ⟨b,39,none⟩=some C'/\w'.cell? ⟨g,o+q,none⟩=some (.int .u32 (x:Int))) [14] (by kernel_rfl) ⟨k39,hcx⟩ (λhH=>?_)
      have hW:Hid (Below wr.heap.size wr wr.drew):=(Aa _ _).drew
      have hO:=qE hO.out hW.out
      have P1:Hid (PW 42 w0.heap.size wr.drew b {p with ch:=cur} M' C'):=P1.out.below hW.out
      have F1:Hid (Frm (Mine b M C) W2 wr.drew):=F1.out.trans (Frm.of (S:=λ_=>False) hW.out) λi hi=>hi.elim
      have hN:w0.heap.size<=wr.drew.heap.size:=hN.out
      have hbw:b<wr.drew.heap.size:=hbw
      have hgW:g<wr.drew.heap.size:=hgW
      clear k39 hcx hW
      generalize wr.drew=W0 at hH hO P1 F1 hN hbw hgW⊢
      have hO:Hid (W0.ownsRow w0.heap.size 3 1 C' cur.length (ici cur)):=hO
      refine Co.tU 0 (.pointer (some ⟨b,0,none⟩)) ?_;go_simp
      refine Co.tU 1 (.pointer (some ⟨b,0,none⟩)) ?_;go_simp
      refine Co.tU 2 (.pointer (some ⟨b,0,none⟩)) ?_;go_simp
      refine Co.tU 3 (.pointer (some ⟨b,39,none⟩)) ?_;go_simp
      refine Co.tA 4 (C') ?_;go_simp
      refine Co.tU 5 (.slice (some ⟨g,o,none⟩) ns.length c6) ?_;go_simp
      refine Co.tU 6 (.int .i64 (q:Int)) ?_;go_simp
      refine Co.tU 7 (.pointer (some ⟨g,o+q,none⟩)) ?_;go_simp
      refine Co.tB 8 (.int .u32 (x:Int)) ?_;go_simp
      refine Co.tU 9 (.int .i64 (x:Int)) ?_;go_simp
      have hS0:Hid (W0.cell? ⟨b,39,none⟩=some C'/\W0.cell? ⟨g,o+q,none⟩=some (.int .u32 (x:Int))):=hH
      refine Co.zC 10 rfl (λK hK=>?_)
      go_simp
      refine hK.out _ _ ⟨(zR (Az W0 _ b hbw)).trans hS0.out.1,(zR (Az W0 _ g hgW)).trans hS0.out.2⟩ (λhN2=>?_)
      clear hK K hH
      have hH:=hN2
      clear hN2
      try go_simp
      refine Co.zC 11 rfl (λK hK=>?_)
      rw[if_pos (by rfl)]
      refine zgz W0 (.int .i64 (x:Int)) _ _ 29 rfl w0.heap.size 3 j0 _ 8 underlying29 hj hy0 hy1 hy2 rfl C' cur.length (ici cur) rfl hO.out rfl rfl (by omega) (by omega) hN ?_
      intro v' w5 hown5 hf5 hst5
      have f39:w5.frozen? ⟨b,39,none⟩=false:=frozen_of_row _ _ _ _ _ ((hf5.block b hbw nb.out).trans P1.out.row)
      obtain⟨vp,vc,rfl⟩:=zU hown5
      have HG5:Hid (Frm (λk=>C'.ownBlock=some k) W0 w5):=hf5
      have HV5:Hid (∀k,(AH vp (cur.length+1) vc).ownBlock=some k->C'.ownBlock=some k\/W0.heap.size<=k):=hst5
      have HO5:Hid (w5.ownsRow w0.heap.size 3 1 (.slice vp (cur.length+1) vc) (cur++[(x:Int)]).length (ici (cur++[(x:Int)]))):=by
       show Av _ _ _ _ _ _ _
       rw[Aj,show ici (cur++[(x:Int)])=ici cur++[.int .i64 (x:Int)] by simp[ici]]
       exact hown5
      refine hK.out _ _ ⟨(zR (hf5.block b hbw nb.out)).trans hS0.out.1,(zR (hf5.block g hgW ng.out)).trans hS0.out.2⟩ (λhN2=>?_)
      clear hK K hH hown5 hf5 hst5
      have hH:=hN2
      clear hN2
      try go_simp
      have cA:=hH.1
      refine Co.tU 12 (.pointer (some ⟨b,0,none⟩)) ?_;go_simp
      refine Co.tU 13 (.pointer (some ⟨b,39,none⟩)) ?_;go_simp
      refine Co.zL 14 rfl (λK hK=>?_)
      go_simp
      refine hK.out _ _ ?_
      clear hK K
      try go_simp
      refine Co.zG (by kernel_rfl) ?_ _
      clear hH cA f39
      go_wp2_with fail
      go_roundw
      case rel=>
       refine⟨q+1,by go_num,by omega,?_⟩
       rw[HX.out,<-HC.out]
       exact PTo.setC P1.out F1.out HM1.out.1 HM1.out.2 (by decide) (by decide) HG5.out _ _ HO5.out HV5.out
      case measure=>simp[intOf];omega
     ·obtain rfl:q=ns.length:=by omega
      have PE:Hid (PTo 42 w0.heap.size b W2 M C wr {p with ch:=ns.map λ(n:Nat)=>(n:Int)}):=by have h:=hrel.out;rw[Ay]at h;exact h
      have CT:=xq tOk [(ns.length:Int)] _ (wr.alloc (.cells (([(ns.length:Int)]:List Int).map λx=>AD .i64 x).toArray 2)) (by decide) (by simp) (λx hx=>by simp at hx;subst hx;omega) (qd wr .i64 [(ns.length:Int)] 2)
      clear hrel
      go_wp2_with(go_at_call 15;refine CT.mono ?_;rintro e w3 ⟨rfl,hb3⟩)
      go_ret
      exact⟨rfl,PTo.ahead BW.out (PTo.behind PE.out (((Aa _ _).alloc (WY _) _).trans (hb3.mono (by simp))))⟩
   ·subst HE
    have hn:=HNR.out n (by simp)
    obtain⟨g,o,rfl,hgw,hgm,hcl⟩:=args_at AR.out (by simp)
    have c0:wr.cell? ⟨g,o,none⟩=some (.int .u32 (n:Int)):=hcl 0 n rfl
    have wn:=vf hn
    have HR:Hid (∀W,Below wr.heap.size wr W->W.rangeAt b 0 (rowD (hatD p) 35).toList):=λW hW=>(PR.out.below hW).hart
    obtain⟨J,hL⟩:∃J,J=(rowD (hatD p) 35).toList:=⟨_,rfl⟩
    have HL:Hid ((prog.info? 27).map (·.size)=some J.length):=by rw[hL,zaW];exact zq
    obtain⟨O,hO⟩:∃O,O=mo p n:=⟨_,rfl⟩
    have CR:Hid (∀W,Below wr.heap.size wr W->Calls prog 17 #[.agg J.toArray,M,.int .i64 (n:Int)] W λe w'=>RanM w' e O/\Below W.heap.size W w'):=λW hW=>by rw[hL,Am,hO];exact LL.out.lmo W (BU.out.trans (hW.mono BU.out.size)) w0.heap.size p M n HP.out hn (PR.out.below hW).mem
    have HO:Hid (OuOk O/\O=mo p n):=⟨by rw[hO];exact LL.out.moOk p n HP.out hn,hO⟩
    rw[<-hL]at HR
    have k35:wr.cell? ⟨b,35,none⟩=some M:=PR.out.cell 35 (by omega)
    have hbw:b<wr.heap.size:=PR.out.lt
    obtain⟨er,her⟩:∃er,er=O.er:=⟨_,rfl⟩
    have HE:Hid (er=O.er):=her
    clear her hL hO hcl hn
    go_upto_region 48 with fail
    refine WX (S:=λw'=>Below wr.heap.size wr w') (by kernel_rfl) ((Aa _ _).drew) (λhH=>?_)
    generalize wr.drew=W0 at hH⊢
    refine tI 0 (.pointer (some ⟨b,0,none⟩)) ?_;go_simp
    refine tI 1 (.pointer (some ⟨b,0,none⟩)) ?_;go_simp
    refine tI 2 (.pointer (some ⟨b,0,none⟩)) ?_;go_simp
    refine tH 3 (.agg (J).toArray) rfl (Aw (by rfl) 27 _ rfl b 0 rfl (J) _ (λwz hSw=>HR.out wz hSw) underlying27 rfl HL.out) hH ?_;go_simp
    refine tI 4 (.pointer (some ⟨b,0,none⟩)) ?_;go_simp
    refine tI 5 (.pointer (some ⟨b,0,none⟩)) ?_;go_simp
    refine tI 6 (.pointer (some ⟨b,35,none⟩)) ?_;go_simp
    refine tH 7 (M) rfl (Or.inl ⟨by rfl,by intro wz hSw;have hc:=(hSw.cell (p:=⟨b,35,none⟩) hbw).trans k35;go_simp⟩) hH ?_;go_simp
    refine tI 8 (.slice (some ⟨g,o,none⟩) 1 c6) ?_;go_simp
    refine tI 9 (.pointer (some ⟨g,o,none⟩)) ?_;go_simp
    refine tH 10 (.int .u32 (n:Int)) rfl (Or.inl ⟨by rfl,by intro wz hSw;have hc:=(hSw.cell (p:=⟨g,o,none⟩) hgw).trans c0;go_simp⟩) hH ?_;go_simp
    refine tI 11 (.int .i64 (n:Int)) ?_;go_simp
    refine Ah (rs:=[12,18]) (by kernel_rfl) (by simp) ?_
    refine(Ab rfl (λK hK=>?_) (Ab rfl (λK hK=>?_) Ag))
    case' _=>
     go_simp
     refine(CR.out _ hH).mono ?_
     rintro e W3 ⟨⟨v,H,m,rfl,ht⟩,hk⟩
     rw[<-HE.out]
     go_wp2_with fail
     refine hK.out _ _ (hH.trans (hk.mono hH.size)) (λhH=>?_)
     clear hK K
     try go_simp
     refine tI 13 (.tuple #[v,.agg H,m,.int .i64 er]) ?_;go_simp
     refine tI 14 (v) ?_;go_simp
     refine tI 15 (.agg H) ?_;go_simp
     refine tI 16 (m) ?_;go_simp
     refine tI 17 (.int .i64 er) ?_;go_simp
     refine Ah (rs:=[18]) (by kernel_rfl) (by simp) ?_
     refine(Ab rfl (λK hK=>?_) Ag)
     have hzs:wr.heap.size<=W3.heap.size:=hH.size
     go_simp
     refine hK.out _ _ (hH.alloc hH.size _) (λhH2=>?_)
     clear hK K hH
     try go_simp
     revert hH2
     refine zh (Φ:=λW=>Below _ _ W->wpAnyH _ _ _ _ _ _ _ _ W) ?_
     intro V3 eZ hz hH
     have HT:Hid (Tells V3 v H O):=ht.below hz
     clear hz ht hk
     generalize W3.heap.size=z at eZ hzs⊢
    rotate_left
    case' _=>
     have hzs:wr.heap.size<=W0.heap.size:=hH.size
     go_simp
     refine hK.out _ _ (hH.alloc hH.size _) (λhH2=>?_)
     clear hK K hH
     try go_simp
     revert hH2
     refine zh (Φ:=λW=>Below _ _ W->wpAnyH _ _ _ _ _ _ _ _ W) ?_
     intro W1 eZ hz hH
     clear hz
     refine Ah (rs:=[12]) (by kernel_rfl) (by simp) ?_
     refine(Ab rfl (λK hK=>?_) Ag)
     go_simp
     refine(CR.out _ hH).mono ?_
     rintro e V3 ⟨⟨v,H,m,rfl,ht⟩,hk⟩
     rw[<-HE.out]
     go_wp2_with fail
     refine hK.out _ _ (hH.trans (hk.mono hH.size)) (λhH=>?_)
     clear hK K
     try go_simp
     have HT:Hid (Tells V3 v H O):=ht
     refine tI 13 (.tuple #[v,.agg H,m,.int .i64 er]) ?_;go_simp
     refine tI 14 (v) ?_;go_simp
     refine tI 15 (.agg H) ?_;go_simp
     refine tI 16 (m) ?_;go_simp
     refine tI 17 (.int .i64 er) ?_;go_simp
     have eZ:=(hk.block W0.heap.size (Ae.1 eZ).1).trans eZ
     clear ht hk
     generalize W0.heap.size=z at eZ hzs⊢
    rotate_left
    all_goals
     refine tI 19 (v) ?_;go_simp
     have HZ:Hid (wr.heap.size<=z):=hzs
     have HH:Hid (H.size=35/\H.all (·.oneCell')=true):=⟨HT.out.size,HT.out.one⟩
     refine Ah (rs:=[20]) (by kernel_rfl) (by simp) ?_
     refine(Ab rfl (λK hK=>?_) Ag)
     rw[if_pos (by rfl)]
     refine wp_store_row 27 _ _ rfl _ _ rfl rfl 27 _ eZ (by rw[HH.out.1];exact zq) (by rw[HH.out.1];rfl) HH.out.2 ?_
     refine hK.out _ _ (zc hH HZ.out _) (λhH=>?_)
     clear hK K
     try go_simp
     have RZ:Hid ((V3.setRow z H).heap[z]?=some (.cells H 27 (0,0))):=setRow_heap _ _ _ _ _ _ eZ
     have TZ:Hid (Tells (V3.setRow z H) v H O):=HT.out.set eZ (λi bb h=>by have:=Ar h;simp at this) H
     refine tI 21 (m) ?_;go_simp
     refine tI 22 (.int .i64 er) ?_;go_simp
     refine wpAnyH_done (by kernel_rfl) ?_ _
     try go_simp
     generalize V3.setRow z H=V at hH RZ TZ⊢
     have CE:=zej HO.out.1 v H V TZ.out
     rw[<-HE.out]at CE
     have HI:Hid ((prog.info? 27).map (·.size)=some H.size):=by show _=_;rw[HH.out.1];exact zq
     clear eZ HT
     go_upto_region 49 with fail
     go_wp2_with(first|(go_at_call 18;refine CE.mono ?_;rintro e w5 ⟨rfl,hb5⟩)|(refine wpList_load_row rfl 27 _ rfl _ rfl 27 _ (0,0) _ RZ.out underlying27 rfl HI.out ?_))
     go_ret
     exact⟨by rw[HO.out.2];rfl,PTo.ahead BW.out (PTo.same PR.out (hH.trans (hb5.mono hH.size)))⟩
   ·subst HE
    have hn:=HNR.out n (by simp)
    obtain⟨g,o,rfl,hgw,hgm,hcl⟩:=args_at AR.out (by simp)
    have c0:wr.cell? ⟨g,o,none⟩=some (.int .u32 (n:Int)):=hcl 0 n rfl
    have wn:=vf hn
    have HR:Hid (∀W,Below wr.heap.size wr W->W.rangeAt b 0 (rowD (hatD p) 35).toList):=λW hW=>(PR.out.below hW).hart
    obtain⟨J,hL⟩:∃J,J=(rowD (hatD p) 35).toList:=⟨_,rfl⟩
    have HL:Hid ((prog.info? 27).map (·.size)=some J.length):=by rw[hL,zaW];exact zq
    obtain⟨O,hO⟩:∃O,O=co p n:=⟨_,rfl⟩
    have CR:Hid (∀W,Below wr.heap.size wr W->Calls prog 6 #[cfD p,.agg J.toArray,M,C,.int .i64 (n:Int)] W λe w'=>RanC w' e O/\Below W.heap.size W w'):=λW hW=>by rw[hL,Am,hO];exact LL.out.lco W (BU.out.trans (hW.mono BU.out.size)) w0.heap.size p M C n HP.out hn (PR.out.below hW).mem (PR.out.below hW).ch
    have HO:Hid (OuOk O/\O=co p n):=⟨by rw[hO];exact LL.out.coOk p n HP.out hn,hO⟩
    rw[<-hL]at HR
    have k35:wr.cell? ⟨b,35,none⟩=some M:=PR.out.cell 35 (by omega)
    have k39:wr.cell? ⟨b,39,none⟩=some C:=PR.out.cell 39 (by omega)
    have k36:wr.cell? ⟨b,36,none⟩=some (.int .i64 p.wi):=PR.out.cell 36 (by omega)
    have k37:wr.cell? ⟨b,37,none⟩=some (.int .i64 p.ph):=PR.out.cell 37 (by omega)
    have k38:wr.cell? ⟨b,38,none⟩=some (.int .i64 p.wd):=PR.out.cell 38 (by omega)
    have hbw:b<wr.heap.size:=PR.out.lt
    obtain⟨er,her⟩:∃er,er=O.er:=⟨_,rfl⟩
    have HE:Hid (er=O.er):=her
    clear her hL hO hcl hn
    go_upto_region 52 with fail
    refine WX (S:=λw'=>Below wr.heap.size wr w') (by kernel_rfl) ((Aa _ _).drew) (λhH=>?_)
    generalize wr.drew=W0 at hH⊢
    refine tI 0 (.pointer (some ⟨b,0,none⟩)) ?_;go_simp
    refine tI 1 (.pointer (some ⟨b,0,none⟩)) ?_;go_simp
    refine tI 2 (.pointer (some ⟨b,36,none⟩)) ?_;go_simp
    refine tH 3 (.agg #[.int .i64 p.wi,.int .i64 p.ph,.int .i64 p.wd]) rfl (Or.inl ⟨by rfl,by intro wz hSw;have hc0:=(hSw.cell (p:=⟨b,36,none⟩) hbw).trans k36;have hc1:=(hSw.cell (p:=⟨b,37,none⟩) hbw).trans k37;have hc2:=(hSw.cell (p:=⟨b,38,none⟩) hbw).trans k38;go_simp⟩) hH ?_;go_simp
    refine tI 4 (.pointer (some ⟨b,0,none⟩)) ?_;go_simp
    refine tI 5 (.pointer (some ⟨b,0,none⟩)) ?_;go_simp
    refine tI 6 (.pointer (some ⟨b,0,none⟩)) ?_;go_simp
    refine tH 7 (.agg (J).toArray) rfl (Aw (by rfl) 27 _ rfl b 0 rfl (J) _ (λwz hSw=>HR.out wz hSw) underlying27 rfl HL.out) hH ?_;go_simp
    refine tI 8 (.pointer (some ⟨b,0,none⟩)) ?_;go_simp
    refine tI 9 (.pointer (some ⟨b,0,none⟩)) ?_;go_simp
    refine tI 10 (.pointer (some ⟨b,35,none⟩)) ?_;go_simp
    refine tH 11 (M) rfl (Or.inl ⟨by rfl,by intro wz hSw;have hc:=(hSw.cell (p:=⟨b,35,none⟩) hbw).trans k35;go_simp⟩) hH ?_;go_simp
    refine tI 12 (.pointer (some ⟨b,0,none⟩)) ?_;go_simp
    refine tI 13 (.pointer (some ⟨b,0,none⟩)) ?_;go_simp
    refine tI 14 (.pointer (some ⟨b,39,none⟩)) ?_;go_simp
    refine tH 15 (C) rfl (Or.inl ⟨by rfl,by intro wz hSw;have hc:=(hSw.cell (p:=⟨b,39,none⟩) hbw).trans k39;go_simp⟩) hH ?_;go_simp
    refine tI 16 (.slice (some ⟨g,o,none⟩) 1 c6) ?_;go_simp
    refine tI 17 (.pointer (some ⟨g,o,none⟩)) ?_;go_simp
    refine tH 18 (.int .u32 (n:Int)) rfl (Or.inl ⟨by rfl,by intro wz hSw;have hc:=(hSw.cell (p:=⟨g,o,none⟩) hgw).trans c0;go_simp⟩) hH ?_;go_simp
    refine tI 19 (.int .i64 (n:Int)) ?_;go_simp
    refine Ah (rs:=[20,24]) (by kernel_rfl) (by simp) ?_
    refine(Ab rfl (λK hK=>?_) (Ab rfl (λK hK=>?_) Ag))
    case' _=>
     go_simp
     refine(CR.out _ hH).mono ?_
     rintro e W3 ⟨⟨Y,v,H,rfl,hY1,hY2,hY3,hY4,ht⟩,hk⟩
     rw[<-HE.out]
     go_wp2_with fail
     refine hK.out _ _ (hH.trans (hk.mono hH.size)) (λhH=>?_)
     clear hK K
     try go_simp
     have HY:Hid (Y.size=40/\Y.all (·.oneCell')=true/\Y[0]?=some v/\∀j,j<35->Y[1+j]?=H[j]?):=⟨hY1,hY2,hY3,hY4⟩
     clear hY1 hY2 hY3 hY4
     refine tI 21 (.tuple #[.agg Y,.int .i64 er]) ?_;go_simp
     refine tI 22 (.agg Y) ?_;go_simp
     refine tI 23 (.int .i64 er) ?_;go_simp
     refine Ah (rs:=[24]) (by kernel_rfl) (by simp) ?_
     refine(Ab rfl (λK hK=>?_) Ag)
     have hzs:wr.heap.size<=W3.heap.size:=hH.size
     go_simp
     refine hK.out _ _ (hH.alloc hH.size _) (λhH2=>?_)
     clear hK K hH
     try go_simp
     revert hH2
     refine zh (Φ:=λW=>Below _ _ W->wpAnyH _ _ _ _ _ _ _ _ W) ?_
     intro V3 eZ hz hH
     have HT:Hid (Tells V3 v H O):=ht.below hz
     clear hz ht hk
     generalize W3.heap.size=z at eZ hzs⊢
    rotate_left
    case' _=>
     have hzs:wr.heap.size<=W0.heap.size:=hH.size
     go_simp
     refine hK.out _ _ (hH.alloc hH.size _) (λhH2=>?_)
     clear hK K hH
     try go_simp
     revert hH2
     refine zh (Φ:=λW=>Below _ _ W->wpAnyH _ _ _ _ _ _ _ _ W) ?_
     intro W1 eZ hz hH
     clear hz
     refine Ah (rs:=[20]) (by kernel_rfl) (by simp) ?_
     refine(Ab rfl (λK hK=>?_) Ag)
     go_simp
     refine(CR.out _ hH).mono ?_
     rintro e V3 ⟨⟨Y,v,H,rfl,hY1,hY2,hY3,hY4,ht⟩,hk⟩
     rw[<-HE.out]
     go_wp2_with fail
     refine hK.out _ _ (hH.trans (hk.mono hH.size)) (λhH=>?_)
     clear hK K
     try go_simp
     have HT:Hid (Tells V3 v H O):=ht
     have HY:Hid (Y.size=40/\Y.all (·.oneCell')=true/\Y[0]?=some v/\∀j,j<35->Y[1+j]?=H[j]?):=⟨hY1,hY2,hY3,hY4⟩
     clear hY1 hY2 hY3 hY4
     refine tI 21 (.tuple #[.agg Y,.int .i64 er]) ?_;go_simp
     refine tI 22 (.agg Y) ?_;go_simp
     refine tI 23 (.int .i64 er) ?_;go_simp
     have eZ:=(hk.block W0.heap.size (Ae.1 eZ).1).trans eZ
     clear ht hk
     generalize W0.heap.size=z at eZ hzs⊢
    rotate_left
    all_goals
     have HZ:Hid (wr.heap.size<=z):=hzs
     refine Ah (rs:=[25]) (by kernel_rfl) (by simp) ?_
     refine(Ab rfl (λK hK=>?_) Ag)
     rw[if_pos (by rfl)]
     refine wp_store_row 32 _ _ rfl _ _ rfl rfl 32 _ eZ (by rw[HY.out.1];exact qt) (by rw[HY.out.1];rfl) HY.out.2.1 ?_
     refine hK.out _ _ (zc hH HZ.out _) (λhH=>?_)
     clear hK K
     try go_simp
     have RZ:Hid ((V3.setRow z Y).heap[z]?=some (.cells Y 32 (0,0))):=setRow_heap _ _ _ _ _ _ eZ
     have TZ:Hid (Tells (V3.setRow z Y) v H O):=HT.out.set eZ (λi bb h=>by have:=Ar h;simp at this) Y
     refine tI 26 (.int .i64 er) ?_;go_simp
     refine wpAnyH_done (by kernel_rfl) ?_ _
     try go_simp
     generalize V3.setRow z Y=V at hH RZ TZ⊢
     have CE:Calls prog 18 #[v,.agg H.toList.toArray,.int .i64 er] V λe w'=>e=.returned (sv (ranL O))/\Below V.heap.size V w':=by rw[HE.out,Am];exact zej HO.out.1 v H V TZ.out
     have HI:Hid ((prog.info? 27).map (·.size)=some H.toList.length):=by show _=_;rw[WW,TZ.out.size];exact zq
     have HG:Hid (V.rangeAt z 1 H.toList):=λj u hu=>by
      have hj:j<35:=by have:=(WZ.1 hu).1;rw[WW,TZ.out.size]at this;exact this
      rw[Af _ _ _ _ _ _ RZ.out,HY.out.2.2.2 j hj]
      simpa using hu
     have kz:V.cell? ⟨z,0,none⟩=some v:=by rw[Af _ _ _ _ _ _ RZ.out];exact HY.out.2.2.1
     clear eZ HT
     go_upto_region 53 with fail
     go_wp2_with(first|(go_at_call 18;refine CE.mono ?_;rintro e w5 ⟨rfl,hb5⟩)|(refine wpList_load_mid rfl 27 _ rfl z 1 rfl H.toList _ HG.out underlying27 rfl HI.out ?_))
     go_ret
     exact⟨by rw[HO.out.2];rfl,PTo.ahead BW.out (PTo.same PR.out (hH.trans (hb5.mono hH.size)))⟩
   ·have hn:=HNR.out n (by simp)
    obtain⟨g,o,rfl,hgw,hgm,hcl⟩:=args_at AR.out (by simp)
    have c0:wr.cell? ⟨g,o,none⟩=some (.int .u32 (n:Int)):=hcl 0 n rfl
    clear hcl
    have CD:=LL.out.lde wr BU.out n hn
    unfold whL at HE
    cases hd:dec n with
    |none=>
     rw[hd]at CD HE
     subst HE
     have CD:Calls prog 19 #[.int .u32 (n:Int)] wr λe w'=>e=.returned (.tuple #[.agg #[.int .i64 0,.int .i64 0,.int .i64 0,.int .i64 0,.int .i32 0],.bool false])/\Below wr.heap.size wr w':=CD
     clear hd
     go_wp2_with(go_at_call 19;refine CD.mono ?_;rintro e w3 ⟨rfl,hb3⟩)
     go_ret
     exact⟨rfl,PTo.ahead BW.out (PTo.same PR.out (hb3.alloc hb3.size _))⟩
    |some z=>
     rw[hd]at CD HE
     obtain⟨i0',i1,i2,i3,i4,i5⟩:=LL.out.decOk n z hn hd
     subst HE
     obtain⟨op,rd,r1,r2,im⟩:=z
     simp only at i0' i1 i2 i3 i4 i5
     have CD:Calls prog 19 #[.int .u32 (n:Int)] wr λe w'=>e=.returned (.tuple #[.agg #[.int .i64 op,.int .i64 rd,.int .i64 r1,.int .i64 r2,.int .i32 im],.bool true])/\Below wr.heap.size wr w':=CD.mono λe w' ⟨⟨h1,_⟩,h2⟩=>⟨h1,h2⟩
     clear hd
     go_upto_region 59 with(go_at_call 19;refine CD.mono ?_;rintro e w3 ⟨rfl,hb3⟩)
     have B3:Hid (Below wr.heap.size wr w3):=hb3
     have hw:IntKind.u32.wrap im=im%4294967296:=by simp[AE,AF,AC]
     have hw2:IntKind.i64.wrap (im%4294967296)=im%4294967296:=by simp[AE,AF,AC];omega
     clear hb3 CD c0
     refine zh (Φ:=λW=>Code.wp _ _ _ _ W) ?_
     intro V eV hb
     have HB3:Hid (Below wr.heap.size wr V):=B3.out.trans (hb.mono B3.out.size)
     have j0:V.cell? ⟨w3.heap.size,0,none⟩=some (.int .i64 op):=by rw[Af _ _ _ _ _ _ eV];rfl
     have j1:V.cell? ⟨w3.heap.size,1,none⟩=some (.int .i64 rd):=by rw[Af _ _ _ _ _ _ eV];rfl
     have j2:V.cell? ⟨w3.heap.size,2,none⟩=some (.int .i64 r1):=by rw[Af _ _ _ _ _ _ eV];rfl
     have j3:V.cell? ⟨w3.heap.size,3,none⟩=some (.int .i64 r2):=by rw[Af _ _ _ _ _ _ eV];rfl
     have j4:V.cell? ⟨w3.heap.size,4,none⟩=some (.int .i32 im):=by rw[Af _ _ _ _ _ _ eV];rfl
     have CT:=xq [105,115] [op,rd,r1,r2,im%4294967296] _ (V.alloc (.cells (([op,rd,r1,r2,im%4294967296]:List Int).map λx=>AD .i64 x).toArray 2)) (by decide) (by simp) (λx hx=>by simp at hx;omega) (qd V .i64 [op,rd,r1,r2,im%4294967296] 2)
     clear eV hb
     obtain⟨z,hz⟩:∃z,z=w3.heap.size:=⟨_,rfl⟩
     rw[<-hz]at j0 j1 j2 j3 j4⊢
     clear hz
     go_wp2_with(go_at_call 15;refine CT.mono ?_;rintro e w4 ⟨rfl,hb4⟩)
     go_ret
     exact⟨rfl,PTo.ahead BW.out (PTo.same PR.out (HB3.out.trans ((((Aa _ _).alloc (WY _) _).trans (hb4.mono (by simp))).mono HB3.out.size)))⟩
theorem zbD:prog.built 42 [(2,.agg #[.int .i64 8,.int .i64 64,.int .i64 2])]=some (rowD (patD ps0 (.slice none 0 0) (.slice none 0 0)) 40):=by kernel_rfl
structure AtK(may:Int->Int->Int->Bool)(w w1 wr:World)(b g:Nat)(p:Ps):Prop where
 ex:∃M C,PW 42 w.heap.size wr b p M C/\¬Mine b M C g
 ok:POk may p
 below:Below w.heap.size w wr
 row:wr.heap[g]?=w1.heap[g]?
 lt:g<wr.heap.size
theorem driveTells_walk{mo co:Ps->Nat->Ou}{dec:Nat->Option In5}{may:Int->Int->Int->Bool}(a:List UInt8)(ha:a.length<=1048576)(w:World)(L:Lay w mo co dec may):
  Calls prog 4 #[sv a] w λe w'=>e=.returned (.bool true)/\Below w.heap.size w w':=by
 obtain⟨z,hz⟩:∃z,z=goL (qy mo co (whL dec) may) 40 ps0 a:=⟨_,rfl⟩
 have CP:Hid (∀W,Below w.heap.size w W->Calls prog 10 #[sv a] W λe w'=>e=.returned (sv z)/\Below W.heap.size W w'):=λW hW=>by rw[hz];exact ziY W (L.below hW) a (by omega)
 rw[zee]at hz
 have C1:=zbQ a 10 (by omega) w
 have hlen:=zak 10 a
 have HPL:=yr 10 a
 have hne:=yF 10 a
 obtain⟨pp,hpp⟩:∃pp,pp=zr 10 a:=⟨_,rfl⟩
 rw[<-hpp]at C1 hlen HPL hne hz
 obtain⟨m,hm⟩:∃m,pp.length=m+1:=⟨pp.length-1,by have:=List.length_pos_iff.2 hne;omega⟩
 have HM:Hid (pp.length=m+1):=hm
 have HZ:Hid (z=zcY (qy mo co (whL dec) may) 40 ps0 (qQ pp)):=hz
 have HPL:Hid (∀x∈pp,x.length<=a.length):=HPL
 have LL:Hid (Lay w mo co dec may):=L
 have hml:m<=2000000:=by omega
 clear hpp hz hne L hlen
 go_enter func4,ntmps4
 go_upto_region 2 with(go_at_call 8;refine C1.mono ?_;rintro e w1 ⟨⟨v1,rfl,ho1⟩,hb1⟩)
 obtain⟨g,c,rfl,hg1,hgw1,hcl1⟩:=zcQ ho1 (by omega)
 have B1:Hid (Below w.heap.size w w1):=hb1
 have HC:Hid (∀(i:Nat) x,pp[i]?=some x->w1.cell? ⟨g,i,none⟩=some (sv x)):=hcl1
 obtain⟨y,hy⟩:∃y,pp[m]?=some y:=⟨_,Ad (by omega)⟩
 have hcy:w1.cell? ⟨g,m,none⟩=some (sv y):=HC.out m y hy
 have hlast:pp.getLast?=some y:=by rw[List.getLast?_eq_getElem?,hm];exact hy
 obtain⟨c',hcc⟩:∃c',c'=c:=⟨_,rfl⟩
 have hmc:m+1<=c:=by
  rcases ho1.2 with⟨h,_⟩|⟨g',cap,cur,hv,_,_,h,_⟩
  ·cases h
  ·injection hv with _ _ h3
   rw[h3]
   omega
 rw[hm]
 clear ho1 hb1 hcl1 C1 hm hcc
 by_cases hy0:y=[]
 case' pos=>
  subst hy0
  have HL:Hid (qQ pp=pp.dropLast):=if_pos hlast
  go_upto_region 4 with fail
  have HK:Hid (∃k,k=m):=⟨_,rfl⟩
  obtain⟨k,hk⟩:=HK.out
  rw[<-hk]
  have HP2:Hid (k=(qQ pp).length/\∀(i:Nat) x,(qQ pp)[i]?=some x->pp[i]?=some x):=by
   rw[HL.out]
   refine⟨by rw[List.length_dropLast,HM.out,hk];rfl,λi x hx=>?_⟩
   rw[List.getElem?_dropLast]at hx
   split at hx
   ·exact hx
   ·cases hx
 case' neg=>
  have hy1:(y==[])=false:=by simpa using hy0
  have HL:Hid (qQ pp=pp):=if_neg (by rw[hlast];simpa using hy0)
  go_upto_region 4 with fail
  have HK:Hid (∃k,k=m+1):=⟨_,rfl⟩
  obtain⟨k,hk⟩:=HK.out
  rw[<-hk]
  have HP2:Hid (k=(qQ pp).length/\∀(i:Nat) x,(qQ pp)[i]?=some x->pp[i]?=some x):=by
   rw[HL.out]
   exact⟨by rw[HM.out,hk],λi x hx=>hx⟩
 all_goals
  have hk3:k<=3000000:=by omega
  obtain⟨q,hq⟩:∃q,q=qQ pp:=⟨_,rfl⟩
  rw[<-hq]at HP2 HZ
  clear hq HL hcy hlast hy hk HK HM
  obtain⟨Y,hY⟩:∃Y,Y=rowD (patD ps0 (.slice none 0 0) (.slice none 0 0)) 40:=⟨_,rfl⟩
  have HB:Hid (prog.built 42 [(2,.agg #[.int .i64 8,.int .i64 64,.int .i64 2])]=some Y):=by rw[hY];exact zbD
  have HY:Hid (Y=rowD (patD ps0 (.slice none 0 0) (.slice none 0 0)) 40):=hY
  clear hY
  go_upto_region 5 with(refine kj rfl 42 2 _ rfl _ rfl Y HB.out ?_)
  refine zh (Φ:=λW=>Code.wp _ _ _ _ W) ?_
  intro V eV hb
  have A0:Hid (AtK may w w1 V w1.heap.size g ps0):=by
   refine⟨⟨_,_,⟨B1.out.size,by rw[eV,HY.out],Ak _ _ _ _,Ak _ _ _ _⟩,?_⟩,pok0 LL.out,B1.out.trans (hb.mono B1.out.size),hb.block g hgw1,An hgw1 hb.size⟩
   rintro(h|h|h)
   ·omega
   ·cases h
   ·cases h
  obtain⟨b,hbb⟩:∃b,b=w1.heap.size:=⟨_,rfl⟩
  rw[<-hbb]at A0⊢
  clear eV hb HB HY hbb
  go_wp2_with fail
  go_loopw [5,6] (λav ct wr=>∃(i:Nat) (acc:List UInt8) (p:Ps),ct=.int .i64 (i:Int)/\av=sv acc/\i<=40/\i<=k/\acc.length<=1000001*i/\Hid (AtK may w w1 wr b g p/\z=acc++zcY (qy mo co (whL dec) may) (40-i) p (q.drop i))) (λ_ ct _=>40-(intOf ct).toNat)
  case atStart=>exact⟨0,[],ps0,rfl,rfl,by omega,by omega,by simp,A0.out,HZ.out⟩
  case round=>
   clear A0
   obtain⟨i,acc,p,rfl,rfl,hi40,hik,hacc,hrel⟩:=hrel
   by_cases hgo:i<k/\i<40
   ·obtain⟨⟨M,C,hP,hng⟩,hok,hbe,hrow,hglt⟩:=hrel.out.1
    obtain⟨x,hx⟩:∃x,q[i]?=some x:=⟨_,Ad (by have:=HP2.out.1;omega)⟩
    have hx2:=HP2.out.2 i x hx
    have hxl:=HPL.out x (Ai hx2)
    have hcx:wr.cell? ⟨g,i,none⟩=some (sv x):=(zR hrow).trans (HC.out i x hx2)
    obtain⟨r,hr⟩:∃r,r=qy mo co (whL dec) may p x:=⟨_,rfl⟩
    have CL:=zkB LL.out wr hbe hP hok x (by omega)
    have hrl:r.2.length<=1000000:=by rw[hr];exact zef LL.out hok x (by omega)
    have HR:Hid (POk may r.1):=by rw[hr];exact zgr hok x (by omega)
    have HE:Hid (z=acc++r.2++[10]++zcY (qy mo co (whL dec) may) (40-(i+1)) r.1 (q.drop (i+1))):=by
     show _=_
     rw[hrel.out.2,show 40-i=40-(i+1)+1 by omega,Ao (WZ.1 hx).1,(WZ.1 hx).2,hr]
     simp[zcY]
    rw[<-hr]at CL
    obtain⟨p',t⟩:=r
    simp only at hrl HR HE CL
    obtain⟨y1,hy1⟩:∃y1,y1=acc++t:=⟨_,rfl⟩
    obtain⟨y2,hy2⟩:∃y2,y2=y1++[10]:=⟨_,rfl⟩
    have e1:(⟨acc.toArray⟩:ByteArray)++⟨t.toArray⟩=⟨y1.toArray⟩:=by rw[hy1];exact Aq acc t
    have e2:(⟨y1.toArray⟩:ByteArray)++⟨#[10]⟩=⟨y2.toArray⟩:=by rw[hy2];exact Aq y1 [10]
    have hl1:y1.length=acc.length+t.length:=by rw[hy1];simp
    have hl2:y2.length=y1.length+1:=by rw[hy2];simp
    rw[<-hy1,<-hy2]at HE
    have HQ:Hid (PW 42 w.heap.size wr b p M C/\¬Mine b M C g/\Below w.heap.size w wr/\wr.heap[g]?=w1.heap[g]?/\g<wr.heap.size):=⟨hP,hng,hbe,hrow,hglt⟩
    have hg0:=hgo.1
    have hg2:=hgo.2
    clear hy1 hy2 hr hrel hP hng hok hbe hrow hglt hx hx2 hgo
    go_upto_region 10 with(go_at_call 9;refine CL.mono ?_;rintro e w3 ⟨rfl,hp3⟩)
    have A3:Hid (AtK may w w1 w3 b g p'):=by
     obtain⟨hP,hng,hbe,hrow,hglt⟩:=HQ.out
     have hlow:=PTo.lower hP hp3
     obtain⟨M',C',hP',hF,hM,hC⟩:=hp3
     refine⟨⟨M',C',hP',?_⟩,HR.out,hbe.trans hlow,(hF.block g hglt hng).trans hrow,An hglt hF.size⟩
     rintro(h|h|h)
     ·exact hng (.inl h)
     ·rcases hM g h with h|h
      ·exact hng (.inr (.inl h))
      ·omega
     ·rcases hC g h with h|h
      ·exact hng (.inr (.inr h))
      ·omega
    clear hp3 CL HQ
    go_wp2_with fail
    go_roundw
    case rel=>exact⟨i+1,y2,p',by go_num,rfl,by omega,by omega,by omega,A3.out,HE.out⟩
    case measure=>simp[intOf];omega
   ·have hend:z=acc:=by
     rw[hrel.out.2]
     have h1:=HP2.out.1
     by_cases h40:i=40
     ·subst h40
      exact AA _
     ·rw[Ap (by omega),show 40-i=40-i-1+1 by omega]
      exact AA _
    subst hend
    have hb3:=hrel.out.1.below
    have CP:=CP.out wr hb3
    have B3:Hid (Below w.heap.size w wr):=hb3
    have hgo2:(i<k/\40<=i)\/k<=i:=by omega
    clear hrel hb3 hgo
    rcases hgo2 with⟨h1,h2⟩|h1
    all_goals
     go_wp2_with(go_at_call 10;refine CP.mono ?_;rintro e w4 ⟨rfl,hb4⟩)
     go_ret
     exact⟨rfl,B3.out.trans (hb4.mono B3.out.size)⟩
end Go.Proofs.YtpiohehijkpghacGreatDoor.Dr
