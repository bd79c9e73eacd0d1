/- A core that learns: the program. -/
import Derived.Test.YtpiohehijkpghacGreatDoorD26
open Go renaming bodyPost_end->Ae,results_none->Af,yieldsIf_load_mid->Ah,wp_store_mid->An,wpList_load_mid->Aq
open Go.Code renaming wp->WY
open Go.World renaming block_lt_of_cell?->Ad
open List renaming take_of_length_le->Aa,getElem?_eq_some_iff->Ab,length_take->WZ,drop_eq_nil_of_le->Ag,getElem?_eq_getElem->Ak,mem_cons_self->Am,foldl_cons->Ap
open Nat renaming min_eq_left->Aj,le_refl->Ao,le_trans->Ar
open Option.some renaming inj->Ai
set_option maxHeartbeats 6000000
set_option maxRecDepth 20000
set_option linter.unusedSimpArgs false
set_option linter.unusedVariables false
open Go.Proofs.Tryz
namespace Go.Proofs.YtpiohehijkpghacGreatDoor.Co
open Go.RowKit
open Hy
open Wi Od Re.Hy
open Gu.Hy (Tb tcs)
theorem zbl{w:World}{a:Option Addr}{n c:Nat}{l:List Int}(h:LC w a n c 1 (ics l))(k:Nat)(hk:k<=n):LC w a k c 1 (ics (l.take k)):=by
 have hl:l.length=n:=by have:=h.len;rw[jk]at this;omega
 refine⟨by rw[jk,WZ];omega,by have:=h.le;omega,h.top,?_,jA _,fun x hx h0=>?_⟩
 ·intro e
  have:=h.nil e
  omega
 ·obtain⟨g,o,e,hlt,hc⟩:=h.ad x hx (by omega)
  refine⟨g,o,e,hlt,fun j u hj=>hc j u ?_⟩
  unfold ics at hj⊢
  rw[List.map_take]at hj
  have hjk:j<k:=by have:=(Ab.1 hj).1;rw[WZ]at this;omega
  rw[List.getElem?_take_of_lt hjk]at hj
  exact hj
theorem zor{b:Nat}{w w':World}{L L':Sls}{B g n cap:Nat}{xs:List Value}(h:w.ownsRow B 3 1 (.slice (some ⟨g,0,none⟩) n cap) n xs)(T:To b w L w' L')(hg:¬own b L g):w'.ownsRow B 3 1 (.slice (some ⟨g,0,none⟩) n cap) n xs:=by
 obtain⟨h1,h2⟩:=h
 refine⟨h1,h2.imp id fun⟨g',c',cur,e,hB,hr,rest⟩=>⟨g',c',cur,e,hB,?_,rest⟩⟩
 have:g=g':=by injection e with e1 _ _;injection e1 with e1;injection e1
 subst this
 exact(T.block g (Array.getElem?_eq_some_iff.1 hr).1 hg).trans hr
theorem zfD{s:Cr}{l:List Int}(h:¬1<l.length):turn s l=l:=by
 unfold turn
 split
 ·rfl
 ·rw[if_neg (fun h'=>h h'.1)]
theorem zcp{s:Cr}{q:Int}(h:s.under.find? (fun p=>decide (p.seq=q))=none):staS mach s q=s:=by unfold staS;rw[h]
theorem zfE{N:Nat}{w:World}{b:Nat}{s:Cr}{L:Sls}(S:St N w b s L){m:Nat->Int}{K:Int}(A:Al mach K s m)(hK:K<=7000000):
  Calls prog 31 #[.pointer (some ⟨b,0,none⟩)] w fun e w'=>e=.returned (.tuple #[])/\∃L',St N w' b (start mach s) L'/\To b w L w' L':=by
 have hmf:∀(fn:Fn) (first cap:Array Value) (w:World),(Instr.makeFunc fn first cap).run prog w=.ok (.func fn first cap) w:=fun _ _ _ _=>rfl
 have hln:=A.len
 have hw4:=A.rg.wide
 have hw1:=A.wid
 obtain⟨wi,hwi⟩:∃wi:Nat,s.wide=(wi:Int):=Int.eq_ofNat_of_zero_le (by omega)
 have HWI:Hid (s.wide=(wi:Int)):=hwi
 have hwt:s.wide.toNat=wi:=by omega
 have hw14:1<=wi/\wi<=4:=by omega
 obtain⟨q0,hq0⟩:∃q0,q0=ready s:=⟨_,rfl⟩
 obtain⟨k0,hk0⟩:=zeA mach s
 obtain⟨r,hr⟩:∃r,r=start mach s:=⟨_,rfl⟩
 have HR0:Hid (∀k,(if 1<q0.length then chS s else s)={s with scr:=k}->((turn s q0).take wi).foldl (staS mach) {s with scr:=k}=r):=fun k hk=>by
  rw[hq0]at hk⊢
  rw[hr,hk0.1,hwt]
  have:({s with scr:=k}:Cr)={s with scr:=k0}:=hk.symm.trans hk0.2
  rw[this]
 rw[<-hr]
 have HA:Hid (Al mach K s m):=A
 have HS:Hid (St N w b s L):=S
 have hql:q0.length<=32:=by rw[hq0];unfold ready;rw[List.length_map];exact Ar (List.length_filter_le _ _) hln
 have HQ0:Hid (q0=ready s):=hq0
 clear hr hk0 hq0 A hw4 hw1 hwi hwt
 go_enter func31,ntmps31
 go_upto_region 1 with fail
 refine Wi.zj (Φ:=fun W=>WY _ _ _ _ W) ?_
 intro V hV hVb
 have cz:V.cell? ⟨w.heap.size,0,none⟩=some (.pointer (some ⟨b,0,none⟩)):=by rw[cell_of_row _ _ _ _ _ _ hV];rfl
 have SV:Hid (St N V b s L):=S.below hVb
 have TV:Hid (To b w L V L):=ze L hVb
 have nz:Hid (¬own b L w.heap.size):=fun h=>by have:=qN S h;omega
 clear hV hVb S HS
 generalize w.heap.size=z at*
 have C1:Hid (Calls prog 56 #[.pointer (some ⟨b,0,none⟩),.func (.func 60) #[] #[.pointer (some ⟨z,0,none⟩)]] V fun e w'=>(∃v,e=.returned v/\w'.ownsRow V.heap.size 3 1 v q0.length (ics q0))/\Below V.heap.size V w'):=by
  rw[HQ0.out]
  exact znJ 60 z (fun o=>decide (o.st=0)&&s.th o.a&&s.th o.b) zhd SV.out (by omega) (fun W o hW ho=>by
   obtain⟨ra0,rb0,_,_⟩:=kD zM HA.out.inv ho HA.out.rg.phys
   exact zdc SV.out z cz o ra0.1 ra0.2 rb0.1 rb0.2 W hW)
 go_wp2_with fail
 refine C1.out.mono ?_
 rintro e V1 ⟨⟨v1,rfl,hown⟩,hk1⟩
 have S1:Hid (St N V1 b s L):=SV.out.below hk1
 have T1:Hid (To b w L V1 L):=TV.out.trans (ze L hk1)
 have cz1:V1.cell? ⟨z,0,none⟩=some (.pointer (some ⟨b,0,none⟩)):=zn hk1 cz
 have HO:Hid (V1.ownsRow V.heap.size 3 1 v1 q0.length (ics q0)):=hown
 have HVN:Hid (∀g,V.heap.size<=g->Apt b g s L):=fun g hg=>SV.out.apt hg
 have hzV:z<V.heap.size:=Ad _ _ cz
 have HWV:Hid (w.heap.size<=V.heap.size):=TV.out.size
 clear hown hk1 C1 SV TV cz
 by_cases hn1:1<q0.length
 ·obtain⟨x,rest,hxr⟩:∃x rest,q0=x::rest:=by
   cases q0 with
   |nil=>simp at hn1
   |cons x rest=>exact⟨x,rest,rfl⟩
  obtain⟨g,cap,ev,hgV,hgc⟩:∃g cap,v1=.slice (some ⟨g,0,none⟩) q0.length cap/\V.heap.size<=g/\q0.length<=cap:=by
   rcases HO.out.2 with⟨_,h0⟩|⟨g,cap,cur,e,hB,_,hcap,_⟩
   ·omega
   ·exact⟨g,cap,e,hB,hcap⟩
  subst ev
  have HGO:Hid (Apt b g s L):=HVN.out g hgV
  have hzg:z≠g:=by omega
  have HWG:Hid (w.heap.size<=g):=Ar HWV.out hgV
  have HXR:Hid (q0=x::rest):=hxr
  have hrl:q0.length=rest.length+1:=by rw[hxr];rfl
  have HQN:Hid (q0.length=rest.length+1):=hrl
  obtain⟨n,hn⟩:∃n,n=rest.length:=⟨_,rfl⟩
  have HN:Hid (rest.length=n):=hn.symm
  rw[hrl,<-hn]at HO hn1 hgc hql⊢
  clear hxr hgV HVN hrl hn hzV HWV
  have CC:Hid (Calls prog 61 #[.pointer (some ⟨b,0,none⟩)] V1 fun e w'=>e=.returned (.int .u64 (chN s))/\∃v,St N w' b (chS s) {L with r:=v}/\To b V1 L w' {L with r:=v}/\∀g,v.ownBlock=some g->0<(chS s).scr.length->L.r.ownBlock=some g/\0<s.scr.length):=xQ S1.out
  obtain⟨cn,hcn⟩:∃cn,cn=chN s:=⟨_,rfl⟩
  have cn0:0<=cn:=by rw[hcn];exact za2 s
  have cn1:cn<=18446744073709551615:=by rw[hcn];exact zky s
  rw[<-hcn]at CC
  have HCN:Hid (cn=chN s):=hcn
  clear hcn
  go_wp2_with fail
  refine CC.out.mono ?_
  rintro e V2 ⟨rfl,v2,u1,u2,u3⟩
  have S2:Hid (St N V2 b (chS s) {L with r:=v2}):=u1
  have T2:Hid (To b w L V2 {L with r:=v2}):=T1.out.trans u2
  have cz2:V2.cell? ⟨z,0,none⟩=some (.pointer (some ⟨b,0,none⟩)):=jt cz1 u2 nz.out
  have nz2:Hid (¬own b {L with r:=v2} z):=nz.out
  have GO2:Hid (Apt b g (chS s) {L with r:=v2}):=HGO.out.scr u3
  have HO2:Hid (V2.ownsRow V.heap.size 3 1 (.slice (some ⟨g,0,none⟩) (n+1) cap) (n+1) (ics q0)):=zor HO.out u2 HGO.out.o
  clear u1 u2 u3 S1 T1 cz1 nz HO HGO CC
  generalize ({L with r:=v2}:Sls)=L2 at*
  have HR1:Hid (((turn s q0).take wi).foldl (staS mach) (chS s)=r):=HR0.out s.scr.tail (by rw[if_pos (by rw[HQN.out,HN.out];exact hn1)];rfl)
  have HA1:Hid (StartI mach K ((turn s q0).take wi) (chS s) m):=by rw[HQ0.out];exact StartI.begin HA.out s.scr.tail wi
  have hwi2:Hid ((chS s).wide=(wi:Int)):=HWI.out
  rcases(by omega:cn%2=1\/cn%2=0)with hm|hm
  case' _=>
   have HT:Hid (turn s q0=x::rest.reverse):=by
    show _=_
    rw[HXR.out]
    unfold turn
    simp only[]
    rw[if_pos ⟨by rw[<-HXR.out,HQN.out,HN.out];exact hn1,by rw[<-HCN.out];exact hm⟩]
   have CRv:Hid (∀W,W=V2->Calls prog 62 #[.slice (some ⟨g,1,none⟩) n (cap-1)] W fun e w'=>e=.returned (.tuple #[])/\Hid (w'.ownsRow V.heap.size 3 1 (.slice (some ⟨g,0,none⟩) (n+1) cap) (n+1) (ics (x::rest.reverse)))/\V2.grownBy w' (some g)):=fun W hW=>by
    subst hW
    exact zbk g cap n V.heap.size x rest (by omega) (by omega) HN.out W (by rw[<-HXR.out];exact HO2.out)
   have hn0:0<n:=by omega
   have hcp:1<cap:=by omega
   go_wp2_with fail
   refine(CRv.out _ rfl).mono ?_
   rintro e V3 ⟨rfl,hO3,hG3⟩
   have S3:Hid (St N V3 b (chS s) L2):=S2.out.other hG3 GO2.out
   have T3:Hid (To b w L V3 L2):=Toq.to (To.refl b w L) HWG.out (T2.out.q.trans (zax hG3))
   have cz3:V3.cell? ⟨z,0,none⟩=some (.pointer (some ⟨b,0,none⟩)):=(World.cell?_of_block (w:=V2) (a:=⟨z,0,none⟩) (hG3.block z (Ad _ _ cz2) (fun e=>hzg (Ai e)))).trans cz2
   obtain⟨a3,d3,e3,hl3,_⟩:=Wi.qv hO3.out (jA _)
   obtain⟨rfl,rfl⟩:some ⟨g,0,none⟩=a3/\cap=d3:=by injection e3 with e1 e2 e4;exact⟨e1,e4⟩
   have HL3:Hid (LC V3 (some ⟨g,0,none⟩) (n+1) cap 1 (ics (turn s q0))):=by rw[HT.out];exact hl3
   have HF3:Hid (0<n+1->∀y,(some ⟨g,0,none⟩:Option Addr)=some y->¬own b L2 y.block):=fun _ y hy=>by have:=Ai hy;subst this;exact GO2.out.o
   clear hO3 hG3 e3 hl3 CRv S2 T2 cz2 GO2 HO2
   have hnn:(n+1)<=32:=by omega
   obtain⟨kk,hkk⟩:∃kk,kk=min (n+1) wi:=⟨_,rfl⟩
   have hkn:kk<=(n+1):=by omega
   have hk4:kk<=4:=by omega
   have hmin:min ((n+1:Nat):Int) (wi:Int)=(kk:Int):=by rw[hkk];omega
   obtain⟨qs,hqs⟩:∃qs,qs=(turn s q0).take wi:=⟨_,rfl⟩
   have hqt:(turn s q0).take kk=qs:=by
    rw[hqs,hkk]
    have:(turn s q0).length=(n+1):=by have:=HL3.out.len;rw[jk]at this;omega
    rcases Nat.le_total (n+1) wi with h|h
    ·rw[Aj h,Aa (by omega),Aa (by omega)]
    ·rw[Nat.min_eq_right h]
   have hql2:qs.length=kk:=by
    rw[<-hqt,WZ]
    have:(turn s q0).length=(n+1):=by have:=HL3.out.len;rw[jk]at this;omega
    omega
   have HQL:Hid (qs.length=kk):=hql2
   have HL4:Hid (LC V3 (some ⟨g,0,none⟩:Option Addr) kk cap 1 (ics qs)):=by rw[<-hqt];exact zbl HL3.out kk hkn
   have HF4:Hid (0<kk->∀y,(some ⟨g,0,none⟩:Option Addr)=some y->¬own b L2 y.block):=fun h=>HF3.out (by omega)
   rw[<-hqs]at HR1 HA1
   have k2:V3.cell? ⟨b,2,none⟩=some (.int .i64 (wi:Int)):=(zd S3.out.row (by omega)).trans (congrArg some (by rw[<-hwi2.out];rfl))
  rotate_left
  case' _=>
   have HT:Hid (turn s q0=q0):=by
    show _=_
    rw[HXR.out]
    unfold turn
    simp only[]
    rw[if_neg (fun h=>by have:=h.2;rw[<-HCN.out]at this;omega)]
   obtain⟨a3,d3,e3,hl3,_⟩:=Wi.qv HO2.out (jA _)
   obtain⟨rfl,rfl⟩:some ⟨g,0,none⟩=a3/\cap=d3:=by injection e3 with e1 e2 e4;exact⟨e1,e4⟩
   have S3:Hid (St N V2 b (chS s) L2):=S2.out
   have T3:Hid (To b w L V2 L2):=T2.out
   have cz3:V2.cell? ⟨z,0,none⟩=some (.pointer (some ⟨b,0,none⟩)):=cz2
   have HL3:Hid (LC V2 (some ⟨g,0,none⟩) (n+1) cap 1 (ics (turn s q0))):=by rw[HT.out];exact hl3
   have HF3:Hid (0<n+1->∀y,(some ⟨g,0,none⟩:Option Addr)=some y->¬own b L2 y.block):=fun _ y hy=>by have:=Ai hy;subst this;exact GO2.out.o
   clear e3 hl3 S2 T2 cz2 GO2 HO2
   have hnn:(n+1)<=32:=by omega
   obtain⟨kk,hkk⟩:∃kk,kk=min (n+1) wi:=⟨_,rfl⟩
   have hkn:kk<=(n+1):=by omega
   have hk4:kk<=4:=by omega
   have hmin:min ((n+1:Nat):Int) (wi:Int)=(kk:Int):=by rw[hkk];omega
   obtain⟨qs,hqs⟩:∃qs,qs=(turn s q0).take wi:=⟨_,rfl⟩
   have hqt:(turn s q0).take kk=qs:=by
    rw[hqs,hkk]
    have:(turn s q0).length=(n+1):=by have:=HL3.out.len;rw[jk]at this;omega
    rcases Nat.le_total (n+1) wi with h|h
    ·rw[Aj h,Aa (by omega),Aa (by omega)]
    ·rw[Nat.min_eq_right h]
   have hql2:qs.length=kk:=by
    rw[<-hqt,WZ]
    have:(turn s q0).length=(n+1):=by have:=HL3.out.len;rw[jk]at this;omega
    omega
   have HQL:Hid (qs.length=kk):=hql2
   have HL4:Hid (LC V2 (some ⟨g,0,none⟩:Option Addr) kk cap 1 (ics qs)):=by rw[<-hqt];exact zbl HL3.out kk hkn
   have HF4:Hid (0<kk->∀y,(some ⟨g,0,none⟩:Option Addr)=some y->¬own b L2 y.block):=fun h=>HF3.out (by omega)
   rw[<-hqs]at HR1 HA1
   have k2:V2.cell? ⟨b,2,none⟩=some (.int .i64 (wi:Int)):=(zd S3.out.row (by omega)).trans (congrArg some (by rw[<-hwi2.out];rfl))
  rotate_left
  all_goals
   clear hqs hqt hql2 hkk HL3 HF3 HR0 HA HQ0 HT
   go_upto_region 4 with fail
   clear hm
   go_wp2_with fail
   go_loopw [32] (fun i wr=>∃k:Nat,k<=kk/\i=.int .i64 (k:Int)/\Hid (∃s' L',St N wr b s' L'/\To b w L wr L'/\StartI mach (K+2*k) (qs.drop k) s' m/\(qs.drop k).foldl (staS mach) s'=r/\LC wr (some ⟨g,0,none⟩:Option Addr) kk cap 1 (ics qs)/\(0<kk->∀y,(some ⟨g,0,none⟩:Option Addr)=some y->¬own b L' y.block)/\wr.cell? ⟨z,0,none⟩=some (.pointer (some ⟨b,0,none⟩))/\¬own b L' z))
    (fun i _=>kk-(intOf i).toNat)
   case atStart=>exact⟨0,by omega,rfl,(chS s),L2,S3.out,T3.out,⟨HA1.out.al.mono (by omega),HA1.out.nod,HA1.out.are⟩,HR1.out,HL4.out,HF4.out,cz3,nz2.out⟩
   case round=>
    obtain⟨k,hk,rfl,s',L',S5,T5,I5,R5,LC5,F5,CZ5,NZ5⟩:=hrel
    clear S3 T3 HL4 HF4 HA1 HR1 cz3 nz2 k2
    by_cases hlt:k<kk
    ·obtain⟨q,hq⟩:∃q,qs[k]?=some q:=⟨_,Ak (by rw[HQL.out];exact hlt)⟩
     have hdr:=zbj hq
     rw[hdr]at I5 R5
     rw[Ap]at R5
     obtain⟨ga,oa,ea,hga,hca⟩:=LC5.sure (by omega)
     obtain⟨rfl,rfl⟩:g=ga/\0=oa:=by injection ea with e1;injection e1 with e1 e2;exact⟨e1,e2⟩
     have cs:wr.cell? ⟨g,k,none⟩=some (.int .i64 q):=by simpa using hca k _ (jR hq)
     have HS2:Hid (St N wr b s' L'):=S5
     have HT2:Hid (To b w L wr L'):=T5
     have HI3:Hid (StartI mach (K+2*k+2) (qs.drop (k+1)) (staS mach s' q) m):=I5.step zM jE
     have HR2:Hid ((qs.drop (k+1)).foldl (staS mach) (staS mach s' q)=r):=R5
     have HLC:Hid (LC wr (some ⟨g,0,none⟩:Option Addr) kk cap 1 (ics qs)/\(0<kk->∀y,(some ⟨g,0,none⟩:Option Addr)=some y->¬own b L' y.block)):=⟨LC5,F5⟩
     have HCZ:Hid (wr.cell? ⟨z,0,none⟩=some (.pointer (some ⟨b,0,none⟩))/\¬own b L' z):=⟨CZ5,NZ5⟩
     have hln':=I5.al.len
     have hrise:=I5.al.inv.rise
     have hK3:K+2*(k:Int)<=7000100:=by omega
     clear hca hga hdr R5 LC5 F5 T5 hq
     cases hfd:s'.under.find? (fun p=>decide (p.seq=q))with
     |none=>
      have e:=zcp hfd
      rw[e]at HI3 HR2
      have CF:Hid (Calls prog 58 #[.pointer (some ⟨b,0,none⟩),.int .i64 q] wr fun e w'=>e=.returned (.int .i64 (-1))/\Below wr.heap.size wr w'):=by
       have:=qO S5 q s'.under.length (zbh hfd) (by omega)
       rw[if_neg (by omega)]at this
       exact this
      clear e hfd S5 I5 hrise hln'
      go_wp2_with fail
      refine CF.out.mono ?_
      rintro e V6 ⟨rfl,hk2⟩
      have t2:=ze (b:=b) L' hk2
      have S6:Hid (St N V6 b s' L'):=HS2.out.below hk2
      have T6:Hid (To b w L V6 L'):=HT2.out.trans t2
      have L6:Hid (LC V6 (some ⟨g,0,none⟩:Option Addr) kk cap 1 (ics qs)/\(0<kk->∀y,(some ⟨g,0,none⟩:Option Addr)=some y->¬own b L' y.block)):=qy HLC.out.1 HLC.out.2 t2
      have Z6:Hid (V6.cell? ⟨z,0,none⟩=some (.pointer (some ⟨b,0,none⟩))/\¬own b L' z):=⟨zn hk2 HCZ.out.1,HCZ.out.2⟩
      clear hk2 t2 CF HS2 HT2 HLC HCZ cs CZ5 NZ5
      go_wp2_with fail
      exact⟨⟨k+1,by omega,by go_num,s',L',S6.out,T6.out,⟨HI3.out.al.mono (by push_cast;omega),HI3.out.nod,HI3.out.are⟩,HR2.out,L6.out.1,L6.out.2,Z6.out.1,Z6.out.2⟩,by simp[intOf];omega⟩
     |some o=>
      obtain⟨l1,l2,hu,hoq⟩:=jK hfd
      subst hoq
      have ho1:=I5.are o.seq (Am ..) o (by rw[hu];simp) rfl
      obtain⟨j,hj⟩:∃j,j=l1.length:=⟨_,rfl⟩
      have hjo:s'.under[j]?=some o:=by rw[hu,hj];simp
      have hjl:j<s'.under.length:=(Ab.1 hjo).1
      have CF:Hid (Calls prog 58 #[.pointer (some ⟨b,0,none⟩),.int .i64 o.seq] wr fun e w'=>e=.returned (.int .i64 (j:Int))/\Below wr.heap.size wr w'):=by
       have:=qO S5 o.seq j (by rw[hj];exact jP hu hrise) (by omega)
       rw[if_pos hjl]at this
       exact this
      have HC1:Hid (∀W,St N W b s' L'->Calls prog 63 #[.pointer (some ⟨b,0,none⟩),.int .i64 (j:Int)] W fun e w'=>e=.returned (.tuple #[])/\∃L'',St N w' b (staS mach s' o.seq) L''/\To b W L' w' L''):=fun W SW=>by
       rw[hj,zdp hu hrise]
       exact kE SW I5.al (by omega) hu ho1.1
      have hju:¬((j:Int)<0):=by omega
      have hju2:(0:Int)<=(j:Int):=by omega
      clear hfd hu hj I5 hrise S5 ho1 hjo hjl
      go_wp2_with fail
      refine CF.out.mono ?_
      rintro e V6 ⟨rfl,hk2⟩
      have t2:=ze (b:=b) L' hk2
      have S6:Hid (St N V6 b s' L'):=HS2.out.below hk2
      have T6:Hid (To b w L V6 L'):=HT2.out.trans t2
      have L6:Hid (LC V6 (some ⟨g,0,none⟩:Option Addr) kk cap 1 (ics qs)/\(0<kk->∀y,(some ⟨g,0,none⟩:Option Addr)=some y->¬own b L' y.block)):=qy HLC.out.1 HLC.out.2 t2
      have Z6:V6.cell? ⟨z,0,none⟩=some (.pointer (some ⟨b,0,none⟩)):=zn hk2 HCZ.out.1
      have Y6:Hid (¬own b L' z):=HCZ.out.2
      clear hk2 t2 CF HS2 HT2 HLC HCZ cs CZ5 NZ5
      go_wp2_with fail
      refine(HC1.out _ S6.out).mono ?_
      rintro e V7 ⟨rfl,L7,u1,u2⟩
      have S7:Hid (St N V7 b (staS mach s' o.seq) L7):=u1
      have T7:Hid (To b w L V7 L7):=T6.out.trans u2
      have Q7:Hid (LC V7 (some ⟨g,0,none⟩:Option Addr) kk cap 1 (ics qs)/\(0<kk->∀y,(some ⟨g,0,none⟩:Option Addr)=some y->¬own b L7 y.block)):=qy L6.out.1 L6.out.2 u2
      have Z7:Hid (V7.cell? ⟨z,0,none⟩=some (.pointer (some ⟨b,0,none⟩))/\¬own b L7 z):=⟨jt Z6 u2 Y6.out,qm u2.fresh Y6.out (Ad _ _ Z6)⟩
      clear u1 u2 S6 T6 L6 HC1 Z6 Y6
      go_wp2_with fail
      exact⟨⟨k+1,by omega,by go_num,_,L7,S7.out,T7.out,⟨HI3.out.al.mono (by push_cast;omega),HI3.out.nod,HI3.out.are⟩,HR2.out,Q7.out.1,Q7.out.2,Z7.out.1,Z7.out.2⟩,by simp[intOf];omega⟩
    ·have e:qs.drop k=[]:=Ag (by rw[HQL.out];omega)
     rw[e]at R5
     have hr:s'=r:=R5
     subst hr
     have HS2:Hid (St N wr b s' L'):=S5
     have HT2:Hid (To b w L wr L'):=T5
     clear S5 T5 I5 LC5 F5 R5 e CZ5 NZ5
     go_wp2_with fail
     refine Ae (Af rfl _ _ _) rfl ⟨rfl,L',HS2.out,HT2.out⟩
 ·have HT:Hid (turn s q0=q0):=zfD hn1
  have S3:Hid (St N V1 b s L):=S1.out
  have T3:Hid (To b w L V1 L):=T1.out
  have cz3:=cz1
  have nz2:Hid (¬own b L z):=nz.out
  have HR1:Hid (((turn s q0).take wi).foldl (staS mach) s=r):=HR0.out s.scr (by rw[if_neg hn1])
  have HA1:Hid (StartI mach K ((turn s q0).take wi) s m):=by rw[HQ0.out];exact StartI.begin HA.out s.scr wi
  have hwi2:Hid (s.wide=(wi:Int)):=HWI.out
  rcases HO.out.2 with⟨ev,h0⟩|⟨g,cap,cur,ev,hgV,_,hgc,hgm,_⟩
  ·subst ev
   have HL3:Hid (LC V1 none q0.length 0 1 (ics (turn s q0))):=by rw[HT.out,List.eq_nil_of_length_eq_zero h0];exact Wi.vb V1 1
   have HF3:Hid (0<q0.length->∀y,(none:Option Addr)=some y->¬own b L y.block):=fun _ y hy=>by cases hy
   rw[h0]at HL3 HF3
   have HH0:Hid (q0.length=0):=h0
   clear h0
   clear HVN HO S1 T1 cz1 nz hzV HWV hql hn1
   have hnn:0<=32:=by omega
   obtain⟨kk,hkk⟩:∃kk,kk=min 0 wi:=⟨_,rfl⟩
   have hkn:kk<=0:=by omega
   have hk4:kk<=4:=by omega
   have hmin:min ((0:Nat):Int) (wi:Int)=(kk:Int):=by rw[hkk];omega
   obtain⟨qs,hqs⟩:∃qs,qs=(turn s q0).take wi:=⟨_,rfl⟩
   have hqt:(turn s q0).take kk=qs:=by
    rw[hqs,hkk]
    have:(turn s q0).length=0:=by have:=HL3.out.len;rw[jk]at this;omega
    rcases Nat.le_total 0 wi with h|h
    ·rw[Aj h,Aa (by omega),Aa (by omega)]
    ·rw[Nat.min_eq_right h]
   have hql2:qs.length=kk:=by
    rw[<-hqt,WZ]
    have:(turn s q0).length=0:=by have:=HL3.out.len;rw[jk]at this;omega
    omega
   have HQL:Hid (qs.length=kk):=hql2
   have HL4:Hid (LC V1 (none:Option Addr) kk 0 1 (ics qs)):=by rw[<-hqt];exact zbl HL3.out kk hkn
   have HF4:Hid (0<kk->∀y,(none:Option Addr)=some y->¬own b L y.block):=fun h=>HF3.out (by omega)
   rw[<-hqs]at HR1 HA1
   have k2:V1.cell? ⟨b,2,none⟩=some (.int .i64 (wi:Int)):=(zd S3.out.row (by omega)).trans (congrArg some (by rw[<-hwi2.out];rfl))
   clear hqs hqt hql2 hkk HL3 HF3 HR0 HA HQ0 HT
   go_upto_region 4 with fail
   go_wp2_with fail
   go_loopw [32] (fun i wr=>∃k:Nat,k<=kk/\i=.int .i64 (k:Int)/\Hid (∃s' L',St N wr b s' L'/\To b w L wr L'/\StartI mach (K+2*k) (qs.drop k) s' m/\(qs.drop k).foldl (staS mach) s'=r/\LC wr (none:Option Addr) kk 0 1 (ics qs)/\(0<kk->∀y,(none:Option Addr)=some y->¬own b L' y.block)/\wr.cell? ⟨z,0,none⟩=some (.pointer (some ⟨b,0,none⟩))/\¬own b L' z))
    (fun i _=>kk-(intOf i).toNat)
   case atStart=>exact⟨0,by omega,rfl,s,L,S3.out,T3.out,⟨HA1.out.al.mono (by omega),HA1.out.nod,HA1.out.are⟩,HR1.out,HL4.out,HF4.out,cz3,nz2.out⟩
   case round=>
    obtain⟨k,hk,rfl,s',L',S5,T5,I5,R5,LC5,F5,CZ5,NZ5⟩:=hrel
    clear S3 T3 HL4 HF4 HA1 HR1 cz3 nz2 k2
    by_cases hlt:k<kk
    ·omega
    ·have e:qs.drop k=[]:=Ag (by rw[HQL.out];omega)
     rw[e]at R5
     have hr:s'=r:=R5
     subst hr
     have HS2:Hid (St N wr b s' L'):=S5
     have HT2:Hid (To b w L wr L'):=T5
     clear S5 T5 I5 LC5 F5 R5 e CZ5 NZ5
     go_wp2_with fail
     refine Ae (Af rfl _ _ _) rfl ⟨rfl,L',HS2.out,HT2.out⟩
  ·subst ev
   obtain⟨a3,d3,e3,hl3,hf3⟩:=Wi.qv HO.out (jA _)
   obtain⟨rfl,rfl⟩:some ⟨g,0,none⟩=a3/\cap=d3:=by injection e3 with e1 e2 e4;exact⟨e1,e4⟩
   have HL3:Hid (LC V1 (some ⟨g,0,none⟩) q0.length cap 1 (ics (turn s q0))):=by rw[HT.out];exact hl3
   have HF3:Hid (0<q0.length->∀y,(some ⟨g,0,none⟩:Option Addr)=some y->¬own b L y.block):=fun _ y hy=>by have:=Ai hy;subst this;exact(HVN.out _ hgV).o
   clear hl3 hf3 e3 HVN HO S1 T1 cz1 nz hzV HWV
   have hnn:q0.length<=32:=by omega
   obtain⟨kk,hkk⟩:∃kk,kk=min q0.length wi:=⟨_,rfl⟩
   have hkn:kk<=q0.length:=by omega
   have hk4:kk<=4:=by omega
   have hmin:min ((q0.length:Nat):Int) (wi:Int)=(kk:Int):=by rw[hkk];omega
   obtain⟨qs,hqs⟩:∃qs,qs=(turn s q0).take wi:=⟨_,rfl⟩
   have hqt:(turn s q0).take kk=qs:=by
    rw[hqs,hkk]
    have:(turn s q0).length=q0.length:=by have:=HL3.out.len;rw[jk]at this;omega
    rcases Nat.le_total q0.length wi with h|h
    ·rw[Aj h,Aa (by omega),Aa (by omega)]
    ·rw[Nat.min_eq_right h]
   have hql2:qs.length=kk:=by
    rw[<-hqt,WZ]
    have:(turn s q0).length=q0.length:=by have:=HL3.out.len;rw[jk]at this;omega
    omega
   have HQL:Hid (qs.length=kk):=hql2
   have HL4:Hid (LC V1 (some ⟨g,0,none⟩:Option Addr) kk cap 1 (ics qs)):=by rw[<-hqt];exact zbl HL3.out kk hkn
   have HF4:Hid (0<kk->∀y,(some ⟨g,0,none⟩:Option Addr)=some y->¬own b L y.block):=fun h=>HF3.out (by omega)
   rw[<-hqs]at HR1 HA1
   have k2:V1.cell? ⟨b,2,none⟩=some (.int .i64 (wi:Int)):=(zd S3.out.row (by omega)).trans (congrArg some (by rw[<-hwi2.out];rfl))
   clear hqs hqt hql2 hkk HL3 HF3 HR0 HA HQ0 HT
   go_upto_region 4 with fail
   go_wp2_with fail
   go_loopw [32] (fun i wr=>∃k:Nat,k<=kk/\i=.int .i64 (k:Int)/\Hid (∃s' L',St N wr b s' L'/\To b w L wr L'/\StartI mach (K+2*k) (qs.drop k) s' m/\(qs.drop k).foldl (staS mach) s'=r/\LC wr (some ⟨g,0,none⟩:Option Addr) kk cap 1 (ics qs)/\(0<kk->∀y,(some ⟨g,0,none⟩:Option Addr)=some y->¬own b L' y.block)/\wr.cell? ⟨z,0,none⟩=some (.pointer (some ⟨b,0,none⟩))/\¬own b L' z))
    (fun i _=>kk-(intOf i).toNat)
   case atStart=>exact⟨0,by omega,rfl,s,L,S3.out,T3.out,⟨HA1.out.al.mono (by omega),HA1.out.nod,HA1.out.are⟩,HR1.out,HL4.out,HF4.out,cz3,nz2.out⟩
   case round=>
    obtain⟨k,hk,rfl,s',L',S5,T5,I5,R5,LC5,F5,CZ5,NZ5⟩:=hrel
    clear S3 T3 HL4 HF4 HA1 HR1 cz3 nz2 k2
    by_cases hlt:k<kk
    ·obtain⟨q,hq⟩:∃q,qs[k]?=some q:=⟨_,Ak (by rw[HQL.out];exact hlt)⟩
     have hdr:=zbj hq
     rw[hdr]at I5 R5
     rw[Ap]at R5
     obtain⟨ga,oa,ea,hga,hca⟩:=LC5.sure (by omega)
     obtain⟨rfl,rfl⟩:g=ga/\0=oa:=by injection ea with e1;injection e1 with e1 e2;exact⟨e1,e2⟩
     have cs:wr.cell? ⟨g,k,none⟩=some (.int .i64 q):=by simpa using hca k _ (jR hq)
     have HS2:Hid (St N wr b s' L'):=S5
     have HT2:Hid (To b w L wr L'):=T5
     have HI3:Hid (StartI mach (K+2*k+2) (qs.drop (k+1)) (staS mach s' q) m):=I5.step zM jE
     have HR2:Hid ((qs.drop (k+1)).foldl (staS mach) (staS mach s' q)=r):=R5
     have HLC:Hid (LC wr (some ⟨g,0,none⟩:Option Addr) kk cap 1 (ics qs)/\(0<kk->∀y,(some ⟨g,0,none⟩:Option Addr)=some y->¬own b L' y.block)):=⟨LC5,F5⟩
     have HCZ:Hid (wr.cell? ⟨z,0,none⟩=some (.pointer (some ⟨b,0,none⟩))/\¬own b L' z):=⟨CZ5,NZ5⟩
     have hln':=I5.al.len
     have hrise:=I5.al.inv.rise
     have hK3:K+2*(k:Int)<=7000100:=by omega
     clear hca hga hdr R5 LC5 F5 T5 hq
     cases hfd:s'.under.find? (fun p=>decide (p.seq=q))with
     |none=>
      have e:=zcp hfd
      rw[e]at HI3 HR2
      have CF:Hid (Calls prog 58 #[.pointer (some ⟨b,0,none⟩),.int .i64 q] wr fun e w'=>e=.returned (.int .i64 (-1))/\Below wr.heap.size wr w'):=by
       have:=qO S5 q s'.under.length (zbh hfd) (by omega)
       rw[if_neg (by omega)]at this
       exact this
      clear e hfd S5 I5 hrise hln'
      go_wp2_with fail
      refine CF.out.mono ?_
      rintro e V6 ⟨rfl,hk2⟩
      have t2:=ze (b:=b) L' hk2
      have S6:Hid (St N V6 b s' L'):=HS2.out.below hk2
      have T6:Hid (To b w L V6 L'):=HT2.out.trans t2
      have L6:Hid (LC V6 (some ⟨g,0,none⟩:Option Addr) kk cap 1 (ics qs)/\(0<kk->∀y,(some ⟨g,0,none⟩:Option Addr)=some y->¬own b L' y.block)):=qy HLC.out.1 HLC.out.2 t2
      have Z6:Hid (V6.cell? ⟨z,0,none⟩=some (.pointer (some ⟨b,0,none⟩))/\¬own b L' z):=⟨zn hk2 HCZ.out.1,HCZ.out.2⟩
      clear hk2 t2 CF HS2 HT2 HLC HCZ cs CZ5 NZ5
      go_wp2_with fail
      exact⟨⟨k+1,by omega,by go_num,s',L',S6.out,T6.out,⟨HI3.out.al.mono (by push_cast;omega),HI3.out.nod,HI3.out.are⟩,HR2.out,L6.out.1,L6.out.2,Z6.out.1,Z6.out.2⟩,by simp[intOf];omega⟩
     |some o=>
      obtain⟨l1,l2,hu,hoq⟩:=jK hfd
      subst hoq
      have ho1:=I5.are o.seq (Am ..) o (by rw[hu];simp) rfl
      obtain⟨j,hj⟩:∃j,j=l1.length:=⟨_,rfl⟩
      have hjo:s'.under[j]?=some o:=by rw[hu,hj];simp
      have hjl:j<s'.under.length:=(Ab.1 hjo).1
      have CF:Hid (Calls prog 58 #[.pointer (some ⟨b,0,none⟩),.int .i64 o.seq] wr fun e w'=>e=.returned (.int .i64 (j:Int))/\Below wr.heap.size wr w'):=by
       have:=qO S5 o.seq j (by rw[hj];exact jP hu hrise) (by omega)
       rw[if_pos hjl]at this
       exact this
      have HC1:Hid (∀W,St N W b s' L'->Calls prog 63 #[.pointer (some ⟨b,0,none⟩),.int .i64 (j:Int)] W fun e w'=>e=.returned (.tuple #[])/\∃L'',St N w' b (staS mach s' o.seq) L''/\To b W L' w' L''):=fun W SW=>by
       rw[hj,zdp hu hrise]
       exact kE SW I5.al (by omega) hu ho1.1
      have hju:¬((j:Int)<0):=by omega
      have hju2:(0:Int)<=(j:Int):=by omega
      clear hfd hu hj I5 hrise S5 ho1 hjo hjl
      go_wp2_with fail
      refine CF.out.mono ?_
      rintro e V6 ⟨rfl,hk2⟩
      have t2:=ze (b:=b) L' hk2
      have S6:Hid (St N V6 b s' L'):=HS2.out.below hk2
      have T6:Hid (To b w L V6 L'):=HT2.out.trans t2
      have L6:Hid (LC V6 (some ⟨g,0,none⟩:Option Addr) kk cap 1 (ics qs)/\(0<kk->∀y,(some ⟨g,0,none⟩:Option Addr)=some y->¬own b L' y.block)):=qy HLC.out.1 HLC.out.2 t2
      have Z6:V6.cell? ⟨z,0,none⟩=some (.pointer (some ⟨b,0,none⟩)):=zn hk2 HCZ.out.1
      have Y6:Hid (¬own b L' z):=HCZ.out.2
      clear hk2 t2 CF HS2 HT2 HLC HCZ cs CZ5 NZ5
      go_wp2_with fail
      refine(HC1.out _ S6.out).mono ?_
      rintro e V7 ⟨rfl,L7,u1,u2⟩
      have S7:Hid (St N V7 b (staS mach s' o.seq) L7):=u1
      have T7:Hid (To b w L V7 L7):=T6.out.trans u2
      have Q7:Hid (LC V7 (some ⟨g,0,none⟩:Option Addr) kk cap 1 (ics qs)/\(0<kk->∀y,(some ⟨g,0,none⟩:Option Addr)=some y->¬own b L7 y.block)):=qy L6.out.1 L6.out.2 u2
      have Z7:Hid (V7.cell? ⟨z,0,none⟩=some (.pointer (some ⟨b,0,none⟩))/\¬own b L7 z):=⟨jt Z6 u2 Y6.out,qm u2.fresh Y6.out (Ad _ _ Z6)⟩
      clear u1 u2 S6 T6 L6 HC1 Z6 Y6
      go_wp2_with fail
      exact⟨⟨k+1,by omega,by go_num,_,L7,S7.out,T7.out,⟨HI3.out.al.mono (by push_cast;omega),HI3.out.nod,HI3.out.are⟩,HR2.out,Q7.out.1,Q7.out.2,Z7.out.1,Z7.out.2⟩,by simp[intOf];omega⟩
    ·have e:qs.drop k=[]:=Ag (by rw[HQL.out];omega)
     rw[e]at R5
     have hr:s'=r:=R5
     subst hr
     have HS2:Hid (St N wr b s' L'):=S5
     have HT2:Hid (To b w L wr L'):=T5
     clear S5 T5 I5 LC5 F5 R5 e CZ5 NZ5
     go_wp2_with fail
     refine Ae (Af rfl _ _ _) rfl ⟨rfl,L',HS2.out,HT2.out⟩
theorem zdv{t:Tb}(pc g:Int)(tk:Bool)(hp:U32 pc)(w:World):Calls prog 117 #[.agg (rowOf (tat t) 64),.int .u32 pc,.bool tk,.int .u32 g] w fun e w'=>e=.returned (.agg (rowOf (tat (lbM t pc tk g)) 64))/\Below w.heap.size w w':=by
 rw[<-kZ,<-kZ]
 exact Gu.gB t pc g hp.1 hp.2 tk w
theorem zmt{t:Tb}(ht:Gu.TbOk t)(pc v:Int)(hp:U32 pc)(hv:U32 v)(w:World):Calls prog 118 #[.agg (rowOf (tat t) 64),.int .u32 pc,.int .u32 v] w fun e w'=>e=.returned (.agg (rowOf (tat (lvM t pc v)) 64))/\Below w.heap.size w w':=by
 rw[<-kZ,<-kZ]
 exact Gu.gV t ht pc v hp.1 hp.2 hv.1 hv.2 w
theorem zmu(t:Tb)(i:Nat):(tat t i).oneCell'=true:=by
 unfold tat
 split
 ·split<;>rfl
 ·split
  ·rfl
  ·split
   ·rfl
   ·split<;>rfl
theorem zdw(t:Tb):(rowOf (tat t) 64).all (·.oneCell')=true:=ja _ _ fun i _=>zmu t i
theorem zdx(t:Tb):(prog.info? 56).map (·.size)=some (rowOf (tat t) 64).size:=by rw[zf];exact Gu.yc
theorem Bx.cm{w:World}{q:Nat}{o:Dg}(h:Bx w q o):w.rangeAt q 17 (cC o.c).toList:=zew h fun i v hi=>by
 have hl:i<11:=by have:=(Ab.1 hi).1;simpa[cC]using this
 rcases(by omega:i=0\/i=1\/i=2\/i=3\/i=4\/i=5\/i=6\/i=7\/i=8\/i=9\/i=10)with rfl|rfl|rfl|rfl|rfl|rfl|rfl|rfl|rfl|rfl|rfl<;>exact hi
theorem zkA{i:In}(h:trn i=true):ldn i.op=0:=by
 have h':4<=i.op/\i.op<=10:=by simpa[trn]using h
 unfold ldn
 rw[if_neg (by omega),if_neg (by omega),if_neg (by omega)]
theorem xC{N:Nat}{w:World}{b:Nat}{s:Cr}{L:Sls}(S:St N w b s L)(ht:Gu.TbOk s.tb)(o:Dg)(hp:U32 o.pc)(hc:CmR o.c):
  Calls prog 80 #[.pointer (some ⟨b,0,none⟩),dgv o] w fun e w'=>e=.returned (.tuple #[])/\St N w' b {s with tb:=learn mach s.tb o} L/\To b w L w' L:=by
 obtain⟨r,hr⟩:∃r,r=learn mach s.tb o:=⟨_,rfl⟩
 rw[<-hr]
 obtain⟨E,hE⟩:∃E,E=(cC o.c).toList.toArray:=⟨_,rfl⟩
 have HE:Hid (E=(cC o.c).toList.toArray):=hE
 have HI:Hid ((prog.info? 68).map (·.size)=some E.size/\11=E.size/\E.all (·.oneCell')=true):=by rw[hE];exact⟨za,rfl,vK o.c⟩
 have CT:=fun W=>zau o.i W
 have CL:=fun W=>jd o.i.op W
 obtain⟨y,hy⟩:∃y,IntKind.u32.wrap (o.pc+4)=y:=⟨_,rfl⟩
 have ey:(o.pc+4)%4294967296=y:=by rw[<-hy,zfx]
 have HTK:Hid (∀tk,tk=(decide (o.i.op=4)||!decide (o.c.next=y))->r=learn mach s.tb o/\(trn o.i=true->r=lbM s.tb o.pc tk o.c.next)/\(trn o.i=false->r=if ldn o.i.op≠0/\o.c.rd≠0 then lvM s.tb o.pc o.c.val else s.tb)):=fun tk htk=>by
  refine⟨hr,fun h=>?_,fun h=>?_⟩
  ·rw[hr]
   unfold learn
   simp only[h,if_true]
   rw[zkA h,if_neg (by simp),ey,<-htk]
   rfl
  ·rw[hr]
   unfold learn
   simp only[h,Bool.false_eq_true,if_false]
   rfl
 clear hr hE ey
 go_enter func80,ntmps80
 go_upto_region 1 with fail
 refine Wi.zj (Φ:=fun W=>WY _ _ _ _ W) ?_
 intro V hV hVb
 have BV:Hid (Bx V w.heap.size o):=hV
 have SV:Hid (St N V b s L):=S.below hVb
 have TV:Hid (To b w L V L):=ze L hVb
 have hzo:Hid (¬own b L w.heap.size):=fun h=>by have:=qN S h;omega
 clear hV hVb S
 generalize w.heap.size=z at*
 go_upto_region 2 with(first|(refine Aq rfl 68 _ rfl z 17 rfl (cC o.c).toList _ BV.out.cm underlying68 rfl (vT o.c) ?_;rw[<-HE.out])|(refine wpList_store_row rfl 68 _ _ rfl _ _ rfl rfl 68 _ (heap_alloc_new _ _) HI.out.1 HI.out.2.1 HI.out.2.2 ?_;rw[World.setRow_alloc_new]))
 refine Wi.zj (Φ:=fun W=>WY _ _ _ _ W) ?_
 intro V1 h1 hb
 have C1:Hid (Cb V1 V.heap.size o.c):=by show _=_;rw[h1,HE.out]
 have B1:Hid (Bx V1 z o):=BV.out.below hb
 have S1:Hid (St N V1 b s L):=SV.out.below hb
 have T1:Hid (To b w L V1 L):=TV.out.trans (ze L hb)
 clear h1 hb BV SV TV HI HE
 generalize V.heap.size=p at*
 go_wp2_with(refine Aq rfl 78 _ rfl z 2 rfl (ivL o.i).toList _ (xh B1.out) underlying78 rfl (qK _) ?_)
 refine(CT _).mono ?_
 rintro e V2 ⟨rfl,hk2⟩
 have C2:Hid (Cb V2 p o.c):=C1.out.below hk2
 have B2:Hid (Bx V2 z o):=B1.out.below hk2
 have S2:Hid (St N V2 b s L):=S1.out.below hk2
 have T2:Hid (To b w L V2 L):=T1.out.trans (ze L hk2)
 clear hk2 C1 B1 S1 T1 CT
 have c2:V2.cell? ⟨z,2,none⟩=some (.int .i64 o.i.op):=zl B2.out 2 rfl
 have c1:V2.cell? ⟨z,1,none⟩=some (.int .u32 o.pc):=zl B2.out 1 rfl
 have n1:V2.cell? ⟨p,1,none⟩=some (.int .u32 o.c.next):=qQ C2.out 1 rfl
 have l0:=yk o.i.op
 cases htr:trn o.i with
 |true=>
  have hl0:=zkA htr
  rw[hl0]at CL
  have HTK2:Hid (∀tk,tk=(decide (o.i.op=4)||!decide (o.c.next=y))->r=lbM s.tb o.pc tk o.c.next):=fun tk h=>(HTK.out tk h).2.1 htr
  clear HTK htr hl0 l0
  obtain⟨op,hop⟩:∃op,op=o.i.op:=⟨_,rfl⟩
  obtain⟨nx,hnx⟩:∃nx,nx=o.c.next:=⟨_,rfl⟩
  rw[<-hop]at c2 HTK2 CL
  rw[<-hnx]at n1 HTK2
  have HOP:Hid (op=o.i.op):=hop
  have HNX:Hid (nx=o.c.next):=hnx
  clear hop hnx
  by_cases h4:op=4
  ·have htk:r=lbM s.tb o.pc true nx:=HTK2.out true (by simp[h4])
   subst h4
   clear HTK2
   have CB:Hid (∀W,Calls prog 117 #[.agg (rowOf (tat s.tb) 64),.int .u32 o.pc,.bool true,.int .u32 nx] W fun e w'=>e=.returned (.agg (rowOf (tat r) 64))/\Below W.heap.size W w'):=by rw[htk];exact fun W=>zdv o.pc nx true hp W
   clear htk
   go_upto_region 4 with fail
   refine zq (S:=fun w'=>w'.rangeAt b 43 (tbL s.tb)/\w'.cell? ⟨z,1,none⟩=some (.int .u32 o.pc)/\w'.cell? ⟨p,1,none⟩=some (.int .u32 nx)) [13] (by kernel_rfl) (⟨S2.out.table,c1,n1⟩) (fun hH=>?_)
   refine tU 0 (.pointer (some ⟨b,0,none⟩)) ?_;go_simp
   refine tU 1 (.pointer (some ⟨b,0,none⟩)) ?_;go_simp
   refine tU 2 (.pointer (some ⟨b,0,none⟩)) ?_;go_simp
   refine tU 3 (.pointer (some ⟨b,43,none⟩)) ?_;go_simp
   refine tS 4 (.agg (tbL s.tb).toArray) rfl (Ah (by rfl) 56 _ rfl _ _ rfl (tbL s.tb) _ (fun wz hSw=>hSw.1) underlying56 rfl (xB _)) hH ?_;go_simp
   refine tU 5 (.pointer (some ⟨z,1,none⟩)) ?_;go_simp
   refine tS 6 (.int .u32 o.pc) rfl (Or.inl ⟨by rfl,by intro wz hSw;have hc:=hSw.2.1;go_simp⟩) hH ?_;go_simp
   refine tU 7 (.bool true) ?_;go_simp
   refine tU 8 (.pointer (some ⟨p,1,none⟩)) ?_;go_simp
   refine tS 9 (.int .u32 nx) rfl (Or.inl ⟨by rfl,by intro wz hSw;have hc:=hSw.2.2;go_simp⟩) hH ?_;go_simp
   refine zC 10 rfl (fun K hK=>?_)
   go_simp
   refine(CB.out _).mono ?_
   rintro e V4 ⟨rfl,hk4⟩
   have HK4:Hid (Below V2.heap.size V2 V4):=zg hk4 (Ao _)
   go_wp2_with fail
   refine hK.out _ _ (⟨xg hk4 (hH.1),zn hk4 (hH.2.1),zn hk4 (hH.2.2)⟩) (fun hN=>?_)
   clear hK K hH
   have hH:=hN
   clear hN
   try go_simp
   have S4:Hid (St N V4 b s L):=S2.out.below HK4.out
   obtain⟨s5,t5⟩:=S4.out.setTb r
   have S5:Hid (St N (V4.setCells b 43 (rowOf (tat r) 64).toList) b {s with tb:=r} L):=s5
   have T5:Hid (To b w L (V4.setCells b 43 (rowOf (tat r) 64).toList) L):=(T2.out.trans (ze L HK4.out)).trans t5
   have B5:Hid (Bx (V4.setCells b 43 (rowOf (tat r) 64).toList) z o):=(B2.out.below HK4.out).to t5 hzo.out
   clear s5 t5
   refine tU 11 (.pointer (some ⟨b,0,none⟩)) ?_;go_simp
   refine tU 12 (.pointer (some ⟨b,43,none⟩)) ?_;go_simp
   refine zL 13 rfl (fun K hK=>?_)
   rw[if_pos (by rfl)]
   refine An 56 _ _ rfl b 43 (rowOf (tat r) 64) rfl rfl (by rw[zf];exact S4.out.there 43 64 (by omega)) (zdx r) (zdw r) ?_
   refine hK.out _ _ ?_
   clear hK K
   try go_simp
   refine zE (by kernel_rfl) ?_ _
   clear hH HK4 S4 S2 T2 B2 C2 c1 c2 n1 CB
   generalize V4.setCells b 43 (rowOf (tat r) 64).toList=V5 at*
   have c2:V5.cell? ⟨z,2,none⟩=some (.int .i64 4):=zl B5.out 2 (by first|rfl|(rw[HOP.out];rfl))
   go_wp2_with fail
   refine(CL _).mono ?_
   rintro e V6 ⟨rfl,hk6⟩
   subst hk6
   go_wp2_with fail
   refine Ae (Af rfl _ _ _) rfl ⟨rfl,S5.out,T5.out⟩
  ·have h4':(op==4)=false:=by simpa using h4
   by_cases hn:nx=y
   case' pos=>
    have htk:r=lbM s.tb o.pc false nx:=HTK2.out false (by simp[h4,hn])
    have hn':(nx != y)=false:=by simp[hn]
    clear HTK2 hn h4
    have CB:Hid (∀W,Calls prog 117 #[.agg (rowOf (tat s.tb) 64),.int .u32 o.pc,.bool false,.int .u32 nx] W fun e w'=>e=.returned (.agg (rowOf (tat r) 64))/\Below W.heap.size W w'):=by rw[htk];exact fun W=>zdv o.pc nx false hp W
    clear htk
    go_upto_region 4 with fail
    refine zq (S:=fun w'=>w'.rangeAt b 43 (tbL s.tb)/\w'.cell? ⟨z,1,none⟩=some (.int .u32 o.pc)/\w'.cell? ⟨p,1,none⟩=some (.int .u32 nx)) [13] (by kernel_rfl) (⟨S2.out.table,c1,n1⟩) (fun hH=>?_)
    refine tU 0 (.pointer (some ⟨b,0,none⟩)) ?_;go_simp
    refine tU 1 (.pointer (some ⟨b,0,none⟩)) ?_;go_simp
    refine tU 2 (.pointer (some ⟨b,0,none⟩)) ?_;go_simp
    refine tU 3 (.pointer (some ⟨b,43,none⟩)) ?_;go_simp
    refine tS 4 (.agg (tbL s.tb).toArray) rfl (Ah (by rfl) 56 _ rfl _ _ rfl (tbL s.tb) _ (fun wz hSw=>hSw.1) underlying56 rfl (xB _)) hH ?_;go_simp
    refine tU 5 (.pointer (some ⟨z,1,none⟩)) ?_;go_simp
    refine tS 6 (.int .u32 o.pc) rfl (Or.inl ⟨by rfl,by intro wz hSw;have hc:=hSw.2.1;go_simp⟩) hH ?_;go_simp
    refine tU 7 (.bool false) ?_;go_simp
   case' neg=>
    have htk:r=lbM s.tb o.pc true nx:=HTK2.out true (by simp[h4,hn])
    have hn':(nx != y)=true:=by simp[hn]
    clear HTK2 hn h4
    have CB:Hid (∀W,Calls prog 117 #[.agg (rowOf (tat s.tb) 64),.int .u32 o.pc,.bool true,.int .u32 nx] W fun e w'=>e=.returned (.agg (rowOf (tat r) 64))/\Below W.heap.size W w'):=by rw[htk];exact fun W=>zdv o.pc nx true hp W
    clear htk
    go_upto_region 4 with fail
    refine zq (S:=fun w'=>w'.rangeAt b 43 (tbL s.tb)/\w'.cell? ⟨z,1,none⟩=some (.int .u32 o.pc)/\w'.cell? ⟨p,1,none⟩=some (.int .u32 nx)) [13] (by kernel_rfl) (⟨S2.out.table,c1,n1⟩) (fun hH=>?_)
    refine tU 0 (.pointer (some ⟨b,0,none⟩)) ?_;go_simp
    refine tU 1 (.pointer (some ⟨b,0,none⟩)) ?_;go_simp
    refine tU 2 (.pointer (some ⟨b,0,none⟩)) ?_;go_simp
    refine tU 3 (.pointer (some ⟨b,43,none⟩)) ?_;go_simp
    refine tS 4 (.agg (tbL s.tb).toArray) rfl (Ah (by rfl) 56 _ rfl _ _ rfl (tbL s.tb) _ (fun wz hSw=>hSw.1) underlying56 rfl (xB _)) hH ?_;go_simp
    refine tU 5 (.pointer (some ⟨z,1,none⟩)) ?_;go_simp
    refine tS 6 (.int .u32 o.pc) rfl (Or.inl ⟨by rfl,by intro wz hSw;have hc:=hSw.2.1;go_simp⟩) hH ?_;go_simp
    refine tU 7 (.bool true) ?_;go_simp
   all_goals
    refine tU 8 (.pointer (some ⟨p,1,none⟩)) ?_;go_simp
    refine tS 9 (.int .u32 nx) rfl (Or.inl ⟨by rfl,by intro wz hSw;have hc:=hSw.2.2;go_simp⟩) hH ?_;go_simp
    refine zC 10 rfl (fun K hK=>?_)
    go_simp
    refine(CB.out _).mono ?_
    rintro e V4 ⟨rfl,hk4⟩
    have HK4:Hid (Below V2.heap.size V2 V4):=zg hk4 (Ao _)
    go_wp2_with fail
    refine hK.out _ _ (⟨xg hk4 (hH.1),zn hk4 (hH.2.1),zn hk4 (hH.2.2)⟩) (fun hN=>?_)
    clear hK K hH
    have hH:=hN
    clear hN
    try go_simp
    have S4:Hid (St N V4 b s L):=S2.out.below HK4.out
    obtain⟨s5,t5⟩:=S4.out.setTb r
    have S5:Hid (St N (V4.setCells b 43 (rowOf (tat r) 64).toList) b {s with tb:=r} L):=s5
    have T5:Hid (To b w L (V4.setCells b 43 (rowOf (tat r) 64).toList) L):=(T2.out.trans (ze L HK4.out)).trans t5
    have B5:Hid (Bx (V4.setCells b 43 (rowOf (tat r) 64).toList) z o):=(B2.out.below HK4.out).to t5 hzo.out
    clear s5 t5
    refine tU 11 (.pointer (some ⟨b,0,none⟩)) ?_;go_simp
    refine tU 12 (.pointer (some ⟨b,43,none⟩)) ?_;go_simp
    refine zL 13 rfl (fun K hK=>?_)
    rw[if_pos (by rfl)]
    refine An 56 _ _ rfl b 43 (rowOf (tat r) 64) rfl rfl (by rw[zf];exact S4.out.there 43 64 (by omega)) (zdx r) (zdw r) ?_
    refine hK.out _ _ ?_
    clear hK K
    try go_simp
    refine zE (by kernel_rfl) ?_ _
    clear hH HK4 S4 S2 T2 B2 C2 c1 c2 n1 CB
    generalize V4.setCells b 43 (rowOf (tat r) 64).toList=V5 at*
    have c2:V5.cell? ⟨z,2,none⟩=some (.int .i64 op):=zl B5.out 2 (by first|rfl|(rw[HOP.out];rfl))
    go_wp2_with fail
    refine(CL _).mono ?_
    rintro e V6 ⟨rfl,hk6⟩
    subst hk6
    go_wp2_with fail
    refine Ae (Af rfl _ _ _) rfl ⟨rfl,S5.out,T5.out⟩
 |false=>
  have hr:=(HTK.out _ rfl).2.2 htr
  clear HTK htr
  obtain⟨ld,hld⟩:∃ld,ld=ldn o.i.op:=⟨_,rfl⟩
  rw[<-hld]at CL hr l0
  obtain⟨k,hk⟩:∃k,k=o.c.rd:=⟨_,rfl⟩
  rw[<-hk]at hr
  have c4:V2.cell? ⟨p,4,none⟩=some (.int .i64 (k:Int)):=qQ C2.out 4 (by rw[hk];rfl)
  have HR:Hid (r=if ld≠0/\k≠0 then lvM s.tb o.pc o.c.val else s.tb):=hr
  clear hld hk hr n1
  go_wp2_with fail
  refine(CL _).mono ?_
  rintro e V3 ⟨rfl,hk3⟩
  subst hk3
  clear CL
  by_cases h0:ld=0
  ·have hr:=HR.out
   rw[if_neg (by rw[h0];exact fun h=>h.1 rfl)]at hr
   subst hr h0
   clear HR
   go_wp2_with fail
   refine Ae (Af rfl _ _ _) rfl ⟨rfl,S2.out,T2.out⟩
  ·have hgt:(0:Int)<ld:=by omega
   by_cases hk0:k=0
   ·have hr:=HR.out
    rw[if_neg (by rw[hk0];exact fun h=>h.2 rfl)]at hr
    subst hr
    have c4':V3.cell? ⟨p,4,none⟩=some (.int .i64 0):=by rw[c4,hk0];rfl
    clear HR c4 hk0 h0
    go_wp2_with fail
    refine Ae (Af rfl _ _ _) rfl ⟨rfl,S2.out,T2.out⟩
   ·have hr:=HR.out
    rw[if_pos ⟨h0,hk0⟩]at hr
    have HR2:Hid (r=lvM s.tb o.pc o.c.val):=hr
    have hkb:((k:Int) != 0)=true:=by simp[hk0]
    have c5:V3.cell? ⟨p,5,none⟩=some (.int .u32 o.c.val):=qQ C2.out 5 rfl
    have CV:Hid (∀W,Calls prog 118 #[.agg (rowOf (tat s.tb) 64),.int .u32 o.pc,.int .u32 o.c.val] W fun e w'=>e=.returned (.agg (rowOf (tat r) 64))/\Below W.heap.size W w'):=by rw[hr];exact fun W=>zmt ht o.pc o.c.val hp hc.val W
    clear HR hr hk0 h0
    go_upto_region 6 with fail
    refine zq (S:=fun w'=>w'.rangeAt b 43 (tbL s.tb)/\w'.cell? ⟨z,1,none⟩=some (.int .u32 o.pc)/\w'.cell? ⟨p,5,none⟩=some (.int .u32 o.c.val)) [12] (by kernel_rfl) (⟨S2.out.table,c1,c5⟩) (fun hH=>?_)
    refine tU 0 (.pointer (some ⟨b,0,none⟩)) ?_;go_simp
    refine tU 1 (.pointer (some ⟨b,0,none⟩)) ?_;go_simp
    refine tU 2 (.pointer (some ⟨b,0,none⟩)) ?_;go_simp
    refine tU 3 (.pointer (some ⟨b,43,none⟩)) ?_;go_simp
    refine tS 4 (.agg (tbL s.tb).toArray) rfl (Ah (by rfl) 56 _ rfl _ _ rfl (tbL s.tb) _ (fun wz hSw=>hSw.1) underlying56 rfl (xB _)) hH ?_;go_simp
    refine tU 5 (.pointer (some ⟨z,1,none⟩)) ?_;go_simp
    refine tS 6 (.int .u32 o.pc) rfl (Or.inl ⟨by rfl,by intro wz hSw;have hc:=hSw.2.1;go_simp⟩) hH ?_;go_simp
    refine tU 7 (.pointer (some ⟨p,5,none⟩)) ?_;go_simp
    refine tS 8 (.int .u32 o.c.val) rfl (Or.inl ⟨by rfl,by intro wz hSw;have hc:=hSw.2.2;go_simp⟩) hH ?_;go_simp
    refine zC 9 rfl (fun K hK=>?_)
    go_simp
    refine(CV.out _).mono ?_
    rintro e V4 ⟨rfl,hk4⟩
    have HK4:Hid (Below V3.heap.size V3 V4):=zg hk4 (Ao _)
    go_wp2_with fail
    refine hK.out _ _ (⟨xg hk4 (hH.1),zn hk4 (hH.2.1),zn hk4 (hH.2.2)⟩) (fun hN=>?_)
    clear hK K hH
    have hH:=hN
    clear hN
    try go_simp
    have S4:Hid (St N V4 b s L):=S2.out.below HK4.out
    obtain⟨s5,t5⟩:=S4.out.setTb r
    have S5:Hid (St N (V4.setCells b 43 (rowOf (tat r) 64).toList) b {s with tb:=r} L):=s5
    have T5:Hid (To b w L (V4.setCells b 43 (rowOf (tat r) 64).toList) L):=(T2.out.trans (ze L HK4.out)).trans t5
    have B5:Hid (Bx (V4.setCells b 43 (rowOf (tat r) 64).toList) z o):=(B2.out.below HK4.out).to t5 hzo.out
    clear s5 t5
    refine tU 10 (.pointer (some ⟨b,0,none⟩)) ?_;go_simp
    refine tU 11 (.pointer (some ⟨b,43,none⟩)) ?_;go_simp
    refine zL 12 rfl (fun K hK=>?_)
    rw[if_pos (by rfl)]
    refine An 56 _ _ rfl b 43 (rowOf (tat r) 64) rfl rfl (by rw[zf];exact S4.out.there 43 64 (by omega)) (zdx r) (zdw r) ?_
    refine hK.out _ _ ?_
    clear hK K
    try go_simp
    refine zE (by kernel_rfl) ?_ _
    clear hH
    go_wp2_with fail
    refine Ae (Af rfl _ _ _) rfl ⟨rfl,S5.out,T5.out⟩
end Go.Proofs.YtpiohehijkpghacGreatDoor.Co
