/- What a load sees: the program. -/
import Derived.Test.YtpiohehijkpghabGreatDoorS21
import Derived.Test.YtpiohehijkpghabGreatDoorS09
import Derived.Test.YtpiohehijkpghabGreatDoorS20
set_option maxRecDepth 20000
set_option maxHeartbeats 2000000
set_option linter.unusedSimpArgs false
set_option linter.unusedVariables false
open Go.Proofs.Tryz
namespace Go.Proofs.YtpiohehijkpghabGreatDoor.Od
open Go.Proofs.YtpiohehijkpghabGreatDoor.Wi
open Go.RowKit
open Hy
def Told(o:Option Int)(y:Int)(f:Bool):Prop:=f=o.isSome/\y=o.getD 0
theorem told_none{o:Option Int}(h:o=none):Told o 0 false:=by subst h;exact⟨rfl,rfl⟩
theorem vc{o:Option Int}{y:Int}(h:o=some y):Told o y true:=by subst h;exact⟨rfl,rfl⟩
theorem Told.none'{y:Int}{f:Bool}(h:Told none y f):y=0/\f=false:=⟨h.2,h.1⟩
theorem Told.some'{z y:Int}{f:Bool}(h:Told (some z) y f):y=z/\f=true:=⟨h.2,h.1⟩
theorem zoa(a:Option Addr)(n c:Nat)(seq:Int)(l:List Ac)(hm:Hid (FirstA (sto1 seq) l n))(hn:n<=140737488355328)(w:World)(hL:Hid (LC w a n c 7 (acs l))):
  Calls prog 134 #[.slice a n c,.int .i64 seq] w fun e w'=>e=.returned (.tuple #[.int .i64 0,.bool false])/\Below w.heap.size w w':=by
 have hmf:∀(fn:Fn) (first cap:Array Value) (w:World),(Instr.makeFunc fn first cap).run prog w=.ok (.func fn first cap) w:=fun _ _ _ _=>rfl
 go_enter func134,ntmps134
 go_wp2_with fail
 refine zA (Φ:=fun W=>Calls _ _ _ W _) ?_
 intro V hV hVb
 have HV:Hid (Below w.heap.size w V):=hVb
 have HA:Hid (Asks 152 w.heap.size (sto1 seq) V):=zej _ _ _ ((cell_of_row _ _ _ _ _ _ hV).trans rfl)
 clear hV hVb
 refine(qj 152 w.heap.size (sto1 seq) zkE a n c (by omega) l n hm (-1) (show _=_ by simp) V (hL.out.below (Nat.le_refl _) HV.out) HA).mono ?_
 rintro e W1 ⟨rfl,hb⟩
 have HB:Hid (Below w.heap.size w W1):=HV.out.trans (hb.mono HV.out.size)
 clear hb HA HV
 go_wp2_with fail
 refine bodyPost_ret (v:=.tuple #[.int .i64 0,.bool false]) ?_ rfl ⟨rfl,HB.out⟩
 simp[results,results134,asAddr]
theorem zfD(a:Option Addr)(n c:Nat)(seq:Int)(l:List Ac)(hok:Hid (∀q∈l,q.Ok))(m:Nat)(hm:Hid (FirstA (sto1 seq) l m))(hmn:m<n)(s:Ac)(hs:Hid (l[m]?=some s))(y0:Int)(f0:Bool)(hT:Hid (Told (lst l s n) y0 f0))(hn:n<=140737488355328)(w:World)(hL:Hid (LC w a n c 7 (acs l))):
  Calls prog 134 #[.slice a n c,.int .i64 seq] w fun e w'=>e=.returned (.tuple #[.int .i64 y0,.bool f0])/\Below w.heap.size w w':=by
 have hmf:∀(fn:Fn) (first cap:Array Value) (w:World),(Instr.makeFunc fn first cap).run prog w=.ok (.func fn first cap) w:=fun _ _ _ _=>rfl
 have hlen:Hid (l.length=n):=by have:=hL.out.len;rw[vb]at this;show _=_;omega
 have hso:Hid s.Ok:=hok.out s (List.mem_of_getElem? hs.out)
 have hsq:Hid (s.seq=seq):=by
  have:=hm.out.yes _ hs.out
  unfold sto1 at this
  simp only[Bool.and_eq_true,decide_eq_true_eq]at this
  exact this.2
 obtain⟨bb,o,rfl,hb,hc⟩:=hL.out.sure (by omega)
 have HC:Hid (∀j u,(acs l)[j]?=some u->w.cell? ⟨bb,o+j,none⟩=some u):=hc
 clear hc
 go_enter func134,ntmps134
 go_wp2_with fail
 refine zA (Φ:=fun W=>Calls _ _ _ W _) ?_
 intro V0 hV hVb
 have HV:Hid (Below w.heap.size w V0):=hVb
 have cs0:V0.cell? ⟨w.heap.size,0,none⟩=some (.int .i64 seq):=(cell_of_row _ _ _ _ _ _ hV).trans rfl
 have hw0:w.heap.size<V0.heap.size:=zr hV
 have HA:Hid (Asks 152 w.heap.size (sto1 seq) V0):=zej _ _ _ cs0
 clear hV hVb
 refine(qj 152 w.heap.size (sto1 seq) zkE _ n c (by omega) l m hm m (show _=_ by rw[if_pos hmn]) V0 (hL.out.below (Nat.le_refl _) HV.out) HA).mono ?_
 rintro e W ⟨rfl,hbW⟩
 have HW:Hid (Below w.heap.size w W):=HV.out.trans (hbW.mono HV.out.size)
 have csW:W.cell? ⟨w.heap.size,0,none⟩=some (.int .i64 seq):=(hbW.cell (p:=⟨w.heap.size,0,none⟩) hw0).trans cs0
 have hwW:w.heap.size<W.heap.size:=Nat.lt_of_lt_of_le hw0 hbW.size
 have HCS:Hid (W.cell? ⟨w.heap.size,0,none⟩=some (.int .i64 seq)):=csW
 have hbb:bb<W.heap.size:=Nat.lt_of_lt_of_le hb HW.out.size
 have HCW:Hid (∀j u,(acs l)[j]?=some u->W.cell? ⟨bb,o+j,none⟩=some u):=fun j u hj=>(HW.out.cell (p:=⟨bb,o+j,none⟩) hb).trans (HC.out j u hj)
 clear hbW HA HV cs0 hw0 csW
 go_wp2_with fail
 go_loopw [7,8,18] (fun t u i wr=>∃(k:Nat) (y:Int) (f:Bool),k<=n/\i=.int .i64 k/\t=.int .i64 y/\u=.bool f/\Hid (Told (lst l s k) y f)/\Hid (Below W.heap.size W wr))
  (fun _ _ i _=>n-(intOf i).toNat)
 case atStart=>exact⟨0,0,false,by omega,rfl,rfl,rfl,told_none rfl,Below.refl _ _⟩
 case round=>
  obtain⟨k,y,f,hk,rfl,rfl,rfl,HT,HB⟩:=hrel
  by_cases hlt:k<n
  ·obtain⟨q,hq⟩:=zeh (l:=l) (k:=k) (by rw[hlen.out];exact hlt)
   have hqo:Hid q.Ok:=hok.out q (List.mem_of_getElem? hq)
   have cc:∀j u,(cel q)[j]?=some u->wr.cell? ⟨bb,o+(k*7+j),none⟩=some u:=fun j u hj=>(HB.out.cell (p:=⟨bb,o+(k*7+j),none⟩) hbb).trans (HCW.out _ _ (yr _ _ _ _ _ hq hj))
   have c0:wr.cell? ⟨bb,o+k*7,none⟩=some (.int .i64 q.seq):=cc 0 _ rfl
   have c1:wr.cell? ⟨bb,o+k*7+1,none⟩=some (.bool q.st):=cc 1 _ rfl
   have c2:wr.cell? ⟨bb,o+k*7+2,none⟩=some (.bool q.kn):=cc 2 _ rfl
   have c3:wr.cell? ⟨bb,o+k*7+3,none⟩=some (.int .u32 q.pl):=cc 3 _ rfl
   have c4:wr.cell? ⟨bb,o+k*7+4,none⟩=some (.int .i64 q.many):=cc 4 _ rfl
   have c5:wr.cell? ⟨bb,o+k*7+5,none⟩=some (.int .u32 q.data):=cc 5 _ rfl
   have c6:wr.cell? ⟨bb,o+k*7+6,none⟩=some (.bool q.done):=cc 6 _ rfl
   have HQ:Hid (l[k]?=some q):=hq
   clear hq cc
   go_upto_region 8 with fail
   refine zA (Φ:=fun W=>Code.wp _ _ _ _ W) ?_
   intro V hV hVb
   have BV:Hid (Box V wr.heap.size q):=hV
   have HBV:Hid (Below W.heap.size W V):=HB.out.trans (hVb.mono HB.out.size)
   clear hV hVb HB c0 c1 c2 c3 c4 c5 c6
   have hbV:bb<V.heap.size:=Nat.lt_of_lt_of_le hbb HBV.out.size
   have hwV:w.heap.size<V.heap.size:=Nat.lt_of_lt_of_le hwW HBV.out.size
   have cs:V.cell? ⟨w.heap.size,0,none⟩=some (.int .i64 seq):=(HBV.out.cell (p:=⟨w.heap.size,0,none⟩) hwW).trans HCS.out
   have ss:∀j u,(cel s)[j]?=some u->V.cell? ⟨bb,o+(m*7+j),none⟩=some u:=fun j u hj=>(HBV.out.cell (p:=⟨bb,o+(m*7+j),none⟩) hbb).trans (HCW.out _ _ (yr _ _ _ _ _ hs.out hj))
   have s0:V.cell? ⟨bb,o+m*7,none⟩=some (.int .i64 s.seq):=ss 0 _ rfl
   have s1:V.cell? ⟨bb,o+m*7+1,none⟩=some (.bool s.st):=ss 1 _ rfl
   have s2:V.cell? ⟨bb,o+m*7+2,none⟩=some (.bool s.kn):=ss 2 _ rfl
   have s3:V.cell? ⟨bb,o+m*7+3,none⟩=some (.int .u32 s.pl):=ss 3 _ rfl
   have s4:V.cell? ⟨bb,o+m*7+4,none⟩=some (.int .i64 s.many):=ss 4 _ rfl
   have s5:V.cell? ⟨bb,o+m*7+5,none⟩=some (.int .u32 s.data):=ss 5 _ rfl
   have s6:V.cell? ⟨bb,o+m*7+6,none⟩=some (.bool s.done):=ss 6 _ rfl
   clear ss
   have C1:=fun w=>zhg q seq w
   have C2:=fun w=>zhh s q hso hqo w
   cases hov:ovr seq q with
   |false=>
    rw[hov]at C1
    have HN:Hid (Told (lst l s (k+1)) y f):=by rw[zkD HQ.out (by rw[hsq.out,hov];rfl)];exact HT
    clear hov C2
    refine wp_region_held_drew (S:=fun w'=>Below V.heap.size V w') (by kernel_rfl) ((Below.refl _ _).drew) (fun hH=>?_)
    refine Co.tH 0 (acv q) rfl (zc (by rfl) 100 _ rfl _ rfl 100 _ (0,0) _ (fun w hSw=>(BV.out).below (Nat.le_refl _) hSw) underlying100 rfl jb) hH ?_;try go_simp
    refine Co.tH 1 (.int .i64 seq) rfl (Or.inl ⟨by rfl,by intro wz hSw;have h0:=(hSw.cell (p:=⟨w.heap.size,0,none⟩) hwV).trans cs;go_simp⟩) hH ?_;try go_simp
    refine wpAnyH_ready (rs:=[2]) (by kernel_rfl) (by simp) ?_
    refine AllReadyH.cons rfl (fun K hK=>?_) AllReadyH.nil
    go_simp
    refine(C1 _).mono ?_
    rintro e W1 ⟨rfl,hk⟩
    go_wp2_with fail
    refine hK.out _ _ (hH.trans (hk.mono hH.size)) (fun hH=>?_)
    clear hK K hk
    try go_simp
    refine Co.tI 3 (.bool false) rfl hH ?_;try go_simp
    refine Co.tH 4 undef rfl (Or.inr ⟨by rfl,rfl⟩) hH ?_;try go_simp
    refine Co.tH 5 undef rfl (Or.inr ⟨by rfl,rfl⟩) hH ?_;try go_simp
    refine Co.tH 6 undef rfl (Or.inr ⟨by rfl,rfl⟩) hH ?_;try go_simp
    refine Co.tH 7 undef rfl (Or.inr ⟨by rfl,rfl⟩) hH ?_;try go_simp
    refine Co.tH 8 undef rfl (Or.inr ⟨by rfl,rfl⟩) hH ?_;try go_simp
    refine Co.tH 9 undef rfl (Or.inr ⟨by rfl,rfl⟩) hH ?_;try go_simp
    refine Co.tI 10 (.bool false) rfl hH ?_;try go_simp
    refine Co.tI 11 (.bool false) rfl hH ?_;try go_simp
    refine Co.tH 12 undef rfl (Or.inr ⟨by rfl,rfl⟩) hH ?_;try go_simp
    refine Co.tH 13 undef rfl (Or.inr ⟨by rfl,rfl⟩) hH ?_;try go_simp
    refine Co.tH 14 undef rfl (Or.inr ⟨by rfl,rfl⟩) hH ?_;try go_simp
    refine Co.tH 15 undef rfl (Or.inr ⟨by rfl,rfl⟩) hH ?_;try go_simp
    refine Co.tH 16 undef rfl (Or.inr ⟨by rfl,rfl⟩) hH ?_;try go_simp
    refine Co.tH 17 undef rfl (Or.inr ⟨by rfl,rfl⟩) hH ?_;try go_simp
    refine Co.tH 18 undef rfl (Or.inr ⟨by rfl,rfl⟩) hH ?_;try go_simp
    refine Co.tH 19 undef rfl (Or.inr ⟨by rfl,rfl⟩) hH ?_;try go_simp
    refine Co.tI 20 (.bool false) rfl hH ?_;try go_simp
    refine wpAnyH_done (by kernel_rfl) ?_ _
    try go_simp
    have HF:Hid (Below W.heap.size W W1):=HBV.out.trans (hH.mono HBV.out.size)
    have c0:W1.cell? ⟨wr.heap.size,0,none⟩=some (.int .i64 q.seq):=(BV.out.below (Nat.le_refl _) hH).cell rfl
    clear hH
    go_wp2_with fail
    exact⟨⟨k+1,_,_,by omega,by go_num,rfl,rfl,HN,HF⟩,by simp[intOf];omega⟩
   |true=>
    rw[hov]at C1
    have HO:Hid (ovr s.seq q=true):=by rw[hsq.out];exact hov
    clear hov
    cases hmt:mt s q with
    |false=>
     rw[hmt]at C2
     have HN:Hid (Told (lst l s (k+1)) y f):=by rw[zkD HQ.out (by rw[hmt];simp)];exact HT
     clear hmt
     refine wp_region_held_drew (S:=fun w'=>Below V.heap.size V w') (by kernel_rfl) ((Below.refl _ _).drew) (fun hH=>?_)
     refine Co.tH 0 (acv q) rfl (zc (by rfl) 100 _ rfl _ rfl 100 _ (0,0) _ (fun w hSw=>(BV.out).below (Nat.le_refl _) hSw) underlying100 rfl jb) hH ?_;try go_simp
     refine Co.tH 1 (.int .i64 seq) rfl (Or.inl ⟨by rfl,by intro wz hSw;have h0:=(hSw.cell (p:=⟨w.heap.size,0,none⟩) hwV).trans cs;go_simp⟩) hH ?_;try go_simp
     refine wpAnyH_ready (rs:=[2]) (by kernel_rfl) (by simp) ?_
     refine AllReadyH.cons rfl (fun K hK=>?_) AllReadyH.nil
     go_simp
     refine(C1 _).mono ?_
     rintro e W1 ⟨rfl,hk⟩
     go_wp2_with fail
     refine hK.out _ _ (hH.trans (hk.mono hH.size)) (fun hH=>?_)
     clear hK K hk
     try go_simp
     refine Co.tI 3 (.bool true) rfl hH ?_;try go_simp
     refine Co.tI 4 (.slice (some ⟨bb,o,none⟩) n c) rfl hH ?_;try go_simp
     refine Co.tI 5 (.int .i64 m) rfl hH ?_;try go_simp
     refine Co.tI 6 (.pointer (some ⟨bb,o+m*7,none⟩)) rfl hH ?_;try go_simp
     refine Co.tH 7 (acv s) rfl (Or.inl ⟨by rfl,by intro wz hSw;have h0:=(hSw.cell (p:=⟨bb,o+m*7,none⟩) hbV).trans s0;have h1:=(hSw.cell (p:=⟨bb,o+m*7+1,none⟩) hbV).trans s1;have h2:=(hSw.cell (p:=⟨bb,o+m*7+2,none⟩) hbV).trans s2;have h3:=(hSw.cell (p:=⟨bb,o+m*7+3,none⟩) hbV).trans s3;have h4:=(hSw.cell (p:=⟨bb,o+m*7+4,none⟩) hbV).trans s4;have h5:=(hSw.cell (p:=⟨bb,o+m*7+5,none⟩) hbV).trans s5;have h6:=(hSw.cell (p:=⟨bb,o+m*7+6,none⟩) hbV).trans s6;go_simp⟩) hH ?_;try go_simp
     refine Co.tH 8 (acv q) rfl (zc (by rfl) 100 _ rfl _ rfl 100 _ (0,0) _ (fun w hSw=>(BV.out).below (Nat.le_refl _) hSw) underlying100 rfl jb) hH ?_;try go_simp
     refine wpAnyH_ready (rs:=[9]) (by kernel_rfl) (by simp) ?_
     refine AllReadyH.cons rfl (fun K hK=>?_) AllReadyH.nil
     go_simp
     refine(C2 _).mono ?_
     rintro e W2 ⟨rfl,hk⟩
     go_wp2_with fail
     refine hK.out _ _ (hH.trans (hk.mono hH.size)) (fun hH=>?_)
     clear hK K hk
     try go_simp
     refine Co.tI 10 (.bool false) rfl hH ?_;try go_simp
     refine Co.tI 11 (.bool false) rfl hH ?_;try go_simp
     refine Co.tH 12 undef rfl (Or.inr ⟨by rfl,rfl⟩) hH ?_;try go_simp
     refine Co.tH 13 undef rfl (Or.inr ⟨by rfl,rfl⟩) hH ?_;try go_simp
     refine Co.tH 14 undef rfl (Or.inr ⟨by rfl,rfl⟩) hH ?_;try go_simp
     refine Co.tH 15 undef rfl (Or.inr ⟨by rfl,rfl⟩) hH ?_;try go_simp
     refine Co.tH 16 undef rfl (Or.inr ⟨by rfl,rfl⟩) hH ?_;try go_simp
     refine Co.tH 17 undef rfl (Or.inr ⟨by rfl,rfl⟩) hH ?_;try go_simp
     refine Co.tH 18 undef rfl (Or.inr ⟨by rfl,rfl⟩) hH ?_;try go_simp
     refine Co.tH 19 undef rfl (Or.inr ⟨by rfl,rfl⟩) hH ?_;try go_simp
     refine Co.tI 20 (.bool false) rfl hH ?_;try go_simp
     refine wpAnyH_done (by kernel_rfl) ?_ _
     try go_simp
     have HF:Hid (Below W.heap.size W W2):=HBV.out.trans (hH.mono HBV.out.size)
     have c0:W2.cell? ⟨wr.heap.size,0,none⟩=some (.int .i64 q.seq):=(BV.out.below (Nat.le_refl _) hH).cell rfl
     clear hH
     go_wp2_with fail
     exact⟨⟨k+1,_,_,by omega,by go_num,rfl,rfl,HN,HF⟩,by simp[intOf];omega⟩
    |true=>
     rw[hmt]at C2
     have HG:Hid ((ovr s.seq q&&mt s q)=true):=by rw[HO.out,hmt];rfl
     clear hmt HO
     cases hls:lst l s k with
     |none=>
      rw[hls]at HT
      obtain⟨rfl,rfl⟩:=HT.out.none'
      have HN:Hid (Told (lst l s (k+1)) q.seq true):=vc (zhe HQ.out HG.out hls)
      clear hls HT
      refine wp_region_held_drew (S:=fun w'=>Below V.heap.size V w') (by kernel_rfl) ((Below.refl _ _).drew) (fun hH=>?_)
      refine Co.tH 0 (acv q) rfl (zc (by rfl) 100 _ rfl _ rfl 100 _ (0,0) _ (fun w hSw=>(BV.out).below (Nat.le_refl _) hSw) underlying100 rfl jb) hH ?_;try go_simp
      refine Co.tH 1 (.int .i64 seq) rfl (Or.inl ⟨by rfl,by intro wz hSw;have h0:=(hSw.cell (p:=⟨w.heap.size,0,none⟩) hwV).trans cs;go_simp⟩) hH ?_;try go_simp
      refine wpAnyH_ready (rs:=[2]) (by kernel_rfl) (by simp) ?_
      refine AllReadyH.cons rfl (fun K hK=>?_) AllReadyH.nil
      go_simp
      refine(C1 _).mono ?_
      rintro e W1 ⟨rfl,hk⟩
      go_wp2_with fail
      refine hK.out _ _ (hH.trans (hk.mono hH.size)) (fun hH=>?_)
      clear hK K hk
      try go_simp
      refine Co.tI 3 (.bool true) rfl hH ?_;try go_simp
      refine Co.tI 4 (.slice (some ⟨bb,o,none⟩) n c) rfl hH ?_;try go_simp
      refine Co.tI 5 (.int .i64 m) rfl hH ?_;try go_simp
      refine Co.tI 6 (.pointer (some ⟨bb,o+m*7,none⟩)) rfl hH ?_;try go_simp
      refine Co.tH 7 (acv s) rfl (Or.inl ⟨by rfl,by intro wz hSw;have h0:=(hSw.cell (p:=⟨bb,o+m*7,none⟩) hbV).trans s0;have h1:=(hSw.cell (p:=⟨bb,o+m*7+1,none⟩) hbV).trans s1;have h2:=(hSw.cell (p:=⟨bb,o+m*7+2,none⟩) hbV).trans s2;have h3:=(hSw.cell (p:=⟨bb,o+m*7+3,none⟩) hbV).trans s3;have h4:=(hSw.cell (p:=⟨bb,o+m*7+4,none⟩) hbV).trans s4;have h5:=(hSw.cell (p:=⟨bb,o+m*7+5,none⟩) hbV).trans s5;have h6:=(hSw.cell (p:=⟨bb,o+m*7+6,none⟩) hbV).trans s6;go_simp⟩) hH ?_;try go_simp
      refine Co.tH 8 (acv q) rfl (zc (by rfl) 100 _ rfl _ rfl 100 _ (0,0) _ (fun w hSw=>(BV.out).below (Nat.le_refl _) hSw) underlying100 rfl jb) hH ?_;try go_simp
      refine wpAnyH_ready (rs:=[9]) (by kernel_rfl) (by simp) ?_
      refine AllReadyH.cons rfl (fun K hK=>?_) AllReadyH.nil
      go_simp
      refine(C2 _).mono ?_
      rintro e W2 ⟨rfl,hk⟩
      go_wp2_with fail
      refine hK.out _ _ (hH.trans (hk.mono hH.size)) (fun hH=>?_)
      clear hK K hk
      try go_simp
      refine Co.tI 10 (.bool true) rfl hH ?_;try go_simp
      refine Co.tI 11 (.bool true) rfl hH ?_;try go_simp
      refine Co.tI 12 (.bool false) rfl hH ?_;try go_simp
      refine Co.tI 13 (.bool true) rfl hH ?_;try go_simp
      refine Co.tI 14 (.bool true) rfl hH ?_;try go_simp
      refine Co.tH 15 undef rfl (Or.inr ⟨by rfl,rfl⟩) hH ?_;try go_simp
      refine Co.tH 16 undef rfl (Or.inr ⟨by rfl,rfl⟩) hH ?_;try go_simp
      refine Co.tH 17 undef rfl (Or.inr ⟨by rfl,rfl⟩) hH ?_;try go_simp
      refine Co.tH 18 undef rfl (Or.inr ⟨by rfl,rfl⟩) hH ?_;try go_simp
      refine Co.tI 19 (.bool true) rfl hH ?_;try go_simp
      refine Co.tI 20 (.bool true) rfl hH ?_;try go_simp
      refine wpAnyH_done (by kernel_rfl) ?_ _
      try go_simp
      have HF:Hid (Below W.heap.size W W2):=HBV.out.trans (hH.mono HBV.out.size)
      have c0:W2.cell? ⟨wr.heap.size,0,none⟩=some (.int .i64 q.seq):=(BV.out.below (Nat.le_refl _) hH).cell rfl
      clear hH
      go_wp2_with fail
      exact⟨⟨k+1,_,_,by omega,by go_num,rfl,rfl,HN,HF⟩,by simp[intOf];omega⟩
     |some z=>
      rw[hls]at HT
      obtain⟨rfl,rfl⟩:=HT.out.some'
      have HS:Hid (lst l s k=some y):=hls
      clear hls HT
      by_cases hle:q.seq<y
      ·have HN:Hid (Told (lst l s (k+1)) q.seq true):=vc (zju HQ.out HG.out HS.out hle)
       refine wp_region_held_drew (S:=fun w'=>Below V.heap.size V w') (by kernel_rfl) ((Below.refl _ _).drew) (fun hH=>?_)
       refine Co.tH 0 (acv q) rfl (zc (by rfl) 100 _ rfl _ rfl 100 _ (0,0) _ (fun w hSw=>(BV.out).below (Nat.le_refl _) hSw) underlying100 rfl jb) hH ?_;try go_simp
       refine Co.tH 1 (.int .i64 seq) rfl (Or.inl ⟨by rfl,by intro wz hSw;have h0:=(hSw.cell (p:=⟨w.heap.size,0,none⟩) hwV).trans cs;go_simp⟩) hH ?_;try go_simp
       refine wpAnyH_ready (rs:=[2]) (by kernel_rfl) (by simp) ?_
       refine AllReadyH.cons rfl (fun K hK=>?_) AllReadyH.nil
       go_simp
       refine(C1 _).mono ?_
       rintro e W1 ⟨rfl,hk⟩
       go_wp2_with fail
       refine hK.out _ _ (hH.trans (hk.mono hH.size)) (fun hH=>?_)
       clear hK K hk
       try go_simp
       refine Co.tI 3 (.bool true) rfl hH ?_;try go_simp
       refine Co.tI 4 (.slice (some ⟨bb,o,none⟩) n c) rfl hH ?_;try go_simp
       refine Co.tI 5 (.int .i64 m) rfl hH ?_;try go_simp
       refine Co.tI 6 (.pointer (some ⟨bb,o+m*7,none⟩)) rfl hH ?_;try go_simp
       refine Co.tH 7 (acv s) rfl (Or.inl ⟨by rfl,by intro wz hSw;have h0:=(hSw.cell (p:=⟨bb,o+m*7,none⟩) hbV).trans s0;have h1:=(hSw.cell (p:=⟨bb,o+m*7+1,none⟩) hbV).trans s1;have h2:=(hSw.cell (p:=⟨bb,o+m*7+2,none⟩) hbV).trans s2;have h3:=(hSw.cell (p:=⟨bb,o+m*7+3,none⟩) hbV).trans s3;have h4:=(hSw.cell (p:=⟨bb,o+m*7+4,none⟩) hbV).trans s4;have h5:=(hSw.cell (p:=⟨bb,o+m*7+5,none⟩) hbV).trans s5;have h6:=(hSw.cell (p:=⟨bb,o+m*7+6,none⟩) hbV).trans s6;go_simp⟩) hH ?_;try go_simp
       refine Co.tH 8 (acv q) rfl (zc (by rfl) 100 _ rfl _ rfl 100 _ (0,0) _ (fun w hSw=>(BV.out).below (Nat.le_refl _) hSw) underlying100 rfl jb) hH ?_;try go_simp
       refine wpAnyH_ready (rs:=[9]) (by kernel_rfl) (by simp) ?_
       refine AllReadyH.cons rfl (fun K hK=>?_) AllReadyH.nil
       go_simp
       refine(C2 _).mono ?_
       rintro e W2 ⟨rfl,hk⟩
       go_wp2_with fail
       refine hK.out _ _ (hH.trans (hk.mono hH.size)) (fun hH=>?_)
       clear hK K hk
       try go_simp
       refine Co.tI 10 (.bool true) rfl hH ?_;try go_simp
       refine Co.tI 11 (.bool true) rfl hH ?_;try go_simp
       refine Co.tI 12 (.bool true) rfl hH ?_;try go_simp
       refine Co.tI 13 (.bool false) rfl hH ?_;try go_simp
       refine Co.tI 14 (.bool false) rfl hH ?_;try go_simp
       refine Co.tI 15 (.pointer (some ⟨wr.heap.size,0,none⟩)) rfl hH ?_;try go_simp
       refine Co.tH 16 (.int .i64 q.seq) rfl (Or.inl ⟨by rfl,by intro wz hSw;have h2:=(BV.out.below (Nat.le_refl _) hSw).cell (j:=0) rfl;go_simp⟩) hH ?_;try go_simp
       refine Co.tI 17 (.int .i64 y) rfl hH ?_;try go_simp
       refine Co.tI 18 (.bool true) rfl hH ?_;try go_simp
       refine Co.tI 19 (.bool true) rfl hH ?_;try go_simp
       refine Co.tI 20 (.bool true) rfl hH ?_;try go_simp
       refine wpAnyH_done (by kernel_rfl) ?_ _
       try go_simp
       have HF:Hid (Below W.heap.size W W2):=HBV.out.trans (hH.mono HBV.out.size)
       have c0:W2.cell? ⟨wr.heap.size,0,none⟩=some (.int .i64 q.seq):=(BV.out.below (Nat.le_refl _) hH).cell rfl
       clear hH
       go_wp2_with fail
       exact⟨⟨k+1,_,_,by omega,by go_num,rfl,rfl,HN,HF⟩,by simp[intOf];omega⟩
      ·have HN:Hid (Told (lst l s (k+1)) y true):=vc ((zjv HQ.out HS.out (by omega)).trans HS.out)
       refine wp_region_held_drew (S:=fun w'=>Below V.heap.size V w') (by kernel_rfl) ((Below.refl _ _).drew) (fun hH=>?_)
       refine Co.tH 0 (acv q) rfl (zc (by rfl) 100 _ rfl _ rfl 100 _ (0,0) _ (fun w hSw=>(BV.out).below (Nat.le_refl _) hSw) underlying100 rfl jb) hH ?_;try go_simp
       refine Co.tH 1 (.int .i64 seq) rfl (Or.inl ⟨by rfl,by intro wz hSw;have h0:=(hSw.cell (p:=⟨w.heap.size,0,none⟩) hwV).trans cs;go_simp⟩) hH ?_;try go_simp
       refine wpAnyH_ready (rs:=[2]) (by kernel_rfl) (by simp) ?_
       refine AllReadyH.cons rfl (fun K hK=>?_) AllReadyH.nil
       go_simp
       refine(C1 _).mono ?_
       rintro e W1 ⟨rfl,hk⟩
       go_wp2_with fail
       refine hK.out _ _ (hH.trans (hk.mono hH.size)) (fun hH=>?_)
       clear hK K hk
       try go_simp
       refine Co.tI 3 (.bool true) rfl hH ?_;try go_simp
       refine Co.tI 4 (.slice (some ⟨bb,o,none⟩) n c) rfl hH ?_;try go_simp
       refine Co.tI 5 (.int .i64 m) rfl hH ?_;try go_simp
       refine Co.tI 6 (.pointer (some ⟨bb,o+m*7,none⟩)) rfl hH ?_;try go_simp
       refine Co.tH 7 (acv s) rfl (Or.inl ⟨by rfl,by intro wz hSw;have h0:=(hSw.cell (p:=⟨bb,o+m*7,none⟩) hbV).trans s0;have h1:=(hSw.cell (p:=⟨bb,o+m*7+1,none⟩) hbV).trans s1;have h2:=(hSw.cell (p:=⟨bb,o+m*7+2,none⟩) hbV).trans s2;have h3:=(hSw.cell (p:=⟨bb,o+m*7+3,none⟩) hbV).trans s3;have h4:=(hSw.cell (p:=⟨bb,o+m*7+4,none⟩) hbV).trans s4;have h5:=(hSw.cell (p:=⟨bb,o+m*7+5,none⟩) hbV).trans s5;have h6:=(hSw.cell (p:=⟨bb,o+m*7+6,none⟩) hbV).trans s6;go_simp⟩) hH ?_;try go_simp
       refine Co.tH 8 (acv q) rfl (zc (by rfl) 100 _ rfl _ rfl 100 _ (0,0) _ (fun w hSw=>(BV.out).below (Nat.le_refl _) hSw) underlying100 rfl jb) hH ?_;try go_simp
       refine wpAnyH_ready (rs:=[9]) (by kernel_rfl) (by simp) ?_
       refine AllReadyH.cons rfl (fun K hK=>?_) AllReadyH.nil
       go_simp
       refine(C2 _).mono ?_
       rintro e W2 ⟨rfl,hk⟩
       go_wp2_with fail
       refine hK.out _ _ (hH.trans (hk.mono hH.size)) (fun hH=>?_)
       clear hK K hk
       try go_simp
       refine Co.tI 10 (.bool true) rfl hH ?_;try go_simp
       refine Co.tI 11 (.bool true) rfl hH ?_;try go_simp
       refine Co.tI 12 (.bool true) rfl hH ?_;try go_simp
       refine Co.tI 13 (.bool false) rfl hH ?_;try go_simp
       refine Co.tI 14 (.bool false) rfl hH ?_;try go_simp
       refine Co.tI 15 (.pointer (some ⟨wr.heap.size,0,none⟩)) rfl hH ?_;try go_simp
       refine Co.tH 16 (.int .i64 q.seq) rfl (Or.inl ⟨by rfl,by intro wz hSw;have h2:=(BV.out.below (Nat.le_refl _) hSw).cell (j:=0) rfl;go_simp⟩) hH ?_;try go_simp
       refine Co.tI 17 (.int .i64 y) rfl hH ?_;try go_simp
       refine Co.tI 18 (.bool false) rfl hH ?_;try go_simp
       refine Co.tI 19 (.bool false) rfl hH ?_;try go_simp
       refine Co.tI 20 (.bool false) rfl hH ?_;try go_simp
       refine wpAnyH_done (by kernel_rfl) ?_ _
       try go_simp
       have HF:Hid (Below W.heap.size W W2):=HBV.out.trans (hH.mono HBV.out.size)
       have c0:W2.cell? ⟨wr.heap.size,0,none⟩=some (.int .i64 q.seq):=(BV.out.below (Nat.le_refl _) hH).cell rfl
       clear hH
       go_wp2_with fail
       exact⟨⟨k+1,_,_,by omega,by go_num,rfl,rfl,HN,HF⟩,by simp[intOf];omega⟩
  ·obtain rfl:k=n:=by omega
   obtain⟨rfl,rfl⟩:y0=y/\f0=f:=⟨hT.out.2.trans HT.out.2.symm,hT.out.1.trans HT.out.1.symm⟩
   have HF:Hid (Below w.heap.size w wr):=HW.out.trans (HB.out.mono HW.out.size)
   go_wp2_with fail
   refine bodyPost_ret (v:=.tuple #[.int .i64 y0,.bool f0]) ?_ rfl ⟨rfl,HF.out⟩
   simp[results,results134,asAddr]
theorem zw{P:Program}{ops:Array Oper}{rest:List Oper}{o:Oper}{a:Act}{w:World}{Q:Exit->Act->World->Prop}(hw:Region.wanted o (yielded ops a.tmps)=true)(ty:TypeId)(x:Operand)(ho:o.op=.load ty x)
  (g:Nat) (hx:a.eval x=.pointer (some ⟨g,0,none⟩)) (t:TypeId) (cs:Array Value) (fr:Nat×Nat) (d:TypeDesc) (hg:w.heap[g]?=some (.cells cs t fr))
  (hu:P.underlying ty=some d) (hd:(match d with|.struct _|.array _ _=>true|_=>false)=true) (hi:(P.info? ty).map (·.size)=some cs.size)
  (h:wpList P ops Q rest (a.put o.dst (.agg cs)) w):wpList P ops Q (o::rest) a w:=by
 unfold wpList
 rw[if_pos hw]
 exact Or.inl (wp_load_row ty x ho g hx t cs fr d hg hu hd hi h)
def mix(l:List Ac)(seq:Int)(n A m:Nat)(f:Nat->Int)(k:Nat):Nat->Int:=fun i=>if i<k then sb l seq n A f i else upto m (fun i=>f (A+i)) i
theorem zhi{l:List Ac}{seq:Int}{n A m ml:Nat}{f:Nat->Int}(hf:∀i,i<ml->0<=f i/\f i<=255)(h:A+m<=ml)(k:Nat)(hk:k<=m):∀i,0<=mix l seq n A m f k i/\mix l seq n A m f k i<=255:=by
 intro i
 unfold mix
 split
 ·exact zce (hf _ (by omega))
 ·unfold upto
  split
  ·exact hf _ (by omega)
  ·omega
theorem zjz(l:List Ac)(seq:Int)(n A m:Nat)(f:Nat->Int)(hm:m=1\/m=2\/m=4):le (fun i=>f (A+i)) m=four (mix l seq n A m f 0):=by
 rw[zhf m hm]
 rfl
theorem zlI(l:List Ac)(seq:Int)(n A m:Nat)(f:Nat->Int)(hm:m=1\/m=2\/m=4):four (mix l seq n A m f m)=le (sb l seq n A f) m:=by
 rw[zhf m hm]
 rcases hm with rfl|rfl|rfl<;>simp[four,mix,upto]
theorem zjA(l:List Ac)(seq:Int)(n A m:Nat)(f:Nat->Int)(k:Nat)(hk:k<m)(h:bst l seq ((A:Int)+k) n=none):four (mix l seq n A m f k)=four (mix l seq n A m f (k+1)):=by
 have e:mix l seq n A m f k=mix l seq n A m f (k+1):=by
  funext i
  unfold mix
  by_cases h1:i<k
  ·rw[if_pos h1,if_pos (by omega)]
  ·by_cases h2:i=k
   ·subst h2
    rw[if_neg (by omega),if_pos (by omega),upto,if_pos hk,sb,seen_none h]
   ·rw[if_neg h1,if_neg (by omega)]
 rw[e]
theorem zlJ(l:List Ac)(seq:Int)(n A m:Nat)(f:Nat->Int)(k:Nat):put1 (mix l seq n A m f k) k (sb l seq n A f k)=mix l seq n A m f (k+1):=by
 funext i
 unfold put1 mix
 by_cases h2:i=k
 ·subst h2;rw[if_pos rfl,if_pos (by omega)]
 ·rw[if_neg h2]
  by_cases h1:i<k
  ·rw[if_pos h1,if_pos (by omega)]
  ·rw[if_neg h1,if_neg (by omega)]
theorem zcg{l:List Ac}{seq x m:Int}{n:Nat}(h:(bst l seq x n).isSome=true):seen l seq x 0 n=seen l seq x m n:=by
 cases hb:bst l seq x n with
 |none=>rw[hb]at h;cases h
 |some j=>
  obtain⟨_,q,hq,_⟩:=kp _ _ _ _ _ hb
  rw[kq hb hq,kq hb hq]
theorem zob{many:Int}{A ml:Nat}(h:¬Fit many A ml):¬(0<ldn (ldo many)/\(A:Int)%ldn (ldo many)=0/\(A:Int)+ldn (ldo many)<=ml):=by
 intro⟨h1,h2,h3⟩
 by_cases hm:many=1\/many=2\/many=4
 ·have e:ldn (ldo many)=many:=by rcases hm with rfl|rfl|rfl<;>rfl
  rw[e]at h2 h3
  exact h ⟨hm,h2,h3⟩
 ·have e:ldo many=0:=by unfold ldo;rw[if_neg (by omega),if_neg (by omega),if_neg (by omega)]
  rw[e]at h1
  exact absurd h1 (by decide)
theorem zlK(a:Option Addr)(n c:Nat)(p:Option Addr)(ml mc:Nat)(seq many:Int)(A:Nat)(hA:A<=4294967295)(hml:ml<=140737488355328)(h:¬Fit many A ml)(w:World):
  Calls prog 71 #[.slice a n c,.slice p ml mc,.int .i64 seq,.int .u32 A,.int .i64 many] w fun e w'=>e=.returned (.tuple #[.int .u32 0,.bool false,.bool false])/\Below w.heap.size w w':=by
 have C1:=fun w=>zcf many w
 have C2:=fun w=>zgg p ml mc (ldo many) A hml (by omega) (by omega) (zob h) w
 obtain⟨op,hop⟩:∃op,op=ldo many:=⟨_,rfl⟩
 rw[<-hop]at C1 C2
 clear h hop
 go_enter func71,ntmps71
 go_upto_region 1 with fail
 refine zA (Φ:=fun W=>Code.wp _ _ _ _ W) ?_
 intro V hV hVb
 have HB:Hid (Below w.heap.size w V):=hVb
 clear hV hVb
 go_wp2_with fail
 refine(C1 _).mono ?_
 rintro e w' ⟨rfl,rfl⟩
 go_wp2_with fail
 refine(C2 _).mono ?_
 rintro e w' ⟨rfl,rfl⟩
 clear C1 C2
 go_wp2_with fail
 refine bodyPost_ret (v:=.tuple #[.int .u32 0,.bool false,.bool false]) ?_ rfl ⟨rfl,HB.out⟩
 simp[results,results71,asAddr]
theorem zjB(a:Option Addr)(n c:Nat)(l:List Ac)(hok:Hid (∀q∈l,q.Ok))(g o ml mc:Nat)(hmc:ml<=mc)(f:Nat->Int)(seq:Int)(A m:Nat)(hA:A<=4294967295)(hml:ml<=140737488355328)(hm:m=1\/m=2\/m=4)(hA0:A%m=0)(hAm:A+m<=ml)(hfr:Hid (∀i,i<ml->0<=f i/\f i<=255))(R:Int)(hR:Hid (R=le (sb l seq n A f) m))(U:Bool)(hU:Hid (Sure l seq n U))(hn:n<=140737488355328)(w:World)(hL:Hid (LC w a n c 7 (acs l)))(hM:Hid (Lies w g o ml f))(hg:Hid (g<w.heap.size)):
  Calls prog 71 #[.slice a n c,.slice (some ⟨g,o,none⟩) ml mc,.int .i64 seq,.int .u32 A,.int .i64 m] w fun e w'=>e=.returned (.tuple #[.int .u32 R,.bool true,.bool U])/\Below w.heap.size w w':=by
 have hmf:∀(fn:Fn) (first cap:Array Value) (w:World),(Instr.makeFunc fn first cap).run prog w=.ok (.func fn first cap) w:=fun _ _ _ _=>rfl
 have hlen:Hid (l.length=n):=by have:=hL.out.len;rw[vb]at this;show _=_;omega
 have hAm4:A+m<=4294967296:=by rcases hm with rfl|rfl|rfl<;>omega
 have hm4:1<=m/\m<=4:=by omega
 have HM:Hid (m=1\/m=2\/m=4):=hm
 have C1:=fun w=>zcf m w
 have hld:ldn (ldo m)=(m:Int):=by rcases hm with rfl|rfl|rfl<;>rfl
 have hlv:ldv (ldo m) (fun i=>f (A+i))=four (mix l seq n A m f 0):=by
  rw[<-zjz l seq n A m f hm]
  rcases hm with rfl|rfl|rfl<;>rfl
 have C2:=fun w hc=>zdU g o ml mc (ldo m) A m (fun i=>f (A+i)) hld hml (by omega) (by omega) hA0 hAm hmc w (fun i hi=>hfr.out _ (by omega)) hc
 rw[hlv]at C2
 obtain⟨op,hop⟩:∃op,op=ldo m:=⟨_,rfl⟩
 obtain⟨Z,hZ⟩:∃Z,Z=four (mix l seq n A m f 0):=⟨_,rfl⟩
 rw[<-hop]at C1 C2
 rw[<-hZ]at C2
 have HZ:Hid (Z=four (mix l seq n A m f 0)):=hZ
 clear hm hop hld hlv hZ hA0
 obtain⟨mU,hmU⟩:=kr (unk seq) l
 have HU:Hid (FirstA (unk seq) l mU):=hmU
 clear hmU
 go_enter func71,ntmps71
 go_upto_region 1 with fail
 refine zA (Φ:=fun W=>Code.wp _ _ _ _ W) ?_
 intro V hV hVb
 have HV:Hid (Below w.heap.size w V):=hVb
 have hgV:Hid (g<V.heap.size):=Nat.lt_of_lt_of_le hg.out hVb.size
 have hwV:w.heap.size<V.heap.size:=zr hV
 have HC:Hid (V.cell? ⟨w.heap.size,0,none⟩=some (.int .i64 seq)):=(cell_of_row _ _ _ _ _ _ hV).trans rfl
 have hLV:Hid (LC V a n c 7 (acs l)):=hL.out.below (Nat.le_refl _) hVb
 have hMV:Hid (Lies V g o ml f):=fun i hi=>(hVb.cell (p:=⟨g,o+i,none⟩) hg.out).trans (hM.out i hi)
 clear hV hVb
 go_wp2_with fail
 refine(C1 _).mono ?_
 rintro e w' ⟨rfl,rfl⟩
 go_wp2_with fail
 refine(C2 _ (fun i hi=>by rw[Nat.add_assoc];exact hMV.out (A+i) (by omega))).mono ?_
 rintro e w' ⟨rfl,rfl⟩
 clear C1 C2
 go_wp2_with fail
 go_loopw [13,29] (fun t i wr=>∃(k:Nat) (Y:Int),k<=m/\i=.int .i64 k/\t=.int .u32 Y/\Hid (Y=four (mix l seq n A m f k))/\Hid (Below w'.heap.size w' wr))
  (fun _ i _=>m-(intOf i).toNat)
 case atStart=>exact⟨0,Z,by omega,rfl,rfl,HZ,Below.refl _ _⟩
 case round=>
  obtain⟨k,Y,hk,rfl,rfl,HY,HB⟩:=hrel
  have cs:wr.cell? ⟨w.heap.size,0,none⟩=some (.int .i64 seq):=(HB.out.cell (p:=⟨w.heap.size,0,none⟩) hwV).trans HC.out
  have hLr:Hid (LC wr a n c 7 (acs l)):=hLV.out.below (Nat.le_refl _) HB.out
  by_cases hlt:k<m
  ·obtain⟨r,hr⟩:∃r,Hid (r=seen l seq ((A:Int)+k) 0 n):=⟨_,rfl⟩
   obtain⟨F,hF⟩:∃F,Hid (F=(bst l seq ((A:Int)+k) n).isSome):=⟨_,rfl⟩
   have C:=fun w hL=>zdn a n c seq ((A:Int)+k) l hok (by omega) (by omega) r F hr hF hn w hL
   cases hFF:F with
   |false=>
    subst hFF
    have HN:Hid (Y=four (mix l seq n A m f (k+1))):=by
     show _=_
     rw[HY.out,zjA l seq n A m f k hlt ?_]
     cases hb:bst l seq ((A:Int)+k) n with
     |none=>rfl
     |some j=>have:=hF.out;rw[hb]at this;cases this
    go_wp2_with fail
    refine(C _ hLr).mono ?_
    rintro e W1 ⟨rfl,hk1⟩
    have HF1:Hid (Below w'.heap.size w' W1):=HB.out.trans (hk1.mono HB.out.size)
    clear hk1 C
    go_wp2_with fail
    exact⟨⟨k+1,_,by omega,by go_num,rfl,HN,HF1⟩,by simp[intOf];omega⟩
   |true=>
    subst hFF
    have hr2:0<=r/\r<=255:=by rw[hr.out];exact zeg _ _ _ _ _ ⟨by omega,by omega⟩
    have hYr:0<=Y/\Y<4294967296:=by
     rw[HY.out]
     have h:=zhi (l:=l) (seq:=seq) (n:=n) hfr.out hAm k (by omega)
     have h0:=h 0
     have h1:=h 1
     have h2:=h 2
     have h3:=h 3
     unfold four
     omega
    have HN:∀P:Int,P=((2^(8*k):Nat):Int)->Hid (bits .or .u32 (bits .andNot .u32 Y (255*P)) (r*P)=four (mix l seq n A m f (k+1))):=fun P hP=>by
     show _=_
     rw[zjx k (mix l seq n A m f k) r Y P (by omega) hP (zhi hfr.out hAm k (by omega)) hr2.1 hr2.2 HY.out]
     rw[show r=sb l seq n A f k from hr.out.trans (zcg hF.out.symm),zlJ]
    go_wp2_with fail
    refine(C _ hLr).mono ?_
    rintro e W1 ⟨rfl,hk1⟩
    have HF1:Hid (Below w'.heap.size w' W1):=HB.out.trans (hk1.mono HB.out.size)
    clear hk1 C cs hLr
    go_upto_region 9 with fail
    rcases(by omega:k=0\/k=1\/k=2\/k=3)with rfl|rfl|rfl|rfl
    ·have HN1:Hid (bits .or .u32 (bits .andNot .u32 Y 255) r=four (mix l seq n A m f 1)):=by have h:=(HN 1 rfl).out;rw[Int.mul_one,Int.mul_one]at h;exact h
     clear HN
     go_quiet(fail)
     go_wp2_with fail
     exact⟨⟨1,_,by omega,by go_num,rfl,HN1,below_drewN HF1.out nq⟩,by simp[intOf];omega⟩
    ·have HN1:=HN 256 rfl
     clear HN
     go_quiet(fail)
     go_wp2_with fail
     exact⟨⟨2,_,by omega,by go_num,rfl,HN1,below_drewN HF1.out nq⟩,by simp[intOf];omega⟩
    ·have HN1:=HN 65536 rfl
     clear HN
     go_quiet(fail)
     go_wp2_with fail
     exact⟨⟨3,_,by omega,by go_num,rfl,HN1,below_drewN HF1.out nq⟩,by simp[intOf];omega⟩
    ·have HN1:=HN 16777216 rfl
     clear HN
     go_quiet(fail)
     go_wp2_with fail
     exact⟨⟨4,_,by omega,by go_num,rfl,HN1,below_drewN HF1.out nq⟩,by simp[intOf];omega⟩
  ·obtain rfl:k=m:=by omega
   have hYR:Y=R:=by rw[HY.out,hR.out,zlI l seq n A k f HM.out]
   subst hYR
   have HUU:Hid (U=!(decide (mU<n))):=hU.out.eq HU.out hlen.out
   obtain⟨b,hb⟩:∃b,Hid (b=decide (mU<n)):=⟨_,rfl⟩
   have HUB:Hid (U=!b):=by rw[hb.out];exact HUU
   have HA:Hid (Asks 98 w.heap.size (unk seq) wr):=zjy _ _ _ cs
   clear cs HUU
   go_wp2_with fail
   refine(yb 98 w.heap.size (unk seq) zn5 a n c (by omega) l mU HU b hb wr hLr HA).mono ?_
   rintro e W1 ⟨rfl,hk1⟩
   have HF1:Hid (Below w.heap.size w W1):=HV.out.trans ((HB.out.trans (hk1.mono HB.out.size)).mono HV.out.size)
   clear hk1 HA
   go_wp2_with fail
   refine bodyPost_ret (v:=.tuple #[.int .u32 Y,.bool true,.bool U]) ?_ rfl ⟨rfl,HF1.out⟩
   rw[HUB.out]
   simp[results,results71,asAddr]
end Go.Proofs.YtpiohehijkpghabGreatDoor.Od
