/- The first load that has seen too early: the document. -/
import Derived.Test.YtpiohehijkpghacGreatDoorG20
import Derived.Test.YtpiohehijkpghacGreatDoorG01
set_option maxRecDepth 20000
set_option maxHeartbeats 2000000
namespace Go.Proofs.YtpiohehijkpghacGreatDoor.Od
open Go.Proofs.YtpiohehijkpghacGreatDoor.Wi
open Go.RowKit
open Hy
set_option linter.unusedVariables false
set_option linter.unusedSimpArgs false
def Told (o:Option Int) (y:Int) (f:Bool):Prop:=f=o.isSome∧y=o.getD 0
theorem told_none {o:Option Int} (h:o=none):Told o 0 false:=by subst h;exact⟨rfl,rfl⟩
theorem told_some {o:Option Int} {y:Int} (h:o=some y):Told o y true:=by subst h;exact⟨rfl,rfl⟩
theorem Told.none' {y:Int} {f:Bool} (h:Told none y f):y=0∧f=false:=⟨h.2,h.1⟩
theorem Told.some' {z y:Int} {f:Bool} (h:Told (some z) y f):y=z∧f=true:=⟨h.2,h.1⟩
theorem uWrong_no (a:Option Addr) (n c:Nat) (seq:Int) (l:List Ac) (hm:Hid (FirstA (sto1 seq) l n)) (hn:n≤140737488355328) (w:World) (hL:Hid (LC w a n c 7 (acs l))):
  Calls Tryz.prog 160 #[.slice a n c,.int .i64 seq] w fun e w'=>e=.returned (.tuple #[.int .i64 0,.bool false])∧Below w.heap.size w w':=by
 have hmf:∀(fn:Fn) (first cap:Array Value) (w:World),(Instr.makeFunc fn first cap).run Tryz.prog w=.ok (.func fn first cap) w:=fun _ _ _ _=>rfl
 go_enter Tryz.func160,Tryz.ntmps160
 go_wp2_with fail
 refine one_box (Φ:=fun W=>Calls _ _ _ W _) ?_
 intro V hV hVb
 have HV:Hid (Below w.heap.size w V):=hVb
 have HA:Hid (Asks 186 w.heap.size (sto1 seq) V):=asks_sto _ _ _ ((cell_of_row _ _ _ _ _ _ hV).trans rfl)
 clear hV hVb
 refine(aIndexFunc_any 186 w.heap.size (sto1 seq) eg_sto a n c (by omega) l n hm (-1) (show _=_ by simp) V (hL.out.below (Nat.le_refl _) HV.out) HA).mono ?_
 rintro e W1 ⟨rfl,hb⟩
 have HB:Hid (Below w.heap.size w W1):=HV.out.trans (hb.mono HV.out.size)
 clear hb HA HV
 go_wp2_with fail
 refine bodyPost_ret (v:=.tuple #[.int .i64 0,.bool false]) ?_ rfl ⟨rfl,HB.out⟩
 simp[results,Tryz.results160,asAddr]
theorem uWrong_yes (a:Option Addr) (n c:Nat) (seq:Int) (l:List Ac) (hok:Hid (∀q∈l,q.Ok)) (m:Nat) (hm:Hid (FirstA (sto1 seq) l m)) (hmn:m<n) (s:Ac) (hs:Hid (l[m]?=some s)) (y0:Int) (f0:Bool) (hT:Hid (Told (lst l s n) y0 f0)) (hn:n≤140737488355328) (w:World) (hL:Hid (LC w a n c 7 (acs l))):
  Calls Tryz.prog 160 #[.slice a n c,.int .i64 seq] w fun e w'=>e=.returned (.tuple #[.int .i64 y0,.bool f0])∧Below w.heap.size w w':=by
 have hmf:∀(fn:Fn) (first cap:Array Value) (w:World),(Instr.makeFunc fn first cap).run Tryz.prog w=.ok (.func fn first cap) w:=fun _ _ _ _=>rfl
 have hlen:Hid (l.length=n):=by have:=hL.out.len;rw[acs_len]at this;show _=_;omega
 have hso:Hid s.Ok:=hok.out s (List.mem_of_getElem? hs.out)
 have hsq:Hid (s.seq=seq):=by
  have:=hm.out.yes _ hs.out
  unfold sto1 at this
  simp only[Bool.and_eq_true,decide_eq_true_eq]at this
  exact this.2
 obtain⟨bb,o,rfl,hb,hc⟩:=hL.out.sure (by omega)
 have HC:Hid (∀j u,(acs l)[j]?=some u→w.cell? ⟨bb,o+j,none⟩=some u):=hc
 clear hc
 go_enter Tryz.func160,Tryz.ntmps160
 go_wp2_with fail
 refine one_box (Φ:=fun W=>Calls _ _ _ W _) ?_
 intro V0 hV hVb
 have HV:Hid (Below w.heap.size w V0):=hVb
 have cs0:V0.cell? ⟨w.heap.size,0,none⟩=some (.int .i64 seq):=(cell_of_row _ _ _ _ _ _ hV).trans rfl
 have hw0:w.heap.size<V0.heap.size:=heap_lt hV
 have HA:Hid (Asks 186 w.heap.size (sto1 seq) V0):=asks_sto _ _ _ cs0
 clear hV hVb
 refine(aIndexFunc_any 186 w.heap.size (sto1 seq) eg_sto _ n c (by omega) l m hm m (show _=_ by rw[if_pos hmn]) V0 (hL.out.below (Nat.le_refl _) HV.out) HA).mono ?_
 rintro e W ⟨rfl,hbW⟩
 have HW:Hid (Below w.heap.size w W):=HV.out.trans (hbW.mono HV.out.size)
 have csW:W.cell? ⟨w.heap.size,0,none⟩=some (.int .i64 seq):=(hbW.cell (p:=⟨w.heap.size,0,none⟩) hw0).trans cs0
 have hwW:w.heap.size<W.heap.size:=Nat.lt_of_lt_of_le hw0 hbW.size
 have HCS:Hid (W.cell? ⟨w.heap.size,0,none⟩=some (.int .i64 seq)):=csW
 have hbb:bb<W.heap.size:=Nat.lt_of_lt_of_le hb HW.out.size
 have HCW:Hid (∀j u,(acs l)[j]?=some u→W.cell? ⟨bb,o+j,none⟩=some u):=fun j u hj=>(HW.out.cell (p:=⟨bb,o+j,none⟩) hb).trans (HC.out j u hj)
 clear hbW HA HV cs0 hw0 csW
 go_wp2_with fail
 go_loopw [7,8,18] (fun t u i wr=>∃(k:Nat) (y:Int) (f:Bool),k≤n∧i=.int .i64 k∧t=.int .i64 y∧u=.bool f∧Hid (Told (lst l s k) y f)∧Hid (Below W.heap.size W wr))
  (fun _ _ i _=>n-(intOf i).toNat)
 case atStart=>exact⟨0,0,false,by omega,rfl,rfl,rfl,told_none rfl,Below.refl _ _⟩
 case round=>
  obtain⟨k,y,f,hk,rfl,rfl,rfl,HT,HB⟩:=hrel
  by_cases hlt:k<n
  ·obtain⟨q,hq⟩:=atA_ex (l:=l) (k:=k) (by rw[hlen.out];exact hlt)
   have hqo:Hid q.Ok:=hok.out q (List.mem_of_getElem? hq)
   have cc:∀j u,(cel q)[j]?=some u→wr.cell? ⟨bb,o+(k*7+j),none⟩=some u:=fun j u hj=>(HB.out.cell (p:=⟨bb,o+(k*7+j),none⟩) hbb).trans (HCW.out _ _ (acs_at _ _ _ _ _ hq hj))
   have c0:wr.cell? ⟨bb,o+k*7,none⟩=some (.int .i64 q.seq):=cc 0 _ rfl
   have c1:wr.cell? ⟨bb,o+k*7+1,none⟩=some (.bool q.st):=cc 1 _ rfl
   have c2:wr.cell? ⟨bb,o+k*7+2,none⟩=some (.bool q.kn):=cc 2 _ rfl
   have c3:wr.cell? ⟨bb,o+k*7+3,none⟩=some (.int .u32 q.pl):=cc 3 _ rfl
   have c4:wr.cell? ⟨bb,o+k*7+4,none⟩=some (.int .i64 q.many):=cc 4 _ rfl
   have c5:wr.cell? ⟨bb,o+k*7+5,none⟩=some (.int .u32 q.data):=cc 5 _ rfl
   have c6:wr.cell? ⟨bb,o+k*7+6,none⟩=some (.bool q.done):=cc 6 _ rfl
   have HQ:Hid (l[k]?=some q):=hq
   clear hq cc
   go_upto_region 8 with fail
   refine one_box (Φ:=fun W=>Code.wp _ _ _ _ W) ?_
   intro V hV hVb
   have BV:Hid (Box V wr.heap.size q):=hV
   have HBV:Hid (Below W.heap.size W V):=HB.out.trans (hVb.mono HB.out.size)
   clear hV hVb HB c0 c1 c2 c3 c4 c5 c6
   have hbV:bb<V.heap.size:=Nat.lt_of_lt_of_le hbb HBV.out.size
   have hwV:w.heap.size<V.heap.size:=Nat.lt_of_lt_of_le hwW HBV.out.size
   have cs:V.cell? ⟨w.heap.size,0,none⟩=some (.int .i64 seq):=(HBV.out.cell (p:=⟨w.heap.size,0,none⟩) hwW).trans HCS.out
   have ss:∀j u,(cel s)[j]?=some u→V.cell? ⟨bb,o+(m*7+j),none⟩=some u:=fun j u hj=>(HBV.out.cell (p:=⟨bb,o+(m*7+j),none⟩) hbb).trans (HCW.out _ _ (acs_at _ _ _ _ _ hs.out hj))
   have s0:V.cell? ⟨bb,o+m*7,none⟩=some (.int .i64 s.seq):=ss 0 _ rfl
   have s1:V.cell? ⟨bb,o+m*7+1,none⟩=some (.bool s.st):=ss 1 _ rfl
   have s2:V.cell? ⟨bb,o+m*7+2,none⟩=some (.bool s.kn):=ss 2 _ rfl
   have s3:V.cell? ⟨bb,o+m*7+3,none⟩=some (.int .u32 s.pl):=ss 3 _ rfl
   have s4:V.cell? ⟨bb,o+m*7+4,none⟩=some (.int .i64 s.many):=ss 4 _ rfl
   have s5:V.cell? ⟨bb,o+m*7+5,none⟩=some (.int .u32 s.data):=ss 5 _ rfl
   have s6:V.cell? ⟨bb,o+m*7+6,none⟩=some (.bool s.done):=ss 6 _ rfl
   clear ss
   have C1:=fun w=>uover_any q seq w
   have C2:=fun w=>umeet_any s q hso hqo w
   cases hov:ovr seq q with
   |false=>
    rw[hov]at C1
    have HN:Hid (Told (lst l s (k+1)) y f):=by rw[lst_no HQ.out (by rw[hsq.out,hov];rfl)];exact HT
    clear hov C2
    refine wp_region_held_drew (S:=fun w'=>Below V.heap.size V w') (by kernel_rfl) ((Below.refl _ _).drew) (fun hH=>?_)
    refine Co.tH 0 (acv q) rfl (yieldsIf_load_row (by rfl) 135 _ rfl _ rfl 135 _ (0,0) _ (fun w hSw=>(BV.out).below (Nat.le_refl _) hSw) Tryz.underlying135 rfl info7) hH ?_;try go_simp
    refine Co.tH 1 (.int .i64 seq) rfl (Or.inl ⟨by rfl,by intro wz hSw;have h0:=(hSw.cell (p:=⟨w.heap.size,0,none⟩) hwV).trans cs;go_simp⟩) hH ?_;try go_simp
    refine wpAnyH_ready (rs:=[2]) (by kernel_rfl) (by simp) ?_
    refine AllReadyH.cons rfl (fun K hK=>?_) AllReadyH.nil
    go_simp
    refine(C1 _).mono ?_
    rintro e W1 ⟨rfl,hk⟩
    go_wp2_with fail
    refine hK.out _ _ (hH.trans (hk.mono hH.size)) (fun hH=>?_)
    clear hK K hk
    try go_simp
    refine Co.tI 3 (.bool false) rfl hH ?_;try go_simp
    refine Co.tH 4 undef rfl (Or.inr ⟨by rfl,rfl⟩) hH ?_;try go_simp
    refine Co.tH 5 undef rfl (Or.inr ⟨by rfl,rfl⟩) hH ?_;try go_simp
    refine Co.tH 6 undef rfl (Or.inr ⟨by rfl,rfl⟩) hH ?_;try go_simp
    refine Co.tH 7 undef rfl (Or.inr ⟨by rfl,rfl⟩) hH ?_;try go_simp
    refine Co.tH 8 undef rfl (Or.inr ⟨by rfl,rfl⟩) hH ?_;try go_simp
    refine Co.tH 9 undef rfl (Or.inr ⟨by rfl,rfl⟩) hH ?_;try go_simp
    refine Co.tI 10 (.bool false) rfl hH ?_;try go_simp
    refine Co.tI 11 (.bool false) rfl hH ?_;try go_simp
    refine Co.tH 12 undef rfl (Or.inr ⟨by rfl,rfl⟩) hH ?_;try go_simp
    refine Co.tH 13 undef rfl (Or.inr ⟨by rfl,rfl⟩) hH ?_;try go_simp
    refine Co.tH 14 undef rfl (Or.inr ⟨by rfl,rfl⟩) hH ?_;try go_simp
    refine Co.tH 15 undef rfl (Or.inr ⟨by rfl,rfl⟩) hH ?_;try go_simp
    refine Co.tH 16 undef rfl (Or.inr ⟨by rfl,rfl⟩) hH ?_;try go_simp
    refine Co.tH 17 undef rfl (Or.inr ⟨by rfl,rfl⟩) hH ?_;try go_simp
    refine Co.tH 18 undef rfl (Or.inr ⟨by rfl,rfl⟩) hH ?_;try go_simp
    refine Co.tH 19 undef rfl (Or.inr ⟨by rfl,rfl⟩) hH ?_;try go_simp
    refine Co.tI 20 (.bool false) rfl hH ?_;try go_simp
    refine wpAnyH_done (by kernel_rfl) ?_ _
    try go_simp
    have HF:Hid (Below W.heap.size W W1):=HBV.out.trans (hH.mono HBV.out.size)
    have c0:W1.cell? ⟨wr.heap.size,0,none⟩=some (.int .i64 q.seq):=(BV.out.below (Nat.le_refl _) hH).cell rfl
    clear hH
    go_wp2_with fail
    exact⟨⟨k+1,_,_,by omega,by go_num,rfl,rfl,HN,HF⟩,by simp[intOf];omega⟩
   |true=>
    rw[hov]at C1
    have HO:Hid (ovr s.seq q=true):=by rw[hsq.out];exact hov
    clear hov
    cases hmt:mt s q with
    |false=>
     rw[hmt]at C2
     have HN:Hid (Told (lst l s (k+1)) y f):=by rw[lst_no HQ.out (by rw[hmt];simp)];exact HT
     clear hmt
     refine wp_region_held_drew (S:=fun w'=>Below V.heap.size V w') (by kernel_rfl) ((Below.refl _ _).drew) (fun hH=>?_)
     refine Co.tH 0 (acv q) rfl (yieldsIf_load_row (by rfl) 135 _ rfl _ rfl 135 _ (0,0) _ (fun w hSw=>(BV.out).below (Nat.le_refl _) hSw) Tryz.underlying135 rfl info7) hH ?_;try go_simp
     refine Co.tH 1 (.int .i64 seq) rfl (Or.inl ⟨by rfl,by intro wz hSw;have h0:=(hSw.cell (p:=⟨w.heap.size,0,none⟩) hwV).trans cs;go_simp⟩) hH ?_;try go_simp
     refine wpAnyH_ready (rs:=[2]) (by kernel_rfl) (by simp) ?_
     refine AllReadyH.cons rfl (fun K hK=>?_) AllReadyH.nil
     go_simp
     refine(C1 _).mono ?_
     rintro e W1 ⟨rfl,hk⟩
     go_wp2_with fail
     refine hK.out _ _ (hH.trans (hk.mono hH.size)) (fun hH=>?_)
     clear hK K hk
     try go_simp
     refine Co.tI 3 (.bool true) rfl hH ?_;try go_simp
     refine Co.tI 4 (.slice (some ⟨bb,o,none⟩) n c) rfl hH ?_;try go_simp
     refine Co.tI 5 (.int .i64 m) rfl hH ?_;try go_simp
     refine Co.tI 6 (.pointer (some ⟨bb,o+m*7,none⟩)) rfl hH ?_;try go_simp
     refine Co.tH 7 (acv s) rfl (Or.inl ⟨by rfl,by intro wz hSw;have h0:=(hSw.cell (p:=⟨bb,o+m*7,none⟩) hbV).trans s0;have h1:=(hSw.cell (p:=⟨bb,o+m*7+1,none⟩) hbV).trans s1;have h2:=(hSw.cell (p:=⟨bb,o+m*7+2,none⟩) hbV).trans s2;have h3:=(hSw.cell (p:=⟨bb,o+m*7+3,none⟩) hbV).trans s3;have h4:=(hSw.cell (p:=⟨bb,o+m*7+4,none⟩) hbV).trans s4;have h5:=(hSw.cell (p:=⟨bb,o+m*7+5,none⟩) hbV).trans s5;have h6:=(hSw.cell (p:=⟨bb,o+m*7+6,none⟩) hbV).trans s6;go_simp⟩) hH ?_;try go_simp
     refine Co.tH 8 (acv q) rfl (yieldsIf_load_row (by rfl) 135 _ rfl _ rfl 135 _ (0,0) _ (fun w hSw=>(BV.out).below (Nat.le_refl _) hSw) Tryz.underlying135 rfl info7) hH ?_;try go_simp
     refine wpAnyH_ready (rs:=[9]) (by kernel_rfl) (by simp) ?_
     refine AllReadyH.cons rfl (fun K hK=>?_) AllReadyH.nil
     go_simp
     refine(C2 _).mono ?_
     rintro e W2 ⟨rfl,hk⟩
     go_wp2_with fail
     refine hK.out _ _ (hH.trans (hk.mono hH.size)) (fun hH=>?_)
     clear hK K hk
     try go_simp
     refine Co.tI 10 (.bool false) rfl hH ?_;try go_simp
     refine Co.tI 11 (.bool false) rfl hH ?_;try go_simp
     refine Co.tH 12 undef rfl (Or.inr ⟨by rfl,rfl⟩) hH ?_;try go_simp
     refine Co.tH 13 undef rfl (Or.inr ⟨by rfl,rfl⟩) hH ?_;try go_simp
     refine Co.tH 14 undef rfl (Or.inr ⟨by rfl,rfl⟩) hH ?_;try go_simp
     refine Co.tH 15 undef rfl (Or.inr ⟨by rfl,rfl⟩) hH ?_;try go_simp
     refine Co.tH 16 undef rfl (Or.inr ⟨by rfl,rfl⟩) hH ?_;try go_simp
     refine Co.tH 17 undef rfl (Or.inr ⟨by rfl,rfl⟩) hH ?_;try go_simp
     refine Co.tH 18 undef rfl (Or.inr ⟨by rfl,rfl⟩) hH ?_;try go_simp
     refine Co.tH 19 undef rfl (Or.inr ⟨by rfl,rfl⟩) hH ?_;try go_simp
     refine Co.tI 20 (.bool false) rfl hH ?_;try go_simp
     refine wpAnyH_done (by kernel_rfl) ?_ _
     try go_simp
     have HF:Hid (Below W.heap.size W W2):=HBV.out.trans (hH.mono HBV.out.size)
     have c0:W2.cell? ⟨wr.heap.size,0,none⟩=some (.int .i64 q.seq):=(BV.out.below (Nat.le_refl _) hH).cell rfl
     clear hH
     go_wp2_with fail
     exact⟨⟨k+1,_,_,by omega,by go_num,rfl,rfl,HN,HF⟩,by simp[intOf];omega⟩
    |true=>
     rw[hmt]at C2
     have HG:Hid ((ovr s.seq q&&mt s q)=true):=by rw[HO.out,hmt];rfl
     clear hmt HO
     cases hls:lst l s k with
     |none=>
      rw[hls]at HT
      obtain⟨rfl,rfl⟩:=HT.out.none'
      have HN:Hid (Told (lst l s (k+1)) q.seq true):=told_some (lst_first HQ.out HG.out hls)
      clear hls HT
      refine wp_region_held_drew (S:=fun w'=>Below V.heap.size V w') (by kernel_rfl) ((Below.refl _ _).drew) (fun hH=>?_)
      refine Co.tH 0 (acv q) rfl (yieldsIf_load_row (by rfl) 135 _ rfl _ rfl 135 _ (0,0) _ (fun w hSw=>(BV.out).below (Nat.le_refl _) hSw) Tryz.underlying135 rfl info7) hH ?_;try go_simp
      refine Co.tH 1 (.int .i64 seq) rfl (Or.inl ⟨by rfl,by intro wz hSw;have h0:=(hSw.cell (p:=⟨w.heap.size,0,none⟩) hwV).trans cs;go_simp⟩) hH ?_;try go_simp
      refine wpAnyH_ready (rs:=[2]) (by kernel_rfl) (by simp) ?_
      refine AllReadyH.cons rfl (fun K hK=>?_) AllReadyH.nil
      go_simp
      refine(C1 _).mono ?_
      rintro e W1 ⟨rfl,hk⟩
      go_wp2_with fail
      refine hK.out _ _ (hH.trans (hk.mono hH.size)) (fun hH=>?_)
      clear hK K hk
      try go_simp
      refine Co.tI 3 (.bool true) rfl hH ?_;try go_simp
      refine Co.tI 4 (.slice (some ⟨bb,o,none⟩) n c) rfl hH ?_;try go_simp
      refine Co.tI 5 (.int .i64 m) rfl hH ?_;try go_simp
      refine Co.tI 6 (.pointer (some ⟨bb,o+m*7,none⟩)) rfl hH ?_;try go_simp
      refine Co.tH 7 (acv s) rfl (Or.inl ⟨by rfl,by intro wz hSw;have h0:=(hSw.cell (p:=⟨bb,o+m*7,none⟩) hbV).trans s0;have h1:=(hSw.cell (p:=⟨bb,o+m*7+1,none⟩) hbV).trans s1;have h2:=(hSw.cell (p:=⟨bb,o+m*7+2,none⟩) hbV).trans s2;have h3:=(hSw.cell (p:=⟨bb,o+m*7+3,none⟩) hbV).trans s3;have h4:=(hSw.cell (p:=⟨bb,o+m*7+4,none⟩) hbV).trans s4;have h5:=(hSw.cell (p:=⟨bb,o+m*7+5,none⟩) hbV).trans s5;have h6:=(hSw.cell (p:=⟨bb,o+m*7+6,none⟩) hbV).trans s6;go_simp⟩) hH ?_;try go_simp
      refine Co.tH 8 (acv q) rfl (yieldsIf_load_row (by rfl) 135 _ rfl _ rfl 135 _ (0,0) _ (fun w hSw=>(BV.out).below (Nat.le_refl _) hSw) Tryz.underlying135 rfl info7) hH ?_;try go_simp
      refine wpAnyH_ready (rs:=[9]) (by kernel_rfl) (by simp) ?_
      refine AllReadyH.cons rfl (fun K hK=>?_) AllReadyH.nil
      go_simp
      refine(C2 _).mono ?_
      rintro e W2 ⟨rfl,hk⟩
      go_wp2_with fail
      refine hK.out _ _ (hH.trans (hk.mono hH.size)) (fun hH=>?_)
      clear hK K hk
      try go_simp
      refine Co.tI 10 (.bool true) rfl hH ?_;try go_simp
      refine Co.tI 11 (.bool true) rfl hH ?_;try go_simp
      refine Co.tI 12 (.bool false) rfl hH ?_;try go_simp
      refine Co.tI 13 (.bool true) rfl hH ?_;try go_simp
      refine Co.tI 14 (.bool true) rfl hH ?_;try go_simp
      refine Co.tH 15 undef rfl (Or.inr ⟨by rfl,rfl⟩) hH ?_;try go_simp
      refine Co.tH 16 undef rfl (Or.inr ⟨by rfl,rfl⟩) hH ?_;try go_simp
      refine Co.tH 17 undef rfl (Or.inr ⟨by rfl,rfl⟩) hH ?_;try go_simp
      refine Co.tH 18 undef rfl (Or.inr ⟨by rfl,rfl⟩) hH ?_;try go_simp
      refine Co.tI 19 (.bool true) rfl hH ?_;try go_simp
      refine Co.tI 20 (.bool true) rfl hH ?_;try go_simp
      refine wpAnyH_done (by kernel_rfl) ?_ _
      try go_simp
      have HF:Hid (Below W.heap.size W W2):=HBV.out.trans (hH.mono HBV.out.size)
      have c0:W2.cell? ⟨wr.heap.size,0,none⟩=some (.int .i64 q.seq):=(BV.out.below (Nat.le_refl _) hH).cell rfl
      clear hH
      go_wp2_with fail
      exact⟨⟨k+1,_,_,by omega,by go_num,rfl,rfl,HN,HF⟩,by simp[intOf];omega⟩
     |some z=>
      rw[hls]at HT
      obtain⟨rfl,rfl⟩:=HT.out.some'
      have HS:Hid (lst l s k=some y):=hls
      clear hls HT
      by_cases hle:q.seq<y
      ·have HN:Hid (Told (lst l s (k+1)) q.seq true):=told_some (lst_less HQ.out HG.out HS.out hle)
       refine wp_region_held_drew (S:=fun w'=>Below V.heap.size V w') (by kernel_rfl) ((Below.refl _ _).drew) (fun hH=>?_)
       refine Co.tH 0 (acv q) rfl (yieldsIf_load_row (by rfl) 135 _ rfl _ rfl 135 _ (0,0) _ (fun w hSw=>(BV.out).below (Nat.le_refl _) hSw) Tryz.underlying135 rfl info7) hH ?_;try go_simp
       refine Co.tH 1 (.int .i64 seq) rfl (Or.inl ⟨by rfl,by intro wz hSw;have h0:=(hSw.cell (p:=⟨w.heap.size,0,none⟩) hwV).trans cs;go_simp⟩) hH ?_;try go_simp
       refine wpAnyH_ready (rs:=[2]) (by kernel_rfl) (by simp) ?_
       refine AllReadyH.cons rfl (fun K hK=>?_) AllReadyH.nil
       go_simp
       refine(C1 _).mono ?_
       rintro e W1 ⟨rfl,hk⟩
       go_wp2_with fail
       refine hK.out _ _ (hH.trans (hk.mono hH.size)) (fun hH=>?_)
       clear hK K hk
       try go_simp
       refine Co.tI 3 (.bool true) rfl hH ?_;try go_simp
       refine Co.tI 4 (.slice (some ⟨bb,o,none⟩) n c) rfl hH ?_;try go_simp
       refine Co.tI 5 (.int .i64 m) rfl hH ?_;try go_simp
       refine Co.tI 6 (.pointer (some ⟨bb,o+m*7,none⟩)) rfl hH ?_;try go_simp
       refine Co.tH 7 (acv s) rfl (Or.inl ⟨by rfl,by intro wz hSw;have h0:=(hSw.cell (p:=⟨bb,o+m*7,none⟩) hbV).trans s0;have h1:=(hSw.cell (p:=⟨bb,o+m*7+1,none⟩) hbV).trans s1;have h2:=(hSw.cell (p:=⟨bb,o+m*7+2,none⟩) hbV).trans s2;have h3:=(hSw.cell (p:=⟨bb,o+m*7+3,none⟩) hbV).trans s3;have h4:=(hSw.cell (p:=⟨bb,o+m*7+4,none⟩) hbV).trans s4;have h5:=(hSw.cell (p:=⟨bb,o+m*7+5,none⟩) hbV).trans s5;have h6:=(hSw.cell (p:=⟨bb,o+m*7+6,none⟩) hbV).trans s6;go_simp⟩) hH ?_;try go_simp
       refine Co.tH 8 (acv q) rfl (yieldsIf_load_row (by rfl) 135 _ rfl _ rfl 135 _ (0,0) _ (fun w hSw=>(BV.out).below (Nat.le_refl _) hSw) Tryz.underlying135 rfl info7) hH ?_;try go_simp
       refine wpAnyH_ready (rs:=[9]) (by kernel_rfl) (by simp) ?_
       refine AllReadyH.cons rfl (fun K hK=>?_) AllReadyH.nil
       go_simp
       refine(C2 _).mono ?_
       rintro e W2 ⟨rfl,hk⟩
       go_wp2_with fail
       refine hK.out _ _ (hH.trans (hk.mono hH.size)) (fun hH=>?_)
       clear hK K hk
       try go_simp
       refine Co.tI 10 (.bool true) rfl hH ?_;try go_simp
       refine Co.tI 11 (.bool true) rfl hH ?_;try go_simp
       refine Co.tI 12 (.bool true) rfl hH ?_;try go_simp
       refine Co.tI 13 (.bool false) rfl hH ?_;try go_simp
       refine Co.tI 14 (.bool false) rfl hH ?_;try go_simp
       refine Co.tI 15 (.pointer (some ⟨wr.heap.size,0,none⟩)) rfl hH ?_;try go_simp
       refine Co.tH 16 (.int .i64 q.seq) rfl (Or.inl ⟨by rfl,by intro wz hSw;have h2:=(BV.out.below (Nat.le_refl _) hSw).cell (j:=0) rfl;go_simp⟩) hH ?_;try go_simp
       refine Co.tI 17 (.int .i64 y) rfl hH ?_;try go_simp
       refine Co.tI 18 (.bool true) rfl hH ?_;try go_simp
       refine Co.tI 19 (.bool true) rfl hH ?_;try go_simp
       refine Co.tI 20 (.bool true) rfl hH ?_;try go_simp
       refine wpAnyH_done (by kernel_rfl) ?_ _
       try go_simp
       have HF:Hid (Below W.heap.size W W2):=HBV.out.trans (hH.mono HBV.out.size)
       have c0:W2.cell? ⟨wr.heap.size,0,none⟩=some (.int .i64 q.seq):=(BV.out.below (Nat.le_refl _) hH).cell rfl
       clear hH
       go_wp2_with fail
       exact⟨⟨k+1,_,_,by omega,by go_num,rfl,rfl,HN,HF⟩,by simp[intOf];omega⟩
      ·have HN:Hid (Told (lst l s (k+1)) y true):=told_some ((lst_more HQ.out HS.out (by omega)).trans HS.out)
       refine wp_region_held_drew (S:=fun w'=>Below V.heap.size V w') (by kernel_rfl) ((Below.refl _ _).drew) (fun hH=>?_)
       refine Co.tH 0 (acv q) rfl (yieldsIf_load_row (by rfl) 135 _ rfl _ rfl 135 _ (0,0) _ (fun w hSw=>(BV.out).below (Nat.le_refl _) hSw) Tryz.underlying135 rfl info7) hH ?_;try go_simp
       refine Co.tH 1 (.int .i64 seq) rfl (Or.inl ⟨by rfl,by intro wz hSw;have h0:=(hSw.cell (p:=⟨w.heap.size,0,none⟩) hwV).trans cs;go_simp⟩) hH ?_;try go_simp
       refine wpAnyH_ready (rs:=[2]) (by kernel_rfl) (by simp) ?_
       refine AllReadyH.cons rfl (fun K hK=>?_) AllReadyH.nil
       go_simp
       refine(C1 _).mono ?_
       rintro e W1 ⟨rfl,hk⟩
       go_wp2_with fail
       refine hK.out _ _ (hH.trans (hk.mono hH.size)) (fun hH=>?_)
       clear hK K hk
       try go_simp
       refine Co.tI 3 (.bool true) rfl hH ?_;try go_simp
       refine Co.tI 4 (.slice (some ⟨bb,o,none⟩) n c) rfl hH ?_;try go_simp
       refine Co.tI 5 (.int .i64 m) rfl hH ?_;try go_simp
       refine Co.tI 6 (.pointer (some ⟨bb,o+m*7,none⟩)) rfl hH ?_;try go_simp
       refine Co.tH 7 (acv s) rfl (Or.inl ⟨by rfl,by intro wz hSw;have h0:=(hSw.cell (p:=⟨bb,o+m*7,none⟩) hbV).trans s0;have h1:=(hSw.cell (p:=⟨bb,o+m*7+1,none⟩) hbV).trans s1;have h2:=(hSw.cell (p:=⟨bb,o+m*7+2,none⟩) hbV).trans s2;have h3:=(hSw.cell (p:=⟨bb,o+m*7+3,none⟩) hbV).trans s3;have h4:=(hSw.cell (p:=⟨bb,o+m*7+4,none⟩) hbV).trans s4;have h5:=(hSw.cell (p:=⟨bb,o+m*7+5,none⟩) hbV).trans s5;have h6:=(hSw.cell (p:=⟨bb,o+m*7+6,none⟩) hbV).trans s6;go_simp⟩) hH ?_;try go_simp
       refine Co.tH 8 (acv q) rfl (yieldsIf_load_row (by rfl) 135 _ rfl _ rfl 135 _ (0,0) _ (fun w hSw=>(BV.out).below (Nat.le_refl _) hSw) Tryz.underlying135 rfl info7) hH ?_;try go_simp
       refine wpAnyH_ready (rs:=[9]) (by kernel_rfl) (by simp) ?_
       refine AllReadyH.cons rfl (fun K hK=>?_) AllReadyH.nil
       go_simp
       refine(C2 _).mono ?_
       rintro e W2 ⟨rfl,hk⟩
       go_wp2_with fail
       refine hK.out _ _ (hH.trans (hk.mono hH.size)) (fun hH=>?_)
       clear hK K hk
       try go_simp
       refine Co.tI 10 (.bool true) rfl hH ?_;try go_simp
       refine Co.tI 11 (.bool true) rfl hH ?_;try go_simp
       refine Co.tI 12 (.bool true) rfl hH ?_;try go_simp
       refine Co.tI 13 (.bool false) rfl hH ?_;try go_simp
       refine Co.tI 14 (.bool false) rfl hH ?_;try go_simp
       refine Co.tI 15 (.pointer (some ⟨wr.heap.size,0,none⟩)) rfl hH ?_;try go_simp
       refine Co.tH 16 (.int .i64 q.seq) rfl (Or.inl ⟨by rfl,by intro wz hSw;have h2:=(BV.out.below (Nat.le_refl _) hSw).cell (j:=0) rfl;go_simp⟩) hH ?_;try go_simp
       refine Co.tI 17 (.int .i64 y) rfl hH ?_;try go_simp
       refine Co.tI 18 (.bool false) rfl hH ?_;try go_simp
       refine Co.tI 19 (.bool false) rfl hH ?_;try go_simp
       refine Co.tI 20 (.bool false) rfl hH ?_;try go_simp
       refine wpAnyH_done (by kernel_rfl) ?_ _
       try go_simp
       have HF:Hid (Below W.heap.size W W2):=HBV.out.trans (hH.mono HBV.out.size)
       have c0:W2.cell? ⟨wr.heap.size,0,none⟩=some (.int .i64 q.seq):=(BV.out.below (Nat.le_refl _) hH).cell rfl
       clear hH
       go_wp2_with fail
       exact⟨⟨k+1,_,_,by omega,by go_num,rfl,rfl,HN,HF⟩,by simp[intOf];omega⟩
  ·obtain rfl:k=n:=by omega
   obtain⟨rfl,rfl⟩:y0=y∧f0=f:=⟨hT.out.2.trans HT.out.2.symm,hT.out.1.trans HT.out.1.symm⟩
   have HF:Hid (Below w.heap.size w wr):=HW.out.trans (HB.out.mono HW.out.size)
   go_wp2_with fail
   refine bodyPost_ret (v:=.tuple #[.int .i64 y0,.bool f0]) ?_ rfl ⟨rfl,HF.out⟩
   simp[results,Tryz.results160,asAddr]
theorem wpList_load_row_g {P:Program} {ops:Array Oper} {rest:List Oper} {o:Oper} {a:Act} {w:World} {Q:Exit→Act→World→Prop} (hw:Region.wanted o (yielded ops a.tmps)=true) (ty:TypeId) (x:Operand) (ho:o.op=.load ty x)
  (g:Nat) (hx:a.eval x=.pointer (some ⟨g,0,none⟩)) (t:TypeId) (cs:Array Value) (fr:Nat×Nat) (d:TypeDesc) (hg:w.heap[g]?=some (.cells cs t fr))
  (hu:P.underlying ty=some d) (hd:(match d with|.struct _|.array _ _=>true|_=>false)=true) (hi:(P.info? ty).map (·.size)=some cs.size)
  (h:wpList P ops Q rest (a.put o.dst (.agg cs)) w):wpList P ops Q (o::rest) a w:=by
 unfold wpList
 rw[if_pos hw]
 exact Or.inl (wp_load_row ty x ho g hx t cs fr d hg hu hd hi h)
end Go.Proofs.YtpiohehijkpghacGreatDoor.Od
