/- What stores leave at a place: the program. -/
import Derived.Test.YtpiohehijkpghabGreatDoorS20
import Derived.Test.YtpiohehijkpghabGreatDoorS09
set_option maxRecDepth 20000
set_option maxHeartbeats 2000000
set_option linter.unusedSimpArgs false
set_option linter.unusedVariables false
open Go.Proofs.Tryz
namespace Go.Proofs.YtpiohehijkpghabGreatDoor.Od
open Go.Proofs.YtpiohehijkpghabGreatDoor.Wi
open Go.RowKit
open Hy
theorem below_drewN{B:Nat}{a w:World}(h:Below B a w)(q:Nat):Below B a (w.drewN q):=⟨h.os,h.tape,h.output,h.size,h.block⟩
def plc(o:Option Nat):Int:=match o with
 |none=>-1
 |some j=>j
theorem zn6{seq x:Int}{q:Ac}(h:ahd seq q=false):gv seq x q=false:=by unfold gv;rw[h];rfl
theorem zn7{seq x:Int}{q:Ac}(h:q.kn=false):gv seq x q=false:=by unfold gv;rw[h];simp
theorem zn8{seq x:Int}{q:Ac}(h:hs q x=false):gv seq x q=false:=by unfold gv;rw[h];simp
theorem zn9{seq x:Int}{q:Ac}(h1:ahd seq q=true)(h2:q.kn=true)(h3:hs q x=true):gv seq x q=true:=by unfold gv;rw[h1,h2,h3];rfl
theorem zdn(a:Option Addr)(n c:Nat)(seq x:Int)(l:List Ac)(hok:Hid (∀q∈l,q.Ok))(x0:0<=x)(x1:x<=4294967295)(r:Int)(f:Bool)(hr:Hid (r=seen l seq x 0 n))(hf:Hid (f=(bst l seq x n).isSome))(hn:n<=140737488355328)(w:World)(hL:Hid (LC w a n c 7 (acs l))):
  Calls prog 96 #[.slice a n c,.int .i64 seq,.int .u64 x] w fun e w'=>e=.returned (.tuple #[.int .u8 r,.bool f])/\Below w.heap.size w w':=by
 have hlen:Hid (l.length=n):=by have:=hL.out.len;rw[vb]at this;show _=_;omega
 go_enter func96,ntmps96
 go_wp2_with fail
 go_loopw [8,13] (fun t i wr=>∃(k:Nat) (T:Int),k<=n/\i=.int .i64 k/\t=.int .i64 T/\Hid (T=plc (bst l seq x k))/\Hid (Below w.heap.size w wr))
  (fun _ i _=>n-(intOf i).toNat)
 case atStart=>exact⟨0,-1,by omega,rfl,rfl,rfl,Below.refl _ _⟩
 case round=>
  obtain⟨k,T,hk,rfl,rfl,HT,HB⟩:=hrel
  by_cases hlt:k<n
  ·obtain⟨q,hq⟩:=zeh (l:=l) (k:=k) (by rw[hlen.out];exact hlt)
   have hqo:Hid q.Ok:=hok.out q (List.mem_of_getElem? hq)
   obtain⟨bb,o,rfl,hb,hc⟩:=hL.out.sure (by omega)
   have HC:Hid (∀j u,(acs l)[j]?=some u->w.cell? ⟨bb,o+j,none⟩=some u):=hc
   have cc:∀j u,(cel q)[j]?=some u->wr.cell? ⟨bb,o+(k*7+j),none⟩=some u:=fun j u hj=>(HB.out.cell (p:=⟨bb,o+(k*7+j),none⟩) hb).trans (hc _ _ (yr _ _ _ _ _ hq hj))
   have c0:wr.cell? ⟨bb,o+k*7,none⟩=some (.int .i64 q.seq):=cc 0 _ rfl
   have c1:wr.cell? ⟨bb,o+k*7+1,none⟩=some (.bool q.st):=cc 1 _ rfl
   have c2:wr.cell? ⟨bb,o+k*7+2,none⟩=some (.bool q.kn):=cc 2 _ rfl
   have c3:wr.cell? ⟨bb,o+k*7+3,none⟩=some (.int .u32 q.pl):=cc 3 _ rfl
   have c4:wr.cell? ⟨bb,o+k*7+4,none⟩=some (.int .i64 q.many):=cc 4 _ rfl
   have c5:wr.cell? ⟨bb,o+k*7+5,none⟩=some (.int .u32 q.data):=cc 5 _ rfl
   have c6:wr.cell? ⟨bb,o+k*7+6,none⟩=some (.bool q.done):=cc 6 _ rfl
   have HQ:Hid (l[k]?=some q):=hq
   clear hc hq cc
   go_upto_region 5 with fail
   refine zA (Φ:=fun W=>Code.wp _ _ _ _ W) ?_
   intro V hV hVb
   have BV:Hid (Box V wr.heap.size q):=hV
   have HBV:Hid (Below w.heap.size w V):=HB.out.trans (hVb.mono HB.out.size)
   clear hV hVb HB c0 c1 c2 c3 c4 c5 c6
   have C1:=fun w=>zat q seq w
   have C2:=fun w=>zei q hqo.out x x0 (by omega) w
   cases hah:ahd seq q with
   |false=>
    rw[hah]at C1
    have HN:Hid (T=plc (bst l seq x (k+1))):=by rw[zhc HQ.out (zn6 hah)];exact HT
    clear hah C2
    refine wp_region_held_drew (S:=fun w'=>Below V.heap.size V w') (by kernel_rfl) ((Below.refl _ _).drew) (fun hH=>?_)
    refine Co.tH 0 (acv q) rfl (zc (by rfl) 100 _ rfl _ rfl 100 _ (0,0) _ (fun w hSw=>(BV.out).below (Nat.le_refl _) hSw) underlying100 rfl jb) hH ?_;try go_simp
    refine Co.tI 1 (.int .i64 seq) rfl hH ?_;try go_simp
    refine wpAnyH_ready (rs:=[2]) (by kernel_rfl) (by simp) ?_
    refine AllReadyH.cons rfl (fun K hK=>?_) AllReadyH.nil
    go_simp
    refine(C1 _).mono ?_
    rintro e W1 ⟨rfl,hk⟩
    go_wp2_with fail
    refine hK.out _ _ (hH.trans (hk.mono hH.size)) (fun hH=>?_)
    clear hK K hk
    try go_simp
    refine Co.tI 3 (.bool false) rfl hH ?_;try go_simp
    refine Co.tH 4 undef rfl (Or.inr ⟨by rfl,rfl⟩) hH ?_;try go_simp
    refine Co.tH 5 undef rfl (Or.inr ⟨by rfl,rfl⟩) hH ?_;try go_simp
    refine Co.tI 6 (.bool false) rfl hH ?_;try go_simp
    refine Co.tI 7 (.bool false) rfl hH ?_;try go_simp
    refine Co.tH 8 undef rfl (Or.inr ⟨by rfl,rfl⟩) hH ?_;try go_simp
    refine Co.tH 9 undef rfl (Or.inr ⟨by rfl,rfl⟩) hH ?_;try go_simp
    refine Co.tH 10 undef rfl (Or.inr ⟨by rfl,rfl⟩) hH ?_;try go_simp
    refine Co.tI 11 (.bool false) rfl hH ?_;try go_simp
    refine Co.tI 12 (.bool false) rfl hH ?_;try go_simp
    refine Co.tH 13 undef rfl (Or.inr ⟨by rfl,rfl⟩) hH ?_;try go_simp
    refine Co.tH 14 undef rfl (Or.inr ⟨by rfl,rfl⟩) hH ?_;try go_simp
    refine Co.tH 15 undef rfl (Or.inr ⟨by rfl,rfl⟩) hH ?_;try go_simp
    refine Co.tH 16 undef rfl (Or.inr ⟨by rfl,rfl⟩) hH ?_;try go_simp
    refine Co.tH 17 undef rfl (Or.inr ⟨by rfl,rfl⟩) hH ?_;try go_simp
    refine Co.tH 18 undef rfl (Or.inr ⟨by rfl,rfl⟩) hH ?_;try go_simp
    refine Co.tH 19 undef rfl (Or.inr ⟨by rfl,rfl⟩) hH ?_;try go_simp
    refine Co.tH 20 undef rfl (Or.inr ⟨by rfl,rfl⟩) hH ?_;try go_simp
    refine Co.tH 21 undef rfl (Or.inr ⟨by rfl,rfl⟩) hH ?_;try go_simp
    refine Co.tH 22 undef rfl (Or.inr ⟨by rfl,rfl⟩) hH ?_;try go_simp
    refine Co.tH 23 undef rfl (Or.inr ⟨by rfl,rfl⟩) hH ?_;try go_simp
    refine Co.tH 24 undef rfl (Or.inr ⟨by rfl,rfl⟩) hH ?_;try go_simp
    refine Co.tI 25 (.bool false) rfl hH ?_;try go_simp
    refine wpAnyH_done (by kernel_rfl) ?_ _
    try go_simp
    have HF:Hid (Below w.heap.size w W1):=HBV.out.trans (hH.mono HBV.out.size)
    clear hH
    go_wp2_with fail
    exact⟨⟨k+1,_,by omega,by go_num,rfl,HN,HF⟩,by simp[intOf];omega⟩
   |true=>
    rw[hah]at C1
    have HA:Hid (ahd seq q=true):=hah
    clear hah
    cases hkn:q.kn with
    |false=>
     have HN:Hid (T=plc (bst l seq x (k+1))):=by rw[zhc HQ.out (zn7 hkn)];exact HT
     clear C2
     refine wp_region_held_drew (S:=fun w'=>Below V.heap.size V w') (by kernel_rfl) ((Below.refl _ _).drew) (fun hH=>?_)
     refine Co.tH 0 (acv q) rfl (zc (by rfl) 100 _ rfl _ rfl 100 _ (0,0) _ (fun w hSw=>(BV.out).below (Nat.le_refl _) hSw) underlying100 rfl jb) hH ?_;try go_simp
     refine Co.tI 1 (.int .i64 seq) rfl hH ?_;try go_simp
     refine wpAnyH_ready (rs:=[2]) (by kernel_rfl) (by simp) ?_
     refine AllReadyH.cons rfl (fun K hK=>?_) AllReadyH.nil
     go_simp
     refine(C1 _).mono ?_
     rintro e W1 ⟨rfl,hk⟩
     go_wp2_with fail
     refine hK.out _ _ (hH.trans (hk.mono hH.size)) (fun hH=>?_)
     clear hK K hk
     try go_simp
     refine Co.tI 3 (.bool true) rfl hH ?_;try go_simp
     refine Co.tI 4 (.pointer (some ⟨wr.heap.size,2,none⟩)) rfl hH ?_;try go_simp
     refine Co.tH 5 (.bool false) rfl (Or.inl ⟨by rfl,by intro w hSw;have h2:=(BV.out.below (Nat.le_refl _) hSw).cell (j:=2) rfl;rw[hkn]at h2;go_simp⟩) hH ?_;try go_simp
     refine Co.tI 6 (.bool false) rfl hH ?_;try go_simp
     refine Co.tI 7 (.bool false) rfl hH ?_;try go_simp
     refine Co.tH 8 undef rfl (Or.inr ⟨by rfl,rfl⟩) hH ?_;try go_simp
     refine Co.tH 9 undef rfl (Or.inr ⟨by rfl,rfl⟩) hH ?_;try go_simp
     refine Co.tH 10 undef rfl (Or.inr ⟨by rfl,rfl⟩) hH ?_;try go_simp
     refine Co.tI 11 (.bool false) rfl hH ?_;try go_simp
     refine Co.tI 12 (.bool false) rfl hH ?_;try go_simp
     refine Co.tH 13 undef rfl (Or.inr ⟨by rfl,rfl⟩) hH ?_;try go_simp
     refine Co.tH 14 undef rfl (Or.inr ⟨by rfl,rfl⟩) hH ?_;try go_simp
     refine Co.tH 15 undef rfl (Or.inr ⟨by rfl,rfl⟩) hH ?_;try go_simp
     refine Co.tH 16 undef rfl (Or.inr ⟨by rfl,rfl⟩) hH ?_;try go_simp
     refine Co.tH 17 undef rfl (Or.inr ⟨by rfl,rfl⟩) hH ?_;try go_simp
     refine Co.tH 18 undef rfl (Or.inr ⟨by rfl,rfl⟩) hH ?_;try go_simp
     refine Co.tH 19 undef rfl (Or.inr ⟨by rfl,rfl⟩) hH ?_;try go_simp
     refine Co.tH 20 undef rfl (Or.inr ⟨by rfl,rfl⟩) hH ?_;try go_simp
     refine Co.tH 21 undef rfl (Or.inr ⟨by rfl,rfl⟩) hH ?_;try go_simp
     refine Co.tH 22 undef rfl (Or.inr ⟨by rfl,rfl⟩) hH ?_;try go_simp
     refine Co.tH 23 undef rfl (Or.inr ⟨by rfl,rfl⟩) hH ?_;try go_simp
     refine Co.tH 24 undef rfl (Or.inr ⟨by rfl,rfl⟩) hH ?_;try go_simp
     refine Co.tI 25 (.bool false) rfl hH ?_;try go_simp
     refine wpAnyH_done (by kernel_rfl) ?_ _
     try go_simp
     have HF:Hid (Below w.heap.size w W1):=HBV.out.trans (hH.mono HBV.out.size)
     clear hH
     go_wp2_with fail
     exact⟨⟨k+1,_,by omega,by go_num,rfl,HN,HF⟩,by simp[intOf];omega⟩
    |true=>
     cases hhs:hs q x with
     |false=>
      rw[hhs]at C2
      have HN:Hid (T=plc (bst l seq x (k+1))):=by rw[zhc HQ.out (zn8 hhs)];exact HT
      clear hhs
      refine wp_region_held_drew (S:=fun w'=>Below V.heap.size V w') (by kernel_rfl) ((Below.refl _ _).drew) (fun hH=>?_)
      refine Co.tH 0 (acv q) rfl (zc (by rfl) 100 _ rfl _ rfl 100 _ (0,0) _ (fun w hSw=>(BV.out).below (Nat.le_refl _) hSw) underlying100 rfl jb) hH ?_;try go_simp
      refine Co.tI 1 (.int .i64 seq) rfl hH ?_;try go_simp
      refine wpAnyH_ready (rs:=[2]) (by kernel_rfl) (by simp) ?_
      refine AllReadyH.cons rfl (fun K hK=>?_) AllReadyH.nil
      go_simp
      refine(C1 _).mono ?_
      rintro e W1 ⟨rfl,hk⟩
      go_wp2_with fail
      refine hK.out _ _ (hH.trans (hk.mono hH.size)) (fun hH=>?_)
      clear hK K hk
      try go_simp
      refine Co.tI 3 (.bool true) rfl hH ?_;try go_simp
      refine Co.tI 4 (.pointer (some ⟨wr.heap.size,2,none⟩)) rfl hH ?_;try go_simp
      refine Co.tH 5 (.bool true) rfl (Or.inl ⟨by rfl,by intro w hSw;have h2:=(BV.out.below (Nat.le_refl _) hSw).cell (j:=2) rfl;rw[hkn]at h2;go_simp⟩) hH ?_;try go_simp
      refine Co.tI 6 (.bool true) rfl hH ?_;try go_simp
      refine Co.tI 7 (.bool true) rfl hH ?_;try go_simp
      refine Co.tH 8 (acv q) rfl (zc (by rfl) 100 _ rfl _ rfl 100 _ (0,0) _ (fun w hSw=>(BV.out).below (Nat.le_refl _) hSw) underlying100 rfl jb) hH ?_;try go_simp
      refine Co.tI 9 (.int .u64 x) rfl hH ?_;try go_simp
      refine wpAnyH_ready (rs:=[10]) (by kernel_rfl) (by simp) ?_
      refine AllReadyH.cons rfl (fun K hK=>?_) AllReadyH.nil
      go_simp
      refine(C2 _).mono ?_
      rintro e W2 ⟨rfl,hk⟩
      go_wp2_with fail
      refine hK.out _ _ (hH.trans (hk.mono hH.size)) (fun hH=>?_)
      clear hK K hk
      try go_simp
      refine Co.tI 11 (.bool false) rfl hH ?_;try go_simp
      refine Co.tI 12 (.bool false) rfl hH ?_;try go_simp
      refine Co.tH 13 undef rfl (Or.inr ⟨by rfl,rfl⟩) hH ?_;try go_simp
      refine Co.tH 14 undef rfl (Or.inr ⟨by rfl,rfl⟩) hH ?_;try go_simp
      refine Co.tH 15 undef rfl (Or.inr ⟨by rfl,rfl⟩) hH ?_;try go_simp
      refine Co.tH 16 undef rfl (Or.inr ⟨by rfl,rfl⟩) hH ?_;try go_simp
      refine Co.tH 17 undef rfl (Or.inr ⟨by rfl,rfl⟩) hH ?_;try go_simp
      refine Co.tH 18 undef rfl (Or.inr ⟨by rfl,rfl⟩) hH ?_;try go_simp
      refine Co.tH 19 undef rfl (Or.inr ⟨by rfl,rfl⟩) hH ?_;try go_simp
      refine Co.tH 20 undef rfl (Or.inr ⟨by rfl,rfl⟩) hH ?_;try go_simp
      refine Co.tH 21 undef rfl (Or.inr ⟨by rfl,rfl⟩) hH ?_;try go_simp
      refine Co.tH 22 undef rfl (Or.inr ⟨by rfl,rfl⟩) hH ?_;try go_simp
      refine Co.tH 23 undef rfl (Or.inr ⟨by rfl,rfl⟩) hH ?_;try go_simp
      refine Co.tH 24 undef rfl (Or.inr ⟨by rfl,rfl⟩) hH ?_;try go_simp
      refine Co.tI 25 (.bool false) rfl hH ?_;try go_simp
      refine wpAnyH_done (by kernel_rfl) ?_ _
      try go_simp
      have HF:Hid (Below w.heap.size w W2):=HBV.out.trans (hH.mono HBV.out.size)
      clear hH
      go_wp2_with fail
      exact⟨⟨k+1,_,by omega,by go_num,rfl,HN,HF⟩,by simp[intOf];omega⟩
     |true=>
      rw[hhs]at C2
      have HG:Hid (gv seq x q=true):=zn9 HA.out hkn hhs
      clear hhs HA
      cases hbs:bst l seq x k with
      |none=>
       obtain rfl:T=-1:=by rw[HT.out,hbs];rfl
       have HN:Hid ((k:Int)=plc (bst l seq x (k+1))):=by rw[zhd HQ.out HG.out hbs];rfl
       clear hbs HT
       refine wp_region_held_drew (S:=fun w'=>Below V.heap.size V w') (by kernel_rfl) ((Below.refl _ _).drew) (fun hH=>?_)
       refine Co.tH 0 (acv q) rfl (zc (by rfl) 100 _ rfl _ rfl 100 _ (0,0) _ (fun w hSw=>(BV.out).below (Nat.le_refl _) hSw) underlying100 rfl jb) hH ?_;try go_simp
       refine Co.tI 1 (.int .i64 seq) rfl hH ?_;try go_simp
       refine wpAnyH_ready (rs:=[2]) (by kernel_rfl) (by simp) ?_
       refine AllReadyH.cons rfl (fun K hK=>?_) AllReadyH.nil
       go_simp
       refine(C1 _).mono ?_
       rintro e W1 ⟨rfl,hk⟩
       go_wp2_with fail
       refine hK.out _ _ (hH.trans (hk.mono hH.size)) (fun hH=>?_)
       clear hK K hk
       try go_simp
       refine Co.tI 3 (.bool true) rfl hH ?_;try go_simp
       refine Co.tI 4 (.pointer (some ⟨wr.heap.size,2,none⟩)) rfl hH ?_;try go_simp
       refine Co.tH 5 (.bool true) rfl (Or.inl ⟨by rfl,by intro w hSw;have h2:=(BV.out.below (Nat.le_refl _) hSw).cell (j:=2) rfl;rw[hkn]at h2;go_simp⟩) hH ?_;try go_simp
       refine Co.tI 6 (.bool true) rfl hH ?_;try go_simp
       refine Co.tI 7 (.bool true) rfl hH ?_;try go_simp
       refine Co.tH 8 (acv q) rfl (zc (by rfl) 100 _ rfl _ rfl 100 _ (0,0) _ (fun w hSw=>(BV.out).below (Nat.le_refl _) hSw) underlying100 rfl jb) hH ?_;try go_simp
       refine Co.tI 9 (.int .u64 x) rfl hH ?_;try go_simp
       refine wpAnyH_ready (rs:=[10]) (by kernel_rfl) (by simp) ?_
       refine AllReadyH.cons rfl (fun K hK=>?_) AllReadyH.nil
       go_simp
       refine(C2 _).mono ?_
       rintro e W2 ⟨rfl,hk⟩
       go_wp2_with fail
       refine hK.out _ _ (hH.trans (hk.mono hH.size)) (fun hH=>?_)
       clear hK K hk
       try go_simp
       refine Co.tI 11 (.bool true) rfl hH ?_;try go_simp
       refine Co.tI 12 (.bool true) rfl hH ?_;try go_simp
       refine Co.tI 13 (.int .i64 (-1)) rfl hH ?_;try go_simp
       refine Co.tI 14 (.bool true) rfl hH ?_;try go_simp
       refine Co.tI 15 (.bool true) rfl hH ?_;try go_simp
       refine Co.tH 16 undef rfl (Or.inr ⟨by rfl,rfl⟩) hH ?_;try go_simp
       refine Co.tH 17 undef rfl (Or.inr ⟨by rfl,rfl⟩) hH ?_;try go_simp
       refine Co.tH 18 undef rfl (Or.inr ⟨by rfl,rfl⟩) hH ?_;try go_simp
       refine Co.tH 19 undef rfl (Or.inr ⟨by rfl,rfl⟩) hH ?_;try go_simp
       refine Co.tH 20 undef rfl (Or.inr ⟨by rfl,rfl⟩) hH ?_;try go_simp
       refine Co.tH 21 undef rfl (Or.inr ⟨by rfl,rfl⟩) hH ?_;try go_simp
       refine Co.tH 22 undef rfl (Or.inr ⟨by rfl,rfl⟩) hH ?_;try go_simp
       refine Co.tH 23 undef rfl (Or.inr ⟨by rfl,rfl⟩) hH ?_;try go_simp
       refine Co.tI 24 (.bool true) rfl hH ?_;try go_simp
       refine Co.tI 25 (.bool true) rfl hH ?_;try go_simp
       refine wpAnyH_done (by kernel_rfl) ?_ _
       try go_simp
       have HF:Hid (Below w.heap.size w W2):=HBV.out.trans (hH.mono HBV.out.size)
       clear hH
       go_wp2_with fail
       exact⟨⟨k+1,_,by omega,by go_num,rfl,HN,HF⟩,by simp[intOf];omega⟩
      |some j=>
       obtain rfl:T=(j:Int):=by rw[HT.out,hbs];rfl
       have HS:Hid (bst l seq x k=some j):=hbs
       obtain⟨hjk,q1,hq1,_⟩:=kp _ _ _ _ _ hbs
       have hbV:bb<V.heap.size:=Nat.lt_of_lt_of_le hb HBV.out.size
       have cj:V.cell? ⟨bb,o+j*7,none⟩=some (.int .i64 q1.seq):=(HBV.out.cell (p:=⟨bb,o+j*7,none⟩) hb).trans (HC.out _ _ (yr _ _ 0 _ _ hq1 rfl))
       have HJ:Hid (l[j]?=some q1):=hq1
       have hjn:j<n:=by omega
       clear hbs hq1 HT
       by_cases hle:q1.seq<=q.seq
       ·have HN:Hid ((k:Int)=plc (bst l seq x (k+1))):=by rw[zjs HQ.out HG.out HS.out HJ.out hle];rfl
        refine wp_region_held_drew (S:=fun w'=>Below V.heap.size V w') (by kernel_rfl) ((Below.refl _ _).drew) (fun hH=>?_)
        refine Co.tH 0 (acv q) rfl (zc (by rfl) 100 _ rfl _ rfl 100 _ (0,0) _ (fun w hSw=>(BV.out).below (Nat.le_refl _) hSw) underlying100 rfl jb) hH ?_;try go_simp
        refine Co.tI 1 (.int .i64 seq) rfl hH ?_;try go_simp
        refine wpAnyH_ready (rs:=[2]) (by kernel_rfl) (by simp) ?_
        refine AllReadyH.cons rfl (fun K hK=>?_) AllReadyH.nil
        go_simp
        refine(C1 _).mono ?_
        rintro e W1 ⟨rfl,hk⟩
        go_wp2_with fail
        refine hK.out _ _ (hH.trans (hk.mono hH.size)) (fun hH=>?_)
        clear hK K hk
        try go_simp
        refine Co.tI 3 (.bool true) rfl hH ?_;try go_simp
        refine Co.tI 4 (.pointer (some ⟨wr.heap.size,2,none⟩)) rfl hH ?_;try go_simp
        refine Co.tH 5 (.bool true) rfl (Or.inl ⟨by rfl,by intro w hSw;have h2:=(BV.out.below (Nat.le_refl _) hSw).cell (j:=2) rfl;rw[hkn]at h2;go_simp⟩) hH ?_;try go_simp
        refine Co.tI 6 (.bool true) rfl hH ?_;try go_simp
        refine Co.tI 7 (.bool true) rfl hH ?_;try go_simp
        refine Co.tH 8 (acv q) rfl (zc (by rfl) 100 _ rfl _ rfl 100 _ (0,0) _ (fun w hSw=>(BV.out).below (Nat.le_refl _) hSw) underlying100 rfl jb) hH ?_;try go_simp
        refine Co.tI 9 (.int .u64 x) rfl hH ?_;try go_simp
        refine wpAnyH_ready (rs:=[10]) (by kernel_rfl) (by simp) ?_
        refine AllReadyH.cons rfl (fun K hK=>?_) AllReadyH.nil
        go_simp
        refine(C2 _).mono ?_
        rintro e W2 ⟨rfl,hk⟩
        go_wp2_with fail
        refine hK.out _ _ (hH.trans (hk.mono hH.size)) (fun hH=>?_)
        clear hK K hk
        try go_simp
        refine Co.tI 11 (.bool true) rfl hH ?_;try go_simp
        refine Co.tI 12 (.bool true) rfl hH ?_;try go_simp
        refine Co.tI 13 (.int .i64 j) rfl hH ?_;try go_simp
        refine Co.tI 14 (.bool false) rfl hH ?_;try go_simp
        refine Co.tI 15 (.bool false) rfl hH ?_;try go_simp
        refine Co.tI 16 (.pointer (some ⟨wr.heap.size,0,none⟩)) rfl hH ?_;try go_simp
        refine Co.tH 17 (.int .i64 q.seq) rfl (Or.inl ⟨by rfl,by intro w hSw;have h2:=(BV.out.below (Nat.le_refl _) hSw).cell (j:=0) rfl;go_simp⟩) hH ?_;try go_simp
        refine Co.tI 18 (.slice (some ⟨bb,o,none⟩) n c) rfl hH ?_;try go_simp
        refine Co.tI 19 (.int .i64 j) rfl hH ?_;try go_simp
        refine Co.tI 20 (.pointer (some ⟨bb,o+j*7,none⟩)) rfl hH ?_;try go_simp
        refine Co.tI 21 (.pointer (some ⟨bb,o+j*7,none⟩)) rfl hH ?_;try go_simp
        refine Co.tH 22 (.int .i64 q1.seq) rfl (Or.inl ⟨by rfl,by intro w hSw;have h2:=(hSw.cell (p:=⟨bb,o+j*7,none⟩) hbV).trans cj;go_simp⟩) hH ?_;try go_simp
        refine Co.tI 23 (.bool true) rfl hH ?_;try go_simp
        refine Co.tI 24 (.bool true) rfl hH ?_;try go_simp
        refine Co.tI 25 (.bool true) rfl hH ?_;try go_simp
        refine wpAnyH_done (by kernel_rfl) ?_ _
        try go_simp
        have HF:Hid (Below w.heap.size w W2):=HBV.out.trans (hH.mono HBV.out.size)
        clear hH
        go_wp2_with fail
        exact⟨⟨k+1,_,by omega,by go_num,rfl,HN,HF⟩,by simp[intOf];omega⟩
       ·have HN:Hid ((j:Int)=plc (bst l seq x (k+1))):=by rw[zjt HQ.out HS.out HJ.out (by omega),HS.out];rfl
        refine wp_region_held_drew (S:=fun w'=>Below V.heap.size V w') (by kernel_rfl) ((Below.refl _ _).drew) (fun hH=>?_)
        refine Co.tH 0 (acv q) rfl (zc (by rfl) 100 _ rfl _ rfl 100 _ (0,0) _ (fun w hSw=>(BV.out).below (Nat.le_refl _) hSw) underlying100 rfl jb) hH ?_;try go_simp
        refine Co.tI 1 (.int .i64 seq) rfl hH ?_;try go_simp
        refine wpAnyH_ready (rs:=[2]) (by kernel_rfl) (by simp) ?_
        refine AllReadyH.cons rfl (fun K hK=>?_) AllReadyH.nil
        go_simp
        refine(C1 _).mono ?_
        rintro e W1 ⟨rfl,hk⟩
        go_wp2_with fail
        refine hK.out _ _ (hH.trans (hk.mono hH.size)) (fun hH=>?_)
        clear hK K hk
        try go_simp
        refine Co.tI 3 (.bool true) rfl hH ?_;try go_simp
        refine Co.tI 4 (.pointer (some ⟨wr.heap.size,2,none⟩)) rfl hH ?_;try go_simp
        refine Co.tH 5 (.bool true) rfl (Or.inl ⟨by rfl,by intro w hSw;have h2:=(BV.out.below (Nat.le_refl _) hSw).cell (j:=2) rfl;rw[hkn]at h2;go_simp⟩) hH ?_;try go_simp
        refine Co.tI 6 (.bool true) rfl hH ?_;try go_simp
        refine Co.tI 7 (.bool true) rfl hH ?_;try go_simp
        refine Co.tH 8 (acv q) rfl (zc (by rfl) 100 _ rfl _ rfl 100 _ (0,0) _ (fun w hSw=>(BV.out).below (Nat.le_refl _) hSw) underlying100 rfl jb) hH ?_;try go_simp
        refine Co.tI 9 (.int .u64 x) rfl hH ?_;try go_simp
        refine wpAnyH_ready (rs:=[10]) (by kernel_rfl) (by simp) ?_
        refine AllReadyH.cons rfl (fun K hK=>?_) AllReadyH.nil
        go_simp
        refine(C2 _).mono ?_
        rintro e W2 ⟨rfl,hk⟩
        go_wp2_with fail
        refine hK.out _ _ (hH.trans (hk.mono hH.size)) (fun hH=>?_)
        clear hK K hk
        try go_simp
        refine Co.tI 11 (.bool true) rfl hH ?_;try go_simp
        refine Co.tI 12 (.bool true) rfl hH ?_;try go_simp
        refine Co.tI 13 (.int .i64 j) rfl hH ?_;try go_simp
        refine Co.tI 14 (.bool false) rfl hH ?_;try go_simp
        refine Co.tI 15 (.bool false) rfl hH ?_;try go_simp
        refine Co.tI 16 (.pointer (some ⟨wr.heap.size,0,none⟩)) rfl hH ?_;try go_simp
        refine Co.tH 17 (.int .i64 q.seq) rfl (Or.inl ⟨by rfl,by intro w hSw;have h2:=(BV.out.below (Nat.le_refl _) hSw).cell (j:=0) rfl;go_simp⟩) hH ?_;try go_simp
        refine Co.tI 18 (.slice (some ⟨bb,o,none⟩) n c) rfl hH ?_;try go_simp
        refine Co.tI 19 (.int .i64 j) rfl hH ?_;try go_simp
        refine Co.tI 20 (.pointer (some ⟨bb,o+j*7,none⟩)) rfl hH ?_;try go_simp
        refine Co.tI 21 (.pointer (some ⟨bb,o+j*7,none⟩)) rfl hH ?_;try go_simp
        refine Co.tH 22 (.int .i64 q1.seq) rfl (Or.inl ⟨by rfl,by intro w hSw;have h2:=(hSw.cell (p:=⟨bb,o+j*7,none⟩) hbV).trans cj;go_simp⟩) hH ?_;try go_simp
        refine Co.tI 23 (.bool false) rfl hH ?_;try go_simp
        refine Co.tI 24 (.bool false) rfl hH ?_;try go_simp
        refine Co.tI 25 (.bool false) rfl hH ?_;try go_simp
        refine wpAnyH_done (by kernel_rfl) ?_ _
        try go_simp
        have HF:Hid (Below w.heap.size w W2):=HBV.out.trans (hH.mono HBV.out.size)
        clear hH
        go_wp2_with fail
        exact⟨⟨k+1,_,by omega,by go_num,rfl,HN,HF⟩,by simp[intOf];omega⟩
  ·obtain rfl:k=n:=by omega
   cases hbs:bst l seq x k with
   |none=>
    obtain rfl:T=-1:=by rw[HT.out,hbs];rfl
    obtain rfl:r=0:=by rw[hr.out,seen_none hbs]
    obtain rfl:f=false:=by rw[hf.out,hbs];rfl
    clear hbs
    go_wp2_with fail
    refine bodyPost_ret (v:=.tuple #[.int .u8 0,.bool false]) ?_ rfl ⟨rfl,HB.out⟩
    simp[results,results96,asAddr]
   |some j=>
    obtain rfl:T=(j:Int):=by rw[HT.out,hbs];rfl
    obtain⟨hjk,q1,hq1,hg1⟩:=kp _ _ _ _ _ hbs
    obtain rfl:f=true:=by rw[hf.out,hbs];rfl
    have hrq:Hid (r=byt q1 x):=by show r=_;rw[hr.out,kq hbs hq1]
    obtain⟨bb,o,rfl,hb,hc⟩:=hL.out.sure (by omega)
    have e5:wr.cell? ⟨bb,o+j*7+5,none⟩=some (.int .u32 q1.data):=by rw[Nat.add_assoc];exact(HB.out.cell (p:=⟨bb,o+(j*7+5),none⟩) hb).trans (hc _ _ (yr _ _ 5 _ _ hq1 rfl))
    have e3:wr.cell? ⟨bb,o+j*7+3,none⟩=some (.int .u32 q1.pl):=by rw[Nat.add_assoc];exact(HB.out.cell (p:=⟨bb,o+(j*7+3),none⟩) hb).trans (hc _ _ (yr _ _ 3 _ _ hq1 rfl))
    have hok1:=hok.out q1 (List.mem_of_getElem? hq1)
    have p0:=hok1.p0
    have p1:=hok1.p1
    have d0:=hok1.d0
    have d1:=hok1.d1
    have hsx:q1.pl<=x/\x<q1.pl+wd q1:=by
     unfold gv at hg1
     simp only[Bool.and_eq_true]at hg1
     simpa[hs]using hg1.2
    have hw4:=zef q1
    obtain⟨i,hi⟩:∃i:Nat,x=q1.pl+i:=⟨(x-q1.pl).toNat,by omega⟩
    have hi4:i<4:=by omega
    obtain⟨P,hP⟩:∃P,P=q1.pl:=⟨_,rfl⟩
    obtain⟨D,hD⟩:∃D,D=q1.data:=⟨_,rfl⟩
    have HV:Hid (r=D/two (8*i)%256):=by
     show r=_
     rw[hrq.out,byt,hD,show(x-q1.pl).toNat=i by omega]
    rw[<-hP]at p0 p1 hi e3
    rw[<-hD]at d0 d1 e5
    subst hi
    clear hc hq1 hg1 hsx hw4 hok1 hP hD hbs
    have HE:Hid ((8*(P+(i:Int)-P)).toNat=8*i):=by show _=_;omega
    go_upto_region 10 with fail
    go_quiet(fail)
    go_wp2_with fail
    refine bodyPost_ret (v:=.tuple #[.int .u8 r,.bool true]) ?_ rfl ⟨rfl,below_drewN HB.out nq⟩
    rw[HV.out]
    simp[results,results96,asAddr,HE.out,two]
end Go.Proofs.YtpiohehijkpghabGreatDoor.Od
