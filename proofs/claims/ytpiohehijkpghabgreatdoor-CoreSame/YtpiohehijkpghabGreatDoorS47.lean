/- What keeps a core from being run: the program. -/
import Derived.Test.YtpiohehijkpghabGreatDoorS38
import Derived.Test.YtpiohehijkpghabGreatDoorS46
import Derived.Test.YtpiohehijkpghabGreatDoorS35
import Derived.Test.YtpiohehijkpghabGreatDoorS09
set_option maxRecDepth 100000
set_option maxHeartbeats 6000000
set_option linter.unusedSimpArgs false
set_option linter.unusedVariables false
open Go.Proofs.Tryz
namespace Go.Proofs.YtpiohehijkpghabGreatDoor.Co
open Go.RowKit
open Hy
open Wi Od Re.Hy
open Gu.Hy (Tb tcs)
theorem zpl{K:Int}{s:Cr}{m:Nat->Int}(A:Al mach K s m)(hK:K<=9000000):TakOk s:=by
 have h1:=A.rg.len
 have h2:=A.len
 have h3:=A.rg.lenA
 have h4:=A.rg.tak
 exact⟨zfV A.inv,zmE A.inv,by omega,by omega,A.rg.ask,by omega,A.rg.fro,A.tak,by omega,A.nms zR,A.rg.tb⟩
theorem zmW{M:Mc}{j:Nat}{s:Cr}(h:s.opn=false):takN M j s=s:=by
 cases j with
 |zero=>rfl
 |succ j=>unfold takN;rw[h];rfl
theorem ziC{M:Mc}{j:Nat}{s:Cr}(h:s.opn=true)(h2:(tak1 M s).2=false):takN M (j+1) s=(tak1 M s).1:=by
 rw[takN,if_pos h,h2]
 rfl
theorem zmX{M:Mc}{j:Nat}{s:Cr}(h:s.opn=true)(h2:(tak1 M s).2=true):takN M (j+1) s=takN M j (tak1 M s).1:=by
 rw[takN,if_pos h,h2]
 rfl
theorem ziD{N:Nat}{w:World}{b:Nat}{s:Cr}{L:Sls}(S:St N w b s L){K:Int}{m:Nat->Int}(A:Al mach K s m)(hK:K<=8000000):
  Calls prog 23 #[.pointer (some ⟨b,0,none⟩)] w fun e w'=>e=.returned (.tuple #[])/\∃L',St N w' b (takN mach s.wide.toNat s) L'/\To b w L w' L':=by
 have hw:=A.rg.wide
 have hw1:=A.wid
 obtain⟨n,hn⟩:∃n:Nat,s.wide=(n:Int):=Int.eq_ofNat_of_zero_le (by omega)
 have k2:w.cell? ⟨b,2,none⟩=some (.int .i64 (n:Int)):=(zb S.row (by omega)).trans (congrArg some (by rw[<-hn];rfl))
 have en:s.wide.toNat=n:=by omega
 have hn4:n<=4:=by omega
 rw[en]
 have HS:Hid (St N w b s L):=S
 have HA:Hid (Al mach K s m):=A
 obtain⟨r,hr⟩:∃r,r=takN mach n s:=⟨_,rfl⟩
 rw[<-hr]
 have HR:Hid (takN mach n s=r):=hr.symm
 clear S A hw hw1 en hn hr
 go_enter func23,ntmps23
 go_wp2_with fail
 go_loopw [7] (fun i wr=>∃k:Nat,k<=n/\i=.int .i64 (k:Int)/\Hid (∃s' L',St N wr b s' L'/\To b w L wr L'/\Al mach (K+3*k) s' m/\takN mach (n-k) s'=r))
  (fun i _=>n-(intOf i).toNat)
 case atStart=>exact⟨0,by omega,rfl,s,L,HS.out,To.refl b w L,HA.out.mono (by omega),HR.out⟩
 case round=>
  obtain⟨k,hk,rfl,s',L',S1,T1,A1,R1⟩:=hrel
  clear HS HA HR k2
  have T2:Hid (To b w L wr L'):=T1
  have A2:Hid (Al mach (K+3*k) s' m):=A1
  have R2:Hid (takN mach (n-k) s'=r):=R1
  by_cases hlt:k<n
  ·have c338:wr.cell? ⟨b,338,none⟩=some (.bool s'.opn):=(zb S1.row (by omega)).trans rfl
   cases ho:s'.opn with
   |false=>
    rw[ho]at c338
    have e:=zmW (M:=mach) (j:=n-k) ho
    rw[R1]at e
    subst e
    have S2:Hid (St N wr b r L'):=S1
    clear S1 T1 A1 R1 ho A2 R2
    go_wp2_with fail
    refine bodyPost_ret (results_none rfl _ _ _) rfl ⟨rfl,L',S2.out,T2.out⟩
   |true=>
    rw[ho]at c338
    have C:Hid (Calls prog 51 #[.pointer (some ⟨b,0,none⟩)] wr fun e w'=>e=.returned (.bool (tak1 mach s').2)/\∃L'',St N w' b (tak1 mach s').1 L''/\To b wr L' w' L''):=zcI S1 (zpl A1 (by omega))
    have A3:Hid (Al mach (K+3*k+3) (tak1 mach s').1 m):=A1.take zR jx ho
    obtain⟨j,hj⟩:∃j,n-k=j+1:=⟨n-k-1,by omega⟩
    rw[hj]at R1
    cases h2:(tak1 mach s').2 with
    |false=>
     have R3:Hid ((tak1 mach s').1=r):=(ziC ho h2).symm.trans R1
     rw[h2]at C
     clear S1 T1 A1 R1 A2 R2 h2 ho
     go_wp2_with fail
     refine C.out.mono ?_
     rintro e V ⟨rfl,L2,u1,u2⟩
     rw[R3.out]at u1
     have S3:Hid (St N V b r L2):=u1
     have T3:Hid (To b w L V L2):=T2.out.trans u2
     clear u1 u2 C
     go_wp2_with fail
     refine bodyPost_ret (results_none rfl _ _ _) rfl ⟨rfl,L2,S3.out,T3.out⟩
    |true=>
     have R3:Hid (takN mach j (tak1 mach s').1=r):=(zmX ho h2).symm.trans R1
     rw[h2]at C
     have hj2:n-(k+1)=j:=by omega
     have HJ:Hid (n-(k+1)=j):=hj2
     clear S1 T1 A1 R1 A2 R2 h2 ho hj hj2
     go_wp2_with fail
     refine C.out.mono ?_
     rintro e V ⟨rfl,L2,u1,u2⟩
     have S3:Hid (St N V b (tak1 mach s').1 L2):=u1
     have T3:Hid (To b w L V L2):=T2.out.trans u2
     clear u1 u2 C
     go_wp2_with fail
     exact⟨⟨k+1,by omega,by go_num,_,L2,S3.out,T3.out,A3.out.mono (by push_cast;omega),by rw[HJ.out];exact R3.out⟩,by simp[intOf];omega⟩
  ·have hkn:k=n:=by omega
   subst hkn
   have e:takN mach (k-k) s'=s':=by rw[Nat.sub_self];rfl
   rw[R1]at e
   subst e
   have S2:Hid (St N wr b r L'):=S1
   clear S1 T1 A1 R1 A2 R2
   go_wp2_with fail
   refine bodyPost_end (results_none rfl _ _ _) rfl ⟨rfl,L',S2.out,T2.out⟩
theorem zf6{N:Nat}{w:World}{b:Nat}{s:Cr}{L:Sls}(S:St N w b s L){h0:Hs}(G:Gd mach h0 s)(hs:s.st=0)(hc6:s.cyc<6000):
  Calls prog 12 #[.pointer (some ⟨b,0,none⟩)] w fun e w'=>e=.returned (.tuple #[])/\∃L',St N w' b (cycle mach s) L'/\To b w L w' L':=by
 obtain⟨m,A⟩:=G.al hs
 have y0:=G.good.cyc
 have hmost:=G.good.most
 have hKb:116*s.cyc<=696000:=by omega
 have A1:=zkV A (s.cyc+1)
 obtain⟨r,hr⟩:∃r,r=cycle mach s:=⟨_,rfl⟩
 rw[<-hr]
 obtain⟨s1,hs1⟩:∃s1:Cr,s1={s with cyc:=s.cyc+1}:=⟨_,rfl⟩
 obtain⟨s2,hs2⟩:∃s2,s2=commit mach s1:=⟨_,rfl⟩
 have HR:Hid (r=if s2.st=0 then takN mach s.wide.toNat (start mach (load s2))else s2):=by show _=_;rw[hr,hs2,hs1];rfl
 rw[<-hs1]at A1
 have HA2:Hid (s2.st=0->∃m',Al mach (116*s.cyc) s2 m'):=fun h=>by
  rw[hs2]at h⊢
  exact zcF zR jx (h0:=h0) A1 (by rw[hs1];exact hs) (by rw[hs1];exact zip G.good.ref _) h
 have hwid:s2.wide=s.wide:=by rw[hs2,(zaC mach s1).2.2.1,hs1]
 have HC1:Hid (∀W L',St N W b s1 L'->Calls prog 20 #[.pointer (some ⟨b,0,none⟩)] W fun e w'=>e=.returned (.tuple #[])/\∃L'',St N w' b s2 L''/\To b W L' w' L''):=fun W L' SW=>by
  rw[hs2]
  exact zdQ SW A1 (by omega) (by rw[hs1];show s.coms.length<=2000;omega) (by rw[hs1];show 0<=s.cyc+1;omega) (by rw[hs1];show s.cyc+1<=6000;omega)
 have k40:w.cell? ⟨b,40,none⟩=some (.int .i64 s.cyc):=(zb S.row (by omega)).trans rfl
 have f40:=S.frozen 40
 obtain⟨u1,t1⟩:=S.setCyc (s.cyc+1)
 rw[<-hs1]at u1
 have S1:Hid (St N (w.setCell ⟨b,40,none⟩ (.int .i64 (s.cyc+1))) b s1 L):=u1
 have T1:Hid (To b w L (w.setCell ⟨b,40,none⟩ (.int .i64 (s.cyc+1))) L):=t1
 have HW:Hid (s2.wide=s.wide):=hwid
 clear hr hs1 hs2 A A1 S G hs u1 t1 hmost hwid
 go_enter func12,ntmps12
 go_wp2_with fail
 refine(HC1.out _ _ S1.out).mono ?_
 rintro e V2 ⟨rfl,L2,u2,t2⟩
 have S2:Hid (St N V2 b s2 L2):=u2
 have T2:Hid (To b w L V2 L2):=T1.out.trans t2
 clear u2 t2 S1 T1 HC1 k40 f40
 have k37:V2.cell? ⟨b,37,none⟩=some (.int .i64 s2.st):=(zb S2.out.row (by omega)).trans rfl
 by_cases h:s2.st=0
 ·obtain⟨m',A2⟩:=HA2.out h
  have hr:=HR.out
  rw[if_pos h,<-HW.out]at hr
  have A3:=A2.load zR
  have A4:=A3.start zR jx
  have hw3:(start mach (load s2)).wide=s2.wide:=by
   have e1:=(zeq zR A2.inv).2.1.wide
   have e2:=(zcr zR A3.inv A3.wid).2.1.wide
   rw[e2,e1]
  have HC2:Hid (∀W L',St N W b s2 L'->Calls prog 21 #[.pointer (some ⟨b,0,none⟩)] W fun e w'=>e=.returned (.tuple #[])/\∃L'',St N w' b (load s2) L''/\To b W L' w' L''):=fun W L' SW=>ziB SW A2 (by omega)
  have HC3:Hid (∀W L',St N W b (load s2) L'->Calls prog 22 #[.pointer (some ⟨b,0,none⟩)] W fun e w'=>e=.returned (.tuple #[])/\∃L'',St N w' b (start mach (load s2)) L''/\To b W L' w' L''):=fun W L' SW=>zf4 SW A3 (by omega)
  have HC4:Hid (∀W L',St N W b (start mach (load s2)) L'->Calls prog 23 #[.pointer (some ⟨b,0,none⟩)] W fun e w'=>e=.returned (.tuple #[])/\∃L'',St N w' b r L''/\To b W L' w' L''):=fun W L' SW=>by
   rw[hr,<-hw3]
   exact ziD SW A4 (by omega)
  have k37':V2.cell? ⟨b,37,none⟩=some (.int .i64 0):=by rw[k37,h]
  clear A2 A3 A4 hr hw3 HR HA2 h k37 HW
  go_wp2_with fail
  refine(HC2.out _ _ S2.out).mono ?_
  rintro e V3 ⟨rfl,L3,u3,t3⟩
  have S3:Hid (St N V3 b (load s2) L3):=u3
  have T3:Hid (To b w L V3 L3):=T2.out.trans t3
  clear u3 t3 S2 T2 HC2 k37'
  go_wp2_with fail
  refine(HC3.out _ _ S3.out).mono ?_
  rintro e V4 ⟨rfl,L4,u4,t4⟩
  have S4:Hid (St N V4 b (start mach (load s2)) L4):=u4
  have T4:Hid (To b w L V4 L4):=T3.out.trans t4
  clear u4 t4 S3 T3 HC3
  go_wp2_with fail
  refine(HC4.out _ _ S4.out).mono ?_
  rintro e V5 ⟨rfl,L5,u5,t5⟩
  have S5:Hid (St N V5 b r L5):=u5
  have T5:Hid (To b w L V5 L5):=T4.out.trans t5
  clear u5 t5 S4 T4 HC4
  go_wp2_with fail
  refine bodyPost_end (results_none rfl _ _ _) rfl ⟨rfl,L5,S5.out,T5.out⟩
 ·have hr:=HR.out
  rw[if_neg h]at hr
  have HR2:Hid (r=s2):=hr
  have h':(s2.st==0)=false:=by simpa using h
  clear hr HR HA2 HW
  go_wp2_with fail
  refine bodyPost_end (results_none rfl _ _ _) rfl ⟨rfl,L2,by rw[HR2.out];exact S2.out,T2.out⟩
def xL(win phys wide pc:Int)(sc:Value)(i:Nat):Value:=
 if i=0 then .int .i64 win else if i=1 then .int .i64 phys else if i=2 then .int .i64 wide else if i=3 then .slice none 0 0
 else if i<37 then .int .u32 0 else if i<39 then .int .i64 0 else if i=39 then .slice none 0 0 else if i<43 then .int .i64 0
 else if i<75 then(if i%2=1 then .int .i64 0 else .int .u32 0)
 else if i<107 then(if i%4=2 then .int .i64 0 else .int .u32 0)
 else if i<140 then .int .i64 0 else if i=140 then .slice none 0 0
 else if i<237 then .int .u32 0 else if i<333 then .bool false
 else if i<336 then .slice none 0 0 else if i=336 then sc else if i=337 then .int .u32 pc else .bool true
theorem zf7(win phys wide pc:Int)(p:Option Addr)(n c:Nat):prog.built 61 [(0,.agg #[.int .i64 win,.int .i64 phys,.int .i64 wide]),(9,.slice p n c),(10,.int .u32 pc),(11,.bool true)]=some (rowOf (xL win phys wide pc (.slice p n c)) 339):=by kernel_rfl
def bg(win phys wide:Int)(n:Nat)(R:Nat->Int)(pc st ca:Int)(f:Nat->Int)(scr:List Int)(k:Nat):Cr:=
 {begin win phys wide n R pc st ca f scr with wd:=fun x=>if x<(k:Int)then R x.toNat else 0,th:=fun x=>decide (x<(k:Int))}
theorem zpm(win phys wide:Int)(n:Nat)(R:Nat->Int)(pc st ca:Int)(f:Nat->Int)(scr:List Int):bg win phys wide n R pc st ca f scr 32=begin win phys wide n R pc st ca f scr:=by
 have e:((32:Nat):Int)=32:=rfl
 unfold bg begin
 rw[e]
theorem zqd(win phys wide:Int)(n:Nat)(R:Nat->Int)(pc st ca:Int)(f:Nat->Int)(scr:List Int)(k:Nat):{bg win phys wide n R pc st ca f scr k with wd:=upI (bg win phys wide n R pc st ca f scr k).wd (k:Int) (R k),th:=upB (bg win phys wide n R pc st ca f scr k).th (k:Int) true}=bg win phys wide n R pc st ca f scr (k+1):=by
 have e1:upI (bg win phys wide n R pc st ca f scr k).wd (k:Int) (R k)=(bg win phys wide n R pc st ca f scr (k+1)).wd:=by
  funext y
  show(if y=(k:Int)then R k else if y<(k:Int)then R y.toNat else 0)=if y<((k+1:Nat):Int)then R y.toNat else 0
  by_cases e:y=(k:Int)
  ·subst e
   rw[if_pos rfl,if_pos (by omega),Int.toNat_natCast]
  ·rw[if_neg e]
   by_cases h:y<(k:Int)
   ·rw[if_pos h,if_pos (by omega)]
   ·rw[if_neg h,if_neg (by omega)]
 have e2:upB (bg win phys wide n R pc st ca f scr k).th (k:Int) true=(bg win phys wide n R pc st ca f scr (k+1)).th:=by
  funext y
  show(if y=(k:Int)then true else decide (y<(k:Int)))=decide (y<((k+1:Nat):Int))
  by_cases e:y=(k:Int)
  ·subst e
   rw[if_pos rfl,decide_eq_true (by omega)]
  ·rw[if_neg e]
   by_cases h:y<(k:Int)
   ·rw[decide_eq_true h,decide_eq_true (by omega)]
   ·rw[decide_eq_false h,decide_eq_false (by omega)]
 rw[e1,e2]
 rfl
def bgL(m f r:Value):Sls:=⟨.slice none 0 0,m,f,.slice none 0 0,.slice none 0 0,.slice none 0 0,r⟩
theorem zpn(win phys wide:Int)(n:Nat)(R:Nat->Int)(pc st ca:Int)(f:Nat->Int)(scr:List Int)(m v r:Value):∀j,j<339->ups (upf (ups (xL win phys wide pc r) 4 35 (hat R pc st ca)) 39 m) 107 34 (mat phys (fun i=>(i:Int)) v) j=kat (bg win phys wide n R pc st ca f scr 0) (bgL m v r) j:=fun j hj=>by
 unfold ups upf kat
 dsimp only
 by_cases h1:107<=j/\j<107+34
 ·rw[if_pos h1,if_neg (by omega),if_neg (by omega),if_neg (by omega),if_neg (by omega),if_pos (by omega)]
  rfl
 ·rw[if_neg h1]
  by_cases h2:j=39
  ·subst h2
   rfl
  ·rw[if_neg h2]
   by_cases h3:4<=j/\j<4+35
   ·rw[if_pos h3,if_neg (by omega),if_pos (by omega)]
    rfl
   ·rw[if_neg h3]
    unfold xL
    by_cases h4:j<4
    ·rcases(by omega:j=0\/j=1\/j=2\/j=3)with rfl|rfl|rfl|rfl<;>rfl
    ·have n0:¬j=0:=by omega
     have n1:¬j=1:=by omega
     have n2:¬j=2:=by omega
     have n3:¬j=3:=by omega
     have n37:¬j<37:=by omega
     have n39:¬j<39:=by omega
     simp only[n0,n1,n2,n3,n37,n39,h2,h4,if_false]
     by_cases h5:j<43
     ·rcases(by omega:j=40\/j=41\/j=42)with rfl|rfl|rfl<;>rfl
     ·simp only[h5,if_false]
      by_cases h6:j<107
      ·simp only[h6,if_true]
       unfold tat
       by_cases h7:j<75
       ·rw[if_pos h7,if_pos (show j-43<32 by omega)]
        by_cases h8:j%2=1
        ·rw[if_pos h8,if_pos (by omega)];rfl
        ·rw[if_neg h8,if_neg (by omega)];rfl
       ·rw[if_neg h7,if_neg (show¬j-43<32 by omega)]
        by_cases h8:j%4=2
        ·rw[if_pos h8,if_neg (show¬(j-43)%4=0 by omega),if_neg (show¬(j-43)%4=1 by omega),if_neg (show¬(j-43)%4=2 by omega)];rfl
        ·rw[if_neg h8]
         rcases(by omega:(j-43)%4=0\/(j-43)%4=1\/(j-43)%4=2)with h9|h9|h9
         ·rw[if_pos h9];rfl
         ·rw[if_neg (by omega),if_pos h9];rfl
         ·rw[if_neg (by omega),if_neg (by omega),if_pos h9];rfl
      ·have m1:¬j<140:=by omega
       have m2:¬j=140:=by omega
       have m3:¬j<141:=by omega
       have m4:¬j<75:=by omega
       simp only[h6,m1,m2,m3,m4,if_false]
       by_cases h7:j<237
       ·simp only[h7,if_true]
        show _=Value.int .u32 (if((j-141:Nat):Int)<((0:Nat):Int)then R ((j-141:Nat):Int).toNat else 0)
        rw[if_neg (by omega)]
       ·simp only[h7,if_false]
        by_cases h8:j<333
        ·simp only[h8,if_true]
         show _=Value.bool (decide (((j-237:Nat):Int)<((0:Nat):Int)))
         rw[decide_eq_false (by omega)]
        ·rcases(by omega:j=333\/j=334\/j=335\/j=336\/j=337\/j=338)with rfl|rfl|rfl|rfl|rfl|rfl<;>rfl
theorem zbH{P:Program}{ops:Array Oper}{rest:List Oper}{o:Oper}{a:Act}{w:World}{Q:Exit->Act->World->Prop}(hg:o.guard=none)(t:TypeId)(i0 i1 i2 i3:Nat)(x0 x1 x2 x3:Operand)(ho:o.op=.build t #[(i0,x0),(i1,x1),(i2,x2),(i3,x3)])
  (v0 v1 v2 v3:Value) (e0:a.eval x0=v0) (e1:a.eval x1=v1) (e2:a.eval x2=v2) (e3:a.eval x3=v3) (cells:Array Value)
  (hb:P.built t [(i0,v0),(i1,v1),(i2,v2),(i3,v3)]=some cells)
  (h:wpList P ops Q rest (a.put o.dst (.agg cells)) w):wpList P ops Q (o::rest) a w:=
 jq hg t _ ho cells (by simp[e0,e1,e2,e3,hb]) h
theorem zf8:(prog.info? 25).map (·.size)=some 32:=by kernel_rfl
theorem ziE{w:World}{mp:Option Addr}{n mc:Nat}{f:Nat->Int}(hM:LC w mp n mc 1 (bcs f n))(hn:n<=4096)(hf:∀i,i<n->0<=f i/\f i<=255)(W:World)(hW:Below w.heap.size w W)(q:Nat)(hq:q<W.heap.size)(k0:W.cell? ⟨q,0,none⟩=some (.slice mp n mc)):
  Calls prog 18 #[.slice (some ⟨q,0,none⟩) 1 1] W fun e w'=>(∃a c,e=.returned (.slice a n c)/\Bys w' a n c f/\FarC W.heap.size a)/\Below W.heap.size W w':=by
 refine(zdG q mp n mc (bcs f n) (by omega) W hq k0 (hM.below (Nat.le_refl _) hW)).mono ?_
 rintro e w' ⟨⟨v,rfl,ho⟩,hb⟩
 obtain⟨a,c,rfl,h1,h2⟩:=zfT ho hn hf
 exact⟨⟨a,c,rfl,h1,h2⟩,hb⟩
theorem xX{B:Nat}{w V V':World}{b:Nat}(h:Below B w V)(hB:B<=V.heap.size)(g:V.grownBy V' (some b))(hb:B<=b):Below B w V':=
 ⟨g.os.trans h.os,g.tape.trans h.tape,g.output.trans h.output,Nat.le_trans h.size g.size,fun k hk=>(g.block k (by omega) (fun e=>by have:=Option.some.inj e;omega)).trans (h.block k hk)⟩
theorem zko:(prog.info? 24).map (·.size)=some 1:=by kernel_rfl
theorem zmY(Q:Array Value)(k:Nat)(hk:k<32)(v:Value)(h:Q[k]?=some v)(w:World):(Instr.index 25 (.agg Q) (.int .i64 (k:Int))).run prog w=.ok v w:=by
 have hsz:(sizeOf 24).run prog w=.ok 1 w:=by
  have:=zko
  cases hq:prog.info? 24 with
  |none=>rw[hq]at this;cases this
  |some i=>rw[hq]at this;simp at this;simp[sizeOf,typeInfo,hq,this]
 simp[Instr.index,asIntOf,run_underlying underlying25,hsz,part,h,run_underlying underlying24,isAgg]
 intro h2
 omega
theorem zkp{w:World}{a:Option Addr}{P c:Nat}(h:Re.Lie w a (P-32) c (fun i=>32+(i:Int))):Re.Lie w a ((List.range (P-32)).map (fun i:Nat=>32+(i:Int))).length c (fun i=>((List.range (P-32)).map (fun i:Nat=>32+(i:Int))).getD i 0):=by
 rw[List.length_map,List.length_range]
 refine h.congr fun i hi=>?_
 rw[List.getD_eq_getElem?_getD,List.getElem?_map,List.getElem?_range hi]
 rfl
theorem zpo{P:Int}(hP:33<=P)(v:Value):rowOf (mat P (Re.rg P.toNat) v) 34=rowOf (mat P (fun i=>(i:Int)) v) 34:=qt fun i hi=>by
 unfold mat
 split
 ·rfl
 ·split
  ·unfold Re.rg
   rw[if_pos (by omega)]
  ·rfl
theorem zf9{N:Nat}{w:World}(hN:N<=w.heap.size)(g1:1<N)(g2:0<N)(tb:Tab w)(tb2:Tab2 w)(win phys wide:Int)(p0:33<=phys)(p1:phys<=96)(R:Nat->Int)(pc st ca:Int)(mp:Option Addr)(n mc:Nat)(f:Nat->Int)(hM:LC w mp n mc 1 (bcs f n))(hn:n<=4096)(hf:∀i,i<n->0<=f i/\f i<=255)(sp:Option Addr)(sc:Nat)(scr:List Int)(hS:LC w sp scr.length sc 1 (ics scr)):
  Calls prog 11 #[.agg #[.int .i64 win,.int .i64 phys,.int .i64 wide],.agg (rowOf (hat R pc st ca) 35),.slice mp n mc,.slice sp scr.length sc] w fun e w'=>(∃b L,e=.returned (.pointer (some ⟨b,0,none⟩))/\St N w' b (begin win phys wide n R pc st ca f scr) L/\∀g,own b L g->w.heap.size<=g)/\Below w.heap.size w w':=by
 obtain⟨H,hH⟩:∃H,H=rowOf (hat R pc st ca) 35:=⟨_,rfl⟩
 rw[<-hH]
 have HH:Hid (H=rowOf (hat R pc st ca) 35):=hH
 have h32:H[32]?=some (.int .u32 pc):=by rw[hH];exact zp _ (by omega)
 have HHI:Hid (H.size=35/\(prog.info? 27).map (·.size)=some H.size/\H.all (·.oneCell')=true):=by rw[hH];exact⟨zf _ _,by rw[zf];exact qE,zcM _ _ _ _⟩
 obtain⟨X,hX⟩:∃X,X=rowOf (xL win phys wide pc (.slice sp scr.length sc)) 339:=⟨_,rfl⟩
 have HX:Hid (X=rowOf (xL win phys wide pc (.slice sp scr.length sc)) 339):=hX
 have HBX:Hid (prog.built 61 [(0,.agg #[.int .i64 win,.int .i64 phys,.int .i64 wide]),(9,.slice sp scr.length sc),(10,.int .u32 pc),(11,.bool true)]=some X):=by rw[hX];exact zf7 win phys wide pc sp scr.length sc
 have HA:Hid (N<=w.heap.size/\Tab w/\Tab2 w/\LC w mp n mc 1 (bcs f n)/\LC w sp scr.length sc 1 (ics scr)):=⟨hN,tb,tb2,hM,hS⟩
 have hs35:H.size=35:=HHI.out.1
 obtain⟨sn,hsn⟩:∃sn,sn=scr.length:=⟨_,rfl⟩
 rw[<-hsn]at HX HBX HA hS⊢
 have HSN:Hid (sn=scr.length):=hsn
 clear hH hX hN tb tb2 hM hS hsn
 go_enter func11,ntmps11
 go_upto_region 1 with fail
 refine Wi.qH (Φ:=fun W=>Code.wp _ _ _ _ W) ?_
 intro V e1 e2 hb hsz
 have HQ:Hid (V.heap[w.heap.size+1]?=some (.cells H 27 (0,0))):=e2
 have k0:V.cell? ⟨w.heap.size,0,none⟩=some (.int .i64 win):=by rw[cell_of_row _ _ _ _ _ _ e1];rfl
 have k1:V.cell? ⟨w.heap.size,1,none⟩=some (.int .i64 phys):=by rw[cell_of_row _ _ _ _ _ _ e1];rfl
 have k2:V.cell? ⟨w.heap.size,2,none⟩=some (.int .i64 wide):=by rw[cell_of_row _ _ _ _ _ _ e1];rfl
 have kh:V.cell? ⟨w.heap.size+1,32,none⟩=some (.int .u32 pc):=by rw[cell_of_row _ _ _ _ _ _ e2];exact h32
 have HB:Hid (Below w.heap.size w V):=hb
 have hqV:w.heap.size+1<V.heap.size:=by omega
 clear e1 e2 hb hsz
 obtain⟨h,hh⟩:∃h,h=w.heap.size+1:=⟨_,rfl⟩
 obtain⟨q,hq⟩:∃q,q=w.heap.size:=⟨_,rfl⟩
 rw[<-hh]at HQ kh hqV⊢
 rw[<-hq]at k0 k1 k2⊢
 have HQW:Hid (q=w.heap.size/\h=w.heap.size+1):=⟨hq,hh⟩
 clear hq hh
 go_upto_region 2 with(refine zbH rfl 61 0 9 10 11 _ _ _ _ rfl (.agg #[.int .i64 win,.int .i64 phys,.int .i64 wide]) (.slice sp sn sc) (.int .u32 pc) (.bool true) rfl rfl rfl rfl X HBX.out ?_)
 refine Wi.zA (Φ:=fun W=>Code.wp _ _ _ _ W) ?_
 intro V1 r1 hb1
 have hbw:w.heap.size+2<=V.heap.size:=by have:=HQW.out;omega
 have HB1:Hid (Below w.heap.size w V1):=HB.out.trans (hb1.mono HB.out.size)
 have R1:Hid (V1.heap[h]?=some (.cells H 27 (0,0))):=(hb1.block h hqV).trans HQ.out
 have hb1s:V.heap.size<V1.heap.size:=(Array.getElem?_eq_some_iff.1 r1).1
 rw[HX.out]at r1
 obtain⟨b,hbb⟩:∃b,b=V.heap.size:=⟨_,rfl⟩
 rw[<-hbb]at r1 hbw hb1s hqV⊢
 have ROW1:Hid (V1.heap[b]?=some (.cells (rowOf (xL win phys wide pc (.slice sp sn sc)) 339) 61 (0,0))):=r1
 have CCo:Hid (∀W q,Below w.heap.size w W->q<W.heap.size->W.cell? ⟨q,0,none⟩=some (.slice mp n mc)->Calls prog 18 #[.slice (some ⟨q,0,none⟩) 1 1] W fun e w'=>(∃a c,e=.returned (.slice a n c)/\Bys w' a n c f/\FarC W.heap.size a)/\Below W.heap.size W w'):=fun W q hW hq k0=>ziE HA.out.2.2.2.1 hn hf W hW q hq k0
 have hhb:h≠b:=by omega
 have RG:Hid (V1.rangeAt h 0 H.toList):=fun j v hj=>by rw[cell_of_row _ _ _ _ _ _ R1.out,Nat.zero_add,<-Array.getElem?_toList];exact hj
 have HHL:Hid ((prog.info? 27).map (·.size)=some H.toList.length):=by show _=_;rw[Array.length_toList];exact HHI.out.2.1
 clear hb1 r1 hbb HB HQ HX HBX k0 k1 k2 kh h32 hs35
 refine zx (S:=fun w'=>w'.rangeAt h 0 (H.toList)) [9,13] (by kernel_rfl) (RG.out) (fun hH=>?_)
 refine tU 0 (.pointer (some ⟨b,0,none⟩)) rfl hH ?_;try go_simp
 refine tU 1 (.pointer (some ⟨b,0,none⟩)) rfl hH ?_;try go_simp
 refine tS 2 (.agg (H.toList).toArray) rfl (yieldsIf_load_mid (by rfl) 27 _ rfl _ _ rfl (H.toList) _ (fun wz hSw=>hSw) underlying27 rfl HHL.out) hH ?_;try go_simp
 refine tU 3 (.slice mp n mc) rfl hH ?_;try go_simp
 refine zC 4 rfl (fun K hK=>?_)
 go_simp
 refine hK.out _ _ (yv _ (hH)) (fun hN=>?_)
 clear hK K hH
 have hH:=hN
 clear hN
 try go_simp
 refine zC 5 rfl (fun K hK=>?_)
 go_simp
 refine(CCo.out _ V1.heap.size (HB1.out.drew.alloc HB1.out.size _) (by simp) (qz (w:=V1.drew) (cs:=[.slice mp n mc]) 0 _ rfl)).mono ?_
 rintro e V2 ⟨⟨ma,mc2,rfl,hB2,hF2⟩,hk2⟩
 have HK2:Hid (Below V1.heap.size V1 V2):=(((Below.refl _ V1).drew).alloc (Nat.le_refl _) _).trans (hk2.mono (by simp))
 have HBY:Hid (Bys V2 ma n mc2 f/\∀x,ma=some x->V1.heap.size<=x.block):=⟨hB2,fun x hx=>by have:=hF2 x hx;simp at this;omega⟩
 clear hB2 hF2
 go_wp2_with fail
 refine hK.out _ _ (jy hk2 hH) (fun hN=>?_)
 clear hK K hH
 have hH:=hN
 clear hN
 try go_simp
 have ROW2:Hid (V2.heap[b]?=some (.cells (rowOf (xL win phys wide pc (.slice sp sn sc)) 339) 61 (0,0))):=(HK2.out.block b hb1s).trans ROW1.out
 have ROW3:Hid ((V2.setCells b 4 H.toList).heap[b]?=some (.cells (rowOf (ups (xL win phys wide pc (.slice sp sn sc)) 4 35 (hat R pc st ca)) 339) 61 (0,0))):=by
  have h3:=zbq H.toList (w:=V2) (o:=4) (b:=b) (n:=339) (hat R pc st ca) (fun j u hj=>by
   rw[HH.out,Array.getElem?_toList]at hj
   have hj35:j<35:=by have:=(Array.getElem?_eq_some_iff.1 hj).1;rw[zf]at this;exact this
   rw[zp _ hj35]at hj
   exact(Option.some.inj hj).symm) ROW2.out
  rw[Array.length_toList,HHI.out.1]at h3
  exact h3
 have cA:(V2.setCells b 4 H.toList).cell? ⟨b,39,none⟩=some (.slice none 0 0):=(zb ROW3.out (by omega)).trans rfl
 have fA:(V2.setCells b 4 H.toList).frozen? ⟨b,39,none⟩=false:=frozen_of_row _ _ _ _ _ ROW3.out
 refine tU 6 (.pointer (some ⟨b,0,none⟩)) rfl hH ?_;try go_simp
 refine tU 7 (.pointer (some ⟨b,3,none⟩)) rfl hH ?_;try go_simp
 refine tU 8 (.pointer (some ⟨b,4,none⟩)) rfl hH ?_;try go_simp
 refine zL 9 rfl (fun K hK=>?_)
 rw[if_pos (by rfl)]
 refine wp_store_mid 27 _ _ rfl b 4 (H) rfl rfl (by rw[HHI.out.1];exact xm ROW2.out (by omega)) (HHI.out.2.1) (HHI.out.2.2) ?_
 refine hK.out _ _ ?_
 clear hK K
 try go_simp
 refine tV 10 (.pointer (some ⟨b,0,none⟩)) rfl (fun h=>absurd h (by decide)) ?_;try go_simp
 refine tV 11 (.pointer (some ⟨b,3,none⟩)) rfl (fun h=>absurd h (by decide)) ?_;try go_simp
 refine tV 12 (.pointer (some ⟨b,39,none⟩)) rfl (fun h=>absurd h (by decide)) ?_;try go_simp
 refine zL 13 rfl (fun K hK=>?_)
 go_simp
 refine hK.out _ _ ?_
 clear hK K
 try go_simp
 refine zJ (by kernel_rfl) ?_ _
 have HG:Hid (V2.grownBy ((V2.setCells b 4 H.toList).setCell ⟨b,39,none⟩ (.slice ma n mc2)) (some b)):=zM (zO _ _ _ _) (qd _ _ _ _)
 have ROW4:Hid (((V2.setCells b 4 H.toList).setCell ⟨b,39,none⟩ (.slice ma n mc2)).heap[b]?=some (.cells (rowOf (upf (ups (xL win phys wide pc (.slice sp sn sc)) 4 35 (hat R pc st ca)) 39 (.slice ma n mc2)) 339) 61 (0,0))):=zdA ROW3.out
 generalize (V2.setCells b 4 H.toList).setCell ⟨b,39,none⟩ (.slice ma n mc2)=V4 at*
 have hHB2:=HB1.out.trans (HK2.out.mono HB1.out.size)
 have HB4:Hid (Below w.heap.size w V4):=xX hHB2 hHB2.size HG.out (by omega)
 have HBY4:Hid (Bys V4 ma n mc2 f):=xC HBY.out.1 fun h0 x hx=>HG.out.block _ (by
  obtain⟨g,o,e,hl⟩:=HBY.out.1.hm h0
  rw[hx]at e
  cases e
  exact World.block_lt_of_cell? _ _ (hl 0 h0)) (fun e=>by have:=HBY.out.2 x hx;have:=Option.some.inj e;omega)
 have R4:Hid (V4.heap[h]?=some (.cells H 27 (0,0))):=(HG.out.block h (by have:=HK2.out.size;omega) (fun e=>hhb (Option.some.inj e))).trans ((HK2.out.block h (by omega)).trans R1.out)
 have hb4:b<V4.heap.size:=(Array.getElem?_eq_some_iff.1 ROW4.out).1
 have HMA:Hid (∀x,ma=some x->x.block≠b):=fun x hx e=>by have:=HBY.out.2 x hx;omega
 clear hHB2 HG ROW3 ROW2 ROW1 HBY HB1 R1 RG hH cA fA HK2 HHL hb1s hqV hhb
 have k1:V4.cell? ⟨b,1,none⟩=some (.int .i64 phys):=(zb ROW4.out (by omega)).trans rfl
 have CN:Hid (Calls prog 19 #[.int .i64 phys] V4 fun e w'=>(∃a' c',e=.returned (.tuple #[.agg (rowOf (mat phys (fun i=>(i:Int)) (.slice a' (phys.toNat-32) c')) 34),.int .i64 0])/\Re.Lie w' a' (phys.toNat-32) c' (fun i=>32+(i:Int))/\Re.Far V4.heap.size a')/\Below V4.heap.size V4 w'):=by
  refine(Re.zjG phys p0 p1 V4).mono ?_
  rintro e w' ⟨⟨a',c',h1,h2,h3⟩,h4⟩
  rw[xQ,zpo p0]at h1
  exact⟨⟨a',c',h1,h2,h3⟩,h4⟩
 go_wp2_with fail
 refine CN.out.mono ?_
 rintro e V5 ⟨⟨a',c',rfl,hL5,hF5⟩,hk5⟩
 have ROW5:Hid (V5.heap[b]?=some (.cells (rowOf (upf (ups (xL win phys wide pc (.slice sp sn sc)) 4 35 (hat R pc st ca)) 39 (.slice ma n mc2)) 339) 61 (0,0))):=(hk5.block b hb4).trans ROW4.out
 have HB5:Hid (Below w.heap.size w V5):=HB4.out.trans (hk5.mono HB4.out.size)
 have ITS:Hid (Its N V5 b (bg win phys wide n R pc st ca f scr 0) (bgL (.slice ma n mc2) (.slice a' (phys.toNat-32) c') (.slice sp sn sc))):=by
  have hown:∀g,own b (bgL (.slice ma n mc2) (.slice a' (phys.toNat-32) c') (.slice sp sn sc)) g->g=b:=fun g hg=>by
   rcases hg with h|h|h|h
   ·exact h
   ·cases h
   ·cases h
   ·cases h
  have us0:∀e size,Us V5 e size (.slice none 0 0) 0 []:=fun e size=>⟨by simp,fun u hu=>(by cases hu),.inl ⟨rfl,rfl⟩⟩
  refine⟨us0 _ _,us0 _ _,us0 _ _,⟨ma,mc2,rfl,HBY4.out.below hk5⟩,⟨a',c',?_,zkp hL5⟩,⟨none,0,rfl,xi V5 2⟩,⟨sp,sc,?_,?_⟩,fun g hg _ ho=>?_,fun g hg _ ho=>?_,fun g hg h0=>absurd h0 (by show¬0<0;omega),fun g hg h0 ho=>?_,fun g ho=>?_,?_,?_,g1,g2,Nat.le_trans HA.out.1 HB5.out.size⟩
  ·show Value.slice a' (phys.toNat-32) c'=.slice a' ((List.range (phys.toNat-32)).map (fun i:Nat=>32+(i:Int))).length c'
   rw[List.length_map,List.length_range]
  ·show Value.slice sp sn sc=.slice sp scr.length sc
   rw[HSN.out]
  ·show LC V5 sp scr.length sc 1 (ics scr)
   rw[<-HSN.out]
   exact HA.out.2.2.2.2.below (Nat.le_refl _) HB5.out
  ·have e:=hown g ho
   subst e
   cases ma with
   |none=>cases hg
   |some x=>exact HMA.out x rfl (Option.some.inj hg)
  ·have e:=hown g ho
   subst e
   cases a' with
   |none=>cases hg
   |some x=>have:=hF5 x rfl;have:x.block=g:=Option.some.inj hg;omega
  ·have e:=hown g ho
   subst e
   have h0':0<sn:=by rw[HSN.out];exact h0
   cases sp with
   |none=>cases hg
   |some x=>
    obtain⟨g',o',e',hlt,_⟩:=HA.out.2.2.2.2.ad x rfl h0'
    subst e'
    have:g'=g:=Option.some.inj hg
    omega
  ·rw[hown g ho]
   have:=HA.out.1
   omega
  ·exact HA.out.2.1.below HB5.out (by have:=HA.out.1;omega)
  ·exact HA.out.2.2.1.below HB5.out (by have:=HA.out.1;omega)
 have S6:Hid (St N (V5.setCells b 107 (rowOf (mat phys (fun i=>(i:Int)) (.slice a' (phys.toNat-32) c')) 34).toList) b (bg win phys wide n R pc st ca f scr 0) (bgL (.slice ma n mc2) (.slice a' (phys.toNat-32) c') (.slice sp sn sc))):=St.cells ROW5.out ITS.out 107 (fun j hj=>zpn win phys wide n R pc st ca f scr _ _ _ j hj)
 have HOW:Hid (∀g,own b (bgL (.slice ma n mc2) (.slice a' (phys.toNat-32) c') (.slice sp sn sc)) g->g=b):=fun g hg=>by
  rcases hg with h|h|h|h
  ·exact h
  ·cases h
  ·cases h
  ·cases h
 have HG6:=zO V5 b 107 (rowOf (mat phys (fun i=>(i:Int)) (.slice a' (phys.toNat-32) c')) 34).toList
 have HB6:Hid (Below w.heap.size w (V5.setCells b 107 (rowOf (mat phys (fun i=>(i:Int)) (.slice a' (phys.toNat-32) c')) 34).toList)):=xX HB5.out HB5.out.size HG6 (by omega)
 have R6:Hid ((V5.setCells b 107 (rowOf (mat phys (fun i=>(i:Int)) (.slice a' (phys.toNat-32) c')) 34).toList).heap[h]?=some (.cells H 27 (0,0))):=(HG6.block h (by have:=hk5.size;have:=(Array.getElem?_eq_some_iff.1 R4.out).1;omega) (fun e=>by have:=Option.some.inj e;have:=HQW.out;omega)).trans ((hk5.block h (Array.getElem?_eq_some_iff.1 R4.out).1).trans R4.out)
 have HTH:Hid (V5.there b 107 (rowOf (mat phys (fun i=>(i:Int)) (.slice a' (phys.toNat-32) c')) 34).size):=by rw[zf];exact xm ROW5.out (by omega)
 have HSZ:Hid ((prog.info? 54).map (·.size)=some (rowOf (mat phys (fun i=>(i:Int)) (.slice a' (phys.toNat-32) c')) 34).size):=by have:=jf phys (fun i=>(i:Int)) (.slice a' (phys.toNat-32) c');rw[Array.length_toList]at this;exact this
 clear hL5 hF5 hk5 HG6 ROW5 ROW4 HB4 HB5 HBY4 R4 ITS HMA k1 CN hb4
 go_upto_region 4 with(refine wpList_store_mid rfl 54 _ _ rfl b 107 (rowOf (mat phys (fun i=>(i:Int)) (.slice a' (phys.toNat-32) c')) 34) rfl rfl HTH.out HSZ.out (kH _ _ _ _ _) ?_)
 clear HTH HSZ
 generalize V5.setCells b 107 (rowOf (mat phys (fun i=>(i:Int)) (.slice a' (phys.toNat-32) c')) 34).toList=V6 at*
 generalize bgL (.slice ma n mc2) (.slice a' (phys.toNat-32) c') (.slice sp sn sc)=L6 at*
 obtain⟨Q,hQ⟩:∃Q,Q=rowOf (fun i=>Value.int .u32 (R i)) 32:=⟨_,rfl⟩
 have HQQ:Hid (Q=(rowOf (fun i=>Value.int .u32 (R i)) 32).toList.toArray):=by show _=_;rw[hQ]
 have HQa:Hid (∀k,k<32->Q[k]?=some (.int .u32 (R k))):=fun k hk=>by rw[hQ];exact zp _ hk
 have hQs:Q.size=32:=by rw[hQ];exact zf _ _
 have RR:Hid (V6.rangeAt h 0 (rowOf (fun i=>Value.int .u32 (R i)) 32).toList):=fun j v hj=>by
  have hj32:j<32:=by have:=(List.getElem?_eq_some_iff.1 hj).1;rw[Array.length_toList,zf]at this;exact this
  rw[Array.getElem?_toList,zp _ hj32]at hj
  rw[cell_of_row _ _ _ _ _ _ R6.out,Nat.zero_add,HH.out,zp _ (by omega),<-hj]
  unfold hat
  rw[if_pos hj32]
 have HRS:Hid ((prog.info? 25).map (·.size)=some (rowOf (fun i=>Value.int .u32 (R i)) 32).toList.length):=by show _=_;rw[Array.length_toList,zf];exact zf8
 clear hQ R6
 go_wp2_with(refine wpList_load_mid rfl 25 _ rfl h 0 rfl (rowOf (fun i=>Value.int .u32 (R i)) 32).toList _ RR.out underlying25 rfl HRS.out ?_;rw[<-HQQ.out])
 go_loopw [45] (fun i wr=>∃k:Nat,k<=32/\i=.int .i64 (k:Int)/\Hid (St N wr b (bg win phys wide n R pc st ca f scr k) L6/\Below w.heap.size w wr))
  (fun i _=>32-(intOf i).toNat)
 case atStart=>exact⟨0,by omega,rfl,S6.out,HB6.out⟩
 case round=>
  obtain⟨k,hk,rfl,S7,B7⟩:=hrel
  clear S6 HB6 RR
  by_cases hlt:k<32
  ·have hQk:=HQa.out k hlt
   have HS7:Hid (St N wr b (bg win phys wide n R pc st ca f scr k) L6):=S7
   have HB7:Hid (Below w.heap.size w wr):=B7
   have cr:wr.cell? ⟨b,108+k,none⟩=some (.int .i64 (k:Int)):=S7.reg k hlt
   have cw:=S7.wrd k (by omega)
   have ct:=S7.thr k (by omega)
   have fw:=S7.frozen (141+k)
   have ft:=S7.frozen (237+k)
   have k0:0<=(k:Int):=by omega
   have k1:(k:Int)<32:=by omega
   have k9:(k:Int)<96:=by omega
   have hidx:∀w,(Instr.index 25 (.agg Q) (.int .i64 (k:Int))).run prog w=.ok (.int .u32 (R k)) w:=zmY Q k hlt _ hQk
   clear S7 B7 hQk
   go_upto_region 8 with fail
   refine zx (S:=fun w'=>True) [8,12] (by kernel_rfl) (trivial) (fun hH=>?_)
   refine tU 0 (.pointer (some ⟨b,0,none⟩)) rfl hH ?_;try go_simp
   refine tU 1 (.int .i64 (k:Int)) rfl hH ?_;try go_simp
   refine tU 2 (.pointer (some ⟨b,0,none⟩)) rfl hH ?_;try go_simp
   refine tU 3 (.int .i64 (k:Int)) rfl hH ?_;try go_simp
   refine tU 4 (.int .u32 (R k)) rfl hH ?_;try go_simp
   refine tU 5 (.pointer (some ⟨b,0,none⟩)) rfl hH ?_;try go_simp
   refine tU 6 (.pointer (some ⟨b,141,none⟩)) rfl hH ?_;try go_simp
   refine tU 7 (.pointer (some ⟨b,141+k,none⟩)) rfl hH ?_;try go_simp
   refine tU 9 (.pointer (some ⟨b,0,none⟩)) rfl hH ?_;try go_simp
   refine tU 10 (.pointer (some ⟨b,237,none⟩)) rfl hH ?_;try go_simp
   refine zL 8 rfl (fun K hK=>?_)
   go_simp
   refine hK.out _ _ ?_
   clear hK K
   try go_simp
   refine tV 11 (.pointer (some ⟨b,237+k,none⟩)) rfl (fun h=>absurd h (by decide)) ?_;try go_simp
   refine zL 12 rfl (fun K hK=>?_)
   go_simp
   refine hK.out _ _ ?_
   clear hK K
   try go_simp
   refine zJ (by kernel_rfl) ?_ _
   obtain⟨s8,t8⟩:=HS7.out.setWd k (by omega) (R k)
   obtain⟨s9,t9⟩:=s8.setTh k (by omega) true
   rw[zqd]at s9
   have S9:Hid (St N ((wr.setCell ⟨b,141+k,none⟩ (.int .u32 (R k))).setCell ⟨b,237+k,none⟩ (.bool true)) b (bg win phys wide n R pc st ca f scr (k+1)) L6):=s9
   have HG9:=zM (qd wr b (141+k) (.int .u32 (R k))) (qd (wr.setCell ⟨b,141+k,none⟩ (.int .u32 (R k))) b (237+k) (.bool true))
   have B9:Hid (Below w.heap.size w ((wr.setCell ⟨b,141+k,none⟩ (.int .u32 (R k))).setCell ⟨b,237+k,none⟩ (.bool true))):=xX HB7.out HB7.out.size HG9 (by omega)
   clear s8 t8 s9 t9 HG9 hH cr cw ct fw ft HS7 HB7
   generalize (wr.setCell ⟨b,141+k,none⟩ (.int .u32 (R k))).setCell ⟨b,237+k,none⟩ (.bool true)=V9 at*
   go_wp2_with fail
   exact⟨⟨k+1,by omega,by go_num,S9.out.dr,B9.out.drew⟩,by simp[intOf];omega⟩
  ·have hk32:k=32:=by omega
   subst hk32
   rw[zpm]at S7
   have HS7:Hid (St N wr b (begin win phys wide n R pc st ca f scr) L6):=S7
   have HB7:Hid (Below w.heap.size w wr):=B7
   clear S7 B7
   go_wp2_with fail
   go_ret
   exact⟨⟨b,L6,rfl,HS7.out,fun g hg=>by rw[HOW.out g hg];omega⟩,HB7.out⟩
def zE(a hm:Bool)(n sn:Nat)(cyc:Int):Int:=if a=false\/hm=false\/4096<n then 2 else if 3000<sn then 1 else if¬(0<=cyc/\cyc<=6000)then 3 else 0
theorem zaE(win phys wide:Int)(H:Array Value)(hm:Bool)(HH:Hid ((prog.info? 27).map (·.size)=some H.size))(CM:Hid (∀W,Calls prog 16 #[.agg H] W fun e w'=>e=.returned (.bool hm)/\Below W.heap.size W w'))(mp:Option Addr)(n mc:Nat)(sp:Option Addr)(sn sc:Nat)(cyc:Int)(hn:n<=140737488355328)(hsn:sn<=140737488355328)(w:World):
  Calls prog 10 #[.agg #[.int .i64 win,.int .i64 phys,.int .i64 wide],.agg H,.slice mp n mc,.slice sp sn sc,.int .i64 cyc] w fun e w'=>e=.returned (.int .i64 (zE (mayC win phys wide) hm n sn cyc))/\Below w.heap.size w w':=by
 have C1:=fun W=>zjU win phys wide W
 have C3:=fun W=>jZ cyc 0 6000 W
 obtain⟨a,ha⟩:∃a,a=mayC win phys wide:=⟨_,rfl⟩
 rw[<-ha]at C1⊢
 obtain⟨d,hd⟩:∃d,d=decide (0<=cyc/\cyc<=6000):=⟨_,rfl⟩
 rw[<-hd]at C3
 have HD:Hid (d=decide (0<=cyc/\cyc<=6000)):=hd
 clear ha hd
 go_enter func10,ntmps10
 go_upto_region 1 with fail
 refine Wi.qH (Φ:=fun W=>Code.wp _ _ _ _ W) ?_
 intro V e1 e2 hb hsz
 have HQ:Hid (V.heap[w.heap.size+1]?=some (.cells H 27 (0,0))):=e2
 have k0:V.cell? ⟨w.heap.size,0,none⟩=some (.int .i64 win):=by rw[cell_of_row _ _ _ _ _ _ e1];rfl
 have k1:V.cell? ⟨w.heap.size,1,none⟩=some (.int .i64 phys):=by rw[cell_of_row _ _ _ _ _ _ e1];rfl
 have k2:V.cell? ⟨w.heap.size,2,none⟩=some (.int .i64 wide):=by rw[cell_of_row _ _ _ _ _ _ e1];rfl
 have HB:Hid (Below w.heap.size w V):=hb
 have hqV:w.heap.size+1<V.heap.size:=by omega
 clear e1 e2 hb hsz
 obtain⟨h,hh⟩:∃h,h=w.heap.size+1:=⟨_,rfl⟩
 obtain⟨q,hq⟩:∃q,q=w.heap.size:=⟨_,rfl⟩
 rw[<-hh]at HQ hqV⊢
 rw[<-hq]at k0 k1 k2
 have hgoal:∀e:Int,e=zE a hm n sn cyc->∀V':World,Below w.heap.size w V'->(Ending.returned (.int .i64 e)=.returned (.int .i64 (zE a hm n sn cyc))/\Below w.heap.size w V'):=fun e he V' hV=>⟨by rw[he],hV⟩
 have HG:Hid _:=hgoal
 rw[<-hq]
 have HQW:Hid (q=w.heap.size):=hq
 clear hq hh hgoal
 go_wp2_with fail
 refine(C1 _).mono ?_
 rintro e V1 ⟨rfl,hk1⟩
 have B1:Hid (Below w.heap.size w V1):=HB.out.trans (hk1.mono HB.out.size)
 have Q1:Hid (V1.heap[h]?=some (.cells H 27 (0,0))):=(hk1.block h hqV).trans HQ.out
 clear hk1 HB HQ C1 k0 k1 k2
 cases a with
 |false=>
  go_wp2_with fail
  go_ret
  exact HG.out 2 (by simp[zE]) _ B1.out
 |true=>
  go_wp2_with(refine wpList_load_row rfl 27 _ rfl _ rfl 27 _ (0,0) _ Q1.out underlying27 rfl HH.out ?_)
  refine(CM.out _).mono ?_
  rintro e V2 ⟨rfl,hk2⟩
  have B2:Hid (Below w.heap.size w V2):=B1.out.trans (hk2.mono B1.out.size)
  clear hk2 B1 Q1 CM
  cases hm with
  |false=>
   go_wp2_with fail
   go_ret
   exact HG.out 2 (by simp[zE]) _ B2.out
  |true=>
   by_cases h4:4096<n
   ·have h4':(4096:Int)<(n:Int):=by omega
    have HW:Hid ((2:Int)=zE true true n sn cyc):=by show _=_;unfold zE;rw[if_pos (.inr (.inr h4))]
    clear h4
    go_wp2_with fail
    go_ret
    exact HG.out 2 HW.out _ B2.out
   ·have h4':¬(4096:Int)<(n:Int):=by omega
    by_cases h3:3000<sn
    ·have h3':(3000:Int)<(sn:Int):=by omega
     have HW:Hid ((1:Int)=zE true true n sn cyc):=by show _=_;unfold zE;rw[if_neg (by simp;omega),if_pos h3]
     clear h3 h4
     go_wp2_with fail
     go_ret
     exact HG.out 1 HW.out _ B2.out
    ·have h3':¬(3000:Int)<(sn:Int):=by omega
     have HW:Hid ((if d=true then 0 else 3:Int)=zE true true n sn cyc):=by
      have e:zE true true n sn cyc=if¬(0<=cyc/\cyc<=6000)then 3 else 0:=by unfold zE;rw[if_neg (by simp;omega),if_neg h3]
      show _=_
      rw[e,HD.out]
      by_cases hc:0<=cyc/\cyc<=6000
      ·rw[decide_eq_true hc,if_pos rfl,if_neg (fun h=>h hc)]
      ·rw[decide_eq_false hc,if_neg (by simp),if_pos hc]
     clear h3 h4 HD
     go_wp2_with fail
     refine(C3 _).mono ?_
     rintro e V3 ⟨rfl,hk3⟩
     subst hk3
     clear C3
     cases d with
     |true=>
      go_wp2_with fail
      go_ret
      exact HG.out 0 HW.out _ B2.out
     |false=>
      go_wp2_with fail
      go_ret
      exact HG.out 3 HW.out _ B2.out
end Go.Proofs.YtpiohehijkpghabGreatDoor.Co
