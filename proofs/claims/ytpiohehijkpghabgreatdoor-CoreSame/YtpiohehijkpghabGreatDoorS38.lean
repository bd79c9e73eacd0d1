/- A core that takes one in: the program. -/
import Derived.Test.YtpiohehijkpghabGreatDoorS36
import Derived.Test.YtpiohehijkpghabGreatDoorS37
import Derived.Test.YtpiohehijkpghabGreatDoorS09
set_option maxRecDepth 20000
set_option maxHeartbeats 8000000
set_option linter.unusedSimpArgs false
set_option linter.unusedVariables false
open Go.Proofs.Tryz
namespace Go.Proofs.YtpiohehijkpghabGreatDoor.Co
open Go.RowKit
open Hy
open Wi Od Re.Hy
open Gu.Hy (Tb tcs)
def dg0:Dg:=⟨0,0,zin,0,0,0,0,0,0,0,false,0,false,zcm⟩
theorem zcG(w:World)(z:Dg):(w.alloc (.cells (dgl z).toArray 97)).there w.heap.size 0 28:=Bx.there (o:=z) (heap_alloc_new w _) 0 28 (by omega)
theorem ziq(w:World)(z o:Dg):Bx ((w.alloc (.cells (dgl z).toArray 97)).setCells w.heap.size 0 (dgl o)) w.heap.size o/\Below w.heap.size w ((w.alloc (.cells (dgl z).toArray 97)).setCells w.heap.size 0 (dgl o)):=by
 have hB:Bx (w.alloc (.cells (dgl z).toArray 97)) w.heap.size z:=heap_alloc_new w _
 have h2:=Bx.puts hB 0 (dgl o) (by rw[zP];omega) (o':=o) (by unfold ov;rw[zP];rfl)
 refine⟨h2,?_⟩
 have hg:=zO (w.alloc (.cells (dgl z).toArray 97)) w.heap.size 0 (dgl o)
 have h0:Below w.heap.size w (w.alloc (.cells (dgl z).toArray 97)):=(Below.refl _ _).alloc (Nat.le_refl _) _
 exact⟨hg.os.trans h0.os,hg.tape.trans h0.tape,hg.output.trans h0.output,Nat.le_trans h0.size hg.size,fun g hgl=>(hg.block g (by have:=h0.size;omega) (fun e=>by have:=Option.some.inj e;omega)).trans (h0.block g hgl)⟩
structure TakOk(s:Cr):Prop where
 first:First (above s.tak) s.slots s.slots.length
 low:∀p∈s.slots,p.1<s.tak
 lenS:s.slots.length<=1000
 lenU:s.under.length<=1000
 ask:∀q∈s.asked,q.Ok
 lenA:s.asked.length<=10000000
 fro:U32 s.fro
 tak0:0<=s.tak
 tak1:s.tak<=10000000
 nms:Nms s
 tb:Gu.TbOk s.tb
theorem zqc{t:Tb}(ht:Gu.TbOk t){pc v:Int}(hp:U32 pc)(hv:U32 v):Gu.TbOk (lvM t pc v):=by
 unfold lvM Gu.zds
 refine⟨ht.G,zey ht.P hp,zey ht.A hv,zey ht.S ?_⟩
 have h:=ht.S (Gu.kw pc) (by unfold Gu.kw;omega)
 unfold Gu.lS
 split
 ·split
  ·exact h
  ·exact umod _
 ·exact u0
theorem jx:MR mach where
 dcd:=zbu
 dow:=fun pc a b n hi hp ha hb=>zkP hi hp ha hb
 br:=fun pc ht hp=>zoO ht pc hp
 va:=fun pc ht=>zoP ht pc
 lb:=fun pc tk _ ht hg=>zp2 ht pc tk hg
 lv:=fun pc _ ht hp hv=>zqc ht hp hv
theorem zmI:MS mach:=fun{x i} pc a b n h h0 hm=>by
 have hm:(doW i pc a b n).many≠0:=hm
 show sts i=true/\(doW i pc a b n).many=stn i.op/\fits n (doW i pc a b n).pl (stn i.op)=true
 rcases xn i pc a b n with⟨h1,h2,h3,h4⟩|h4
 ·rw[h4]
  exact⟨by unfold sts;exact decide_eq_true ⟨h1,h2⟩,rfl,h3⟩
 ·exfalso
  apply hm
  rcases h4 with⟨_,_,h4⟩|⟨_,h4⟩|⟨_,h4|h4|h4⟩|⟨_,h4⟩|⟨_,_,_,_,h4⟩<;>rw[h4]<;>rfl
theorem zpe{Φ:World->Prop}(w:World)(z o:Dg)(h:∀V,Bx V w.heap.size o->Below w.heap.size w V->Φ V):Φ (((w.alloc (.cells (dgl z).toArray 97)).drew).setCells w.heap.size 0 (dgl o)):=by
 obtain⟨h1,h2⟩:=ziq w.drew z o
 exact h _ h1 (((Below.refl _ w).drew).trans h2)
theorem zmJ{w:World}{p:Nat}{i:In}{t:TypeId}(h:w.heap[p]?=some (.cells (ivL i) t (0,0))):w.rangeAt p 0 (ivL i).toList:=fun j v hj=>by
 rw[cell_of_row _ _ _ _ _ _ h,Nat.zero_add,<-Array.getElem?_toList]
 exact hj
theorem Bx.ins{w:World}{q:Nat}{o:Dg}(h:Bx w q o)(i:In)(k:Nat):Bx ((w.setCells q 2 (ivL i).toList).setCell ⟨q,10,none⟩ (.int .i64 (k:Int))) q {o with i:=i,rd:=k}:=
 Bx.put (o:={o with i:=i}) (Bx.puts h 2 _ (by simp[ivL]) rfl) 10 _ (by omega) rfl
theorem zkc(w:World)(q j:Nat)(l:List Value)(v:Value):w.grownBy ((w.setCells q 2 l).setCell ⟨q,j,none⟩ v) (some q):=zM (zO w q 2 l) (qd _ q j v)
theorem zkd(i:In):(ivL i).all (·.oneCell')=true:=(jv i).2.2
theorem zpf(s:Cr)(o:Dg):(namO s o).1.slots=s.slots/\(namO s o).1.tb=s.tb/\(namO s o).1.under=s.under/\(namO s o).2.seq=o.seq/\(namO s o).2.pc=o.pc/\(namO s o).2.i=o.i:=by
 unfold namO
 split<;>exact⟨rfl,rfl,rfl,rfl,rfl,rfl⟩
theorem zkX{s:Cr}{o:Dg}(hN:Nms s)(hf:o.rd≠0->s.free≠[])(h0:o.to=0):0<=(namO s o).2.to/\(namO s o).2.to<96:=by
 unfold namO
 split
 ·show 0<=o.to/\o.to<96
  omega
 ·rename_i h
  have h1:=hN.dis.rf
  have h2:=hN.high
  show 0<=s.free.headD 0/\s.free.headD 0<96
  cases hfr:s.free with
  |nil=>exact absurd hfr (hf h)
  |cons a l=>
   rw[hfr]at h1
   have:=h1 a (List.mem_cons_self ..)
   show 0<=a/\a<96
   omega
theorem zcH(M:Mc)(s:Cr)(o:Dg):(gueO M s o).1.under=s.under:=by
 have hw:(wayO M s o).1.under=s.under:=by
  unfold wayO
  split
  ·rfl
  ·split<;>rfl
 unfold gueO
 simp only[]
 split
 ·exact hw
 ·unfold gueL
  simp only[]
  split<;>exact hw
theorem Apt.same{b q:Nat}{s s':Cr}{L L':Sls}(A:Apt b q s L)(ho:¬own b L' q)(h1:L'.m=L.m)(h2:L'.f=L.f)(h3:L'.s=L.s)(h4:L'.r=L.r)(e1:s'.n=s.n)(e2:s'.free=s.free)(e3:s'.slots=s.slots)(e4:s'.scr=s.scr):Apt b q s' L':=
 ⟨ho,by rw[h1,e1];exact A.m,by rw[h2,e2];exact A.f,by rw[h3,e3];exact A.sl,by rw[h4,e4];exact A.r,A.g1,A.g2⟩
theorem jJ{w:World}{q:Nat}{o:Dg}(h:Bx w q o):w.rangeAt q 0 (dgl o):=zeE h fun i v hi=>by rw[Nat.zero_add];exact hi
theorem kK(o:Dg):List.foldl (fun(cs:Array Value) (x:Value×Nat)=>cs.setIfInBounds x.snd x.fst) #[.int .i64 0,.int .u32 0,.int .i64 0,.int .i64 0,.int .i64 0,.int .i64 0,.int .i32 0,.int .i64 0,.int .i64 0,.int .i64 0,.int .i64 0,.int .i64 0,.int .i64 0,.int .u32 0,.bool false,.int .i64 0,.bool false,.int .u32 0,.int .u32 0,.int .i64 0,.int .i64 0,.int .i64 0,.int .u32 0,.int .u32 0,.int .i64 0,.int .u32 0,.bool false,.int .u32 0] (dgl o).zipIdx=(dgl o).toArray:=by kernel_rfl
theorem zkY{Φ P:World->Nat->Prop}(x:∀W p,P W p->Φ W p)(W:World)(p:Nat)(h:P W p):Φ W p:=x W p h
theorem zcI{N:Nat}{w:World}{b:Nat}{s:Cr}{L:Sls}(S:St N w b s L)(K:TakOk s):
  Calls prog 51 #[.pointer (some ⟨b,0,none⟩)] w fun e w'=>e=.returned (.bool (tak1 mach s).2)/\∃L',St N w' b (tak1 mach s).1 L'/\To b w L w' L':=by
 obtain⟨iU,hi,hz0,hz1,hz2⟩:=info_parts zoW
 obtain⟨r,hr⟩:∃r,r=tak1 mach s:=⟨_,rfl⟩
 rw[<-hr]
 have HR:Hid (r=tak1 mach s):=hr
 have HS:Hid (St N w b s L):=S
 have HK:Hid (TakOk s):=K
 obtain⟨a,c,ea,hl0⟩:=S.its.isl
 have k333:w.cell? ⟨b,333,none⟩=some (.slice a s.slots.length c):=(zb S.row (by omega)).trans (congrArg some ea)
 have k0:w.cell? ⟨b,0,none⟩=some (.int .i64 s.win):=(zb S.row (by omega)).trans rfl
 have k41:w.cell? ⟨b,41,none⟩=some (.int .i64 s.tak):=(zb S.row (by omega)).trans rfl
 have EA:Hid (L.s=.slice a s.slots.length c):=ea
 clear S K hr ea hl0
 by_cases hw:s.win<=(s.slots.length:Int)
 ·have CP:Hid (∀W,Calls prog 76 #[.slice a s.slots.length c,.int .i64 s.win,.int .i64 s.tak] W fun e w'=>(∃a c,e=.returned (.tuple #[.slice a 0 c,.bool false]))/\Below W.heap.size W w'):=fun W=>by
   have:=zfR HS.out hw W
   rw[EA.out]at this
   exact this
  have hr:r=(s,false):=by rw[HR.out];unfold tak1;rw[if_pos hw]
  subst hr
  clear HR HK hw EA
  go_enter func51,ntmps51
  go_upto_region 1 with fail
  refine zx (S:=fun w'=>w'.cell? ⟨b,333,none⟩=some (.slice a s.slots.length c)/\w'.cell? ⟨b,0,none⟩=some (.int .i64 s.win)/\w'.cell? ⟨b,41,none⟩=some (.int .i64 s.tak)) [] (by kernel_rfl) (⟨k333,k0,k41⟩) (fun hH=>?_)
  refine tU 0 (.pointer (some ⟨b,0,none⟩)) rfl hH ?_;try go_simp
  refine tU 1 (.pointer (some ⟨b,0,none⟩)) rfl hH ?_;try go_simp
  refine tU 2 (.pointer (some ⟨b,333,none⟩)) rfl hH ?_;try go_simp
  refine tS 3 (.slice a s.slots.length c) rfl (Or.inl ⟨by rfl,by intro wz hSw;have hc:=hSw.1;go_simp⟩) hH ?_;try go_simp
  refine tU 4 (.pointer (some ⟨b,0,none⟩)) rfl hH ?_;try go_simp
  refine tU 5 (.pointer (some ⟨b,0,none⟩)) rfl hH ?_;try go_simp
  refine tU 6 (.pointer (some ⟨b,0,none⟩)) rfl hH ?_;try go_simp
  refine tU 7 (.pointer (some ⟨b,0,none⟩)) rfl hH ?_;try go_simp
  refine tS 8 (.int .i64 s.win) rfl (Or.inl ⟨by rfl,by intro wz hSw;have hc:=hSw.2.1;go_simp⟩) hH ?_;try go_simp
  refine tU 9 (.pointer (some ⟨b,0,none⟩)) rfl hH ?_;try go_simp
  refine tU 10 (.pointer (some ⟨b,0,none⟩)) rfl hH ?_;try go_simp
  refine tU 11 (.pointer (some ⟨b,3,none⟩)) rfl hH ?_;try go_simp
  refine tU 12 (.pointer (some ⟨b,41,none⟩)) rfl hH ?_;try go_simp
  refine tS 13 (.int .i64 s.tak) rfl (Or.inl ⟨by rfl,by intro wz hSw;have hc:=hSw.2.2;go_simp⟩) hH ?_;try go_simp
  refine zC 14 rfl (fun K hK=>?_)
  go_simp
  refine(CP.out _).mono ?_
  rintro e V1 ⟨⟨a1,c1,rfl⟩,hk⟩
  have HK:Hid (Below w.heap.size w V1):=zi hk (Nat.le_refl _)
  go_wp2_with fail
  refine hK.out _ _ (⟨zn hk (hH.1),zn hk (hH.2.1),zn hk (hH.2.2)⟩) (fun hN=>?_)
  clear hK K hH
  have hH:=hN
  clear hN
  try go_simp
  refine tU 15 (.tuple #[.slice a1 0 c1,.bool false]) rfl hH ?_;try go_simp
  refine tU 16 (.slice a1 0 c1) rfl hH ?_;try go_simp
  refine tU 17 (.bool false) rfl hH ?_;try go_simp
  refine tU 18 (.slice a1 0 c1) rfl hH ?_;try go_simp
  refine tU 19 (.bool false) rfl hH ?_;try go_simp
  refine zJ (by kernel_rfl) ?_ _
  go_wp2
  go_ret
  exact⟨rfl,L,HS.out.below HK.out,ze L HK.out⟩
 ·have CP:Hid (∀W,Below w.heap.size w W->Calls prog 76 #[.slice a s.slots.length c,.int .i64 s.win,.int .i64 s.tak] W fun e w'=>(∃a c,e=.returned (.tuple #[.slice a (s.slots++[(s.tak,false)]).length c,.bool true])/\LC w' a (s.slots++[(s.tak,false)]).length c 2 (scs (s.slots++[(s.tak,false)]))/\FarC W.heap.size a)/\Below W.heap.size W w'):=fun W hW=>by
   have:=zp8 HS.out (by omega) HK.out.first (by have:=HK.out.lenS;omega) W hW
   rw[EA.out]at this
   exact this
  obtain⟨sl,hsl⟩:∃sl,sl=s.slots++[(s.tak,false)]:=⟨_,rfl⟩
  have HSL:Hid (sl=s.slots++[(s.tak,false)]):=hsl
  rw[<-hsl]at CP
  have HW:Hid (¬s.win<=(s.slots.length:Int)):=hw
  clear hw hsl EA
  go_enter func51,ntmps51
  go_upto_region 1 with fail
  refine zx (S:=fun w'=>w'.cell? ⟨b,333,none⟩=some (.slice a s.slots.length c)/\w'.cell? ⟨b,0,none⟩=some (.int .i64 s.win)/\w'.cell? ⟨b,41,none⟩=some (.int .i64 s.tak)) [] (by kernel_rfl) (⟨k333,k0,k41⟩) (fun hH=>?_)
  refine tU 0 (.pointer (some ⟨b,0,none⟩)) rfl hH ?_;try go_simp
  refine tU 1 (.pointer (some ⟨b,0,none⟩)) rfl hH ?_;try go_simp
  refine tU 2 (.pointer (some ⟨b,333,none⟩)) rfl hH ?_;try go_simp
  refine tS 3 (.slice a s.slots.length c) rfl (Or.inl ⟨by rfl,by intro wz hSw;have hc:=hSw.1;go_simp⟩) hH ?_;try go_simp
  refine tU 4 (.pointer (some ⟨b,0,none⟩)) rfl hH ?_;try go_simp
  refine tU 5 (.pointer (some ⟨b,0,none⟩)) rfl hH ?_;try go_simp
  refine tU 6 (.pointer (some ⟨b,0,none⟩)) rfl hH ?_;try go_simp
  refine tU 7 (.pointer (some ⟨b,0,none⟩)) rfl hH ?_;try go_simp
  refine tS 8 (.int .i64 s.win) rfl (Or.inl ⟨by rfl,by intro wz hSw;have hc:=hSw.2.1;go_simp⟩) hH ?_;try go_simp
  refine tU 9 (.pointer (some ⟨b,0,none⟩)) rfl hH ?_;try go_simp
  refine tU 10 (.pointer (some ⟨b,0,none⟩)) rfl hH ?_;try go_simp
  refine tU 11 (.pointer (some ⟨b,3,none⟩)) rfl hH ?_;try go_simp
  refine tU 12 (.pointer (some ⟨b,41,none⟩)) rfl hH ?_;try go_simp
  refine tS 13 (.int .i64 s.tak) rfl (Or.inl ⟨by rfl,by intro wz hSw;have hc:=hSw.2.2;go_simp⟩) hH ?_;try go_simp
  refine zC 14 rfl (fun K hK=>?_)
  go_simp
  refine(CP.out _ ((Below.refl _ _).drew)).mono ?_
  rintro e V1 ⟨⟨a1,c1,rfl,hl1,hf1⟩,hk⟩
  have HK1:Hid (Below w.heap.size w V1):=zi hk (Nat.le_refl _)
  have HL1:Hid (LC V1 a1 sl.length c1 2 (scs sl)/\FarC w.heap.size a1):=⟨hl1,hf1⟩
  clear hl1 hf1
  go_wp2_with fail
  refine hK.out _ _ (⟨zn hk (hH.1),zn hk (hH.2.1),zn hk (hH.2.2)⟩) (fun hN=>?_)
  clear hK K hH
  have hH:=hN
  clear hN
  try go_simp
  refine tU 15 (.tuple #[.slice a1 sl.length c1,.bool true]) rfl hH ?_;try go_simp
  refine tU 16 (.slice a1 sl.length c1) rfl hH ?_;try go_simp
  refine tU 17 (.bool true) rfl hH ?_;try go_simp
  refine tU 18 (.slice a1 sl.length c1) rfl hH ?_;try go_simp
  refine tU 19 (.bool true) rfl hH ?_;try go_simp
  refine zJ (by kernel_rfl) ?_ _
  have S1:Hid (St N V1 b s L):=HS.out.below HK1.out
  have T1:Hid (To b w L V1 L):=ze L HK1.out
  have HF:Hid (∀x,a1=some x->¬own b L x.block):=qX HS.out (Nat.le_refl _) HL1.out.2
  have HL:Hid (LC V1 a1 sl.length c1 2 (scs sl)):=HL1.out.1
  clear hH k333 k0 k41 CP HK1 HL1 HS
  have k41:V1.cell? ⟨b,41,none⟩=some (.int .i64 s.tak):=(zb S1.out.row (by omega)).trans rfl
  have k337:V1.cell? ⟨b,337,none⟩=some (.int .u32 s.fro):=(zb S1.out.row (by omega)).trans rfl
  go_upto_region 4 with fail
  refine zx (S:=fun w'=>w'.cell? ⟨b,41,none⟩=some (.int .i64 s.tak)/\w'.cell? ⟨b,337,none⟩=some (.int .u32 s.fro)) [11] (by kernel_rfl) (⟨k41,k337⟩) (fun hH=>?_)
  refine tU 0 (.pointer (some ⟨b,0,none⟩)) rfl hH ?_;try go_simp
  refine tU 1 (.pointer (some ⟨b,0,none⟩)) rfl hH ?_;try go_simp
  refine tU 2 (.pointer (some ⟨b,3,none⟩)) rfl hH ?_;try go_simp
  refine tU 3 (.pointer (some ⟨b,41,none⟩)) rfl hH ?_;try go_simp
  refine tS 4 (.int .i64 s.tak) rfl (Or.inl ⟨by rfl,by intro wz hSw;have hc:=hSw.1;go_simp⟩) hH ?_;try go_simp
  refine tU 5 (.pointer (some ⟨b,0,none⟩)) rfl hH ?_;try go_simp
  refine tU 6 (.pointer (some ⟨b,0,none⟩)) rfl hH ?_;try go_simp
  refine tU 7 (.pointer (some ⟨b,337,none⟩)) rfl hH ?_;try go_simp
  refine tS 8 (.int .u32 s.fro) rfl (Or.inl ⟨by rfl,by intro wz hSw;have hc:=hSw.2;go_simp⟩) hH ?_;try go_simp
  refine tU 9 (.agg #[.int .i64 s.tak,.int .u32 s.fro,.int .i64 0,.int .i64 0,.int .i64 0,.int .i64 0,.int .i32 0,.int .i64 0,.int .i64 0,.int .i64 0,.int .i64 0,.int .i64 0,.int .i64 0,.int .u32 0,.bool false,.int .i64 0,.bool false,.int .u32 0,.int .u32 0,.int .i64 0,.int .i64 0,.int .i64 0,.int .u32 0,.int .u32 0,.int .i64 0,.int .u32 0,.bool false,.int .u32 0]) rfl hH ?_;try go_simp
  refine zC 10 rfl (fun K hK=>?_)
  go_simp
  refine hK.out _ _ (⟨qS _ (hH.1),qS _ (hH.2)⟩) (fun hN=>?_)
  clear hK K hH
  have hH:=hN
  clear hN
  try go_simp
  refine zL 11 rfl (fun K hK=>?_)
  rw[if_pos (by rfl)]
  refine wp_store_mid 97 _ _ rfl V1.heap.size 0 (dgl ⟨s.tak,s.fro,zin,0,0,0,0,0,0,0,false,0,false,zcm⟩).toArray rfl rfl (zcG V1.drew dg0) (zN _) (jd _) ?_
  refine hK.out _ _ ?_
  clear hK K
  try go_simp
  refine zJ (by kernel_rfl) ?_ _
  refine zpe (Φ:=fun W=>Exit.then _ _ _ _ W) V1 dg0 ⟨s.tak,s.fro,zin,0,0,0,0,0,0,0,false,0,false,zcm⟩ ?_
  intro V2 b2 k2
  have S2:Hid (St N V2 b s L):=S1.out.below k2
  have B2:Hid (Bx V2 V1.heap.size ⟨s.tak,s.fro,zin,0,0,0,0,0,0,0,false,0,false,zcm⟩):=b2
  have T2:Hid (To b w L V2 L):=T1.out.trans (ze L k2)
  have A2:Hid (Apt b V1.heap.size s L):=S1.out.apt (Nat.le_refl _)
  have HL2:Hid (LC V2 a1 sl.length c1 2 (scs sl)):=HL.out.below (Nat.le_refl _) k2
  have HA:Hid (∀g,(Value.slice a1 sl.length c1).ownBlock=some g->0<sl.length->g≠V1.heap.size):=fun g hg h0=>by
   cases a1 with
   |none=>cases hg
   |some x=>
    obtain⟨g',o',e,hlt,_⟩:=HL.out.ad x rfl h0
    subst e
    have:g'=g:=Option.some.inj hg
    omega
  have HQ:Hid (w.heap.size<=V1.heap.size):=T1.out.size
  clear b2 k2 S1 T1 HL k41 k337 hH
  generalize V1.heap.size=q at*
  obtain⟨i,hi⟩:∃i,i=(rdI mach s).1:=⟨_,rfl⟩
  obtain⟨ca,hca⟩:∃ca,ca=(rdI mach s).2:=⟨_,rfl⟩
  have CR:Hid (Calls prog 77 #[.pointer (some ⟨b,0,none⟩),.int .i64 s.tak] V2 fun e w'=>e=.returned (.tuple #[ivI i,.int .i64 ca])/\Below V2.heap.size V2 w'):=by
   rw[hi,hca]
   exact zh5 S2.out HK.out.ask (by have:=HK.out.lenA;omega) HK.out.fro
  have HI:Hid (i=(rdI mach s).1/\ca=(rdI mach s).2):=⟨hi,hca⟩
  clear hi hca
  have c0:V2.cell? ⟨q,0,none⟩=some (.int .i64 s.tak):=zq B2.out 0 rfl
  go_wp2_with fail
  refine CR.out.mono ?_
  rintro e V3 ⟨rfl,k3⟩
  go_upto_region 6 with fail
  refine Wi.zA (Φ:=fun W=>Code.wp _ _ _ _ W) ?_
  intro V4 h4 k4
  have k34:=Below.trans k3 (k4.mono k3.size)
  have S4:Hid (St N V4 b s L):=S2.out.below k34
  have B4:Hid (Bx V4 q ⟨s.tak,s.fro,zin,0,0,0,0,0,0,0,false,0,false,zcm⟩):=B2.out.below k34
  have T4:Hid (To b w L V4 L):=T2.out.trans (ze L k34)
  have HL4:Hid (LC V4 a1 sl.length c1 2 (scs sl)):=HL2.out.below (Nat.le_refl _) k34
  have R4:Hid (V4.rangeAt V3.heap.size 0 (ivL i).toList):=zmJ h4
  have hqp:q≠V3.heap.size:=by have:=B2.out.lt;have:=k3.size;omega
  clear k34 h4 k4 k3 S2 B2 T2 HL2 c0 CR
  generalize V3.heap.size=p at*
  have CG:=fun W=>zfL i W
  obtain⟨k,hk⟩:∃k,k=gvs i:=⟨_,rfl⟩
  rw[<-hk]at CG
  have HKK:Hid (k=gvs i):=hk
  clear hk
  refine zx (S:=fun w'=>w'.rangeAt p 0 ((ivL i).toList)) [6] (by kernel_rfl) (R4.out) (fun hH=>?_)
  refine tS 0 (.agg ((ivL i).toList).toArray) rfl (yieldsIf_load_mid (by rfl) 77 _ rfl _ _ rfl ((ivL i).toList) _ (fun wz hSw=>hSw) underlying77 rfl (qL _)) hH ?_;try go_simp
  refine tS 1 (.agg ((ivL i).toList).toArray) rfl (yieldsIf_load_mid (by rfl) 77 _ rfl _ _ rfl ((ivL i).toList) _ (fun wz hSw=>hSw) underlying77 rfl (qL _)) hH ?_;try go_simp
  refine zC 2 rfl (fun K hK=>?_)
  go_simp
  refine(CG _).mono ?_
  rintro e V5 ⟨rfl,k5⟩
  have HK5:Hid (Below V4.heap.size V4 V5):=zi k5 (Nat.le_refl _)
  go_wp2_with fail
  refine hK.out _ _ (jy k5 hH) (fun hN=>?_)
  clear hK K hH
  have hH:=hN
  clear hN
  try go_simp
  have B5:Hid (Bx V5 q ⟨s.tak,s.fro,zin,0,0,0,0,0,0,0,false,0,false,zcm⟩):=B4.out.below HK5.out
  refine tU 3 (.pointer (some ⟨q,2,none⟩)) rfl hH ?_;try go_simp
  refine zC 4 rfl (fun K hK=>?_)
  rw[if_pos (by rfl)]
  refine wp_store_mid 77 _ _ rfl q 2 (ivL i) rfl rfl (B5.out.there 2 5 (by omega)) ((jv i).1) (zkd i) ?_
  refine hK.out _ _ (zoU hH (fun h=>hqp h.symm)) (fun hN=>?_)
  clear hK K hH
  have hH:=hN
  clear hN
  try go_simp
  refine tU 5 (.pointer (some ⟨q,10,none⟩)) rfl hH ?_;try go_simp
  have B5b:Hid (Bx (V5.setCells q 2 (ivL i).toList) q ⟨s.tak,s.fro,i,0,0,0,0,0,0,0,false,0,false,zcm⟩):=B5.out.puts 2 _ (by simp[ivL]) rfl
  have c10:=zq B5b.out 10 (v:=.int .i64 0) rfl
  have f10:=qy B5b.out 10
  refine zL 6 rfl (fun K hK=>?_)
  go_simp
  refine hK.out _ _ ?_
  clear hK K
  try go_simp
  refine zJ (by kernel_rfl) ?_ _
  have hg:=zkc V5 q 10 (ivL i).toList (.int .i64 (k:Int))
  have S6:Hid (St N ((V5.setCells q 2 (ivL i).toList).setCell ⟨q,10,none⟩ (.int .i64 (k:Int))) b s L):=(S4.out.below HK5.out).other hg A2.out
  have B6:Hid (Bx ((V5.setCells q 2 (ivL i).toList).setCell ⟨q,10,none⟩ (.int .i64 (k:Int))) q ⟨s.tak,s.fro,i,0,0,0,k,0,0,0,false,0,false,zcm⟩):=B5.out.ins i k
  have T6:Hid (Toq b q w L ((V5.setCells q 2 (ivL i).toList).setCell ⟨q,10,none⟩ (.int .i64 (k:Int))) L):=(T4.out.trans (ze L HK5.out)).q.trans (zaB hg)
  have HL6:Hid (LC ((V5.setCells q 2 (ivL i).toList).setCell ⟨q,10,none⟩ (.int .i64 (k:Int))) a1 sl.length c1 2 (scs sl)):=qK (HL4.out.below (Nat.le_refl _) HK5.out) hg.size fun h0 x hx=>hg.block _ (by
   obtain⟨g',o',e,hlt,_⟩:=(HL4.out.below (Nat.le_refl _) HK5.out).ad x hx h0
   subst e
   exact hlt) (fun e=>HA.out x.block (by rw[hx];rfl) h0 (Option.some.inj e))
  clear hg S4 B4 T4 HL4 R4 hqp HK5 B5 B5b c10 f10 hH CG
  generalize (V5.setCells q 2 (ivL i).toList).setCell ⟨q,10,none⟩ (.int .i64 (k:Int))=V6 at*
  have c10:V6.cell? ⟨q,10,none⟩=some (.int .i64 (k:Int)):=zq B6.out 10 rfl
  obtain⟨fa,fc,ef,hfl⟩:=S6.out.its.ifr
  have k140:V6.cell? ⟨b,140,none⟩=some (.slice fa s.free.length fc):=(zb S6.out.row (by omega)).trans (congrArg some ef)
  clear hfl ef
  by_cases hno:k≠0/\s.free=[]
  ·have hr:r=(s,false):=by
    rw[HR.out]
    unfold tak1
    rw[if_neg (by have:=HW.out;omega),<-HI.out.1,<-HKK.out,if_pos hno]
   subst hr
   have hb0:((k:Int) != 0)=true:=by simp[hno.1]
   have k140':V6.cell? ⟨b,140,none⟩=some (.slice fa 0 fc):=by rw[k140,hno.2];rfl
   clear k140 hno HR HI
   go_wp2
   go_ret
   exact⟨rfl,L,S6.out,Toq.to (To.refl b w L) HQ.out T6.out⟩
  ·have HR2:Hid (r=(let m:=namO (askO {s with slots:=sl,tak:=s.tak+1} (⟨s.tak,s.fro,i,0,0,0,k,0,0,0,false,0,false,zcm⟩:Dg)) (⟨s.tak,s.fro,i,0,0,0,k,0,0,0,false,0,false,zcm⟩:Dg);let t:=if ca≠0 then kt m.1 m.2 ca else gueO mach m.1 m.2;({t.1 with under:=t.1.under++[t.2]},true))):=by
    have e1:newO mach s=(⟨s.tak,s.fro,i,0,0,0,k,0,0,0,false,0,false,zcm⟩:Dg):=by unfold newO;rw[HKK.out,HI.out.1]
    show _=_
    rw[HR.out]
    unfold tak1
    rw[if_neg (by have:=HW.out;omega),<-HI.out.1,<-HKK.out,if_neg hno,e1,<-HI.out.2,<-HSL.out]
   have hfr:k≠0->s.free≠[]:=fun h h'=>hno ⟨h,h'⟩
   have HIn:Hid (k<32/\ra i<32/\rb i<32/\-2147483648<=i.im/\i.im<=2147483647):=by
    have h:=(zeH jx s).1
    rw[<-HI.out.1]at h
    rw[HKK.out]
    rcases h with h|h
    ·rw[h];exact(by decide:gvs zin<32/\ra zin<32/\rb zin<32/\-2147483648<=zin.im/\zin.im<=2147483647)
    ·refine⟨?_,?_,?_,h.i0,h.i1⟩
     ·unfold gvs;have:=h.lr;split<;>omega
     ·unfold ra;have:=h.l1;split<;>omega
     ·unfold rb;have:=h.l2;split<;>omega
   have k333:V6.cell? ⟨b,333,none⟩=some L.s:=(zb S6.out.row (by omega)).trans rfl
   have f333:=S6.out.frozen 333
   clear HR hno
   have HFR:Hid (k≠0->s.free≠[]):=hfr
   have key:s.free.length=0\/((s.free.length:Int)==0)=false:=by
    by_cases h:s.free.length=0
    ·exact .inl h
    ·refine .inr ?_
     simp
     intro h'
     rw[h']at h
     exact h rfl
   by_cases h0:k=0
   ·have c10':V6.cell? ⟨q,10,none⟩=some (.int .i64 0):=by rw[c10,h0];rfl
    clear c10 key hfr h0
    go_upto_region 10 with fail
    obtain⟨s7,t7⟩:=S6.out.setSlots HL6.out HF.out
    have S7:Hid (St N (V6.setCell ⟨b,333,none⟩ (.slice a1 sl.length c1)) b {s with slots:=sl} {L with s:=.slice a1 sl.length c1}):=s7
    have B7:Hid (Bx (V6.setCell ⟨b,333,none⟩ (.slice a1 sl.length c1)) q (⟨s.tak,s.fro,i,0,0,0,k,0,0,0,false,0,false,zcm⟩:Dg)):=B6.out.to t7 A2.out.o
    have T7:Hid (Toq b q w L (V6.setCell ⟨b,333,none⟩ (.slice a1 sl.length c1)) {L with s:=.slice a1 sl.length c1}):=T6.out.trans t7.q
    have A7:Hid (Apt b q {s with slots:=sl} {L with s:=.slice a1 sl.length c1}):=⟨A2.out.o,A2.out.m,A2.out.f,HA.out,A2.out.r,A2.out.g1,A2.out.g2⟩
    clear s7 t7 S6 B6 T6 HL6 HF k333 f333 k140
    generalize V6.setCell ⟨b,333,none⟩ (.slice a1 sl.length c1)=V7 at*
    generalize ({L with s:=.slice a1 sl.length c1}:Sls)=L7 at*
    have k41:V7.cell? ⟨b,41,none⟩=some (.int .i64 s.tak):=(zb S7.out.row (by omega)).trans rfl
    have f41:=S7.out.frozen 41
    have t0:=HK.out.tak0
    have t1:=HK.out.tak1
    go_upto_region 11 with fail
    obtain⟨s8,t8⟩:=S7.out.setTak (s.tak+1)
    have S8:Hid (St N (V7.setCell ⟨b,41,none⟩ (.int .i64 (s.tak+1))) b {s with slots:=sl,tak:=s.tak+1} L7):=s8
    have B8:Hid (Bx (V7.setCell ⟨b,41,none⟩ (.int .i64 (s.tak+1))) q (⟨s.tak,s.fro,i,0,0,0,k,0,0,0,false,0,false,zcm⟩:Dg)):=B7.out.to t8 A7.out.o
    have T8:Hid (Toq b q w L (V7.setCell ⟨b,41,none⟩ (.int .i64 (s.tak+1))) L7):=T7.out.trans t8.q
    have A8:Hid (Apt b q {s with slots:=sl,tak:=s.tak+1} L7):=⟨A7.out.o,A7.out.m,A7.out.f,A7.out.sl,A7.out.r,A7.out.g1,A7.out.g2⟩
    clear s8 t8 S7 B7 T7 A7 k41 f41 t0 t1 HA
    generalize V7.setCell ⟨b,41,none⟩ (.int .i64 (s.tak+1))=V8 at*
    have CA:Hid (Calls prog 79 #[.pointer (some ⟨b,0,none⟩),dgv (⟨s.tak,s.fro,i,0,0,0,k,0,0,0,false,0,false,zcm⟩:Dg)] V8 fun e w'=>e=.returned (.tuple #[])/\∃L',St N w' b (askO {s with slots:=sl,tak:=s.tak+1} (⟨s.tak,s.fro,i,0,0,0,k,0,0,0,false,0,false,zcm⟩:Dg)) L'/\To b V8 L7 w' L'/\L'.m=L7.m/\L'.f=L7.f/\L'.s=L7.s/\L'.r=L7.r):=zeF S8.out _ (by have:=HK.out.lenA;show s.asked.length<=_;omega)
    obtain⟨s9,hs9⟩:∃s9:Cr,s9=askO {s with slots:=sl,tak:=s.tak+1} (⟨s.tak,s.fro,i,0,0,0,k,0,0,0,false,0,false,zcm⟩:Dg):=⟨_,rfl⟩
    have HN9:Hid (Nms s9):=by rw[hs9];exact⟨HK.out.nms.low,HK.out.nms.high,HK.out.nms.dis⟩
    have HF9:Hid (s9.free=s.free/\s9.slots=sl/\s9.tb=s.tb/\s9.under=s.under/\s9.n=s.n/\s9.scr=s.scr):=by rw[hs9];exact⟨rfl,rfl,rfl,rfl,rfl,rfl⟩
    rw[<-hs9]at CA HR2
    clear hs9
    go_wp2_with(refine wpList_load_mid rfl 97 _ rfl q 0 rfl (dgl (⟨s.tak,s.fro,i,0,0,0,k,0,0,0,false,0,false,zcm⟩:Dg)) _ (jJ B8.out) underlying97 rfl (zN _) ?_)
    refine CA.out.mono ?_
    rintro e V9 ⟨rfl,L9,u1,u2,u3,u4,u5,u6⟩
    have S9:Hid (St N V9 b s9 L9):=u1
    have B9:Hid (Bx V9 q (⟨s.tak,s.fro,i,0,0,0,k,0,0,0,false,0,false,zcm⟩:Dg)):=B8.out.to u2 A8.out.o
    have T9:Hid (Toq b q w L V9 L9):=T8.out.trans u2.q
    have A9:Hid (Apt b q s9 L9):=A8.out.same (B8.out.not u2 A8.out.o) u3 u4 u5 u6 HF9.out.2.2.2.2.1 HF9.out.1 HF9.out.2.1 HF9.out.2.2.2.2.2
    clear u1 u2 u3 u4 u5 u6 S8 B8 T8 A8 CA
    go_wp2_with fail
    refine(zcA S9.out B9.out A9.out HN9.out HIn.out.1 HIn.out.2.1 HIn.out.2.2.1 (by rw[HF9.out.1];exact HFR.out)).mono ?_
    rintro e V10 ⟨rfl,L10,u1,u2,u3,u4⟩
    have S10:Hid (St N V10 b (namO s9 (⟨s.tak,s.fro,i,0,0,0,k,0,0,0,false,0,false,zcm⟩:Dg)).1 L10):=u1
    have B10:Hid (Bx V10 q (namO s9 (⟨s.tak,s.fro,i,0,0,0,k,0,0,0,false,0,false,zcm⟩:Dg)).2):=u2
    have A10:Hid (Apt b q (namO s9 (⟨s.tak,s.fro,i,0,0,0,k,0,0,0,false,0,false,zcm⟩:Dg)).1 L10):=u3
    have T10:Hid (Toq b q w L V10 L10):=T9.out.trans u4
    obtain⟨f1,f2,f3,f4,f5,f6⟩:=zpf s9 (⟨s.tak,s.fro,i,0,0,0,k,0,0,0,false,0,false,zcm⟩:Dg)
    have hto:=zkX (s:=s9) (o:=(⟨s.tak,s.fro,i,0,0,0,k,0,0,0,false,0,false,zcm⟩:Dg)) HN9.out (by rw[HF9.out.1];exact HFR.out) rfl
    obtain⟨m1,hm1⟩:∃m1,m1=(namO s9 (⟨s.tak,s.fro,i,0,0,0,k,0,0,0,false,0,false,zcm⟩:Dg)).1:=⟨_,rfl⟩
    obtain⟨m2,hm2⟩:∃m2,m2=(namO s9 (⟨s.tak,s.fro,i,0,0,0,k,0,0,0,false,0,false,zcm⟩:Dg)).2:=⟨_,rfl⟩
    have HR3:Hid (r=(let t:=if ca≠0 then kt m1 m2 ca else gueO mach m1 m2;({t.1 with under:=t.1.under++[t.2]},true))):=by show _=_;rw[HR2.out,hm1,hm2]
    rw[<-hm1]at S10 A10 f1 f2 f3
    rw[<-hm2]at B10 f4 f5 f6 hto
    have HM:Hid (m1.slots=sl/\m1.tb=s.tb/\m1.under=s.under/\m2.seq=s.tak/\m2.pc=s.fro/\m2.i=i/\0<=m2.to/\m2.to<96):=⟨f1.trans HF9.out.2.1,f2.trans HF9.out.2.2.1,f3.trans HF9.out.2.2.2.1,f4,f5,f6,hto.1,hto.2⟩
    clear u1 u2 u3 u4 S9 B9 A9 T9 HN9 HR2 hm1 hm2 f1 f2 f3 f4 f5 f6 hto HF9 HFR
    by_cases hc:ca=0
    ·have hc':(ca != 0)=false:=by simp[hc]
     obtain⟨t1,ht1⟩:∃t1,t1=gueO mach m1 m2:=⟨_,rfl⟩
     have HR4:Hid (r=({t1.1 with under:=t1.1.under++[t1.2]},true)):=by show _=_;rw[HR3.out,ht1];simp only[hc,ne_eq,not_true_eq_false,if_false]
     have CGu:Hid (∀W,W=V10->Calls prog 82 #[.pointer (some ⟨b,0,none⟩),.pointer (some ⟨q,0,none⟩)] W fun e w'=>e=.returned (.tuple #[])/\∃L',St N w' b t1.1 L'/\Bx w' q t1.2/\Apt b q t1.1 L'/\Toq b q V10 L10 w' L'):=fun W hW=>by
      subst hW
      rw[ht1]
      exact zaD S10.out B10.out A10.out (by rw[HM.out.2.1];exact HK.out.tb) (by rw[HM.out.2.2.2.2.1];exact HK.out.fro) (by rw[HM.out.2.2.2.2.2.1];exact HIn.out.2.2.2.1) (by rw[HM.out.2.2.2.2.2.1];exact HIn.out.2.2.2.2) HM.out.2.2.2.2.2.2.1 HM.out.2.2.2.2.2.2.2
     have HU:Hid (t1.1.under=s.under):=by show _=_;rw[ht1,zcH,HM.out.2.2.1]
     clear ht1 HR3
     go_wp2_with fail
     refine(CGu.out _ rfl).mono ?_
     rintro e V ⟨rfl,L11,u1,u2,u3,u4⟩
     have SV:Hid (St N V b t1.1 L11):=u1
     have BV:Hid (Bx V q t1.2):=u2
     have TV:Hid (Toq b q w L V L11):=T10.out.trans u4
     have HNO:Hid (¬own b L11 q):=u3.o
     clear u1 u2 u4 u3 S10 B10 A10 T10 CGu HM
     have hnq:L11.u.ownBlock≠some q:=fun h=>HNO.out (.inr (.inr (.inl h)))
     have hlen:t1.1.under.length<=1000:=by rw[HU.out];exact HK.out.lenU
     obtain⟨t2,ht2⟩:∃t2,t2=t1.2:=⟨_,rfl⟩
     obtain⟨t0,ht0⟩:∃t0,t0=t1.1:=⟨_,rfl⟩
     rw[<-ht2]at BV
     rw[<-ht0]at SV hlen
     rw[<-ht2,<-ht0]at HR4
     clear ht2 ht0 HU
     go_upto_region 16 with fail
     obtain⟨a5,c5,ea⟩:=SV.out.its.iu.slice
     have kA:V.cell? ⟨b,334,none⟩=some (.slice a5 (t0.under.length) c5):=(zb SV.out.row (by omega)).trans (congrArg some ea)
     have HU:Hid (Us V 97 28 (.slice a5 (t0.under.length) c5) (t0.under.length) (flat dgl t0.under)):=by have:=SV.out.its.iu;rw[ea]at this;exact this
     have hnb:(Value.slice a5 (t0.under.length) c5).ownBlock≠some b:=fun h=>(SV.out.apart.2.1 b (by rw[ea];exact h)).2.2 rfl
     have hlt0:∀g,(Value.slice a5 (t0.under.length) c5).ownBlock=some g->g<V.heap.size:=fun g h=>SV.out.its.lt (.inr (.inl (by rw[ea];exact h)))
     refine zx (S:=fun w'=>w'.cell? ⟨b,334,none⟩=some (.slice a5 (t0.under.length) c5)/\w'.rangeAt q 0 (dgl t2)) [10] (by kernel_rfl) (⟨kA,jJ BV.out⟩) (fun hH=>?_)
     refine tU 0 (.pointer (some ⟨b,0,none⟩)) rfl hH ?_;try go_simp
     refine tU 1 (.pointer (some ⟨b,0,none⟩)) rfl hH ?_;try go_simp
     refine tU 2 (.pointer (some ⟨b,0,none⟩)) rfl hH ?_;try go_simp
     refine tU 3 (.pointer (some ⟨b,334,none⟩)) rfl hH ?_;try go_simp
     refine tS 4 (.slice a5 (t0.under.length) c5) rfl (Or.inl ⟨by rfl,by intro wz hSw;have hc:=hSw.1;go_simp⟩) hH ?_;try go_simp
     refine tS 5 (.agg (dgl t2).toArray) rfl (yieldsIf_load_mid (by rfl) 97 _ rfl _ _ rfl (dgl t2) _ (fun wz hSw=>hSw.2) underlying97 rfl (zN _)) hH ?_;try go_simp
     refine zC 6 rfl (fun K hK=>?_)
     go_simp
     rw[kK]
     refine hK.out _ _ (⟨qS _ (hH.1),yv _ (hH.2)⟩) (fun hN=>?_)
     clear hK K hH
     have hH:=hN
     clear hN
     try go_simp
     refine zC 7 rfl (fun K hK=>?_)
     rw[if_pos (by rfl)]
     refine zW _ _ 58 rfl 97 iU _ 28 192 underlying58 hi hz0 hz1 hz2 rfl (by decide) _ (t0.under.length) _ rfl (HU.out.below ((Below.refl _ _).drew.alloc (Nat.le_refl _) _)) V.heap.size (dgl t2) rfl rfl (fun j u hj=>qz (w:=V.drew) j u hj) (xR _) (by omega) (by omega) ?_
     intro v1 w1 hU1 hG1 hF1
     obtain⟨p1,c1,rfl⟩:=hU1.slice
     have fA:w1.frozen? ⟨b,334,none⟩=false:=frozen_of_row _ _ _ _ _ ((hG1.block b (by have:=SV.out.lt;simp;omega) (fun h=>hnb h.symm)).trans ((Below.heap_alloc _ _ _ SV.out.lt).trans SV.out.row))
     have HU1:Hid (Us w1 97 28 (.slice p1 ((t0.under.length)+1) c1) ((t0.under.length)+1) (flat dgl t0.under++dgl t2)):=hU1
     have HG1:Hid (V.grownBy w1 L11.u.ownBlock):=by rw[ea];exact qb (qh hG1 (fun g hg=>hlt0 g hg))
     have HF1:Hid (∀g,(Value.slice p1 ((t0.under.length)+1) c1).ownBlock=some g->L11.u.ownBlock=some g\/V.heap.size<=g):=fun g hg=>(hF1 g hg).imp (fun h=>by rw[ea];exact h) (fun h=>Nat.le_trans (by simp) h)
     refine hK.out _ _ (⟨xT hG1 (hH.1) (hnb),zcy hG1 (hH.2) (by rw[<-ea];exact hnq)⟩) (fun hN=>?_)
     clear hK K hH
     have hH:=hN
     clear hN
     try go_simp
     have cA:=hH.1
     clear hU1 hG1 hF1 HU hnb hlt0 kA
     refine tU 8 (.pointer (some ⟨b,0,none⟩)) rfl hH ?_;try go_simp
     refine tU 9 (.pointer (some ⟨b,334,none⟩)) rfl hH ?_;try go_simp
     refine zL 10 rfl (fun K hK=>?_)
     go_simp
     refine hK.out _ _ ?_
     clear hK K
     try go_simp
     refine zJ (by kernel_rfl) ?_ _
     obtain⟨S1,T1⟩:=St.appU SV.out (t2) HU1.out HG1.out HF1.out
     clear HU1 HG1 HF1 hH cA fA
     generalize w1.setCell ⟨b,334,none⟩ (.slice p1 ((t0.under.length)+1) c1)=W1 at*
     generalize Value.slice p1 ((t0.under.length)+1) c1=v1 at*
     have T12:=TV.out.trans T1.q
     clear T1 SV TV BV
     go_wp2
     go_ret
     have HE:=HR4.out
     refine⟨by rw[HE];rfl,_,by rw[HE];exact S1,Toq.to (To.refl b w L) HQ.out T12⟩
    ·have hc':(ca != 0)=true:=by simp[hc]
     obtain⟨t1,ht1⟩:∃t1,t1=kt m1 m2 ca:=⟨_,rfl⟩
     have HR4:Hid (r=({t1.1 with under:=t1.1.under++[t1.2]},true)):=by show _=_;rw[HR3.out,ht1];simp only[hc,ne_eq,not_false_eq_true,if_true]
     have CGu:Hid (∀W,W=V10->Calls prog 81 #[.pointer (some ⟨b,0,none⟩),.pointer (some ⟨q,0,none⟩),.int .i64 ca] W fun e w'=>e=.returned (.tuple #[])/\∃L',St N w' b t1.1 L'/\Bx w' q t1.2/\Toq b q V10 L10 w' L'):=fun W hW=>by
      subst hW
      rw[ht1]
      exact zcz S10.out B10.out A10.out ca s.slots.length (by rw[HM.out.1,HM.out.2.2.2.1,HSL.out];exact zcD HK.out.low) (by rw[HM.out.1,HSL.out];have:=HK.out.lenS;simp;omega)
     have HU:Hid (t1.1.under=s.under):=by show _=_;rw[ht1];exact HM.out.2.2.1
     have HNB:Hid (¬own b L10 q):=A10.out.o
     clear ht1 HR3
     go_wp2_with fail
     refine(CGu.out _ rfl).mono ?_
     rintro e V ⟨rfl,L11,u1,u2,u4⟩
     have SV:Hid (St N V b t1.1 L11):=u1
     have BV:Hid (Bx V q t1.2):=u2
     have TV:Hid (Toq b q w L V L11):=T10.out.trans u4
     have HNO:Hid (¬own b L11 q):=fun h=>by
      rcases u4.fresh q h with h|h
      ·exact HNB.out h
      ·have:=B10.out.lt;omega
     clear u1 u2 u4 S10 B10 A10 T10 CGu HM
     have hnq:L11.u.ownBlock≠some q:=fun h=>HNO.out (.inr (.inr (.inl h)))
     have hlen:t1.1.under.length<=1000:=by rw[HU.out];exact HK.out.lenU
     obtain⟨t2,ht2⟩:∃t2,t2=t1.2:=⟨_,rfl⟩
     obtain⟨t0,ht0⟩:∃t0,t0=t1.1:=⟨_,rfl⟩
     rw[<-ht2]at BV
     rw[<-ht0]at SV hlen
     rw[<-ht2,<-ht0]at HR4
     clear ht2 ht0 HU
     go_upto_region 16 with fail
     obtain⟨a5,c5,ea⟩:=SV.out.its.iu.slice
     have kA:V.cell? ⟨b,334,none⟩=some (.slice a5 (t0.under.length) c5):=(zb SV.out.row (by omega)).trans (congrArg some ea)
     have HU:Hid (Us V 97 28 (.slice a5 (t0.under.length) c5) (t0.under.length) (flat dgl t0.under)):=by have:=SV.out.its.iu;rw[ea]at this;exact this
     have hnb:(Value.slice a5 (t0.under.length) c5).ownBlock≠some b:=fun h=>(SV.out.apart.2.1 b (by rw[ea];exact h)).2.2 rfl
     have hlt0:∀g,(Value.slice a5 (t0.under.length) c5).ownBlock=some g->g<V.heap.size:=fun g h=>SV.out.its.lt (.inr (.inl (by rw[ea];exact h)))
     refine zx (S:=fun w'=>w'.cell? ⟨b,334,none⟩=some (.slice a5 (t0.under.length) c5)/\w'.rangeAt q 0 (dgl t2)) [10] (by kernel_rfl) (⟨kA,jJ BV.out⟩) (fun hH=>?_)
     refine tU 0 (.pointer (some ⟨b,0,none⟩)) rfl hH ?_;try go_simp
     refine tU 1 (.pointer (some ⟨b,0,none⟩)) rfl hH ?_;try go_simp
     refine tU 2 (.pointer (some ⟨b,0,none⟩)) rfl hH ?_;try go_simp
     refine tU 3 (.pointer (some ⟨b,334,none⟩)) rfl hH ?_;try go_simp
     refine tS 4 (.slice a5 (t0.under.length) c5) rfl (Or.inl ⟨by rfl,by intro wz hSw;have hc:=hSw.1;go_simp⟩) hH ?_;try go_simp
     refine tS 5 (.agg (dgl t2).toArray) rfl (yieldsIf_load_mid (by rfl) 97 _ rfl _ _ rfl (dgl t2) _ (fun wz hSw=>hSw.2) underlying97 rfl (zN _)) hH ?_;try go_simp
     refine zC 6 rfl (fun K hK=>?_)
     go_simp
     rw[kK]
     refine hK.out _ _ (⟨qS _ (hH.1),yv _ (hH.2)⟩) (fun hN=>?_)
     clear hK K hH
     have hH:=hN
     clear hN
     try go_simp
     refine zC 7 rfl (fun K hK=>?_)
     rw[if_pos (by rfl)]
     refine zW _ _ 58 rfl 97 iU _ 28 192 underlying58 hi hz0 hz1 hz2 rfl (by decide) _ (t0.under.length) _ rfl (HU.out.below ((Below.refl _ _).drew.alloc (Nat.le_refl _) _)) V.heap.size (dgl t2) rfl rfl (fun j u hj=>qz (w:=V.drew) j u hj) (xR _) (by omega) (by omega) ?_
     intro v1 w1 hU1 hG1 hF1
     obtain⟨p1,c1,rfl⟩:=hU1.slice
     have fA:w1.frozen? ⟨b,334,none⟩=false:=frozen_of_row _ _ _ _ _ ((hG1.block b (by have:=SV.out.lt;simp;omega) (fun h=>hnb h.symm)).trans ((Below.heap_alloc _ _ _ SV.out.lt).trans SV.out.row))
     have HU1:Hid (Us w1 97 28 (.slice p1 ((t0.under.length)+1) c1) ((t0.under.length)+1) (flat dgl t0.under++dgl t2)):=hU1
     have HG1:Hid (V.grownBy w1 L11.u.ownBlock):=by rw[ea];exact qb (qh hG1 (fun g hg=>hlt0 g hg))
     have HF1:Hid (∀g,(Value.slice p1 ((t0.under.length)+1) c1).ownBlock=some g->L11.u.ownBlock=some g\/V.heap.size<=g):=fun g hg=>(hF1 g hg).imp (fun h=>by rw[ea];exact h) (fun h=>Nat.le_trans (by simp) h)
     refine hK.out _ _ (⟨xT hG1 (hH.1) (hnb),zcy hG1 (hH.2) (by rw[<-ea];exact hnq)⟩) (fun hN=>?_)
     clear hK K hH
     have hH:=hN
     clear hN
     try go_simp
     have cA:=hH.1
     clear hU1 hG1 hF1 HU hnb hlt0 kA
     refine tU 8 (.pointer (some ⟨b,0,none⟩)) rfl hH ?_;try go_simp
     refine tU 9 (.pointer (some ⟨b,334,none⟩)) rfl hH ?_;try go_simp
     refine zL 10 rfl (fun K hK=>?_)
     go_simp
     refine hK.out _ _ ?_
     clear hK K
     try go_simp
     refine zJ (by kernel_rfl) ?_ _
     obtain⟨S1,T1⟩:=St.appU SV.out (t2) HU1.out HG1.out HF1.out
     clear HU1 HG1 HF1 hH cA fA
     generalize w1.setCell ⟨b,334,none⟩ (.slice p1 ((t0.under.length)+1) c1)=W1 at*
     generalize Value.slice p1 ((t0.under.length)+1) c1=v1 at*
     have T12:=TV.out.trans T1.q
     clear T1 SV TV BV
     go_wp2
     go_ret
     have HE:=HR4.out
     refine⟨by rw[HE];rfl,_,by rw[HE];exact S1,Toq.to (To.refl b w L) HQ.out T12⟩
   ·have hb0:((k:Int) != 0)=true:=by simp[h0]
    have hn0:((s.free.length:Int)==0)=false:=key.resolve_left fun h=>hfr h0 (List.eq_nil_of_length_eq_zero h)
    clear key hfr
    obtain⟨fn,hfn⟩:∃fn,fn=s.free.length:=⟨_,rfl⟩
    rw[<-hfn]at k140 hn0
    clear hfn h0
    go_upto_region 10 with fail
    obtain⟨s7,t7⟩:=S6.out.setSlots HL6.out HF.out
    have S7:Hid (St N (V6.setCell ⟨b,333,none⟩ (.slice a1 sl.length c1)) b {s with slots:=sl} {L with s:=.slice a1 sl.length c1}):=s7
    have B7:Hid (Bx (V6.setCell ⟨b,333,none⟩ (.slice a1 sl.length c1)) q (⟨s.tak,s.fro,i,0,0,0,k,0,0,0,false,0,false,zcm⟩:Dg)):=B6.out.to t7 A2.out.o
    have T7:Hid (Toq b q w L (V6.setCell ⟨b,333,none⟩ (.slice a1 sl.length c1)) {L with s:=.slice a1 sl.length c1}):=T6.out.trans t7.q
    have A7:Hid (Apt b q {s with slots:=sl} {L with s:=.slice a1 sl.length c1}):=⟨A2.out.o,A2.out.m,A2.out.f,HA.out,A2.out.r,A2.out.g1,A2.out.g2⟩
    clear s7 t7 S6 B6 T6 HL6 HF k333 f333 k140
    generalize V6.setCell ⟨b,333,none⟩ (.slice a1 sl.length c1)=V7 at*
    generalize ({L with s:=.slice a1 sl.length c1}:Sls)=L7 at*
    have k41:V7.cell? ⟨b,41,none⟩=some (.int .i64 s.tak):=(zb S7.out.row (by omega)).trans rfl
    have f41:=S7.out.frozen 41
    have t0:=HK.out.tak0
    have t1:=HK.out.tak1
    go_upto_region 11 with fail
    obtain⟨s8,t8⟩:=S7.out.setTak (s.tak+1)
    have S8:Hid (St N (V7.setCell ⟨b,41,none⟩ (.int .i64 (s.tak+1))) b {s with slots:=sl,tak:=s.tak+1} L7):=s8
    have B8:Hid (Bx (V7.setCell ⟨b,41,none⟩ (.int .i64 (s.tak+1))) q (⟨s.tak,s.fro,i,0,0,0,k,0,0,0,false,0,false,zcm⟩:Dg)):=B7.out.to t8 A7.out.o
    have T8:Hid (Toq b q w L (V7.setCell ⟨b,41,none⟩ (.int .i64 (s.tak+1))) L7):=T7.out.trans t8.q
    have A8:Hid (Apt b q {s with slots:=sl,tak:=s.tak+1} L7):=⟨A7.out.o,A7.out.m,A7.out.f,A7.out.sl,A7.out.r,A7.out.g1,A7.out.g2⟩
    clear s8 t8 S7 B7 T7 A7 k41 f41 t0 t1 HA
    generalize V7.setCell ⟨b,41,none⟩ (.int .i64 (s.tak+1))=V8 at*
    have CA:Hid (Calls prog 79 #[.pointer (some ⟨b,0,none⟩),dgv (⟨s.tak,s.fro,i,0,0,0,k,0,0,0,false,0,false,zcm⟩:Dg)] V8 fun e w'=>e=.returned (.tuple #[])/\∃L',St N w' b (askO {s with slots:=sl,tak:=s.tak+1} (⟨s.tak,s.fro,i,0,0,0,k,0,0,0,false,0,false,zcm⟩:Dg)) L'/\To b V8 L7 w' L'/\L'.m=L7.m/\L'.f=L7.f/\L'.s=L7.s/\L'.r=L7.r):=zeF S8.out _ (by have:=HK.out.lenA;show s.asked.length<=_;omega)
    obtain⟨s9,hs9⟩:∃s9:Cr,s9=askO {s with slots:=sl,tak:=s.tak+1} (⟨s.tak,s.fro,i,0,0,0,k,0,0,0,false,0,false,zcm⟩:Dg):=⟨_,rfl⟩
    have HN9:Hid (Nms s9):=by rw[hs9];exact⟨HK.out.nms.low,HK.out.nms.high,HK.out.nms.dis⟩
    have HF9:Hid (s9.free=s.free/\s9.slots=sl/\s9.tb=s.tb/\s9.under=s.under/\s9.n=s.n/\s9.scr=s.scr):=by rw[hs9];exact⟨rfl,rfl,rfl,rfl,rfl,rfl⟩
    rw[<-hs9]at CA HR2
    clear hs9
    go_wp2_with(refine wpList_load_mid rfl 97 _ rfl q 0 rfl (dgl (⟨s.tak,s.fro,i,0,0,0,k,0,0,0,false,0,false,zcm⟩:Dg)) _ (jJ B8.out) underlying97 rfl (zN _) ?_)
    refine CA.out.mono ?_
    rintro e V9 ⟨rfl,L9,u1,u2,u3,u4,u5,u6⟩
    have S9:Hid (St N V9 b s9 L9):=u1
    have B9:Hid (Bx V9 q (⟨s.tak,s.fro,i,0,0,0,k,0,0,0,false,0,false,zcm⟩:Dg)):=B8.out.to u2 A8.out.o
    have T9:Hid (Toq b q w L V9 L9):=T8.out.trans u2.q
    have A9:Hid (Apt b q s9 L9):=A8.out.same (B8.out.not u2 A8.out.o) u3 u4 u5 u6 HF9.out.2.2.2.2.1 HF9.out.1 HF9.out.2.1 HF9.out.2.2.2.2.2
    clear u1 u2 u3 u4 u5 u6 S8 B8 T8 A8 CA
    go_wp2_with fail
    refine(zcA S9.out B9.out A9.out HN9.out HIn.out.1 HIn.out.2.1 HIn.out.2.2.1 (by rw[HF9.out.1];exact HFR.out)).mono ?_
    rintro e V10 ⟨rfl,L10,u1,u2,u3,u4⟩
    have S10:Hid (St N V10 b (namO s9 (⟨s.tak,s.fro,i,0,0,0,k,0,0,0,false,0,false,zcm⟩:Dg)).1 L10):=u1
    have B10:Hid (Bx V10 q (namO s9 (⟨s.tak,s.fro,i,0,0,0,k,0,0,0,false,0,false,zcm⟩:Dg)).2):=u2
    have A10:Hid (Apt b q (namO s9 (⟨s.tak,s.fro,i,0,0,0,k,0,0,0,false,0,false,zcm⟩:Dg)).1 L10):=u3
    have T10:Hid (Toq b q w L V10 L10):=T9.out.trans u4
    obtain⟨f1,f2,f3,f4,f5,f6⟩:=zpf s9 (⟨s.tak,s.fro,i,0,0,0,k,0,0,0,false,0,false,zcm⟩:Dg)
    have hto:=zkX (s:=s9) (o:=(⟨s.tak,s.fro,i,0,0,0,k,0,0,0,false,0,false,zcm⟩:Dg)) HN9.out (by rw[HF9.out.1];exact HFR.out) rfl
    obtain⟨m1,hm1⟩:∃m1,m1=(namO s9 (⟨s.tak,s.fro,i,0,0,0,k,0,0,0,false,0,false,zcm⟩:Dg)).1:=⟨_,rfl⟩
    obtain⟨m2,hm2⟩:∃m2,m2=(namO s9 (⟨s.tak,s.fro,i,0,0,0,k,0,0,0,false,0,false,zcm⟩:Dg)).2:=⟨_,rfl⟩
    have HR3:Hid (r=(let t:=if ca≠0 then kt m1 m2 ca else gueO mach m1 m2;({t.1 with under:=t.1.under++[t.2]},true))):=by show _=_;rw[HR2.out,hm1,hm2]
    rw[<-hm1]at S10 A10 f1 f2 f3
    rw[<-hm2]at B10 f4 f5 f6 hto
    have HM:Hid (m1.slots=sl/\m1.tb=s.tb/\m1.under=s.under/\m2.seq=s.tak/\m2.pc=s.fro/\m2.i=i/\0<=m2.to/\m2.to<96):=⟨f1.trans HF9.out.2.1,f2.trans HF9.out.2.2.1,f3.trans HF9.out.2.2.2.1,f4,f5,f6,hto.1,hto.2⟩
    clear u1 u2 u3 u4 S9 B9 A9 T9 HN9 HR2 hm1 hm2 f1 f2 f3 f4 f5 f6 hto HF9 HFR
    by_cases hc:ca=0
    ·have hc':(ca != 0)=false:=by simp[hc]
     obtain⟨t1,ht1⟩:∃t1,t1=gueO mach m1 m2:=⟨_,rfl⟩
     have HR4:Hid (r=({t1.1 with under:=t1.1.under++[t1.2]},true)):=by show _=_;rw[HR3.out,ht1];simp only[hc,ne_eq,not_true_eq_false,if_false]
     have CGu:Hid (∀W,W=V10->Calls prog 82 #[.pointer (some ⟨b,0,none⟩),.pointer (some ⟨q,0,none⟩)] W fun e w'=>e=.returned (.tuple #[])/\∃L',St N w' b t1.1 L'/\Bx w' q t1.2/\Apt b q t1.1 L'/\Toq b q V10 L10 w' L'):=fun W hW=>by
      subst hW
      rw[ht1]
      exact zaD S10.out B10.out A10.out (by rw[HM.out.2.1];exact HK.out.tb) (by rw[HM.out.2.2.2.2.1];exact HK.out.fro) (by rw[HM.out.2.2.2.2.2.1];exact HIn.out.2.2.2.1) (by rw[HM.out.2.2.2.2.2.1];exact HIn.out.2.2.2.2) HM.out.2.2.2.2.2.2.1 HM.out.2.2.2.2.2.2.2
     have HU:Hid (t1.1.under=s.under):=by show _=_;rw[ht1,zcH,HM.out.2.2.1]
     clear ht1 HR3
     go_wp2_with fail
     refine(CGu.out _ rfl).mono ?_
     rintro e V ⟨rfl,L11,u1,u2,u3,u4⟩
     have SV:Hid (St N V b t1.1 L11):=u1
     have BV:Hid (Bx V q t1.2):=u2
     have TV:Hid (Toq b q w L V L11):=T10.out.trans u4
     have HNO:Hid (¬own b L11 q):=u3.o
     clear u1 u2 u4 u3 S10 B10 A10 T10 CGu HM
     have hnq:L11.u.ownBlock≠some q:=fun h=>HNO.out (.inr (.inr (.inl h)))
     have hlen:t1.1.under.length<=1000:=by rw[HU.out];exact HK.out.lenU
     obtain⟨t2,ht2⟩:∃t2,t2=t1.2:=⟨_,rfl⟩
     obtain⟨t0,ht0⟩:∃t0,t0=t1.1:=⟨_,rfl⟩
     rw[<-ht2]at BV
     rw[<-ht0]at SV hlen
     rw[<-ht2,<-ht0]at HR4
     clear ht2 ht0 HU
     go_upto_region 16 with fail
     obtain⟨a5,c5,ea⟩:=SV.out.its.iu.slice
     have kA:V.cell? ⟨b,334,none⟩=some (.slice a5 (t0.under.length) c5):=(zb SV.out.row (by omega)).trans (congrArg some ea)
     have HU:Hid (Us V 97 28 (.slice a5 (t0.under.length) c5) (t0.under.length) (flat dgl t0.under)):=by have:=SV.out.its.iu;rw[ea]at this;exact this
     have hnb:(Value.slice a5 (t0.under.length) c5).ownBlock≠some b:=fun h=>(SV.out.apart.2.1 b (by rw[ea];exact h)).2.2 rfl
     have hlt0:∀g,(Value.slice a5 (t0.under.length) c5).ownBlock=some g->g<V.heap.size:=fun g h=>SV.out.its.lt (.inr (.inl (by rw[ea];exact h)))
     refine zx (S:=fun w'=>w'.cell? ⟨b,334,none⟩=some (.slice a5 (t0.under.length) c5)/\w'.rangeAt q 0 (dgl t2)) [10] (by kernel_rfl) (⟨kA,jJ BV.out⟩) (fun hH=>?_)
     refine tU 0 (.pointer (some ⟨b,0,none⟩)) rfl hH ?_;try go_simp
     refine tU 1 (.pointer (some ⟨b,0,none⟩)) rfl hH ?_;try go_simp
     refine tU 2 (.pointer (some ⟨b,0,none⟩)) rfl hH ?_;try go_simp
     refine tU 3 (.pointer (some ⟨b,334,none⟩)) rfl hH ?_;try go_simp
     refine tS 4 (.slice a5 (t0.under.length) c5) rfl (Or.inl ⟨by rfl,by intro wz hSw;have hc:=hSw.1;go_simp⟩) hH ?_;try go_simp
     refine tS 5 (.agg (dgl t2).toArray) rfl (yieldsIf_load_mid (by rfl) 97 _ rfl _ _ rfl (dgl t2) _ (fun wz hSw=>hSw.2) underlying97 rfl (zN _)) hH ?_;try go_simp
     refine zC 6 rfl (fun K hK=>?_)
     go_simp
     rw[kK]
     refine hK.out _ _ (⟨qS _ (hH.1),yv _ (hH.2)⟩) (fun hN=>?_)
     clear hK K hH
     have hH:=hN
     clear hN
     try go_simp
     refine zC 7 rfl (fun K hK=>?_)
     rw[if_pos (by rfl)]
     refine zW _ _ 58 rfl 97 iU _ 28 192 underlying58 hi hz0 hz1 hz2 rfl (by decide) _ (t0.under.length) _ rfl (HU.out.below ((Below.refl _ _).drew.alloc (Nat.le_refl _) _)) V.heap.size (dgl t2) rfl rfl (fun j u hj=>qz (w:=V.drew) j u hj) (xR _) (by omega) (by omega) ?_
     intro v1 w1 hU1 hG1 hF1
     obtain⟨p1,c1,rfl⟩:=hU1.slice
     have fA:w1.frozen? ⟨b,334,none⟩=false:=frozen_of_row _ _ _ _ _ ((hG1.block b (by have:=SV.out.lt;simp;omega) (fun h=>hnb h.symm)).trans ((Below.heap_alloc _ _ _ SV.out.lt).trans SV.out.row))
     have HU1:Hid (Us w1 97 28 (.slice p1 ((t0.under.length)+1) c1) ((t0.under.length)+1) (flat dgl t0.under++dgl t2)):=hU1
     have HG1:Hid (V.grownBy w1 L11.u.ownBlock):=by rw[ea];exact qb (qh hG1 (fun g hg=>hlt0 g hg))
     have HF1:Hid (∀g,(Value.slice p1 ((t0.under.length)+1) c1).ownBlock=some g->L11.u.ownBlock=some g\/V.heap.size<=g):=fun g hg=>(hF1 g hg).imp (fun h=>by rw[ea];exact h) (fun h=>Nat.le_trans (by simp) h)
     refine hK.out _ _ (⟨xT hG1 (hH.1) (hnb),zcy hG1 (hH.2) (by rw[<-ea];exact hnq)⟩) (fun hN=>?_)
     clear hK K hH
     have hH:=hN
     clear hN
     try go_simp
     have cA:=hH.1
     clear hU1 hG1 hF1 HU hnb hlt0 kA
     refine tU 8 (.pointer (some ⟨b,0,none⟩)) rfl hH ?_;try go_simp
     refine tU 9 (.pointer (some ⟨b,334,none⟩)) rfl hH ?_;try go_simp
     refine zL 10 rfl (fun K hK=>?_)
     go_simp
     refine hK.out _ _ ?_
     clear hK K
     try go_simp
     refine zJ (by kernel_rfl) ?_ _
     obtain⟨S1,T1⟩:=St.appU SV.out (t2) HU1.out HG1.out HF1.out
     clear HU1 HG1 HF1 hH cA fA
     generalize w1.setCell ⟨b,334,none⟩ (.slice p1 ((t0.under.length)+1) c1)=W1 at*
     generalize Value.slice p1 ((t0.under.length)+1) c1=v1 at*
     have T12:=TV.out.trans T1.q
     clear T1 SV TV BV
     go_wp2
     go_ret
     have HE:=HR4.out
     refine⟨by rw[HE];rfl,_,by rw[HE];exact S1,Toq.to (To.refl b w L) HQ.out T12⟩
    ·have hc':(ca != 0)=true:=by simp[hc]
     obtain⟨t1,ht1⟩:∃t1,t1=kt m1 m2 ca:=⟨_,rfl⟩
     have HR4:Hid (r=({t1.1 with under:=t1.1.under++[t1.2]},true)):=by show _=_;rw[HR3.out,ht1];simp only[hc,ne_eq,not_false_eq_true,if_true]
     have CGu:Hid (∀W,W=V10->Calls prog 81 #[.pointer (some ⟨b,0,none⟩),.pointer (some ⟨q,0,none⟩),.int .i64 ca] W fun e w'=>e=.returned (.tuple #[])/\∃L',St N w' b t1.1 L'/\Bx w' q t1.2/\Toq b q V10 L10 w' L'):=fun W hW=>by
      subst hW
      rw[ht1]
      exact zcz S10.out B10.out A10.out ca s.slots.length (by rw[HM.out.1,HM.out.2.2.2.1,HSL.out];exact zcD HK.out.low) (by rw[HM.out.1,HSL.out];have:=HK.out.lenS;simp;omega)
     have HU:Hid (t1.1.under=s.under):=by show _=_;rw[ht1];exact HM.out.2.2.1
     have HNB:Hid (¬own b L10 q):=A10.out.o
     clear ht1 HR3
     go_wp2_with fail
     refine(CGu.out _ rfl).mono ?_
     rintro e V ⟨rfl,L11,u1,u2,u4⟩
     have SV:Hid (St N V b t1.1 L11):=u1
     have BV:Hid (Bx V q t1.2):=u2
     have TV:Hid (Toq b q w L V L11):=T10.out.trans u4
     have HNO:Hid (¬own b L11 q):=fun h=>by
      rcases u4.fresh q h with h|h
      ·exact HNB.out h
      ·have:=B10.out.lt;omega
     clear u1 u2 u4 S10 B10 A10 T10 CGu HM
     have hnq:L11.u.ownBlock≠some q:=fun h=>HNO.out (.inr (.inr (.inl h)))
     have hlen:t1.1.under.length<=1000:=by rw[HU.out];exact HK.out.lenU
     obtain⟨t2,ht2⟩:∃t2,t2=t1.2:=⟨_,rfl⟩
     obtain⟨t0,ht0⟩:∃t0,t0=t1.1:=⟨_,rfl⟩
     rw[<-ht2]at BV
     rw[<-ht0]at SV hlen
     rw[<-ht2,<-ht0]at HR4
     clear ht2 ht0 HU
     go_upto_region 16 with fail
     obtain⟨a5,c5,ea⟩:=SV.out.its.iu.slice
     have kA:V.cell? ⟨b,334,none⟩=some (.slice a5 (t0.under.length) c5):=(zb SV.out.row (by omega)).trans (congrArg some ea)
     have HU:Hid (Us V 97 28 (.slice a5 (t0.under.length) c5) (t0.under.length) (flat dgl t0.under)):=by have:=SV.out.its.iu;rw[ea]at this;exact this
     have hnb:(Value.slice a5 (t0.under.length) c5).ownBlock≠some b:=fun h=>(SV.out.apart.2.1 b (by rw[ea];exact h)).2.2 rfl
     have hlt0:∀g,(Value.slice a5 (t0.under.length) c5).ownBlock=some g->g<V.heap.size:=fun g h=>SV.out.its.lt (.inr (.inl (by rw[ea];exact h)))
     refine zx (S:=fun w'=>w'.cell? ⟨b,334,none⟩=some (.slice a5 (t0.under.length) c5)/\w'.rangeAt q 0 (dgl t2)) [10] (by kernel_rfl) (⟨kA,jJ BV.out⟩) (fun hH=>?_)
     refine tU 0 (.pointer (some ⟨b,0,none⟩)) rfl hH ?_;try go_simp
     refine tU 1 (.pointer (some ⟨b,0,none⟩)) rfl hH ?_;try go_simp
     refine tU 2 (.pointer (some ⟨b,0,none⟩)) rfl hH ?_;try go_simp
     refine tU 3 (.pointer (some ⟨b,334,none⟩)) rfl hH ?_;try go_simp
     refine tS 4 (.slice a5 (t0.under.length) c5) rfl (Or.inl ⟨by rfl,by intro wz hSw;have hc:=hSw.1;go_simp⟩) hH ?_;try go_simp
     refine tS 5 (.agg (dgl t2).toArray) rfl (yieldsIf_load_mid (by rfl) 97 _ rfl _ _ rfl (dgl t2) _ (fun wz hSw=>hSw.2) underlying97 rfl (zN _)) hH ?_;try go_simp
     refine zC 6 rfl (fun K hK=>?_)
     go_simp
     rw[kK]
     refine hK.out _ _ (⟨qS _ (hH.1),yv _ (hH.2)⟩) (fun hN=>?_)
     clear hK K hH
     have hH:=hN
     clear hN
     try go_simp
     refine zC 7 rfl (fun K hK=>?_)
     rw[if_pos (by rfl)]
     refine zW _ _ 58 rfl 97 iU _ 28 192 underlying58 hi hz0 hz1 hz2 rfl (by decide) _ (t0.under.length) _ rfl (HU.out.below ((Below.refl _ _).drew.alloc (Nat.le_refl _) _)) V.heap.size (dgl t2) rfl rfl (fun j u hj=>qz (w:=V.drew) j u hj) (xR _) (by omega) (by omega) ?_
     intro v1 w1 hU1 hG1 hF1
     obtain⟨p1,c1,rfl⟩:=hU1.slice
     have fA:w1.frozen? ⟨b,334,none⟩=false:=frozen_of_row _ _ _ _ _ ((hG1.block b (by have:=SV.out.lt;simp;omega) (fun h=>hnb h.symm)).trans ((Below.heap_alloc _ _ _ SV.out.lt).trans SV.out.row))
     have HU1:Hid (Us w1 97 28 (.slice p1 ((t0.under.length)+1) c1) ((t0.under.length)+1) (flat dgl t0.under++dgl t2)):=hU1
     have HG1:Hid (V.grownBy w1 L11.u.ownBlock):=by rw[ea];exact qb (qh hG1 (fun g hg=>hlt0 g hg))
     have HF1:Hid (∀g,(Value.slice p1 ((t0.under.length)+1) c1).ownBlock=some g->L11.u.ownBlock=some g\/V.heap.size<=g):=fun g hg=>(hF1 g hg).imp (fun h=>by rw[ea];exact h) (fun h=>Nat.le_trans (by simp) h)
     refine hK.out _ _ (⟨xT hG1 (hH.1) (hnb),zcy hG1 (hH.2) (by rw[<-ea];exact hnq)⟩) (fun hN=>?_)
     clear hK K hH
     have hH:=hN
     clear hN
     try go_simp
     have cA:=hH.1
     clear hU1 hG1 hF1 HU hnb hlt0 kA
     refine tU 8 (.pointer (some ⟨b,0,none⟩)) rfl hH ?_;try go_simp
     refine tU 9 (.pointer (some ⟨b,334,none⟩)) rfl hH ?_;try go_simp
     refine zL 10 rfl (fun K hK=>?_)
     go_simp
     refine hK.out _ _ ?_
     clear hK K
     try go_simp
     refine zJ (by kernel_rfl) ?_ _
     obtain⟨S1,T1⟩:=St.appU SV.out (t2) HU1.out HG1.out HF1.out
     clear HU1 HG1 HF1 hH cA fA
     generalize w1.setCell ⟨b,334,none⟩ (.slice p1 ((t0.under.length)+1) c1)=W1 at*
     generalize Value.slice p1 ((t0.under.length)+1) c1=v1 at*
     have T12:=TV.out.trans T1.q
     clear T1 SV TV BV
     go_wp2
     go_ret
     have HE:=HR4.out
     refine⟨by rw[HE];rfl,_,by rw[HE];exact S1,Toq.to (To.refl b w L) HQ.out T12⟩
end Go.Proofs.YtpiohehijkpghabGreatDoor.Co
