/- Slices of a core of its own set anew; what takes back asks. -/
import Derived.Test.YtpiohehijkpghacGreatDoorG29
namespace Go.Proofs.YtpiohehijkpghacGreatDoor.Co
open Go.RowKit
open Hy
open Wi Od Re.Hy
open Gu.Hy (Tb tcs)
set_option linter.unusedVariables false
set_option linter.unusedSimpArgs false
theorem St.newU {N:Nat} {w:World} {b:Nat} {s:Cr} {L:Sls} (S:St N w b s L) {w1:World} {v1:Value} (l:List Dg) (hU:Us w1 132 28 v1 l.length (flat dgl l)) (hG:w.grownBy w1 L.u.ownBlock) (hF:∀g,v1.ownBlock=some g→L.u.ownBlock=some g∨w.heap.size≤g):
  St N (w1.setCell ⟨b,334,none⟩ v1) b {s with under:=l} {L with u:=v1}∧To b w L (w1.setCell ⟨b,334,none⟩ v1) {L with u:=v1}:=by
 obtain⟨dc,du,da⟩:=S.apart
 have hf:∀g,own b {L with u:=v1} g→own b L g∨w.heap.size≤g:=fun g hg=>by
  rcases hg with h|h|h|h
  ·exact .inl (.inl h)
  ·exact .inl (.inr (.inl h))
  ·exact(hF g h).imp (fun h=>.inr (.inr (.inl h))) id
  ·exact .inl (.inr (.inr (.inr h)))
 have T1:To b w L w1 {L with u:=v1}:=to_grown hG (fun g hg=>.inr (.inr (.inl hg))) hf
 have row:w1.heap[b]?=some (.cells (rowOf (kat s L) 339) 66 (0,0)):=(hG.block b S.lt (fun h=>(du b h.symm).2.2 rfl)).trans S.row
 have hc1:∀g,L.c.ownBlock=some g→w1.heap[g]?=w.heap[g]?:=fun g hg=>hG.block g (S.its.lt (.inl hg)) (fun h=>(dc g hg).1 h.symm)
 have ha1:∀g,L.a.ownBlock=some g→w1.heap[g]?=w.heap[g]?:=fun g hg=>hG.block g (S.its.lt (.inr (.inr hg))) (fun h=>(da g hg).2.1 h.symm)
 have I1:Its N w1 b {s with coms:=s.coms,under:=l,asked:=s.asked} {L with u:=v1}:=S.its.own T1 rfl rfl rfl rfl (S.its.ic.move hc1) hU (S.its.ia.move ha1)
 exact⟨St.cell row I1 334 v1 (fun j hj=>kat_u _ L v1 j hj),T1.put 334 v1⟩
theorem St.newA {N:Nat} {w:World} {b:Nat} {s:Cr} {L:Sls} (S:St N w b s L) {w1:World} {v1:Value} (l:List Ac) (hU:Us w1 135 7 v1 l.length (flat cel l)) (hG:w.grownBy w1 L.a.ownBlock) (hF:∀g,v1.ownBlock=some g→L.a.ownBlock=some g∨w.heap.size≤g):
  St N (w1.setCell ⟨b,335,none⟩ v1) b {s with asked:=l} {L with a:=v1}∧To b w L (w1.setCell ⟨b,335,none⟩ v1) {L with a:=v1}:=by
 obtain⟨dc,du,da⟩:=S.apart
 have hf:∀g,own b {L with a:=v1} g→own b L g∨w.heap.size≤g:=fun g hg=>by
  rcases hg with h|h|h|h
  ·exact .inl (.inl h)
  ·exact .inl (.inr (.inl h))
  ·exact .inl (.inr (.inr (.inl h)))
  ·exact(hF g h).imp (fun h=>.inr (.inr (.inr h))) id
 have T1:To b w L w1 {L with a:=v1}:=to_grown hG (fun g hg=>.inr (.inr (.inr hg))) hf
 have row:w1.heap[b]?=some (.cells (rowOf (kat s L) 339) 66 (0,0)):=(hG.block b S.lt (fun h=>(da b h.symm).2.2 rfl)).trans S.row
 have hc1:∀g,L.c.ownBlock=some g→w1.heap[g]?=w.heap[g]?:=fun g hg=>hG.block g (S.its.lt (.inl hg)) (fun h=>(dc g hg).2.1 h.symm)
 have hu1:∀g,L.u.ownBlock=some g→w1.heap[g]?=w.heap[g]?:=fun g hg=>hG.block g (S.its.lt (.inr (.inl hg))) (fun h=>(du g hg).2.1 h.symm)
 have I1:Its N w1 b {s with coms:=s.coms,under:=s.under,asked:=l} {L with a:=v1}:=S.its.own T1 rfl rfl rfl rfl (S.its.ic.move hc1) (S.its.iu.move hu1) hU
 exact⟨St.cell row I1 335 v1 (fun j hj=>kat_a _ L v1 j hj),T1.put 335 v1⟩
theorem far_not {b:Nat} {w w':World} {L L':Sls} {a:Option Addr} {n c size:Nat} {cs:List Value} (h:LC w a n c size cs) (T:To b w L w' L') (h0:0<n) (ho:∀x,a=some x→¬own b L x.block):∀x,a=some x→¬own b L' x.block:=fun x hx=>by
 obtain⟨g,o,e,hlt,_⟩:=h.ad x hx h0
 subst e
 exact not_own T.fresh (ho _ hx) hlt
theorem cell_to {b:Nat} {w w':World} {L L':Sls} {z:Nat} {v:Value} (h:w.cell? ⟨z,0,none⟩=some v) (T:To b w L w' L') (hz:¬own b L z):w'.cell? ⟨z,0,none⟩=some v:=
 (World.cell?_of_block (w:=w) (a:=⟨z,0,none⟩) (T.block z (World.block_lt_of_cell? _ _ h) hz)).trans h
theorem eg_backq:∀args w,(callFunc 164 args).run Tryz.prog w=.ok (.enter 164 args) w:=enters_of Tryz.func164 (by kernel_rfl) rfl
theorem eg_backr:∀args w,(callFunc 165 args).run Tryz.prog w=.ok (.enter 165 args) w:=enters_of Tryz.func165 (by kernel_rfl) rfl
theorem eg_settleq:∀args w,(callFunc 159 args).run Tryz.prog w=.ok (.enter 159 args) w:=enters_of Tryz.func159 (by kernel_rfl) rfl
theorem cbackq_any (B:Nat) (q:Int) (W:World) (o:Dg) (hc':W.cell? ⟨B,0,none⟩=some (.int .i64 q)):Calls Tryz.prog 164 #[dgv o,.pointer (some ⟨B,0,none⟩)] W fun e w'=>e=.returned (.bool (decide (q≤o.seq)))∧Below W.heap.size W w':=by
 have hB':B<W.heap.size:=World.block_lt_of_cell? _ _ hc'
 obtain⟨D,hD⟩:∃D,D=(dgl o).toArray:=⟨_,rfl⟩
 have d0:D[0]?=some (.int .i64 o.seq):=by rw[hD];rfl
 show Calls _ _ #[.agg (dgl o).toArray,_] _ _
 rw[←hD]
 generalize o.seq=x at*
 clear hD
 go_enter Tryz.func164,Tryz.ntmps164
 go_wp2
 go_ret
 exact⟨rfl,(Below.refl _ _).alloc (Nat.le_refl _) _⟩
theorem cbackr_any (B:Nat) (q:Int) (W:World) (o:Ac) (hc':W.cell? ⟨B,0,none⟩=some (.int .i64 q)):Calls Tryz.prog 165 #[acv o,.pointer (some ⟨B,0,none⟩)] W fun e w'=>e=.returned (.bool (decide (q≤o.seq)))∧Below W.heap.size W w':=by
 have hB':B<W.heap.size:=World.block_lt_of_cell? _ _ hc'
 go_enter Tryz.func165,Tryz.ntmps165
 go_wp2
 go_ret
 exact⟨rfl,(Below.refl _ _).alloc (Nat.le_refl _) _⟩
theorem csettleq_any (B:Nat) (q:Int) (W:World) (o:Ac) (hc':W.cell? ⟨B,0,none⟩=some (.int .i64 q)):Calls Tryz.prog 159 #[acv o,.pointer (some ⟨B,0,none⟩)] W fun e w'=>e=.returned (.bool (o.st&&decide (o.seq=q)))∧Below W.heap.size W w':=by
 have hB':B<W.heap.size:=World.block_lt_of_cell? _ _ hc'
 obtain⟨x,st,kn,pl,many,data,done⟩:=o
 cases st with
 |false=>
  go_enter Tryz.func159,Tryz.ntmps159
  go_wp2
  go_ret
  exact⟨rfl,(Below.refl _ _).alloc (Nat.le_refl _) _⟩
 |true=>
  by_cases e:x=q
  ·subst e
   go_enter Tryz.func159,Tryz.ntmps159
   go_wp2
   go_ret
   exact⟨by simp,(Below.refl _ _).alloc (Nat.le_refl _) _⟩
  ·have e':(x==q)=false:=beq_eq_false_iff_ne.2 e
   go_enter Tryz.func159,Tryz.ntmps159
   go_wp2
   go_ret
   exact⟨by simp[e],(Below.refl _ _).alloc (Nat.le_refl _) _⟩
structure BackOk (s:Cr) (m:Nat→Int):Prop where
 bk:Bk s m
 dis:Dis s.phys m (tos s.under++s.free)
 rd:∀o∈s.under,o.rd<32
 low:33≤s.phys
 high:s.phys≤96
 lenU:s.under.length≤1000
 lenA:s.asked.length≤10000000
 bck0:0≤s.bck
 bck1:s.bck≤10000000
def unS (s:Cr) (m:Nat→Int) (l t:List Dg):Cr:={s with regs:=mE m l,free:=tos t++s.free}
theorem unS_start {s:Cr} {m:Nat→Int} (h:BackOk s m):unS s m s.under []=s:=by
 unfold unS
 rw[h.bk.reg]
 rfl
theorem unS_nms {s:Cr} {m:Nat→Int} (h:BackOk s m) {l t:List Dg} (hu:s.under=l++t):Nms (unS s m l t):=
 ⟨h.low,h.high,Dis.mE (l1:=l) (l2:=t) (fr:=s.free) (m:=m) (by rw[←hu];exact h.dis) (fun q hq=>h.rd q (by rw[hu];exact List.mem_append_left _ hq))⟩
theorem unS_step {s:Cr} {m:Nat→Int} (h:BackOk s m) {l t:List Dg} {o:Dg} (hu:s.under=l++o::t):
  (o.rd=0→unS s m l (o::t)=unS s m (l++[o]) t)∧(o.rd≠0→o.rd<32∧0≤o.old∧o.old<s.phys∧o.old∉(unS s m (l++[o]) t).free∧(∀r,r<32→(unS s m (l++[o]) t).regs r≠o.old)∧unS s m l (o::t)={unS s m (l++[o]) t with regs:=up (unS s m (l++[o]) t).regs o.rd o.old,free:=(unS s m (l++[o]) t).regs o.rd::(unS s m (l++[o]) t).free}):=by
 have hrd:=h.rd o (by rw[hu];simp)
 have hd:=Dis.mE (l1:=l) (l2:=o::t) (fr:=s.free) (m:=m) (by rw[←hu];exact h.dis) (fun q hq=>h.rd q (by rw[hu];exact List.mem_append_left _ hq))
 have ho2:Olds (mE m l) (o::t):=(olds_app.1 (hu▸h.bk.olds)).2
 have ho:o.rd≠0→o.old=mE m l o.rd:=ho2.1
 have e:mE m (l++[o])=nm (mE m l) o:=by rw[mE_app];rfl
 refine⟨fun h0=>?_,fun h0=>?_⟩
 ·unfold unS
  rw[e,tos_cons,if_pos h0]
  unfold nm
  rw[if_pos h0]
 ·obtain⟨u1,u2,u3,u4,u5,u6,u7⟩:=undo_one hd hrd h0 (ho h0)
  refine⟨hrd,u2,u3,u4,?_,?_⟩
  ·unfold unS
   simp only[e]
   exact u5
  ·unfold unS
   simp only[e]
   rw[u6,u7,tos_cons,if_neg h0]
   rfl
theorem cutS_is {s:Cr} {m:Nat→Int} (h:BackOk s m) {l1 l2:List Dg} (hu:s.under=l1++l2) {q:Int} (h1:∀o∈l1,o.seq<q) (h2:∀o∈l2,q≤o.seq):cutS s.slots q=(l2.map (·.seq)).reverse∧stayS s.slots q=l1.map slot:=by
 have f1:=filter_split (p:=fun o=>decide (q≤o.seq)) (l1:=l1) (l2:=l2) (fun o ho=>by have:=h1 o ho;simp;omega) (fun o ho=>by have:=h2 o ho;simp;omega)
 rw[h.bk.slo,hu]
 unfold cutS stayS
 rw[List.filter_map,List.filter_map]
 refine⟨?_,congrArg _ f1.2⟩
 have:(l1++l2).filter ((fun q':Sl=>decide (q≤q'.1))∘slot)=l2:=f1.1
 rw[this,List.map_map]
 rfl
theorem rev_at {l2:List Dg} {k:Nat} (hk:k<l2.length):∃la o t,l2=la++o::t∧t.length=k∧(l2.map (·.seq)).reverse[k]?=some o.seq:=by
 refine⟨l2.take (l2.length-1-k),l2[l2.length-1-k],l2.drop (l2.length-1-k+1),?_,?_,?_⟩
 ·rw[←List.drop_eq_getElem_cons (by omega),List.take_append_drop]
 ·rw[List.length_drop];omega
 ·rw[List.getElem?_reverse (by rw[List.length_map];exact hk),List.length_map,List.getElem?_map,List.getElem?_eq_getElem (by omega)]
  rfl
theorem back_is {s:Cr} {m:Nat→Int} (h:BackOk s m) {l1 l2:List Dg} (hu:s.under=l1++l2) {q:Int} (pc:Int) (h1:∀o∈l1,o.seq<q) (h2:∀o∈l2,q≤o.seq):
  back s q pc={unS s m l1 l2 with slots:=l1.map slot,under:=s.under.filter (fun o=>!decide (q≤o.seq)),asked:=s.asked.filter (fun a=>!decide (q≤a.seq)),bck:=if l2=[]then s.bck else s.bck+1,fro:=pc,opn:=true}:=by
 rw[back_at h.bk hu q pc h1 h2]
 have f1:=filter_split (p:=fun o=>decide (q≤o.seq)) (l1:=l1) (l2:=l2) (fun o ho=>by have:=h1 o ho;simp;omega) (fun o ho=>by have:=h2 o ho;simp;omega)
 rw[hu,f1.2]
 rfl
end Go.Proofs.YtpiohehijkpghacGreatDoor.Co
