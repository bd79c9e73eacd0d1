/- One that is done now: the core is as it should be. Plain mathematics. -/
import Derived.Test.YtpiohehijkpghacGreatDoorD07
open Bool renaming and_eq_true->Al
open Int renaming le_refl->Av
open List renaming mem_cons_self->Aa,mem_cons_of_mem->Ab,mem_cons->Ad,mem_append_left->Ae,mem_append->Af,mem_append_right->Ag,getElem?_eq_some_iff->Ah,map_congr_left->Ai,map_append->Aj,cons_append->Ak,mem_of_getElem?->Am,getElem?_of_mem->An,foldl_append->Ao,map_cons->Ap,append_nil->Aq,filter_eq_self->Ar,filter_append->At,mem_map->Au,mem_filter->Aw
set_option linter.unusedSimpArgs false
set_option linter.unusedVariables false
namespace Go.Proofs.YtpiohehijkpghacGreatDoor.Gu.Hy
open Go.RowKit
structure Tb where
 L:Nat->Int
 G:Nat->Int
 P:Nat->Int
 A:Nat->Int
 S:Nat->Int
 U:Nat->Int
abbrev tcs(t:Tb):Array Value:=#[.int .i64 (t.L 0),.int .u32 (t.G 0),.int .i64 (t.L 1),.int .u32 (t.G 1),.int .i64 (t.L 2),.int .u32 (t.G 2),.int .i64 (t.L 3),.int .u32 (t.G 3),.int .i64 (t.L 4),.int .u32 (t.G 4),.int .i64 (t.L 5),.int .u32 (t.G 5),.int .i64 (t.L 6),.int .u32 (t.G 6),.int .i64 (t.L 7),.int .u32 (t.G 7),.int .i64 (t.L 8),.int .u32 (t.G 8),.int .i64 (t.L 9),.int .u32 (t.G 9),.int .i64 (t.L 10),.int .u32 (t.G 10),.int .i64 (t.L 11),.int .u32 (t.G 11),.int .i64 (t.L 12),.int .u32 (t.G 12),.int .i64 (t.L 13),.int .u32 (t.G 13),.int .i64 (t.L 14),.int .u32 (t.G 14),.int .i64 (t.L 15),.int .u32 (t.G 15),.int .u32 (t.P 0),.int .u32 (t.A 0),.int .u32 (t.S 0),.int .i64 (t.U 0),.int .u32 (t.P 1),.int .u32 (t.A 1),.int .u32 (t.S 1),.int .i64 (t.U 1),.int .u32 (t.P 2),.int .u32 (t.A 2),.int .u32 (t.S 2),.int .i64 (t.U 2),.int .u32 (t.P 3),.int .u32 (t.A 3),.int .u32 (t.S 3),.int .i64 (t.U 3),.int .u32 (t.P 4),.int .u32 (t.A 4),.int .u32 (t.S 4),.int .i64 (t.U 4),.int .u32 (t.P 5),.int .u32 (t.A 5),.int .u32 (t.S 5),.int .i64 (t.U 5),.int .u32 (t.P 6),.int .u32 (t.A 6),.int .u32 (t.S 6),.int .i64 (t.U 6),.int .u32 (t.P 7),.int .u32 (t.A 7),.int .u32 (t.S 7),.int .i64 (t.U 7)]
def bnd(n:Int):Int:=if n<0 then 0 else if 3<n then 3 else n
def up(f:Nat->Int)(k:Nat)(x:Int)(j:Nat):Int:=if j=k then x else f j
theorem zeZ(f:Nat->Int)(k:Nat)(x:Int):up f k x k=x:=if_pos rfl
theorem zm9(f:Nat->Int)(k:Nat)(x y:Int):up (up f k x) k y=up f k y:=by
 funext j
 unfold up
 split<;>rfl
theorem zna(f:Nat->Int)(k:Nat):up f k (f k)=f:=by
 funext j
 unfold up
 split
 ·rename_i h;rw[h]
 ·rfl
theorem zlb(t:Tb)(k:Nat)(h:k<16):(tcs t)[k*2]?=some (.int .i64 (t.L k)):=
 match k,h with
 |0,_=>rfl
 |1,_=>rfl
 |2,_=>rfl
 |3,_=>rfl
 |4,_=>rfl
 |5,_=>rfl
 |6,_=>rfl
 |7,_=>rfl
 |8,_=>rfl
 |9,_=>rfl
 |10,_=>rfl
 |11,_=>rfl
 |12,_=>rfl
 |13,_=>rfl
 |14,_=>rfl
 |15,_=>rfl
 |n+16,h=>absurd h (by omega)
theorem zni(t:Tb)(x:Int)(k:Nat)(h:k<16):(tcs t).setIfInBounds (k*2) (.int .i64 x)=tcs {t with L:=up t.L k x}:=
 match k,h with
 |0,_=>rfl
 |1,_=>rfl
 |2,_=>rfl
 |3,_=>rfl
 |4,_=>rfl
 |5,_=>rfl
 |6,_=>rfl
 |7,_=>rfl
 |8,_=>rfl
 |9,_=>rfl
 |10,_=>rfl
 |11,_=>rfl
 |12,_=>rfl
 |13,_=>rfl
 |14,_=>rfl
 |15,_=>rfl
 |n+16,h=>absurd h (by omega)
theorem znj(t:Tb)(k:Nat)(h:k<16):(tcs t)[k*2+1]?=some (.int .u32 (t.G k)):=
 match k,h with
 |0,_=>rfl
 |1,_=>rfl
 |2,_=>rfl
 |3,_=>rfl
 |4,_=>rfl
 |5,_=>rfl
 |6,_=>rfl
 |7,_=>rfl
 |8,_=>rfl
 |9,_=>rfl
 |10,_=>rfl
 |11,_=>rfl
 |12,_=>rfl
 |13,_=>rfl
 |14,_=>rfl
 |15,_=>rfl
 |n+16,h=>absurd h (by omega)
theorem zo3(t:Tb)(x:Int)(k:Nat)(h:k<16):(tcs t).setIfInBounds (k*2+1) (.int .u32 x)=tcs {t with G:=up t.G k x}:=
 match k,h with
 |0,_=>rfl
 |1,_=>rfl
 |2,_=>rfl
 |3,_=>rfl
 |4,_=>rfl
 |5,_=>rfl
 |6,_=>rfl
 |7,_=>rfl
 |8,_=>rfl
 |9,_=>rfl
 |10,_=>rfl
 |11,_=>rfl
 |12,_=>rfl
 |13,_=>rfl
 |14,_=>rfl
 |15,_=>rfl
 |n+16,h=>absurd h (by omega)
theorem znk(t:Tb)(k:Nat)(h:k<8):(tcs t)[32+k*4]?=some (.int .u32 (t.P k)):=
 match k,h with
 |0,_=>rfl
 |1,_=>rfl
 |2,_=>rfl
 |3,_=>rfl
 |4,_=>rfl
 |5,_=>rfl
 |6,_=>rfl
 |7,_=>rfl
 |n+8,h=>absurd h (by omega)
theorem znb(t:Tb)(x:Int)(k:Nat)(h:k<8):(tcs t).setIfInBounds (32+k*4) (.int .u32 x)=tcs {t with P:=up t.P k x}:=
 match k,h with
 |0,_=>rfl
 |1,_=>rfl
 |2,_=>rfl
 |3,_=>rfl
 |4,_=>rfl
 |5,_=>rfl
 |6,_=>rfl
 |7,_=>rfl
 |n+8,h=>absurd h (by omega)
theorem znl(t:Tb)(k:Nat)(h:k<8):(tcs t)[32+k*4+1]?=some (.int .u32 (t.A k)):=
 match k,h with
 |0,_=>rfl
 |1,_=>rfl
 |2,_=>rfl
 |3,_=>rfl
 |4,_=>rfl
 |5,_=>rfl
 |6,_=>rfl
 |7,_=>rfl
 |n+8,h=>absurd h (by omega)
theorem zo4(t:Tb)(x:Int)(k:Nat)(h:k<8):(tcs t).setIfInBounds (32+k*4+1) (.int .u32 x)=tcs {t with A:=up t.A k x}:=
 match k,h with
 |0,_=>rfl
 |1,_=>rfl
 |2,_=>rfl
 |3,_=>rfl
 |4,_=>rfl
 |5,_=>rfl
 |6,_=>rfl
 |7,_=>rfl
 |n+8,h=>absurd h (by omega)
theorem znm(t:Tb)(k:Nat)(h:k<8):(tcs t)[32+k*4+2]?=some (.int .u32 (t.S k)):=
 match k,h with
 |0,_=>rfl
 |1,_=>rfl
 |2,_=>rfl
 |3,_=>rfl
 |4,_=>rfl
 |5,_=>rfl
 |6,_=>rfl
 |7,_=>rfl
 |n+8,h=>absurd h (by omega)
theorem zo5(t:Tb)(x:Int)(k:Nat)(h:k<8):(tcs t).setIfInBounds (32+k*4+2) (.int .u32 x)=tcs {t with S:=up t.S k x}:=
 match k,h with
 |0,_=>rfl
 |1,_=>rfl
 |2,_=>rfl
 |3,_=>rfl
 |4,_=>rfl
 |5,_=>rfl
 |6,_=>rfl
 |7,_=>rfl
 |n+8,h=>absurd h (by omega)
theorem znn(t:Tb)(k:Nat)(h:k<8):(tcs t)[32+k*4+3]?=some (.int .i64 (t.U k)):=
 match k,h with
 |0,_=>rfl
 |1,_=>rfl
 |2,_=>rfl
 |3,_=>rfl
 |4,_=>rfl
 |5,_=>rfl
 |6,_=>rfl
 |7,_=>rfl
 |n+8,h=>absurd h (by omega)
theorem zo6(t:Tb)(x:Int)(k:Nat)(h:k<8):(tcs t).setIfInBounds (32+k*4+3) (.int .i64 x)=tcs {t with U:=up t.U k x}:=
 match k,h with
 |0,_=>rfl
 |1,_=>rfl
 |2,_=>rfl
 |3,_=>rfl
 |4,_=>rfl
 |5,_=>rfl
 |6,_=>rfl
 |7,_=>rfl
 |n+8,h=>absurd h (by omega)
end Go.Proofs.YtpiohehijkpghacGreatDoor.Gu.Hy
namespace Go.Proofs.YtpiohehijkpghacGreatDoor.Co
open Go.RowKit
open Hy
open Wi Od Re.Hy
open Gu.Hy (Tb)
structure Dg where
 seq:Int
 pc:Int
 i:In
 st:Int
 a:Int
 b:Int
 rd:Nat
 to:Int
 old:Int
 next:Int
 gs:Bool
 late:Int
 car:Bool
 c:Cm
structure Mc where
 dcd:Int->Option In
 dow:In->Int->Int->Int->Nat->Cm
 br:Tb->Int->Bool×Int
 va:Tb->Int->Int×Bool
 lb:Tb->Int->Bool->Int->Tb
 lv:Tb->Int->Int->Tb
structure Cr where
 win:Int
 phys:Int
 wide:Int
 n:Nat
 coms:List Cm
 R:Nat->Int
 pc:Int
 st:Int
 ca:Int
 f:Nat->Int
 cyc:Int
 tak:Int
 bck:Int
 tb:Tb
 regs:Nat->Int
 free:List Int
 wd:Int->Int
 th:Int->Bool
 slots:List Sl
 under:List Dg
 asked:List Ac
 scr:List Int
 fro:Int
 opn:Bool
def comC(M:Mc)(n:Nat)(f:Nat->Int)(i:In)(pc a b:Int):Cm:=if ldn i.op≠0 then qc n f i pc a else M.dow i pc a b n
def fet(M:Mc)(n:Nat)(f:Nat->Int)(pc:Int):In×Int:=
 if fits n pc 4 then(match M.dcd (le (fun k=>f (pc.toNat+k)) 4)with
  |some i=>(i,0)
  |none=>(zin,2))else(zin,1)
def km(M:Mc)(n:Nat)(R:Nat->Int)(pc:Int)(f:Nat->Int):Cm:=
 if(fet M n f pc).2≠0 then qj pc (fet M n f pc).2 else comC M n f (fet M n f pc).1 pc (R (ra (fet M n f pc).1)) (R (rb (fet M n f pc).1))
def stoC(f:Nat->Int)(c:Cm):Nat->Int:=sto f c.pl.toNat c.data c.many.toNat
def updC(R:Nat->Int)(c:Cm):Nat->Int:=if c.rd=0 then R else up R c.rd c.val
def seeV(l:List Ac)(seq x many:Int)(f:Nat->Int):Int:=le (sb l seq l.length x.toNat f) many.toNat
def seeU(l:List Ac)(seq:Int):Bool:=l.all fun q=>!unk seq q
def ownA(o:Dg):Ac:=⟨o.seq,false,true,o.pc,4,0,true⟩
def ldA(seq x many:Int):Ac:=⟨seq,false,true,x,many,0,true⟩
def stA(seq:Int)(c:Cm):Ac:=⟨seq,true,true,c.pl,c.many,c.data,false⟩
def st0(seq:Int):Ac:=⟨seq,true,false,0,0,0,false⟩
def upI(wd:Int->Int)(x v:Int):Int->Int:=fun y=>if y=x then v else wd y
def upB(th:Int->Bool)(x:Int)(v:Bool):Int->Bool:=fun y=>if y=x then v else th y
def chN(s:Cr):Int:=match s.scr with
 |[]=>0
 |x::_=>x%18446744073709551616
def chS(s:Cr):Cr:={s with scr:=s.scr.tail}
def rdI(M:Mc)(s:Cr):In×Int:=
 if fits s.n s.fro 4 then(match M.dcd (seeV s.asked s.tak s.fro 4 s.f)with
  |some i=>(i,0)
  |none=>(zin,2))else(zin,1)
def askO(s:Cr)(o:Dg):Cr:={s with asked:=s.asked++(ownA o::if sts o.i then[st0 o.seq]else[])}
def namO(s:Cr)(o:Dg):Cr×Dg:=
 if o.rd=0 then(s,{o with a:=s.regs (ra o.i),b:=s.regs (rb o.i)})
 else({s with regs:=up s.regs o.rd (s.free.headD 0),free:=s.free.tail,th:=upB s.th (s.free.headD 0) false},{o with a:=s.regs (ra o.i),b:=s.regs (rb o.i),to:=s.free.headD 0,old:=s.regs o.rd})
def donS(l:List Sl)(seq:Int):List Sl:=l.map fun q=>if q.1=seq then(q.1,true)else q
def yo(s:Cr)(o:Dg)(k:Int):Cr×Dg:=({s with slots:=donS s.slots o.seq,opn:=false},{o with st:=2,c:=qj o.pc k})
def wayO(M:Mc)(s:Cr)(o:Dg):Cr×Int:=
 if o.i.op=3 then(s,(o.pc+o.i.im)%4294967296)
 else if trn o.i then
  (chS s,if((M.br s.tb o.pc).1^^decide (chN s%2=1))then(if o.i.op=4 then(M.br s.tb o.pc).2 else(o.pc+o.i.im)%4294967296)else(o.pc+4)%4294967296)
 else(s,(o.pc+4)%4294967296)
def valO(M:Mc)(s:Cr)(pc k:Int):Int×Bool:=if k%3=1 then(0,false)else if k%3=2 then(k%4294967296,true)else M.va s.tb pc
def gueL(M:Mc)(s:Cr)(o:Dg):Cr×Dg:=
 let o:={o with late:=chN s%10,car:=decide (chN s/10%2=1)}
 let v:=valO M s o.pc (chN s/10/2)
 if v.2=true/\o.rd≠0 then({chS s with wd:=upI s.wd o.to v.1,th:=upB s.th o.to true},{o with gs:=true})else(chS s,o)
def gueO(M:Mc)(s:Cr)(o:Dg):Cr×Dg:=
 let r:=wayO M s o
 let s1:={r.1 with fro:=r.2}
 let o1:={o with next:=r.2}
 if ldn o.i.op=0 then(s1,o1)else gueL M s1 o1
def newO(M:Mc)(s:Cr):Dg:=⟨s.tak,s.fro,(rdI M s).1,0,0,0,gvs (rdI M s).1,0,0,0,false,0,false,zcm⟩
def tak1(M:Mc)(s:Cr):Cr×Bool:=
 if s.win<=s.slots.length then(s,false)
 else if gvs (rdI M s).1≠0/\s.free=[]then(s,false)
 else
  let r:=namO (askO {s with slots:=s.slots++[(s.tak,false)],tak:=s.tak+1} (newO M s)) (newO M s)
  let t:=if(rdI M s).2≠0 then yo r.1 r.2 (rdI M s).2 else gueO M r.1 r.2
  ({t.1 with under:=t.1.under++[t.2]},true)
def takN(M:Mc):Nat->Cr->Cr
 |0,s=>s
 |k+1,s=>if s.opn=true then(if(tak1 M s).2=true then takN M k (tak1 M s).1 else(tak1 M s).1)else s
def undo(regs:Nat->Int)(free:List Int):List Dg->(Nat->Int)×List Int
 |[]=>(regs,free)
 |o::l=>let r:=undo regs free l;if o.rd=0 then r else(up r.1 o.rd o.old,r.1 o.rd::r.2)
def back(s:Cr)(seq pc:Int):Cr:=
 let r:=undo s.regs s.free (s.under.filter fun o=>decide (seq<=o.seq))
 {s with regs:=r.1,free:=r.2,slots:=vd s.slots seq,under:=s.under.filter (fun o=>!decide (seq<=o.seq)),asked:=s.asked.filter (fun q=>!decide (seq<=q.seq)),bck:=if cutS s.slots seq=[]then s.bck else s.bck+1,fro:=pc,opn:=true}
def pcOf(l:List Dg)(seq:Int):Int:=match l.find? (fun o=>decide (o.seq=seq))with
 |some o=>o.pc
 |none=>0
def setA(l:List Ac)(seq:Int)(e:Ac):List Ac:=l.map fun q=>if q.st=true/\q.seq=seq then e else q
def settle(s:Cr)(seq:Int)(c:Cm):Cr:=
 let s1:={s with asked:=setA s.asked seq (stA seq c)}
 match lst s1.asked (stA seq c) s1.asked.length with
  |none=>s1
  |some e=>back s1 e (pcOf s.under e)
def jI(s:Cr)(o:Dg)(c:Cm):Bool:=c.rd=0||!o.gs||decide (s.wd o.to=c.val)
def qX(s:Cr)(o:Dg)(c:Cm):Cr:=if c.rd=0 then s else{s with wd:=upI s.wd o.to c.val,th:=upB s.th o.to true}
def putO(l:List Dg)(seq:Int)(g:Dg->Dg):List Dg:=l.map fun o=>if o.seq=seq then g o else o
def fin1(s:Cr)(o:Dg)(c:Cm):Cr:=
 let s1:={s with under:=putO s.under o.seq (fun o=>{o with st:=2,c:=c}),slots:=donS s.slots o.seq}
 if sts o.i then settle s1 o.seq c else s1
def finish(s:Cr)(o:Dg)(c:Cm):Cr:=
 if jI (fin1 s o c) o c=true/\c.next=o.next then qX (fin1 s o c) o c
 else{back (qX (fin1 s o c) o c) (o.seq+1) c.next with opn:=decide (c.st=0)}
def lod1(s:Cr)(o:Dg):Cr:=
 let x:=place o.i (s.wd o.a)
 let m:=ldn o.i.op
 if fits s.n x m then
  if !(seeU s.asked o.seq)&&o.car then s
  else finish {s with asked:=s.asked++[ldA o.seq x m]} o (onC o.pc o.i.rd (ldv o.i.op (sb s.asked o.seq s.asked.length x.toNat s.f)))
 else finish s o (qj o.pc 3)
def lodS(s:Cr)(q:Int):Cr:=match s.under.find? (fun o=>decide (o.seq=q))with
 |none=>s
 |some o=>if 0<o.late then{s with under:=putO s.under q (fun o=>{o with late:=o.late-1})}else lod1 s o
def load(s:Cr):Cr:=((s.under.filter fun o=>decide (o.st=1)).map (·.seq)).foldl lodS s
def sta1(M:Mc)(s:Cr)(o:Dg):Cr:=
 if ldn o.i.op≠0 then{s with under:=putO s.under o.seq (fun o=>{o with st:=1})}
 else finish s o (M.dow o.i o.pc (s.wd o.a) (s.wd o.b) s.n)
def staS(M:Mc)(s:Cr)(q:Int):Cr:=match s.under.find? (fun o=>decide (o.seq=q))with
 |none=>s
 |some o=>sta1 M s o
def ready(s:Cr):List Int:=(s.under.filter fun o=>decide (o.st=0)&&s.th o.a&&s.th o.b).map (·.seq)
def turn(s:Cr)(l:List Int):List Int:=match l with
 |[]=>[]
 |x::r=>if 1<l.length/\chN s%2=1 then x::r.reverse else x::r
def start(M:Mc)(s:Cr):Cr:=
 let l:=ready s
 let s1:=if 1<l.length then chS s else s
 ((turn s l).take s.wide.toNat).foldl (staS M) s1
def learn(M:Mc)(t:Tb)(o:Dg):Tb:=
 let t1:=if trn o.i then M.lb t o.pc (decide (o.i.op=4)||!decide (o.c.next=(o.pc+4)%4294967296)) o.c.next else t
 if ldn o.i.op≠0/\o.c.rd≠0 then M.lv t1 o.pc o.c.val else t1
def com1(M:Mc)(s:Cr)(o:Dg):Cr:=
 {s with coms:=s.coms++[o.c],R:=updC s.R o.c,pc:=o.c.next,st:=o.c.st,ca:=o.c.ca,f:=stoC s.f o.c,free:=if o.rd=0 then s.free else s.free++[o.old],tb:=learn M s.tb o}
def left(s:Cr):Int:=2000-s.coms.length-(6000-s.cyc)/30
def qT:List Sl->Nat->Nat
 |[],_=>0
 |_,0=>0
 |q::l,k+1=>if q.2 then qT l k+1 else 0
def commit(M:Mc)(s:Cr):Cr:=
 let m:=qT s.slots (min s.wide (left s)).toNat
 let s1:=(s.under.take m).foldl (com1 M) s
 {s1 with slots:=s.slots.drop m,under:=s.under.drop m,asked:=s.asked.filter fun q=>!decide (q.seq∈(s.slots.take m).map (·.1))}
def cycle(M:Mc)(s:Cr):Cr:=
 let s1:=commit M {s with cyc:=s.cyc+1}
 if s1.st=0 then takN M s.wide.toNat (start M (load s1))else s1
def runN(M:Mc):Nat->Cr->Cr
 |0,s=>s
 |k+1,s=>if s.st=0 then runN M k (cycle M s)else s
def begin(win phys wide:Int)(n:Nat)(R:Nat->Int)(pc st ca:Int)(f:Nat->Int)(scr:List Int):Cr:=
 ⟨win,phys,wide,n,[],R,pc,st,ca,f,0,0,0,⟨fun _=>0,fun _=>0,fun _=>0,fun _=>0,fun _=>0,fun _=>0⟩,fun i=>i,(List.range (phys.toNat-32)).map (fun i:Nat=>32+(i:Int)),fun x=>if x<32 then R x.toNat else 0,fun x=>decide (x<32),[],[],[],scr,pc,true⟩
def nm(m:Nat->Int)(o:Dg):Nat->Int:=if o.rd=0 then m else up m o.rd o.to
def nf(f:Nat->Int)(o:Dg):Nat->Int:=if o.st=2 then stoC f o.c else f
def mE(m:Nat->Int)(l:List Dg):Nat->Int:=l.foldl nm m
def fE(f:Nat->Int)(l:List Dg):Nat->Int:=l.foldl nf f
def nx(o:Dg):Int:=if o.st=2 then o.c.next else o.next
def pE(pc:Int)(l:List Dg):Int:=l.foldl (fun _ o=>nx o) pc
def stp(o:Dg):Prop:=o.st=2/\o.c.st≠0
structure Loc(M:Mc)(n:Nat)(wd:Int->Int)(th:Int->Bool)(pc:Int)(m:Nat->Int)(f:Nat->Int)(o:Dg):Prop where
 hpc:o.pc=pc
 ins:o.i=(fet M n f pc).1
 rd:o.rd=gvs o.i
 a:o.a=m (ra o.i)
 b:o.b=m (rb o.i)
 old:o.rd≠0->o.old=m o.rd
 bad:(fet M n f pc).2≠0->o.st=2/\o.c=qj pc (fet M n f pc).2
 thr:o.st≠0->(fet M n f pc).2=0->th o.a=true/\th o.b=true
 com:o.st=2->(fet M n f pc).2=0->o.c=comC M n f o.i pc (wd o.a) (wd o.b)
 fil:o.st=2->o.c.st=0->o.rd≠0->th o.to=true/\wd o.to=o.c.val
 gsd:o.st≠2->o.rd≠0->th o.to=o.gs
 sta:o.st=0\/(o.st=1/\ldn o.i.op≠0)\/o.st=2
 way:o.st≠2->o.i.op≠3->trn o.i=false->o.next=(o.pc+4)%4294967296
def Ch(M:Mc)(n:Nat)(wd:Int->Int)(th:Int->Bool):Int->(Nat->Int)->(Nat->Int)->List Dg->Prop
 |_,_,_,[]=>True
 |pc,m,f,o::l=>Loc M n wd th pc m f o/\(stp o->l=[])/\Ch M n wd th (nx o) (nm m o) (nf f o) l
theorem zgJ{M:Mc}{n:Nat}{wd:Int->Int}{th:Int->Bool}{pc:Int}{m f:Nat->Int}{o:Dg}{l:List Dg}:Ch M n wd th pc m f (o::l)↔Loc M n wd th pc m f o/\(stp o->l=[])/\Ch M n wd th (nx o) (nm m o) (nf f o) l:=Iff.rfl
theorem jJ{M:Mc}{n:Nat}{wd:Int->Int}{th:Int->Bool}:∀{l1 l2:List Dg} {pc:Int} {m f:Nat->Int},Ch M n wd th pc m f (l1++l2)↔Ch M n wd th pc m f l1/\(l2≠[]->∀o∈l1,¬stp o)/\Ch M n wd th (pE pc l1) (mE m l1) (fE f l1) l2
 |[],l2,pc,m,f=>by simp[Ch,pE,mE,fE]
 |o::l1,l2,pc,m,f=>by
  have ih:=jJ (M:=M) (n:=n) (wd:=wd) (th:=th) (l1:=l1) (l2:=l2) (pc:=nx o) (m:=nm m o) (f:=nf f o)
  have e1:pE pc (o::l1)=pE (nx o) l1:=rfl
  have e2:mE m (o::l1)=mE (nm m o) l1:=rfl
  have e3:fE f (o::l1)=fE (nf f o) l1:=rfl
  rw[e1,e2,e3,Ak,zgJ,zgJ,ih]
  constructor
  ·rintro⟨h1,h2,h3,h4,h5⟩
   refine⟨⟨h1,fun hs=>(List.append_eq_nil_iff.1 (h2 hs)).1,h3⟩,fun hne q hq=>?_,h5⟩
   rcases Ad.1 hq with rfl|hq
   ·exact fun hs=>hne (List.append_eq_nil_iff.1 (h2 hs)).2
   ·exact h4 hne q hq
  ·rintro⟨⟨h1,h2,h3⟩,h4,h5⟩
   refine⟨h1,fun hs=>?_,h3,fun hne q hq=>h4 hne q (Ab _ hq),h5⟩
   by_cases hne:l2=[]
   ·rw[hne,h2 hs];rfl
   ·exact absurd hs (h4 hne o (Aa ..))
def tos:List Dg->List Int
 |[]=>[]
 |o::l=>if o.rd=0 then tos l else o.to::tos l
theorem zQ(o:Dg)(l:List Dg):tos (o::l)=if o.rd=0 then tos l else o.to::tos l:=rfl
theorem qf:∀l1 l2,tos (l1++l2)=tos l1++tos l2
 |[],l2=>rfl
 |o::l1,l2=>by
  have:=qf l1 l2
  rw[Ak,zQ,zQ]
  split
  ·exact this
  ·rw[this];rfl
theorem vn:∀{l:List Dg} {o:Dg},o∈l->o.rd≠0->o.to∈tos l
 |[],o,h,h0=>by cases h
 |o'::l,o,h,h0=>by
  rw[zQ]
  rcases Ad.1 h with rfl|h
  ·rw[if_neg h0];exact Aa ..
  ·have:=vn h h0
   split
   ·exact this
   ·exact Ab _ this
structure Dis(P:Int)(m:Nat->Int)(l:List Int):Prop where
 inj:∀r r',r<32->r'<32->m r=m r'->r=r'
 nod:l.Nodup
 apart:∀r,r<32->m r∉l
 rm:∀r,r<32->0<=m r/\m r<P
 rf:∀x∈l,0<=x/\x<P
theorem Dis.up{P:Int}{m:Nat->Int}{x:Int}{l:List Int}(h:Dis P m (x::l)){k:Nat}(hk:k<32):Dis P (up m k x) l:=by
 have hn:=List.nodup_cons.1 h.nod
 have hx:∀r,r<32->m r≠x:=fun r hr e=>h.apart r hr (by rw[e];exact Aa ..)
 refine⟨fun r r' hr hr' e=>?_,hn.2,fun r hr=>?_,fun r hr=>?_,fun y hy=>h.rf y (Ab _ hy)⟩
 ·unfold Re.Hy.up at e
  split at e
  ·split at e
   ·omega
   ·exact absurd e.symm (hx r' hr')
  ·split at e
   ·exact absurd e (hx r hr)
   ·exact h.inj r r' hr hr' e
 ·unfold Re.Hy.up
  split
  ·exact hn.1
  ·exact fun hm=>h.apart r hr (Ab _ hm)
 ·unfold Re.Hy.up
  split
  ·exact h.rf x (Aa ..)
  ·exact h.rm r hr
theorem Dis.nm{P:Int}{m:Nat->Int}{o:Dg}{l:List Dg}{fr:List Int}(h:Dis P m (tos (o::l)++fr))(hk:o.rd<32):Dis P (nm m o) (tos l++fr):=by
 unfold Go.Proofs.YtpiohehijkpghacGreatDoor.Co.nm
 rw[zQ]at h
 split
 ·rename_i h0;rw[if_pos h0]at h;exact h
 ·rename_i h0;rw[if_neg h0]at h;exact Dis.up h hk
theorem Dis.mE{P:Int}{fr:List Int}:∀{l1 l2:List Dg} {m:Nat->Int},Dis P m (tos (l1++l2)++fr)->(∀o∈l1,o.rd<32)->Dis P (mE m l1) (tos l2++fr)
 |[],l2,m,h,_=>h
 |o::l1,l2,m,h,hr=>Dis.mE (l1:=l1) (m:=Go.Proofs.YtpiohehijkpghacGreatDoor.Co.nm m o) (Dis.nm h (hr o (Aa ..))) (fun q hq=>hr q (Ab _ hq))
theorem zaU:∀(l:List Dg) (m:Nat->Int) (r:Nat),(∃r',(r'=r)/\mE m l r=m r')\/mE m l r∈tos l
 |[],m,r=>.inl ⟨r,rfl,rfl⟩
 |o::l,m,r=>by
  have e2:mE m (o::l)=mE (nm m o) l:=rfl
  rw[e2,zQ]
  rcases zaU l (nm m o) r with⟨r',rfl,h⟩|h
  ·rw[h]
   unfold nm
   split
   ·exact .inl ⟨r',rfl,rfl⟩
   ·by_cases e:r'=o.rd
    ·subst e;rw[zeZ];exact .inr (Aa ..)
    ·rw[ziS e];exact .inl ⟨r',rfl,rfl⟩
  ·right
   split
   ·exact h
   ·exact Ab _ h
theorem yv{M:Mc}{n:Nat}{wd wd':Int->Int}{th th':Int->Bool}:∀{l:List Dg} {pc:Int} {m f:Nat->Int},Ch M n wd th pc m f l->
  (∀o∈l,(o.st≠0->th o.a=true->th o.b=true->(th' o.a=true/\th' o.b=true/\wd' o.a=wd o.a/\wd' o.b=wd o.b))/\(o.rd≠0->th' o.to=th o.to/\wd' o.to=wd o.to))->Ch M n wd' th' pc m f l
 |[],pc,m,f,_,_=>trivial
 |o::l,pc,m,f,h,hw=>by
  obtain⟨h1,h2,h3⟩:=h
  obtain⟨ha,ht⟩:=hw o (Aa ..)
  refine⟨⟨h1.hpc,h1.ins,h1.rd,h1.a,h1.b,h1.old,h1.bad,fun hs hf=>?_,fun hs hf=>?_,fun hs hc h0=>?_,fun hs h0=>?_,h1.sta,h1.way⟩,h2,yv h3 (fun q hq=>hw q (Ab _ hq))⟩
  ·obtain⟨x,y⟩:=h1.thr hs hf
   exact⟨(ha hs x y).1,(ha hs x y).2.1⟩
  ·obtain⟨x,y⟩:=h1.thr (by omega) hf
   obtain⟨_,_,e1,e2⟩:=ha (by omega) x y
   rw[e1,e2];exact h1.com hs hf
  ·rw[(ht h0).1,(ht h0).2];exact h1.fil hs hc h0
  ·rw[(ht h0).1];exact h1.gsd hs h0
structure MOk(M:Mc):Prop where
 fld:∀{x i},M.dcd x=some i->i.rd<32/\i.s1<32/\i.s2<32/\1<=i.op/\i.op<=48
 stops:∀{x i} pc a b n,M.dcd x=some i->ldn i.op=0->(M.dow i pc a b n).st≠0->(M.dow i pc a b n).next=pc/\(M.dow i pc a b n).rd=0/\i.op≠3/\trn i=false/\(M.dow i pc a b n).many=0
 gives:∀{x i} pc a b n,M.dcd x=some i->ldn i.op=0->(M.dow i pc a b n).st=0->(M.dow i pc a b n).rd=gvs i
 many:∀{x i} pc a b n,M.dcd x=some i->ldn i.op=0->(M.dow i pc a b n).many=0\/(sts i=true/\((M.dow i pc a b n).many=1\/(M.dow i pc a b n).many=2\/(M.dow i pc a b n).many=4)/\0<=(M.dow i pc a b n).pl/\(M.dow i pc a b n).pl+(M.dow i pc a b n).many<=n)
theorem zbQ(M:Mc)(n:Nat)(f:Nat->Int)(pc:Int):(fet M n f pc=(zin,1)/\fits n pc 4=false)\/(fits n pc 4=true/\M.dcd (le (fun k=>f (pc.toNat+k)) 4)=none/\fet M n f pc=(zin,2))\/(fits n pc 4=true/\∃i,M.dcd (le (fun k=>f (pc.toNat+k)) 4)=some i/\fet M n f pc=(i,0)):=by
 unfold fet
 cases h:fits n pc 4 with
 |false=>left;simp
 |true=>
  right
  cases hd:M.dcd (le (fun k=>f (pc.toNat+k)) 4)with
  |none=>left;simp
  |some i=>right;exact⟨rfl,i,rfl,by simp⟩
theorem vo{M:Mc}{n:Nat}{f:Nat->Int}{pc:Int}(h:(fet M n f pc).2=0):∃x,M.dcd x=some (fet M n f pc).1:=by
 rcases zbQ M n f pc with⟨e,_⟩|⟨_,_,e⟩|⟨_,i,hd,e⟩
 ·rw[e]at h;exact absurd h (by decide)
 ·rw[e]at h;exact absurd h (by decide)
 ·rw[e];exact⟨_,hd⟩
theorem zaV{M:Mc}{n:Nat}{f:Nat->Int}{pc:Int}(h:(fet M n f pc).2≠0):(fet M n f pc).1=zin:=by
 rcases zbQ M n f pc with⟨e,_⟩|⟨_,_,e⟩|⟨_,i,hd,e⟩
 ·rw[e]
 ·rw[e]
 ·rw[e]at h;exact absurd rfl h
theorem zaW{g h:Nat->Int}{m:Nat}(hm:m<=4)(e:∀k,k<m->g k=h k):le g m=le h m:=by
 rcases(by omega:m=0\/m=1\/m=2\/m=3\/m=4)with rfl|rfl|rfl|rfl|rfl
 ·rfl
 ·show g 0=h 0;rw[e 0 (by omega)]
 ·show g 0+g 1*256=h 0+h 1*256;rw[e 0 (by omega),e 1 (by omega)]
 ·show g 0+g 1*256+g 2*65536=h 0+h 1*256+h 2*65536;rw[e 0 (by omega),e 1 (by omega),e 2 (by omega)]
 ·show g 0+g 1*256+g 2*65536+g 3*16777216=h 0+h 1*256+h 2*65536+h 3*16777216;rw[e 0 (by omega),e 1 (by omega),e 2 (by omega),e 3 (by omega)]
theorem zgK{M:Mc}{n:Nat}{f f':Nat->Int}{pc:Int}(h:fits n pc 4=true->∀k,k<4->f' (pc.toNat+k)=f (pc.toNat+k)):fet M n f' pc=fet M n f pc:=by
 unfold fet
 cases hf:fits n pc 4 with
 |false=>rfl
 |true=>rw[zaW (Nat.le_refl 4) (h hf)]
theorem yk(op:Int):0<=ldn op/\ldn op<=4:=by rcases jZ op with h|h|h|h<;>omega
theorem zbR{op:Int}{g h:Nat->Int}(h0:ldn op≠0)(e:∀k:Nat,(k:Int)<ldn op->g k=h k):ldv op g=ldv op h:=by
 unfold ldv
 have h4:=yk op
 split
 ·rename_i ho;rw[e 0 (by rw[ho];decide)]
 ·split
  ·rename_i ho
   have:ldn op=2:=by rw[ho];decide
   rw[zaW (m:=2) (by omega) (fun k hk=>e k (by omega))]
  ·exact zaW (by omega) (fun k hk=>e k (by omega))
theorem ze6{M:Mc}{n:Nat}{f f':Nat->Int}{i:In}{pc a b:Int}(h:ldn i.op≠0->fits n (place i a) (ldn i.op)=true->∀k:Nat,(k:Int)<ldn i.op->f' ((place i a).toNat+k)=f ((place i a).toNat+k)):comC M n f' i pc a b=comC M n f i pc a b:=by
 unfold comC
 split
 ·rename_i h0
  unfold qc
  split
  ·rename_i hf;rw[zbR h0 (h h0 hf)]
  ·rfl
 ·rfl
theorem zgL{f:Nat->Int}{a j i:Nat}{W:Int}(h:a<=i/\i<a+j):sto f a W j i=W/p256 (i-a)%256:=if_pos h
theorem vq{f:Nat->Int}{a j i:Nat}{W:Int}(h:¬(a<=i/\i<a+j)):sto f a W j i=f i:=if_neg h
theorem zkg{M:Mc}{n:Nat}{wd:Int->Int}{th:Int->Bool}{Q:Nat->Prop}:∀{l:List Dg} {pc:Int} {m f f':Nat->Int},Ch M n wd th pc m f l->(∀x,¬Q x->f' x=f x)->
  (∀o∈l,(fits n o.pc 4=true->∀k,k<4->¬Q (o.pc.toNat+k))/\(o.st=2->ldn o.i.op≠0->fits n (place o.i (wd o.a)) (ldn o.i.op)=true->∀k:Nat,(k:Int)<ldn o.i.op->¬Q ((place o.i (wd o.a)).toNat+k)))->Ch M n wd th pc m f' l
 |[],pc,m,f,f',_,_,_=>trivial
 |o::l,pc,m,f,f',h,hf,hq=>by
  obtain⟨h1,h2,h3⟩:=h
  obtain⟨q1,q2⟩:=hq o (Aa ..)
  have e:fet M n f' pc=fet M n f pc:=zgK fun h k hk=>hf _ (by have:=q1 (by rw[h1.hpc];exact h) k hk;rw[h1.hpc]at this;exact this)
  refine⟨⟨h1.hpc,by rw[e];exact h1.ins,h1.rd,h1.a,h1.b,h1.old,by rw[e];exact h1.bad,by rw[e];exact h1.thr,fun hs hz=>?_,h1.fil,h1.gsd,h1.sta,h1.way⟩,h2,zkg h3 (fun x hx=>?_) (fun p hp=>hq p (Ab _ hp))⟩
  ·rw[e]at hz
   rw[h1.com hs hz]
   exact(ze6 fun h0 hfi k hk=>hf _ (q2 hs h0 hfi k hk)).symm
  ·unfold nf
   split
   ·unfold stoC
    by_cases hin:o.c.pl.toNat<=x/\x<o.c.pl.toNat+o.c.many.toNat
    ·rw[zgL hin,zgL hin]
    ·rw[vq hin,vq hin];exact hf x hx
   ·exact hf x hx
def hasB(o:Dg)(x:Nat):Prop:=o.st=2/\o.c.pl.toNat<=x/\x<o.c.pl.toNat+o.c.many.toNat
theorem zcR:∀{l:List Dg} {f:Nat->Int} {x:Nat},(∀o∈l,¬hasB o x)->fE f l x=f x
 |[],f,x,_=>rfl
 |o::l,f,x,h=>by
  have e:fE f (o::l)=fE (nf f o) l:=rfl
  rw[e,zcR (fun q hq=>h q (Ab _ hq))]
  unfold nf
  split
  ·rename_i hs
   exact vq fun hin=>h o (Aa ..) ⟨hs,hin⟩
  ·rfl
theorem zno(f:Nat->Int)(l1 l2:List Dg):fE f (l1++l2)=fE (fE f l1) l2:=Ao ..
theorem ko(m:Nat->Int)(l1 l2:List Dg):mE m (l1++l2)=mE (mE m l1) l2:=Ao ..
theorem zap(pc:Int)(l1 l2:List Dg):pE pc (l1++l2)=pE (pE pc l1) l2:=Ao ..
theorem zlc{l r:List Dg}{o:Dg}{f:Nat->Int}{x:Nat}(h:hasB o x)(hr:∀q∈r,¬hasB q x):fE f (l++o::r) x=o.c.data/p256 (x-o.c.pl.toNat)%256:=by
 rw[zno]
 have e:fE (fE f l) (o::r)=fE (nf (fE f l) o) r:=rfl
 rw[e,zcR hr]
 unfold nf
 rw[if_pos h.1]
 exact zgL h.2
theorem zgM(P:Dg->Prop):∀l:List Dg,(∀o∈l,¬P o)\/∃l1 o l2,l=l1++o::l2/\P o/\∀q∈l2,¬P q
 |[]=>.inl fun o h=>by cases h
 |o::l=>by
  rcases zgM P l with h|⟨l1,q,l2,rfl,hq,hr⟩
  ·by_cases ho:P o
   ·exact .inr ⟨[],o,l,rfl,ho,h⟩
   ·left
    intro q hq
    rcases Ad.1 hq with rfl|hq
    ·exact ho
    ·exact h q hq
  ·exact .inr ⟨o::l1,q,l2,rfl,hq,hr⟩
theorem yw{l:List Ac}{seq x:Int}:∀{k:Nat},bst l seq x k=none->∀j q,j<k->l[j]?=some q->gv seq x q=false
 |0,_,j,q,hj,_=>absurd hj (by omega)
 |k+1,h,j,q,hj,hq=>by
  unfold bst at h
  split at h
  ·rename_i hk
   by_cases e:j=k
   ·subst e;rw[hk]at hq;cases hq
   ·exact yw h j q (by omega) hq
  ·rename_i a ha
   split at h
   ·cases h
   ·rename_i hc
    have hn:=h
    rw[hn]at hc
    by_cases e:j=k
    ·subst e
     rw[ha]at hq
     cases hq
     simpa[aft]using hc
    ·exact yw h j q (by omega) hq
theorem zaX{l:List Ac}{seq x:Int}:∀{k j:Nat} {p:Ac},bst l seq x k=some j->l[j]?=some p->∀i q,i<k->l[i]?=some q->gv seq x q=true->q.seq<=p.seq
 |0,j,p,h,_,i,q,hi,_,_=>absurd hi (by omega)
 |k+1,j,p,h,hp,i,q,hi,hq,hg=>by
  unfold bst at h
  split at h
  ·rename_i hk
   by_cases e:i=k
   ·subst e;rw[hk]at hq;cases hq
   ·exact zaX h hp i q (by omega) hq hg
  ·rename_i a ha
   split at h
   ·rename_i hc
    cases h
    rw[hp]at ha
    cases ha
    simp at hc
    by_cases e:i=k
    ·subst e;rw[hp]at hq;cases hq;exact Av _
    ·cases hb:bst l seq x k with
     |none=>have:=yw hb i q (by omega) hq;rw[this]at hg;cases hg
     |some j'=>
      obtain⟨hlt,p',hp',_⟩:=kd _ _ _ _ _ hb
      have h1:=zaX hb hp' i q (by omega) hq hg
      have h2:=hc.2
      rw[hb]at h2
      simp[aft,hp']at h2
      omega
   ·rename_i hc
    by_cases e:i=k
    ·subst e
     rw[ha]at hq
     cases hq
     obtain⟨hlt,p',hp',_⟩:=kd _ _ _ _ _ h
     rw[hp]at hp'
     cases hp'
     simp[hg,h,aft,hp]at hc
     omega
    ·exact zaX h hp i q (by omega) hq hg
theorem zld{l:List Ac}{seq x m:Int}(h:∀q∈l,gv seq x q=false):Od.seen l seq x m l.length=m:=by
 cases hb:bst l seq x l.length with
 |none=>exact seen_none hb
 |some j=>
  obtain⟨_,q,hq,hg⟩:=kd _ _ _ _ _ hb
  rw[h q (Am hq)]at hg
  cases hg
theorem zi0{l:List Ac}{seq x m:Int}{p:Ac}(hp:p∈l)(hg:gv seq x p=true)(hm:∀q∈l,gv seq x q=true->q.seq<=p.seq/\(q.seq=p.seq->q=p)):Od.seen l seq x m l.length=byt p x:=by
 obtain⟨i,hi⟩:=An hp
 have hil:i<l.length:=(Ah.1 hi).1
 cases hb:bst l seq x l.length with
 |none=>have:=yw hb i p hil hi;rw[this]at hg;cases hg
 |some j=>
  obtain⟨_,q,hq,hgq⟩:=kd _ _ _ _ _ hb
  have h1:=zaX hb hq i p hil hi hg
  have h2:=hm q (Am hq) hgq
  rw[ke hb hq,h2.2 (by omega)]
def entA(o:Dg):Ac:=if o.st=2 then stA o.seq o.c else st0 o.seq
structure As(n:Nat)(wd:Int->Int)(l:List Dg)(k:List Ac):Prop where
 of:∀q∈k,∃o∈l,q.seq=o.seq/\(q.st=true->sts o.i=true/\q=entA o)
 own:∀o∈l,ownA o∈k
 sto:∀o∈l,sts o.i=true->entA o∈k
 lod:∀o∈l,o.st=2->ldn o.i.op≠0->fits n (place o.i (wd o.a)) (ldn o.i.op)=true->ldA o.seq (place o.i (wd o.a)) (ldn o.i.op)∈k
def Rise(l:List Dg):Prop:=(l.map (·.seq)).Pairwise (·<·)
theorem zw{l1 l2:List Dg}:Rise (l1++l2)↔Rise l1/\Rise l2/\∀o∈l1,∀q∈l2,o.seq<q.seq:=by
 unfold Rise
 rw[Aj,List.pairwise_append]
 simp
theorem zR{o:Dg}{l:List Dg}:Rise (o::l)↔(∀q∈l,o.seq<q.seq)/\Rise l:=by
 unfold Rise
 simp
theorem jT:∀{l:List Dg} {o q:Dg},Rise l->o∈l->q∈l->o.seq=q.seq->o=q
 |[],o,q,_,h,_,_=>by cases h
 |p::l,o,q,h,ho,hq,e=>by
  obtain⟨h1,h2⟩:=zR.1 h
  rcases Ad.1 ho with ho|ho
  ·rcases Ad.1 hq with hq|hq
   ·rw[ho,hq]
   ·have:=h1 q hq;rw[ho]at e;omega
  ·rcases Ad.1 hq with hq|hq
   ·have:=h1 o ho;rw[hq]at e;omega
   ·exact jT h2 ho hq e
def cmOk(o:Dg):Prop:=o.st=2->o.c.many=0\/(sts o.i=true/\(o.c.many=1\/o.c.many=2\/o.c.many=4)/\0<=o.c.pl)
theorem zi1(j:Nat)(h:j<4):p256 j=two (8*j):=by
 rcases(by omega:j=0\/j=1\/j=2\/j=3)with rfl|rfl|rfl|rfl<;>decide
theorem zo7{q:Int}{c:Cm}(h:c.many=0\/c.many=1\/c.many=2\/c.many=4):Od.wd (stA q c)=c.many:=by
 show(if c.many<0 then 0 else if 4<c.many then 4 else c.many)=c.many
 rw[if_neg (by omega),if_neg (by omega)]
theorem zle{q x:Int}{c:Cm}(h:c.many=0\/c.many=1\/c.many=2\/c.many=4):Od.hs (stA q c) x=true↔c.pl<=x/\x<c.pl+c.many:=by
 unfold Od.hs
 rw[decide_eq_true_iff,zo7 h]
 exact Iff.rfl
theorem zlf{n:Nat}{wd:Int->Int}{l1 l2:List Dg}{k:List Ac}(A:As n wd (l1++l2) k)(hr:Rise (l1++l2)){s:Int}(h1:∀o∈l1,o.seq<s)(h2:∀o∈l2,s<=o.seq)(hc:∀o∈l1,cmOk o)(f:Nat->Int)(x:Nat):
  Od.seen k s x (f x) k.length=fE f l1 x:=by
 have key:∀q∈k,gv s x q=true->∃o∈l1,q=stA o.seq o.c/\hasB o x/\o.st=2:=by
  intro q hq hg
  simp only[gv,ahd,Al,decide_eq_true_eq]at hg
  obtain⟨⟨⟨hst,hsq⟩,hk⟩,hh⟩:=hg
  obtain⟨o,ho,e,he⟩:=A.of q hq
  obtain⟨_,he⟩:=he hst
  have ho1:o∈l1:=by
   rcases Af.1 ho with h|h
   ·exact h
   ·have:=h2 o h;omega
  unfold entA at he
  split at he
  ·rename_i h2
   subst he
   refine⟨o,ho1,rfl,⟨h2,?_⟩,h2⟩
   have hm:=hc o ho1 h2
   rw[zle (by omega)]at hh
   omega
  ·subst he
   cases hk
 rcases zgM (fun o=>hasB o x) l1 with hn|⟨p,o,r,rfl,ho,hrr⟩
 ·rw[zcR hn]
  refine zld fun q hq=>?_
  cases hg:gv s x q with
  |false=>rfl
  |true=>
   obtain⟨o,ho,_,hb,_⟩:=key q hq hg
   exact absurd hb (hn o ho)
 ·rw[zlc ho hrr]
  have hol:o∈p++o::r:=by simp
  have hm:=hc o hol ho.1
  have hm':sts o.i=true/\(o.c.many=1\/o.c.many=2\/o.c.many=4)/\0<=o.c.pl:=by
   rcases hm with hm|hm
   ·have:=ho.2;rw[hm]at this;simp at this;omega
   ·exact hm
  have hmem:stA o.seq o.c∈k:=by
   have:=A.sto o (by simp) hm'.1
   unfold entA at this
   rwa [if_pos ho.1]at this
  have hgo:gv s x (stA o.seq o.c)=true:=by
   have:=ho.2
   have:=h1 o hol
   have e1:Od.hs (stA o.seq o.c) x=true:=(zle (by omega)).2 (by omega)
   have e2:ahd s (stA o.seq o.c)=true:=by show(true&&decide (o.seq<s))=true;simp[this]
   unfold gv
   rw[e1,e2]
   rfl
  rw[zi0 hmem hgo]
  ·show o.c.data/two (8*((x:Int)-o.c.pl).toNat)%256=_
   rw[zi1 _ (by have:=ho.2;omega),show((x:Int)-o.c.pl).toNat=x-o.c.pl.toNat by omega]
  ·intro q hq hg
   obtain⟨o',ho',rfl,hb,_⟩:=key q hq hg
   have hpo:o'∈p++[o]:=by
    rcases Af.1 ho' with h|h
    ·exact Ae _ h
    ·rcases Ad.1 h with rfl|h
     ·simp
     ·exact absurd hb (hrr o' h)
   have hr1:Rise (p++o::r):=(zw.1 hr).1
   have hle:o'.seq<=o.seq:=by
    rcases Af.1 hpo with h|h
    ·have:=(zw.1 hr1).2.2 o' h o (Aa ..);omega
    ·rw[List.mem_singleton.1 h];exact Av _
   refine⟨hle,fun e=>?_⟩
   rw[jT hr1 ho' hol e]
end Go.Proofs.YtpiohehijkpghacGreatDoor.Co
namespace Go.Proofs.YtpiohehijkpghacGreatDoor.Co
open Go.RowKit
open Hy
open Wi Od Re.Hy
open Gu.Hy (Tb)
def slot(o:Dg):Sl:=(o.seq,decide (o.st=2))
structure Inv(M:Mc)(s:Cr)(m:Nat->Int):Prop where
 base:∀r,r<32->s.th (m r)=true/\s.wd (m r)=s.R r
 ch:Ch M s.n s.wd s.th s.pc m s.f s.under
 reg:mE m s.under=s.regs
 en:(s.opn=true/\s.fro=pE s.pc s.under/\∀o∈s.under,¬stp o)\/(s.opn=false/\∃l o,s.under=l++[o]/\stp o)
 dis:Dis s.phys m (tos s.under++s.free)
 cnt:32+((tos s.under++s.free).length:Int)=s.phys
 rise:Rise s.under
 low:∀o∈s.under,0<=o.seq/\o.seq<s.tak
 slo:s.slots=s.under.map slot
 ask:As s.n s.wd s.under s.asked
 lat:∀o∈s.under,0<=o.late/\o.late<=9
theorem zaq:gvs zin=0/\ra zin=0/\rb zin=0/\ldn zin.op=0/\sts zin=false:=by decide
theorem kO{M:Mc}(hM:MOk M){n:Nat}{wd:Int->Int}{th:Int->Bool}{pc:Int}{m f:Nat->Int}{o:Dg}(h:Loc M n wd th pc m f o):o.rd<32/\ra o.i<32/\rb o.i<32:=by
 rw[h.rd]
 by_cases hz:(fet M n f pc).2=0
 ·obtain⟨x,hx⟩:=vo hz
  rw[<-h.ins]at hx
  obtain⟨h1,h2,h3,_⟩:=hM.fld hx
  refine⟨?_,?_,?_⟩
  ·unfold gvs;split<;>omega
  ·unfold ra;split<;>omega
  ·unfold rb;split<;>omega
 ·have:=zaV hz
  rw[h.ins,this,zaq.1,zaq.2.1,zaq.2.2.1]
  omega
theorem zlg{i:In}(h:sts i=true):ldn i.op=0:=by
 unfold sts at h
 simp at h
 unfold ldn
 rw[if_neg (by omega),if_neg (by omega),if_neg (by omega)]
structure CmIs(n:Nat)(i:In)(pc:Int)(c:Cm):Prop where
 many:c.many=0\/(sts i=true/\(c.many=1\/c.many=2\/c.many=4)/\0<=c.pl/\c.pl+c.many<=n)
 gives:c.st=0->c.rd=gvs i
 stops:c.st≠0->c.next=pc/\c.rd=0/\i.op≠3/\trn i=false/\c.many=0
theorem yx{M:Mc}(hM:MOk M){x:Int}{i:In}(hx:M.dcd x=some i)(n:Nat)(f:Nat->Int)(pc a b:Int):CmIs n i pc (comC M n f i pc a b):=by
 unfold comC
 split
 ·rename_i h0
  have hop:¬i.op=3/\¬(4<=i.op/\i.op<=10)/\i.op≠46:=by
   unfold ldn at h0
   by_cases h1:i.op=11\/i.op=14
   ·omega
   ·by_cases h2:i.op=12\/i.op=15
    ·omega
    ·by_cases h3:i.op=13
     ·omega
     ·rw[if_neg h1,if_neg h2,if_neg h3]at h0;exact absurd rfl h0
  unfold qc
  split
  ·exact⟨.inl rfl,fun _=>by unfold gvs;rw[if_neg hop.2.2];rfl,fun h=>absurd rfl h⟩
  ·exact⟨.inl rfl,fun h=>absurd (show(2:Int)=0 from h) (by decide),fun _=>⟨rfl,rfl,hop.1,by simp[trn,hop.2.1],rfl⟩⟩
 ·rename_i h0
  have h0:ldn i.op=0:=by simpa using h0
  exact⟨hM.many pc a b n hx h0,hM.gives pc a b n hx h0,hM.stops pc a b n hx h0⟩
theorem zbS(n:Nat)(i:In)(pc k:Int)(h3:i.op≠3)(ht:trn i=false):CmIs n i pc (qj pc k):=⟨.inl rfl,fun h=>absurd (show(2:Int)=0 from h) (by decide),fun _=>⟨rfl,rfl,h3,ht,rfl⟩⟩
theorem zkh{M:Mc}(hM:MOk M){n:Nat}{wd:Int->Int}{th:Int->Bool}{pc:Int}{m f:Nat->Int}{o:Dg}(h:Loc M n wd th pc m f o)(h2:o.st=2):CmIs n o.i pc o.c:=by
 by_cases hz:(fet M n f pc).2=0
 ·obtain⟨x,hx⟩:=vo hz
  rw[<-h.ins]at hx
  rw[h.com h2 hz]
  exact yx hM hx _ _ _ _ _
 ·have e:=zaV hz
  rw[(h.bad hz).2,h.ins,e]
  exact zbS _ _ _ _ (by decide) (by decide)
theorem CmIs.ok{n:Nat}{o:Dg}{pc:Int}(h:CmIs n o.i pc o.c):cmOk o:=fun _=>by
 rcases h.many with h|⟨h1,h2,h3,_⟩
 ·exact .inl h
 ·exact .inr ⟨h1,h2,h3⟩
theorem zad{M:Mc}{n:Nat}{wd:Int->Int}{th:Int->Bool}{pc:Int}{m f:Nat->Int}{l1 l2:List Dg}{o:Dg}(h:Ch M n wd th pc m f (l1++o::l2)):Loc M n wd th (pE pc l1) (mE m l1) (fE f l1) o:=(jJ.1 h).2.2.1
theorem xb{M:Mc}{n:Nat}{wd:Int->Int}{th:Int->Bool}{pc:Int}{m f:Nat->Int}{l:List Dg}{o:Dg}(h:Ch M n wd th pc m f l)(ho:o∈l):∃l1 l2,l=l1++o::l2/\Loc M n wd th (pE pc l1) (mE m l1) (fE f l1) o:=by
 obtain⟨l1,l2,rfl⟩:=List.append_of_mem ho
 exact⟨l1,l2,rfl,zad h⟩
theorem zd8{M:Mc}(hM:MOk M){n:Nat}{wd:Int->Int}{th:Int->Bool}{pc:Int}{m f:Nat->Int}{l:List Dg}(h:Ch M n wd th pc m f l):∀o∈l,o.rd<32:=fun o ho=>by
 obtain⟨_,_,_,hl⟩:=xb h ho
 exact(kO hM hl).1
theorem zki{M:Mc}(hM:MOk M){n:Nat}{wd:Int->Int}{th:Int->Bool}{pc:Int}{m f:Nat->Int}{l:List Dg}(h:Ch M n wd th pc m f l):∀o∈l,cmOk o:=fun o ho h2=>by
 obtain⟨_,_,_,hl⟩:=xb h ho
 exact(zkh hM hl h2).ok h2
theorem zd9{M:Mc}(hM:MOk M){n:Nat}{wd:Int->Int}{th:Int->Bool}{pc:Int}{m f:Nat->Int}{l1 l2:List Dg}{o:Dg}(h:Ch M n wd th pc m f (l1++o::l2)):((∃r,r<32/\o.a=m r)\/o.a∈tos l1)/\((∃r,r<32/\o.b=m r)\/o.b∈tos l1):=by
 have hl:=zad h
 obtain⟨_,h2,h3⟩:=kO hM hl
 rw[hl.a,hl.b]
 refine⟨?_,?_⟩
 ·rcases zaU l1 m (ra o.i)with⟨r,rfl,e⟩|e
  ·exact .inl ⟨_,h2,e⟩
  ·exact .inr e
 ·rcases zaU l1 m (rb o.i)with⟨r,rfl,e⟩|e
  ·exact .inl ⟨_,h3,e⟩
  ·exact .inr e
def Olds:(Nat->Int)->List Dg->Prop
 |_,[]=>True
 |m,o::l=>(o.rd≠0->o.old=m o.rd)/\Olds (nm m o) l
theorem vr{M:Mc}{n:Nat}{wd:Int->Int}{th:Int->Bool}:∀{l:List Dg} {pc:Int} {m f:Nat->Int},Ch M n wd th pc m f l->Olds m l
 |[],_,_,_,_=>trivial
 |o::l,pc,m,f,h=>⟨h.1.old,vr h.2.2⟩
theorem xq:∀{l1 l2:List Dg} {m:Nat->Int},Olds m (l1++l2)↔Olds m l1/\Olds (mE m l1) l2
 |[],l2,m=>by simp[Olds,mE]
 |o::l1,l2,m=>by
  have ih:=xq (l1:=l1) (l2:=l2) (m:=nm m o)
  have e2:mE m (o::l1)=mE (nm m o) l1:=rfl
  rw[Ak,e2]
  show(_/\Olds (nm m o) (l1++l2))↔(_/\Olds (nm m o) l1)/\_
  rw[ih,and_assoc]
theorem zbT:∀{t:List Dg} {m:Nat->Int} {fr:List Int},Olds m t->undo (mE m t) fr t=(m,tos t++fr)
 |[],m,fr,_=>rfl
 |o::t,m,fr,h=>by
  have e2:mE m (o::t)=mE (nm m o) t:=rfl
  have ih:=zbT (fr:=fr) h.2
  rw[e2,zQ]
  unfold undo
  rw[ih]
  by_cases h0:o.rd=0
  ·simp[h0,nm]
  ·have:=h.1 h0
   simp only[h0,if_false,nm]
   rw[zeZ,zm9,this,zna]
   rfl
structure Bk(s:Cr)(m:Nat->Int):Prop where
 olds:Olds m s.under
 reg:mE m s.under=s.regs
 rise:Rise s.under
 slo:s.slots=s.under.map slot
theorem xc{p:Dg->Bool}{l1 l2:List Dg}(h1:∀o∈l1,p o=false)(h2:∀o∈l2,p o=true):(l1++l2).filter p=l2/\(l1++l2).filter (fun o=>!p o)=l1:=by
 rw[At,At]
 refine⟨?_,?_⟩
 ·rw[List.filter_eq_nil_iff.2 (fun o ho=>by simp[h1 o ho]),Ar.2 h2];rfl
 ·rw[Ar.2 (fun o ho=>by simp[h1 o ho]),List.filter_eq_nil_iff.2 (fun o ho=>by simp[h2 o ho]),Aq]
theorem zaY{s:Cr}{m:Nat->Int}(h:Bk s m){l1 l2:List Dg}(hu:s.under=l1++l2)(q pc:Int)(h1:∀o∈l1,o.seq<q)(h2:∀o∈l2,q<=o.seq):
  back s q pc={s with regs:=mE m l1,free:=tos l2++s.free,slots:=l1.map slot,under:=l1,asked:=s.asked.filter (fun a=>!decide (q<=a.seq)),bck:=if l2=[]then s.bck else s.bck+1,fro:=pc,opn:=true}:=by
 have f1:=xc (p:=fun o=>decide (q<=o.seq)) (l1:=l1) (l2:=l2) (fun o ho=>by have:=h1 o ho;simp;omega) (fun o ho=>by have:=h2 o ho;simp;omega)
 have ho:Olds (mE m l1) l2:=(xq.1 (hu▸h.olds)).2
 have hr:s.regs=mE (mE m l1) l2:=by rw[<-h.reg,hu,ko]
 have hs:vd s.slots q=l1.map slot:=by
  rw[h.slo,hu]
  unfold vd
  rw[List.filter_map]
  exact congrArg _ f1.2
 have hc:cutS s.slots q=[]↔l2=[]:=by
  rw[h.slo,hu]
  unfold cutS
  rw[List.filter_map]
  have:(l1++l2).filter ((fun q':Sl=>decide (q<=q'.1))∘slot)=l2:=f1.1
  rw[this]
  simp
 unfold back
 rw[hs,hu,f1.1,f1.2,hr,zbT ho]
 by_cases e:l2=[]
 ·simp[hc.2 e,e]
 ·simp[mt hc.1 e,e]
theorem xt:∀{l:List Dg} (q:Int),Rise l->∃l1 l2,l=l1++l2/\(∀o∈l1,o.seq<q)/\∀o∈l2,q<=o.seq
 |[],q,_=>⟨[],[],rfl,fun o h=>(nomatch h),fun o h=>(nomatch h)⟩
 |o::l,q,h=>by
  obtain⟨h1,h2⟩:=zR.1 h
  by_cases e:o.seq<q
  ·obtain⟨l1,l2,rfl,g1,g2⟩:=xt q h2
   refine⟨o::l1,l2,rfl,fun p hp=>?_,g2⟩
   rcases Ad.1 hp with rfl|hp
   ·exact e
   ·exact g1 p hp
  ·refine⟨[],o::l,rfl,fun p hp=>(nomatch hp),fun p hp=>?_⟩
   rcases Ad.1 hp with rfl|hp
   ·omega
   ·have:=h1 p hp;omega
theorem yy{l:List Ac}{s:Ac}:∀{k:Nat},lst l s k=none->∀j a,j<k->l[j]?=some a->(ovr s.seq a&&Od.mt s a)=false
 |0,_,j,a,hj,_=>absurd hj (by omega)
 |k+1,h,j,a,hj,ha=>by
  unfold lst at h
  split at h
  ·rename_i hk
   by_cases e:j=k
   ·subst e;rw[hk]at ha;cases ha
   ·exact yy h j a (by omega) ha
  ·rename_i b hb
   split at h
   ·cases h
   ·rename_i hc
    rw[h]at hc
    by_cases e:j=k
    ·subst e
     rw[hb]at ha
     cases ha
     cases hx:ovr s.seq a&&Od.mt s a with
     |false=>rfl
     |true=>rw[hx]at hc;exact absurd rfl hc
    ·exact yy h j a (by omega) ha
theorem kp{l:List Ac}{s:Ac}:∀{k:Nat} {e:Int},lst l s k=some e->(∃a∈l,a.seq=e/\(ovr s.seq a&&Od.mt s a)=true)/\∀j a,j<k->l[j]?=some a->(ovr s.seq a&&Od.mt s a)=true->e<=a.seq
 |0,e,h=>by cases h
 |k+1,e,h=>by
  unfold lst at h
  split at h
  ·rename_i hk
   obtain⟨h1,h2⟩:=kp h
   refine⟨h1,fun j a hj ha hc=>?_⟩
   by_cases e':j=k
   ·subst e';rw[hk]at ha;cases ha
   ·exact h2 j a (by omega) ha hc
  ·rename_i b hb
   split at h
   ·rename_i hc
    cases h
    rw[Al]at hc
    refine⟨⟨b,Am hb,rfl,hc.1⟩,fun j a hj ha hx=>?_⟩
    by_cases e':j=k
    ·subst e';rw[hb]at ha;cases ha;exact Av _
    ·cases hl:lst l s k with
     |none=>have:=yy hl j a (by omega) ha;rw[this]at hx;cases hx
     |some y=>
      have:=(kp hl).2 j a (by omega) ha hx
      have h3:=hc.2
      rw[hl]at h3
      simp[bef]at h3
      omega
   ·rename_i hc
    obtain⟨h1,h2⟩:=kp h
    refine⟨h1,fun j a hj ha hx=>?_⟩
    by_cases e':j=k
    ·subst e'
     rw[hb]at ha
     cases ha
     rw[h,hx]at hc
     simp[bef]at hc
     exact hc
    ·exact h2 j a (by omega) ha hx
theorem vt{l1 l2:List Dg}{o:Dg}(h:Rise (l1++o::l2))(g:Dg->Dg):putO (l1++o::l2) o.seq g=l1++g o::l2:=by
 obtain⟨h1,h2,h3⟩:=zw.1 h
 obtain⟨h4,_⟩:=zR.1 h2
 unfold putO
 rw[Aj,Ap]
 have e1:l1.map (fun p=>if p.seq=o.seq then g p else p)=l1:=by
  rw[Ai (g:=id) (fun p hp=>by have:=h3 p hp o (Aa ..);rw[if_neg (by omega)];rfl),List.map_id]
 have e2:l2.map (fun p=>if p.seq=o.seq then g p else p)=l2:=by
  rw[Ai (g:=id) (fun p hp=>by have:=h4 p hp;rw[if_neg (by omega)];rfl),List.map_id]
 rw[e1,e2,if_pos rfl]
theorem zcS{l1 l2:List Dg}{o o':Dg}(h:Rise (l1++o::l2))(hs:slot o'=(o.seq,true)):donS ((l1++o::l2).map slot) o.seq=(l1++o'::l2).map slot:=by
 obtain⟨h1,h2,h3⟩:=zw.1 h
 obtain⟨h4,_⟩:=zR.1 h2
 unfold donS
 rw[List.map_map,Aj,Ap,Aj,Ap,hs]
 congr 1
 ·refine Ai fun p hp=>?_
  have:=h3 p hp o (Aa ..)
  show(if p.seq=o.seq then _ else _)=_
  rw[if_neg (by omega)]
 ·congr 1
  ·show(if o.seq=o.seq then(o.seq,true)else _)=_
   rw[if_pos rfl]
  ·refine Ai fun p hp=>?_
   have:=h4 p hp
   show(if p.seq=o.seq then _ else _)=_
   rw[if_neg (by omega)]
theorem kq{l1 l2:List Dg}{o o':Dg}(h:Rise (l1++o::l2))(e:o'.seq=o.seq):Rise (l1++o'::l2):=by
 unfold Rise at*
 rw[Aj,Ap]at*
 rw[e]
 exact h
theorem zgN{l:List Dg}{o o':Dg}{m:Nat->Int}(h1:o'.rd=o.rd)(h2:o'.to=o.to):mE m (o'::l)=mE m (o::l):=by
 show mE (nm m o') l=mE (nm m o) l
 unfold nm
 rw[h1,h2]
theorem zcT{l:List Dg}{o o':Dg}(h1:o'.rd=o.rd)(h2:o'.to=o.to):tos (o'::l)=tos (o::l):=by
 rw[zQ,zQ,h1,h2]
theorem zaZ{l1 l2:List Dg}{o o':Dg}{m:Nat->Int}(h:Olds m (l1++o::l2))(h1:o'.rd=o.rd)(h2:o'.to=o.to)(h3:o'.old=o.old):Olds m (l1++o'::l2):=by
 rw[xq]at*
 refine⟨h.1,fun h0=>by rw[h3,h1];exact h.2.1 (by rw[<-h1];exact h0),?_⟩
 have:=h.2.2
 have e:nm (mE m l1) o'=nm (mE m l1) o:=by unfold nm;rw[h1,h2]
 rw[e]
 exact this
def inC(c:Cm)(x:Nat):Prop:=c.pl.toNat<=x/\x<c.pl.toNat+c.many.toNat
def znp(n:Nat)(wd:Int->Int)(c:Cm)(o:Dg):Prop:=
 (fits n o.pc 4=true->∀k,k<4->¬inC c (o.pc.toNat+k))/\(o.st=2->ldn o.i.op≠0->fits n (place o.i (wd o.a)) (ldn o.i.op)=true->∀k:Nat,(k:Int)<ldn o.i.op->¬inC c ((place o.i (wd o.a)).toNat+k))
theorem zgO{q x many y:Int}{c:Cm}{seq:Int}(hm:c.many=0\/((c.many=1\/c.many=2\/c.many=4)/\0<=c.pl))(hq:q<seq)(hmany:0<=many/\many<=4)(h:(ovr (stA q c).seq (ldA seq x many)&&Od.mt (stA q c) (ldA seq x many))=false)(k:Nat)(hk:(k:Int)<many)(hx:0<=x):¬inC c (x.toNat+k):=by
 intro⟨h1,h2⟩
 have e1:Od.hs (stA q c) (x+k)=true:=(zle (by omega)).2 (by rcases hm with hm|hm<;>omega)
 have e2:Od.hs (ldA seq x many) (x+k)=true:=by
  unfold Od.hs Od.wd
  apply decide_eq_true
  show x<=x+k/\x+k<x+(if many<0 then 0 else if 4<many then 4 else many)
  rw[if_neg (by omega),if_neg (by omega)]
  omega
 have e3:=zm5 e1 e2
 have e4:ovr (stA q c).seq (ldA seq x many)=true:=by
  show(true&&true&&true&&decide (q<seq))=true
  simp[hq]
 rw[e3,e4]at h
 cases h
theorem jw{n:Nat}{x many:Int}(h:fits n x many=true):0<=x/\x%many=0/\x+many<=n:=by simpa[fits]using h
theorem zgP(i:In)(a:Int):0<=place i a/\place i a<4294967296:=by unfold place;omega
structure Fin1(M:Mc)(s:Cr)(m:Nat->Int)(l1 l2:List Dg)(o:Dg)(c:Cm)(l2' l3:List Dg)(t:Cr):Prop where
 split:l2=l2'++l3
 is:∃A B F P,t={s with under:=l1++{o with st:=2,c:=c}::l2',slots:=(l1++{o with st:=2,c:=c}::l2').map slot,regs:=mE m (l1++{o with st:=2,c:=c}::l2'),free:=tos l3++s.free,asked:=A,bck:=B,fro:=F,opn:=P}/\As s.n s.wd (l1++{o with st:=2,c:=c}::l2') A/\
  ((l3=[]/\F=s.fro/\P=s.opn)\/(l3≠[]/\P=true/\F=pE s.pc (l1++o::l2')))
 clear:∀q∈l2',znp s.n s.wd c q
theorem znq{n:Nat}{wd:Int->Int}{l1 l2:List Dg}{o:Dg}{c:Cm}{k:List Ac}(A:As n wd (l1++o::l2) k)(hs:sts o.i=false)(hl:ldn o.i.op≠0->fits n (place o.i (wd o.a)) (ldn o.i.op)=true->ldA o.seq (place o.i (wd o.a)) (ldn o.i.op)∈k):As n wd (l1++{o with st:=2,c:=c}::l2) k:=by
 have mem:∀p,p∈l1++{o with st:=2,c:=c}::l2->p={o with st:=2,c:=c}\/(p∈l1++o::l2):=fun p hp=>by
  rcases Af.1 hp with h|h
  ·exact .inr (Ae _ h)
  ·rcases Ad.1 h with h|h
   ·exact .inl h
   ·exact .inr (Ag _ (Ab _ h))
 have hom:o∈l1++o::l2:=by simp
 refine⟨fun q hq=>?_,fun p hp=>?_,fun p hp h=>?_,fun p hp h1 h2 h3=>?_⟩
 ·obtain⟨p,hp,e,he⟩:=A.of q hq
  by_cases hpo:p∈l1\/p∈l2
  ·refine⟨p,?_,e,he⟩
   rcases hpo with h|h
   ·exact Ae _ h
   ·exact Ag _ (Ab _ h)
  ·have:p=o:=by
    rcases Af.1 hp with h|h
    ·exact absurd (.inl h) hpo
    ·rcases Ad.1 h with h|h
     ·exact h
     ·exact absurd (.inr h) hpo
   subst this
   refine⟨_,Ag _ (Aa ..),e,fun h=>?_⟩
   have:=(he h).1
   rw[hs]at this
   cases this
 ·rcases mem p hp with rfl|h
  ·exact A.own o hom
  ·exact A.own p h
 ·rcases mem p hp with rfl|h'
  ·have h:sts o.i=true:=h
   rw[hs]at h;cases h
  ·exact A.sto p h' h
 ·rcases mem p hp with rfl|h'
  ·exact hl h2 h3
  ·exact A.lod p h' h1 h2 h3
theorem znr{n:Nat}{wd:Int->Int}{l1 l2:List Dg}{o:Dg}{c:Cm}{k:List Ac}(A:As n wd (l1++o::l2) k)(hr:Rise (l1++o::l2))(hs:sts o.i=true):As n wd (l1++{o with st:=2,c:=c}::l2) (setA k o.seq (stA o.seq c)):=by
 have mem:∀p,p∈l1++{o with st:=2,c:=c}::l2->p={o with st:=2,c:=c}\/(p∈l1++o::l2/\p.seq≠o.seq):=fun p hp=>by
  obtain⟨h1,h2,h3⟩:=zw.1 hr
  obtain⟨h4,_⟩:=zR.1 h2
  rcases Af.1 hp with h|h
  ·exact .inr ⟨Ae _ h,by have:=h3 p h o (Aa ..);omega⟩
  ·rcases Ad.1 h with h|h
   ·exact .inl h
   ·exact .inr ⟨Ag _ (Ab _ h),by have:=h4 p h;omega⟩
 have hom:o∈l1++o::l2:=by simp
 have keep:∀a∈k,¬(a.st=true/\a.seq=o.seq)->a∈setA k o.seq (stA o.seq c):=fun a ha hn=>by
  unfold setA
  exact Au.2 ⟨a,ha,if_neg hn⟩
 refine⟨fun q hq=>?_,fun p hp=>?_,fun p hp h=>?_,fun p hp h1 h2 h3=>?_⟩
 ·unfold setA at hq
  obtain⟨a,ha,rfl⟩:=Au.1 hq
  by_cases hc:a.st=true/\a.seq=o.seq
  ·rw[if_pos hc]
   refine⟨_,Ag _ (Aa ..),rfl,fun _=>⟨hs,?_⟩⟩
   unfold entA
   exact(if_pos rfl).symm
  ·rw[if_neg hc]
   obtain⟨p,hp,e,he⟩:=A.of a ha
   by_cases hpo:p∈l1\/p∈l2
   ·refine⟨p,?_,e,he⟩
    rcases hpo with h|h
    ·exact Ae _ h
    ·exact Ag _ (Ab _ h)
   ·have:p=o:=by
     rcases Af.1 hp with h|h
     ·exact absurd (.inl h) hpo
     ·rcases Ad.1 h with h|h
      ·exact h
      ·exact absurd (.inr h) hpo
    subst this
    exact⟨_,Ag _ (Aa ..),e,fun h=>absurd ⟨h,e⟩ hc⟩
 ·rcases mem p hp with rfl|⟨h,hne⟩
  ·exact keep _ (A.own o hom) (fun h=>by cases h.1)
  ·exact keep _ (A.own p h) (fun h=>by cases h.1)
 ·rcases mem p hp with rfl|⟨h',hne⟩
  ·have h0:=A.sto o hom hs
   unfold setA
   refine Au.2 ⟨_,h0,?_⟩
   rw[if_pos (by unfold entA;split<;>exact⟨rfl,rfl⟩)]
   unfold entA
   exact(if_pos rfl).symm
  ·refine keep _ (A.sto p h' h) (fun hh=>hne ?_)
   have:=hh.2
   unfold entA at this
   split at this<;>exact this
 ·rcases mem p hp with rfl|⟨h',hne⟩
  ·have h2:ldn o.i.op≠0:=h2
   exact absurd (zlg hs) h2
  ·exact keep _ (A.lod p h' h1 h2 h3) (fun h=>by cases h.1)
theorem zkj{n:Nat}{wd:Int->Int}{l1 l2:List Dg}{k:List Ac}(A:As n wd (l1++l2) k)(q:Int)(h1:∀o∈l1,o.seq<q)(h2:∀o∈l2,q<=o.seq):As n wd l1 (k.filter (fun a=>!decide (q<=a.seq))):=by
 have keep:∀a∈k,a.seq<q->a∈k.filter (fun a=>!decide (q<=a.seq)):=fun a ha hn=>Aw.2 ⟨ha,by simp;omega⟩
 refine⟨fun a ha=>?_,fun p hp=>keep _ (A.own p (Ae _ hp)) (h1 p hp),fun p hp h=>keep _ (A.sto p (Ae _ hp) h) ?_,fun p hp g1 g2 g3=>keep _ (A.lod p (Ae _ hp) g1 g2 g3) (h1 p hp)⟩
 ·obtain⟨ha,hq⟩:=Aw.1 ha
  obtain⟨p,hp,e,he⟩:=A.of a ha
  simp at hq
  rcases Af.1 hp with h|h
  ·exact⟨p,h,e,he⟩
  ·have:=h2 p h;omega
 ·unfold entA
  split<;>exact h1 p hp
theorem zgQ{l1 l2:List Dg}{o:Dg}(h:Rise (l1++o::l2)):pcOf (l1++o::l2) o.seq=o.pc:=by
 unfold pcOf
 obtain⟨h1,h2,h3⟩:=zw.1 h
 rw[List.find?_append,List.find?_eq_none.2 (fun p hp=>by have:=h3 p hp o (Aa ..);simp;omega)]
 simp
theorem zlh{M:Mc}(hM:MOk M){s:Cr}{m:Nat->Int}(I:Inv M s m){l1 l2:List Dg}{o:Dg}(hu:s.under=l1++o::l2)(h2:o.st≠2){c:Cm}(hc:CmIs s.n o.i o.pc c)
  (hl:ldn o.i.op≠0->fits s.n (place o.i (s.wd o.a)) (ldn o.i.op)=true->ldA o.seq (place o.i (s.wd o.a)) (ldn o.i.op)∈s.asked):
  ∃l2' l3,Fin1 M s m l1 l2 o c l2' l3 (fin1 s o c):=by
 have hr:Rise (l1++o::l2):=hu▸I.rise
 have hA:As s.n s.wd (l1++o::l2) s.asked:=hu▸I.ask
 have hch:Ch M s.n s.wd s.th s.pc m s.f (l1++o::l2):=hu▸I.ch
 have hru:putO s.under o.seq (fun o=>{o with st:=2,c:=c})=l1++{o with st:=2,c:=c}::l2:=by rw[hu];exact vt hr _
 have hsl:donS s.slots o.seq=(l1++{o with st:=2,c:=c}::l2).map slot:=by
  rw[I.slo,hu]
  exact zcS hr (by show(o.seq,decide ((2:Int)=2))=_;rfl)
 have hmE:mE m (l1++{o with st:=2,c:=c}::l2)=s.regs:=by
  rw[<-I.reg,hu,ko,ko]
  exact zgN rfl rfl
 by_cases hs:sts o.i=true
 ·obtain⟨A,hAe⟩:∃A,A=setA s.asked o.seq (stA o.seq c):=⟨_,rfl⟩
  have hA1:=znr (c:=c) hA hr hs
  rw[<-hAe]at hA1
  have hcm:c.many=0\/((c.many=1\/c.many=2\/c.many=4)/\0<=c.pl):=by
   rcases hc.many with h|⟨_,h,h',_⟩
   ·exact .inl h
   ·exact .inr ⟨h,h'⟩
  have cl:∀q∈l2,(∀a∈A,a.seq=q.seq->(ovr (stA o.seq c).seq a&&Od.mt (stA o.seq c) a)=false)->znp s.n s.wd c q:=by
   intro q hq hno
   have hlt:o.seq<q.seq:=(zR.1 (zw.1 hr).2.1).1 q hq
   have hqm:q∈l1++{o with st:=2,c:=c}::l2:=Ag _ (Ab _ hq)
   refine⟨fun hf k hk=>?_,fun g2 g0 hf k hk=>?_⟩
   ·exact zgO (seq:=q.seq) (many:=4) (y:=0) hcm hlt (by omega) (hno _ (hA1.own q hqm) rfl) k (by omega) (jw hf).1
   ·exact zgO (seq:=q.seq) (y:=0) hcm hlt (yk _) (hno _ (hA1.lod q hqm g2 g0 hf) rfl) k hk (zgP _ _).1
  have hfin:fin1 s o c=settle {s with under:=l1++{o with st:=2,c:=c}::l2,slots:=(l1++{o with st:=2,c:=c}::l2).map slot} o.seq c:=by
   unfold fin1
   rw[hru,hsl]
   simp only[hs,if_true]
  cases hls:lst A (stA o.seq c) A.length with
  |none=>
   refine⟨l2,[],(Aq _).symm,⟨A,s.bck,s.fro,s.opn,?_,hA1,.inl ⟨rfl,rfl,rfl⟩⟩,fun q hq=>cl q hq fun a ha _=>?_⟩
   ·rw[hfin]
    unfold settle
    simp only[<-hAe,hls]
    rw[hmE]
    rfl
   ·obtain⟨j,hj⟩:=An ha
    exact yy hls j a (Ah.1 hj).1 hj
  |some e=>
   obtain⟨⟨a,ha,hae,hao⟩,hmin⟩:=kp hls
   have hlt:o.seq<e:=by
    rw[Al]at hao
    have h3:=hao.1
    unfold ovr at h3
    rw[Al,decide_eq_true_iff]at h3
    have h4:o.seq<a.seq:=h3.2
    omega
   have hr':Rise (l1++{o with st:=2,c:=c}::l2):=kq (o:=o) hr rfl
   obtain⟨p,hp,hpe,_⟩:=hA1.of a ha
   obtain⟨L1,L2,hL,g1,g2⟩:=xt e (zR.1 (zw.1 hr).2.1).2
   have hpL:p∈L2:=by
    rcases Af.1 hp with h|h
    ·have:=(zw.1 hr).2.2 p h o (Aa ..);omega
    ·rcases Ad.1 h with h|h
     ·have:p.seq=o.seq:=by rw[h]
      omega
     ·rw[hL]at h
      rcases Af.1 h with h|h
      ·have:=g1 p h;omega
      ·exact h
   have hhead:∃L3,L2=p::L3:=by
    cases L2 with
    |nil=>cases hpL
    |cons q L3=>
     have:=g2 q (Aa ..)
     rcases Ad.1 hpL with h|h
     ·exact⟨L3,by rw[h]⟩
     ·have hq:=(zR.1 (zw.1 (hL▸(zR.1 (zw.1 hr).2.1).2)).2.1).1 p h
      omega
   obtain⟨L3,rfl⟩:=hhead
   subst hL
   have hbk:Bk {s with under:=l1++{o with st:=2,c:=c}::(L1++p::L3),slots:=(l1++{o with st:=2,c:=c}::(L1++p::L3)).map slot,asked:=A} m:=
    ⟨zaZ (vr hch) rfl rfl rfl,hmE,hr',rfl⟩
   have hpc:pcOf (l1++{o with st:=2,c:=c}::(L1++p::L3)) e=pE s.pc (l1++o::L1):=by
    have hr2:Rise ((l1++{o with st:=2,c:=c}::L1)++p::L3):=by simpa using hr'
    have:=zgQ hr2
    rw[hpe.symm.trans hae,List.append_assoc,Ak]at this
    rw[this]
    have hc2:Ch M s.n s.wd s.th s.pc m s.f ((l1++o::L1)++p::L3):=by simpa using hch
    exact(zad hc2).hpc
   have hb:=zaY hbk (l1:=l1++{o with st:=2,c:=c}::L1) (l2:=p::L3) (by simp) e (pcOf (l1++{o with st:=2,c:=c}::(L1++p::L3)) e) (fun q hq=>by
    rcases Af.1 hq with h|h
    ·have:=(zw.1 hr).2.2 q h o (Aa ..);omega
    ·rcases Ad.1 h with h|h
     ·have:q.seq=o.seq:=by rw[h]
      omega
     ·exact g1 q h) g2
   refine⟨L1,p::L3,rfl,⟨A.filter (fun a=>!decide (e<=a.seq)),s.bck+1,pE s.pc (l1++o::L1),true,?_,?_,.inr ⟨by simp,rfl,rfl⟩⟩,fun q hq=>cl q (Ae _ hq) fun a' ha' he'=>?_⟩
   ·rw[hfin]
    unfold settle
    simp only[<-hAe,hls]
    rw[hb,hpc]
    simp
   ·refine zkj (l2:=p::L3) (by simpa using hA1) e (fun q hq=>?_) g2
    rcases Af.1 hq with h|h
    ·have:=(zw.1 hr).2.2 q h o (Aa ..);omega
    ·rcases Ad.1 h with h|h
     ·have:q.seq=o.seq:=by rw[h]
      omega
     ·exact g1 q h
   ·cases hx:(ovr (stA o.seq c).seq a'&&Od.mt (stA o.seq c) a')with
    |false=>rfl
    |true=>
     obtain⟨j,hj⟩:=An ha'
     have:=hmin j a' (Ah.1 hj).1 hj hx
     have:=g1 q hq
     omega
 ·have hs:sts o.i=false:=by simpa using hs
  have hm0:c.many=0:=by
   rcases hc.many with h|⟨h,_⟩
   ·exact h
   ·rw[hs]at h;cases h
  refine⟨l2,[],(Aq _).symm,⟨s.asked,s.bck,s.fro,s.opn,?_,znq hA hs hl,.inl ⟨rfl,rfl,rfl⟩⟩,fun q hq=>⟨fun _ k _ hin=>?_,fun _ _ _ k _ hin=>?_⟩⟩
  ·unfold fin1
   rw[hru,hsl,hmE]
   simp only[hs]
   rfl
  ·have:=hin;unfold inC at this;rw[hm0]at this;simp at this;omega
  ·have:=hin;unfold inC at this;rw[hm0]at this;simp at this;omega
end Go.Proofs.YtpiohehijkpghacGreatDoor.Co
