/- The program's Do, of every instruction; what an instruction reads; its commit. -/
import Derived.Deep.RegionHeld3
import Derived.Deep.DrawnRows
import Derived.Laws.DeepBits32
import Derived.Shelf.Bytes.SlEqualAll
import Derived.Deep.DeepCutAuto
import Derived.Test.YtpiohehijkpghacGreatDoorE03
open Array renaming all_eq_true_iff_forall_mem->AN
open Bool renaming and_eq_true->AO
open Classical renaming byContradiction->WY
open Go renaming results_cell_row->Ai,bodyPost_ret->WZ,wpList_store_row->Ao,heap_alloc2_new->Ap,setRow_heap->Ar,wpAnyH_ready->AH,cell_of_row->AQ,wpList_load_row->AS,heap_alloc2_old->Zb,wp_region_held_drew->Zh,setRow_other->Zm,heap_alloc_last->Zq
open Go.Act renaming put->Aw
open Go.AllReadyH renaming cons->AC,nil->AE
open Go.Instr renaming index->AP
open Go.RowKit.Below renaming refl->Ae,heap_alloc->AI,setCell->Zi
open Go.Value renaming oneCell'->Zf
open Go.World renaming block_lt_of_cell?->AM
open Int renaming eq_ofNat_of_zero_le->Aq,le_refl->AL,emod_def->Zn
open List renaming setIfInBounds_toArray->Ab,mem_append_left->Ad,mem_cons_of_mem->Af,set_cons_zero->Ag,set_cons_succ->Ah,mem_append->Aj,mem_append_right->Ak,mem_cons_self->Am,mem_cons->An,mem_singleton->Au,map_append->Av,mem_filter->Ax,foldl_cons->Ay,mem_map->Az,map_cons->AA,map_congr_left->AB,nodup_cons->AD,append_assoc->AF,cons_append->AG,take_succ_cons->AJ,append_of_mem->AK,append_nil->AR,filter_eq_self->AT,range->AU,getElem?_eq_some_iff->AV,nodup_append->AW,append_inj'->AX,filter_cons_of_pos->AY,filter_eq_nil_iff->Za,eq_nil_or_concat->Zc,concat_eq_append->Zd,getElem?_of_mem->Ze,filter_append->Zj,find?_eq_none->Zk,find?_append->Zl,map_id->Zo,filter_map->Zp
open Nat renaming le_refl->Aa,testBit_two_pow_mul->AZ,pow_le_pow_right->Zg,mul_comm->Zr,le_trans->Zs
set_option maxHeartbeats 4000000
set_option maxRecDepth 100000
set_option linter.unusedSimpArgs false
set_option linter.unusedVariables false
open Go.Proofs.Tryz
namespace Go.Proofs.YtpiohehijkpghacGreatDoor.Co
open Go.RowKit
open Hy
open Wi Od Re.Hy
open Gu.Hy (Tb)
def slot(o:Dg):Sl:=(o.seq,decide (o.st=2))
structure Inv(M:Mc)(s:Cr)(m:Nat->Int):Prop where
 base:∀r,r<32->s.th (m r)=true/\s.wd (m r)=s.R r
 ch:Ch M s.n s.wd s.th s.pc m s.f s.under
 reg:mE m s.under=s.regs
 en:(s.opn=true/\s.fro=pE s.pc s.under/\∀o∈s.under,¬stp o)\/(s.opn=false/\∃l o,s.under=l++[o]/\stp o)
 dis:Dis s.phys m (tos s.under++s.free)
 cnt:32+((tos s.under++s.free).length:Int)=s.phys
 rise:Rise s.under
 low:∀o∈s.under,0<=o.seq/\o.seq<s.tak
 slo:s.slots=s.under.map slot
 ask:As s.n s.wd s.under s.asked
 lat:∀o∈s.under,0<=o.late/\o.late<=9
theorem zaD:gvs zin=0/\ra zin=0/\rb zin=0/\ldn zin.op=0/\sts zin=false:=by decide
theorem kZ{M:Mc}(hM:MOk M){n:Nat}{wd:Int->Int}{th:Int->Bool}{pc:Int}{m f:Nat->Int}{o:Dg}(h:Loc M n wd th pc m f o):o.rd<32/\ra o.i<32/\rb o.i<32:=by
 rw[h.rd]
 by_cases hz:(fet M n f pc).2=0
 ·obtain⟨x,hx⟩:=vC hz
  rw[<-h.ins]at hx
  obtain⟨h1,h2,h3,_⟩:=hM.fld hx
  refine⟨?_,?_,?_⟩
  ·unfold gvs;split<;>omega
  ·unfold ra;split<;>omega
  ·unfold rb;split<;>omega
 ·have:=za8 hz
  rw[h.ins,this,zaD.1,zaD.2.1,zaD.2.2.1]
  omega
theorem zlO{i:In}(h:sts i=true):ldn i.op=0:=by
 unfold sts at h
 simp at h
 unfold ldn
 rw[if_neg (by omega),if_neg (by omega),if_neg (by omega)]
structure CmIs(n:Nat)(i:In)(pc:Int)(c:Cm):Prop where
 many:c.many=0\/(sts i=true/\(c.many=1\/c.many=2\/c.many=4)/\0<=c.pl/\c.pl+c.many<=n)
 gives:c.st=0->c.rd=gvs i
 stops:c.st≠0->c.next=pc/\c.rd=0/\i.op≠3/\trn i=false/\c.many=0
theorem yM{M:Mc}(hM:MOk M){x:Int}{i:In}(hx:M.dcd x=some i)(n:Nat)(f:Nat->Int)(pc a b:Int):CmIs n i pc (comC M n f i pc a b):=by
 unfold comC
 split
 ·rename_i h0
  have hop:¬i.op=3/\¬(4<=i.op/\i.op<=10)/\i.op≠46:=by
   unfold ldn at h0
   by_cases h1:i.op=11\/i.op=14
   ·omega
   ·by_cases h2:i.op=12\/i.op=15
    ·omega
    ·by_cases h3:i.op=13
     ·omega
     ·rw[if_neg h1,if_neg h2,if_neg h3]at h0;exact absurd rfl h0
  unfold qf
  split
  ·exact⟨.inl rfl,λ_=>by unfold gvs;rw[if_neg hop.2.2];rfl,λh=>absurd rfl h⟩
  ·exact⟨.inl rfl,λh=>absurd (show(2:Int)=0 from h) (by decide),λ_=>⟨rfl,rfl,hop.1,by simp[trn,hop.2.1],rfl⟩⟩
 ·rename_i h0
  have h0:ldn i.op=0:=by simpa using h0
  exact⟨hM.many pc a b n hx h0,hM.gives pc a b n hx h0,hM.stops pc a b n hx h0⟩
theorem zca(n:Nat)(i:In)(pc k:Int)(h3:i.op≠3)(ht:trn i=false):CmIs n i pc (qn pc k):=⟨.inl rfl,λh=>absurd (show(2:Int)=0 from h) (by decide),λ_=>⟨rfl,rfl,h3,ht,rfl⟩⟩
theorem zkP{M:Mc}(hM:MOk M){n:Nat}{wd:Int->Int}{th:Int->Bool}{pc:Int}{m f:Nat->Int}{o:Dg}(h:Loc M n wd th pc m f o)(h2:o.st=2):CmIs n o.i pc o.c:=by
 by_cases hz:(fet M n f pc).2=0
 ·obtain⟨x,hx⟩:=vC hz
  rw[<-h.ins]at hx
  rw[h.com h2 hz]
  exact yM hM hx _ _ _ _ _
 ·have e:=za8 hz
  rw[(h.bad hz).2,h.ins,e]
  exact zca _ _ _ _ (by decide) (by decide)
theorem CmIs.ok{n:Nat}{o:Dg}{pc:Int}(h:CmIs n o.i pc o.c):cmOk o:=λ_=>by
 rcases h.many with h|⟨h1,h2,h3,_⟩
 ·exact .inl h
 ·exact .inr ⟨h1,h2,h3⟩
theorem zap{M:Mc}{n:Nat}{wd:Int->Int}{th:Int->Bool}{pc:Int}{m f:Nat->Int}{l1 l2:List Dg}{o:Dg}(h:Ch M n wd th pc m f (l1++o::l2)):Loc M n wd th (pE pc l1) (mE m l1) (fE f l1) o:=(jM.1 h).2.2.1
theorem xf{M:Mc}{n:Nat}{wd:Int->Int}{th:Int->Bool}{pc:Int}{m f:Nat->Int}{l:List Dg}{o:Dg}(h:Ch M n wd th pc m f l)(ho:o∈l):∃l1 l2,l=l1++o::l2/\Loc M n wd th (pE pc l1) (mE m l1) (fE f l1) o:=by
 obtain⟨l1,l2,rfl⟩:=AK ho
 exact⟨l1,l2,rfl,zap h⟩
theorem zeu{M:Mc}(hM:MOk M){n:Nat}{wd:Int->Int}{th:Int->Bool}{pc:Int}{m f:Nat->Int}{l:List Dg}(h:Ch M n wd th pc m f l):∀o∈l,o.rd<32:=λo ho=>by
 obtain⟨_,_,_,hl⟩:=xf h ho
 exact(kZ hM hl).1
theorem zkQ{M:Mc}(hM:MOk M){n:Nat}{wd:Int->Int}{th:Int->Bool}{pc:Int}{m f:Nat->Int}{l:List Dg}(h:Ch M n wd th pc m f l):∀o∈l,cmOk o:=λo ho h2=>by
 obtain⟨_,_,_,hl⟩:=xf h ho
 exact(zkP hM hl h2).ok h2
theorem zev{M:Mc}(hM:MOk M){n:Nat}{wd:Int->Int}{th:Int->Bool}{pc:Int}{m f:Nat->Int}{l1 l2:List Dg}{o:Dg}(h:Ch M n wd th pc m f (l1++o::l2)):((∃r,r<32/\o.a=m r)\/o.a∈tos l1)/\((∃r,r<32/\o.b=m r)\/o.b∈tos l1):=by
 have hl:=zap h
 obtain⟨_,h2,h3⟩:=kZ hM hl
 rw[hl.a,hl.b]
 refine⟨?_,?_⟩
 ·rcases za7 l1 m (ra o.i)with⟨r,rfl,e⟩|e
  ·exact .inl ⟨_,h2,e⟩
  ·exact .inr e
 ·rcases za7 l1 m (rb o.i)with⟨r,rfl,e⟩|e
  ·exact .inl ⟨_,h3,e⟩
  ·exact .inr e
def Olds:(Nat->Int)->List Dg->Prop
 |_,[]=>True
 |m,o::l=>(o.rd≠0->o.old=m o.rd)/\Olds (nm m o) l
theorem vE{M:Mc}{n:Nat}{wd:Int->Int}{th:Int->Bool}:∀{l:List Dg} {pc:Int} {m f:Nat->Int},Ch M n wd th pc m f l->Olds m l
 |[],_,_,_,_=>trivial
 |o::l,pc,m,f,h=>⟨h.1.old,vE h.2.2⟩
theorem xx:∀{l1 l2:List Dg} {m:Nat->Int},Olds m (l1++l2)↔Olds m l1/\Olds (mE m l1) l2
 |[],l2,m=>by simp[Olds,mE]
 |o::l1,l2,m=>by
  have ih:=xx (l1:=l1) (l2:=l2) (m:=nm m o)
  have e2:mE m (o::l1)=mE (nm m o) l1:=rfl
  rw[AG,e2]
  show(_/\Olds (nm m o) (l1++l2))↔(_/\Olds (nm m o) l1)/\_
  rw[ih,and_assoc]
theorem zcb:∀{t:List Dg} {m:Nat->Int} {fr:List Int},Olds m t->undo (mE m t) fr t=(m,tos t++fr)
 |[],m,fr,_=>rfl
 |o::t,m,fr,h=>by
  have e2:mE m (o::t)=mE (nm m o) t:=rfl
  have ih:=zcb (fr:=fr) h.2
  rw[e2,zT]
  unfold undo
  rw[ih]
  by_cases h0:o.rd=0
  ·simp[h0,nm]
  ·have:=h.1 h0
   simp only[h0,if_false,nm]
   rw[zfm,znG,this,znH]
   rfl
structure Bk(s:Cr)(m:Nat->Int):Prop where
 olds:Olds m s.under
 reg:mE m s.under=s.regs
 rise:Rise s.under
 slo:s.slots=s.under.map slot
theorem xg{p:Dg->Bool}{l1 l2:List Dg}(h1:∀o∈l1,p o=false)(h2:∀o∈l2,p o=true):(l1++l2).filter p=l2/\(l1++l2).filter (λo=>!p o)=l1:=by
 rw[Zj,Zj]
 refine⟨?_,?_⟩
 ·rw[Za.2 (λo ho=>by simp[h1 o ho]),AT.2 h2];rfl
 ·rw[AT.2 (λo ho=>by simp[h1 o ho]),Za.2 (λo ho=>by simp[h2 o ho]),AR]
theorem zbb{s:Cr}{m:Nat->Int}(h:Bk s m){l1 l2:List Dg}(hu:s.under=l1++l2)(q pc:Int)(h1:∀o∈l1,o.seq<q)(h2:∀o∈l2,q<=o.seq):
  back s q pc={s with regs:=mE m l1,free:=tos l2++s.free,slots:=l1.map slot,under:=l1,asked:=s.asked.filter (λa=>!decide (q<=a.seq)),bck:=if l2=[]then s.bck else s.bck+1,fro:=pc,opn:=true}:=by
 have f1:=xg (p:=λo=>decide (q<=o.seq)) (l1:=l1) (l2:=l2) (λo ho=>by have:=h1 o ho;simp;omega) (λo ho=>by have:=h2 o ho;simp;omega)
 have ho:Olds (mE m l1) l2:=(xx.1 (hu▸h.olds)).2
 have hr:s.regs=mE (mE m l1) l2:=by rw[<-h.reg,hu,kD]
 have hs:vo s.slots q=l1.map slot:=by
  rw[h.slo,hu]
  unfold vo
  rw[Zp]
  exact congrArg _ f1.2
 have hc:cutS s.slots q=[]↔l2=[]:=by
  rw[h.slo,hu]
  unfold cutS
  rw[Zp]
  have:(l1++l2).filter ((λq':Sl=>decide (q<=q'.1))∘slot)=l2:=f1.1
  rw[this]
  simp
 unfold back
 rw[hs,hu,f1.1,f1.2,hr,zcb ho]
 by_cases e:l2=[]
 ·simp[hc.2 e,e]
 ·simp[mt hc.1 e,e]
theorem xy:∀{l:List Dg} (q:Int),Rise l->∃l1 l2,l=l1++l2/\(∀o∈l1,o.seq<q)/\∀o∈l2,q<=o.seq
 |[],q,_=>⟨[],[],rfl,λo h=>(nomatch h),λo h=>(nomatch h)⟩
 |o::l,q,h=>by
  obtain⟨h1,h2⟩:=zV.1 h
  by_cases e:o.seq<q
  ·obtain⟨l1,l2,rfl,g1,g2⟩:=xy q h2
   refine⟨o::l1,l2,rfl,λp hp=>?_,g2⟩
   rcases An.1 hp with rfl|hp
   ·exact e
   ·exact g1 p hp
  ·refine⟨[],o::l,rfl,λp hp=>(nomatch hp),λp hp=>?_⟩
   rcases An.1 hp with rfl|hp
   ·omega
   ·have:=h1 p hp;omega
theorem yN{l:List Ac}{s:Ac}:∀{k:Nat},lst l s k=none->∀j a,j<k->l[j]?=some a->(ovr s.seq a&&Od.mt s a)=false
 |0,_,j,a,hj,_=>absurd hj (by omega)
 |k+1,h,j,a,hj,ha=>by
  unfold lst at h
  split at h
  ·rename_i hk
   by_cases e:j=k
   ·subst e;rw[hk]at ha;cases ha
   ·exact yN h j a (by omega) ha
  ·rename_i b hb
   split at h
   ·cases h
   ·rename_i hc
    rw[h]at hc
    by_cases e:j=k
    ·subst e
     rw[hb]at ha
     cases ha
     cases hx:ovr s.seq a&&Od.mt s a with
     |false=>rfl
     |true=>rw[hx]at hc;exact absurd rfl hc
    ·exact yN h j a (by omega) ha
theorem kE{l:List Ac}{s:Ac}:∀{k:Nat} {e:Int},lst l s k=some e->(∃a∈l,a.seq=e/\(ovr s.seq a&&Od.mt s a)=true)/\∀j a,j<k->l[j]?=some a->(ovr s.seq a&&Od.mt s a)=true->e<=a.seq
 |0,e,h=>by cases h
 |k+1,e,h=>by
  unfold lst at h
  split at h
  ·rename_i hk
   obtain⟨h1,h2⟩:=kE h
   refine⟨h1,λj a hj ha hc=>?_⟩
   by_cases e':j=k
   ·subst e';rw[hk]at ha;cases ha
   ·exact h2 j a (by omega) ha hc
  ·rename_i b hb
   split at h
   ·rename_i hc
    cases h
    rw[AO]at hc
    refine⟨⟨b,List.mem_of_getElem? hb,rfl,hc.1⟩,λj a hj ha hx=>?_⟩
    by_cases e':j=k
    ·subst e';rw[hb]at ha;cases ha;exact AL _
    ·cases hl:lst l s k with
     |none=>have:=yN hl j a (by omega) ha;rw[this]at hx;cases hx
     |some y=>
      have:=(kE hl).2 j a (by omega) ha hx
      have h3:=hc.2
      rw[hl]at h3
      simp[bef]at h3
      omega
   ·rename_i hc
    obtain⟨h1,h2⟩:=kE h
    refine⟨h1,λj a hj ha hx=>?_⟩
    by_cases e':j=k
    ·subst e'
     rw[hb]at ha
     cases ha
     rw[h,hx]at hc
     simp[bef]at hc
     exact hc
    ·exact h2 j a (by omega) ha hx
theorem vF{l1 l2:List Dg}{o:Dg}(h:Rise (l1++o::l2))(g:Dg->Dg):putO (l1++o::l2) o.seq g=l1++g o::l2:=by
 obtain⟨h1,h2,h3⟩:=zy.1 h
 obtain⟨h4,_⟩:=zV.1 h2
 unfold putO
 rw[Av,AA]
 have e1:l1.map (λp=>if p.seq=o.seq then g p else p)=l1:=by
  rw[AB (g:=id) (λp hp=>by have:=h3 p hp o (Am ..);rw[if_neg (by omega)];rfl),Zo]
 have e2:l2.map (λp=>if p.seq=o.seq then g p else p)=l2:=by
  rw[AB (g:=id) (λp hp=>by have:=h4 p hp;rw[if_neg (by omega)];rfl),Zo]
 rw[e1,e2,if_pos rfl]
theorem zdb{l1 l2:List Dg}{o o':Dg}(h:Rise (l1++o::l2))(hs:slot o'=(o.seq,true)):donS ((l1++o::l2).map slot) o.seq=(l1++o'::l2).map slot:=by
 obtain⟨h1,h2,h3⟩:=zy.1 h
 obtain⟨h4,_⟩:=zV.1 h2
 unfold donS
 rw[List.map_map,Av,AA,Av,AA,hs]
 congr 1
 ·refine AB λp hp=>?_
  have:=h3 p hp o (Am ..)
  show(if p.seq=o.seq then _ else _)=_
  rw[if_neg (by omega)]
 ·congr 1
  ·show(if o.seq=o.seq then(o.seq,true)else _)=_
   rw[if_pos rfl]
  ·refine AB λp hp=>?_
   have:=h4 p hp
   show(if p.seq=o.seq then _ else _)=_
   rw[if_neg (by omega)]
theorem kF{l1 l2:List Dg}{o o':Dg}(h:Rise (l1++o::l2))(e:o'.seq=o.seq):Rise (l1++o'::l2):=by
 unfold Rise at*
 rw[Av,AA]at*
 rw[e]
 exact h
theorem zhc{l:List Dg}{o o':Dg}{m:Nat->Int}(h1:o'.rd=o.rd)(h2:o'.to=o.to):mE m (o'::l)=mE m (o::l):=by
 show mE (nm m o') l=mE (nm m o) l
 unfold nm
 rw[h1,h2]
theorem zdc{l:List Dg}{o o':Dg}(h1:o'.rd=o.rd)(h2:o'.to=o.to):tos (o'::l)=tos (o::l):=by
 rw[zT,zT,h1,h2]
theorem zbc{l1 l2:List Dg}{o o':Dg}{m:Nat->Int}(h:Olds m (l1++o::l2))(h1:o'.rd=o.rd)(h2:o'.to=o.to)(h3:o'.old=o.old):Olds m (l1++o'::l2):=by
 rw[xx]at*
 refine⟨h.1,λh0=>by rw[h3,h1];exact h.2.1 (by rw[<-h1];exact h0),?_⟩
 have:=h.2.2
 have e:nm (mE m l1) o'=nm (mE m l1) o:=by unfold nm;rw[h1,h2]
 rw[e]
 exact this
def inC(c:Cm)(x:Nat):Prop:=c.pl.toNat<=x/\x<c.pl.toNat+c.many.toNat
def znW(n:Nat)(wd:Int->Int)(c:Cm)(o:Dg):Prop:=
 (fits n o.pc 4=true->∀k,k<4->¬inC c (o.pc.toNat+k))/\(o.st=2->ldn o.i.op≠0->fits n (place o.i (wd o.a)) (ldn o.i.op)=true->∀k:Nat,(k:Int)<ldn o.i.op->¬inC c ((place o.i (wd o.a)).toNat+k))
theorem zhd{q x many y:Int}{c:Cm}{seq:Int}(hm:c.many=0\/((c.many=1\/c.many=2\/c.many=4)/\0<=c.pl))(hq:q<seq)(hmany:0<=many/\many<=4)(h:(ovr (stA q c).seq (ldA seq x many)&&Od.mt (stA q c) (ldA seq x many))=false)(k:Nat)(hk:(k:Int)<many)(hx:0<=x):¬inC c (x.toNat+k):=by
 intro⟨h1,h2⟩
 have e1:Od.hs (stA q c) (x+k)=true:=(zlM (by omega)).2 (by rcases hm with hm|hm<;>omega)
 have e2:Od.hs (ldA seq x many) (x+k)=true:=by
  unfold Od.hs Od.wd
  apply decide_eq_true
  show x<=x+k/\x+k<x+(if many<0 then 0 else if 4<many then 4 else many)
  rw[if_neg (by omega),if_neg (by omega)]
  omega
 have e3:=znC e1 e2
 have e4:ovr (stA q c).seq (ldA seq x many)=true:=by
  show(true&&true&&true&&decide (q<seq))=true
  simp[hq]
 rw[e3,e4]at h
 cases h
theorem jA{n:Nat}{x many:Int}(h:fits n x many=true):0<=x/\x%many=0/\x+many<=n:=by simpa[fits]using h
theorem zhe(i:In)(a:Int):0<=place i a/\place i a<4294967296:=by unfold place;omega
structure Fin1(M:Mc)(s:Cr)(m:Nat->Int)(l1 l2:List Dg)(o:Dg)(c:Cm)(l2' l3:List Dg)(t:Cr):Prop where
 split:l2=l2'++l3
 is:∃A B F P,t={s with under:=l1++{o with st:=2,c:=c}::l2',slots:=(l1++{o with st:=2,c:=c}::l2').map slot,regs:=mE m (l1++{o with st:=2,c:=c}::l2'),free:=tos l3++s.free,asked:=A,bck:=B,fro:=F,opn:=P}/\As s.n s.wd (l1++{o with st:=2,c:=c}::l2') A/\
  ((l3=[]/\F=s.fro/\P=s.opn)\/(l3≠[]/\P=true/\F=pE s.pc (l1++o::l2')))
 clear:∀q∈l2',znW s.n s.wd c q
theorem znX{n:Nat}{wd:Int->Int}{l1 l2:List Dg}{o:Dg}{c:Cm}{k:List Ac}(A:As n wd (l1++o::l2) k)(hs:sts o.i=false)(hl:ldn o.i.op≠0->fits n (place o.i (wd o.a)) (ldn o.i.op)=true->ldA o.seq (place o.i (wd o.a)) (ldn o.i.op)∈k):As n wd (l1++{o with st:=2,c:=c}::l2) k:=by
 have mem:∀p,p∈l1++{o with st:=2,c:=c}::l2->p={o with st:=2,c:=c}\/(p∈l1++o::l2):=λp hp=>by
  rcases Aj.1 hp with h|h
  ·exact .inr (Ad _ h)
  ·rcases An.1 h with h|h
   ·exact .inl h
   ·exact .inr (Ak _ (Af _ h))
 have hom:o∈l1++o::l2:=by simp
 refine⟨λq hq=>?_,λp hp=>?_,λp hp h=>?_,λp hp h1 h2 h3=>?_⟩
 ·obtain⟨p,hp,e,he⟩:=A.of q hq
  by_cases hpo:p∈l1\/p∈l2
  ·refine⟨p,?_,e,he⟩
   rcases hpo with h|h
   ·exact Ad _ h
   ·exact Ak _ (Af _ h)
  ·have:p=o:=by
    rcases Aj.1 hp with h|h
    ·exact absurd (.inl h) hpo
    ·rcases An.1 h with h|h
     ·exact h
     ·exact absurd (.inr h) hpo
   subst this
   refine⟨_,Ak _ (Am ..),e,λh=>?_⟩
   have:=(he h).1
   rw[hs]at this
   cases this
 ·rcases mem p hp with rfl|h
  ·exact A.own o hom
  ·exact A.own p h
 ·rcases mem p hp with rfl|h'
  ·have h:sts o.i=true:=h
   rw[hs]at h;cases h
  ·exact A.sto p h' h
 ·rcases mem p hp with rfl|h'
  ·exact hl h2 h3
  ·exact A.lod p h' h1 h2 h3
theorem znY{n:Nat}{wd:Int->Int}{l1 l2:List Dg}{o:Dg}{c:Cm}{k:List Ac}(A:As n wd (l1++o::l2) k)(hr:Rise (l1++o::l2))(hs:sts o.i=true):As n wd (l1++{o with st:=2,c:=c}::l2) (setA k o.seq (stA o.seq c)):=by
 have mem:∀p,p∈l1++{o with st:=2,c:=c}::l2->p={o with st:=2,c:=c}\/(p∈l1++o::l2/\p.seq≠o.seq):=λp hp=>by
  obtain⟨h1,h2,h3⟩:=zy.1 hr
  obtain⟨h4,_⟩:=zV.1 h2
  rcases Aj.1 hp with h|h
  ·exact .inr ⟨Ad _ h,by have:=h3 p h o (Am ..);omega⟩
  ·rcases An.1 h with h|h
   ·exact .inl h
   ·exact .inr ⟨Ak _ (Af _ h),by have:=h4 p h;omega⟩
 have hom:o∈l1++o::l2:=by simp
 have keep:∀a∈k,¬(a.st=true/\a.seq=o.seq)->a∈setA k o.seq (stA o.seq c):=λa ha hn=>by
  unfold setA
  exact Az.2 ⟨a,ha,if_neg hn⟩
 refine⟨λq hq=>?_,λp hp=>?_,λp hp h=>?_,λp hp h1 h2 h3=>?_⟩
 ·unfold setA at hq
  obtain⟨a,ha,rfl⟩:=Az.1 hq
  by_cases hc:a.st=true/\a.seq=o.seq
  ·rw[if_pos hc]
   refine⟨_,Ak _ (Am ..),rfl,λ_=>⟨hs,?_⟩⟩
   unfold entA
   exact(if_pos rfl).symm
  ·rw[if_neg hc]
   obtain⟨p,hp,e,he⟩:=A.of a ha
   by_cases hpo:p∈l1\/p∈l2
   ·refine⟨p,?_,e,he⟩
    rcases hpo with h|h
    ·exact Ad _ h
    ·exact Ak _ (Af _ h)
   ·have:p=o:=by
     rcases Aj.1 hp with h|h
     ·exact absurd (.inl h) hpo
     ·rcases An.1 h with h|h
      ·exact h
      ·exact absurd (.inr h) hpo
    subst this
    exact⟨_,Ak _ (Am ..),e,λh=>absurd ⟨h,e⟩ hc⟩
 ·rcases mem p hp with rfl|⟨h,hne⟩
  ·exact keep _ (A.own o hom) (λh=>by cases h.1)
  ·exact keep _ (A.own p h) (λh=>by cases h.1)
 ·rcases mem p hp with rfl|⟨h',hne⟩
  ·have h0:=A.sto o hom hs
   unfold setA
   refine Az.2 ⟨_,h0,?_⟩
   rw[if_pos (by unfold entA;split<;>exact⟨rfl,rfl⟩)]
   unfold entA
   exact(if_pos rfl).symm
  ·refine keep _ (A.sto p h' h) (λhh=>hne ?_)
   have:=hh.2
   unfold entA at this
   split at this<;>exact this
 ·rcases mem p hp with rfl|⟨h',hne⟩
  ·have h2:ldn o.i.op≠0:=h2
   exact absurd (zlO hs) h2
  ·exact keep _ (A.lod p h' h1 h2 h3) (λh=>by cases h.1)
theorem zkR{n:Nat}{wd:Int->Int}{l1 l2:List Dg}{k:List Ac}(A:As n wd (l1++l2) k)(q:Int)(h1:∀o∈l1,o.seq<q)(h2:∀o∈l2,q<=o.seq):As n wd l1 (k.filter (λa=>!decide (q<=a.seq))):=by
 have keep:∀a∈k,a.seq<q->a∈k.filter (λa=>!decide (q<=a.seq)):=λa ha hn=>Ax.2 ⟨ha,by simp;omega⟩
 refine⟨λa ha=>?_,λp hp=>keep _ (A.own p (Ad _ hp)) (h1 p hp),λp hp h=>keep _ (A.sto p (Ad _ hp) h) ?_,λp hp g1 g2 g3=>keep _ (A.lod p (Ad _ hp) g1 g2 g3) (h1 p hp)⟩
 ·obtain⟨ha,hq⟩:=Ax.1 ha
  obtain⟨p,hp,e,he⟩:=A.of a ha
  simp at hq
  rcases Aj.1 hp with h|h
  ·exact⟨p,h,e,he⟩
  ·have:=h2 p h;omega
 ·unfold entA
  split<;>exact h1 p hp
theorem zhf{l1 l2:List Dg}{o:Dg}(h:Rise (l1++o::l2)):pcOf (l1++o::l2) o.seq=o.pc:=by
 unfold pcOf
 obtain⟨h1,h2,h3⟩:=zy.1 h
 rw[Zl,Zk.2 (λp hp=>by have:=h3 p hp o (Am ..);simp;omega)]
 simp
theorem zlP{M:Mc}(hM:MOk M){s:Cr}{m:Nat->Int}(I:Inv M s m){l1 l2:List Dg}{o:Dg}(hu:s.under=l1++o::l2)(h2:o.st≠2){c:Cm}(hc:CmIs s.n o.i o.pc c)
  (hl:ldn o.i.op≠0->fits s.n (place o.i (s.wd o.a)) (ldn o.i.op)=true->ldA o.seq (place o.i (s.wd o.a)) (ldn o.i.op)∈s.asked):
  ∃l2' l3,Fin1 M s m l1 l2 o c l2' l3 (fin1 s o c):=by
 have hr:Rise (l1++o::l2):=hu▸I.rise
 have hA:As s.n s.wd (l1++o::l2) s.asked:=hu▸I.ask
 have hch:Ch M s.n s.wd s.th s.pc m s.f (l1++o::l2):=hu▸I.ch
 have hru:putO s.under o.seq (λo=>{o with st:=2,c:=c})=l1++{o with st:=2,c:=c}::l2:=by rw[hu];exact vF hr _
 have hsl:donS s.slots o.seq=(l1++{o with st:=2,c:=c}::l2).map slot:=by
  rw[I.slo,hu]
  exact zdb hr (by show(o.seq,decide ((2:Int)=2))=_;rfl)
 have hmE:mE m (l1++{o with st:=2,c:=c}::l2)=s.regs:=by
  rw[<-I.reg,hu,kD,kD]
  exact zhc rfl rfl
 by_cases hs:sts o.i=true
 ·obtain⟨A,hAe⟩:∃A,A=setA s.asked o.seq (stA o.seq c):=⟨_,rfl⟩
  have hA1:=znY (c:=c) hA hr hs
  rw[<-hAe]at hA1
  have hcm:c.many=0\/((c.many=1\/c.many=2\/c.many=4)/\0<=c.pl):=by
   rcases hc.many with h|⟨_,h,h',_⟩
   ·exact .inl h
   ·exact .inr ⟨h,h'⟩
  have cl:∀q∈l2,(∀a∈A,a.seq=q.seq->(ovr (stA o.seq c).seq a&&Od.mt (stA o.seq c) a)=false)->znW s.n s.wd c q:=by
   intro q hq hno
   have hlt:o.seq<q.seq:=(zV.1 (zy.1 hr).2.1).1 q hq
   have hqm:q∈l1++{o with st:=2,c:=c}::l2:=Ak _ (Af _ hq)
   refine⟨λhf k hk=>?_,λg2 g0 hf k hk=>?_⟩
   ·exact zhd (seq:=q.seq) (many:=4) (y:=0) hcm hlt (by omega) (hno _ (hA1.own q hqm) rfl) k (by omega) (jA hf).1
   ·exact zhd (seq:=q.seq) (y:=0) hcm hlt (yw _) (hno _ (hA1.lod q hqm g2 g0 hf) rfl) k hk (zhe _ _).1
  have hfin:fin1 s o c=settle {s with under:=l1++{o with st:=2,c:=c}::l2,slots:=(l1++{o with st:=2,c:=c}::l2).map slot} o.seq c:=by
   unfold fin1
   rw[hru,hsl]
   simp only[hs,if_true]
  cases hls:lst A (stA o.seq c) A.length with
  |none=>
   refine⟨l2,[],(AR _).symm,⟨A,s.bck,s.fro,s.opn,?_,hA1,.inl ⟨rfl,rfl,rfl⟩⟩,λq hq=>cl q hq λa ha _=>?_⟩
   ·rw[hfin]
    unfold settle
    simp only[<-hAe,hls]
    rw[hmE]
    rfl
   ·obtain⟨j,hj⟩:=Ze ha
    exact yN hls j a (AV.1 hj).1 hj
  |some e=>
   obtain⟨⟨a,ha,hae,hao⟩,hmin⟩:=kE hls
   have hlt:o.seq<e:=by
    rw[AO]at hao
    have h3:=hao.1
    unfold ovr at h3
    rw[AO,decide_eq_true_iff]at h3
    have h4:o.seq<a.seq:=h3.2
    omega
   have hr':Rise (l1++{o with st:=2,c:=c}::l2):=kF (o:=o) hr rfl
   obtain⟨p,hp,hpe,_⟩:=hA1.of a ha
   obtain⟨L1,L2,hL,g1,g2⟩:=xy e (zV.1 (zy.1 hr).2.1).2
   have hpL:p∈L2:=by
    rcases Aj.1 hp with h|h
    ·have:=(zy.1 hr).2.2 p h o (Am ..);omega
    ·rcases An.1 h with h|h
     ·have:p.seq=o.seq:=by rw[h]
      omega
     ·rw[hL]at h
      rcases Aj.1 h with h|h
      ·have:=g1 p h;omega
      ·exact h
   have hhead:∃L3,L2=p::L3:=by
    cases L2 with
    |nil=>cases hpL
    |cons q L3=>
     have:=g2 q (Am ..)
     rcases An.1 hpL with h|h
     ·exact⟨L3,by rw[h]⟩
     ·have hq:=(zV.1 (zy.1 (hL▸(zV.1 (zy.1 hr).2.1).2)).2.1).1 p h
      omega
   obtain⟨L3,rfl⟩:=hhead
   subst hL
   have hbk:Bk {s with under:=l1++{o with st:=2,c:=c}::(L1++p::L3),slots:=(l1++{o with st:=2,c:=c}::(L1++p::L3)).map slot,asked:=A} m:=
    ⟨zbc (vE hch) rfl rfl rfl,hmE,hr',rfl⟩
   have hpc:pcOf (l1++{o with st:=2,c:=c}::(L1++p::L3)) e=pE s.pc (l1++o::L1):=by
    have hr2:Rise ((l1++{o with st:=2,c:=c}::L1)++p::L3):=by simpa using hr'
    have:=zhf hr2
    rw[hpe.symm.trans hae,AF,AG]at this
    rw[this]
    have hc2:Ch M s.n s.wd s.th s.pc m s.f ((l1++o::L1)++p::L3):=by simpa using hch
    exact(zap hc2).hpc
   have hb:=zbb hbk (l1:=l1++{o with st:=2,c:=c}::L1) (l2:=p::L3) (by simp) e (pcOf (l1++{o with st:=2,c:=c}::(L1++p::L3)) e) (λq hq=>by
    rcases Aj.1 hq with h|h
    ·have:=(zy.1 hr).2.2 q h o (Am ..);omega
    ·rcases An.1 h with h|h
     ·have:q.seq=o.seq:=by rw[h]
      omega
     ·exact g1 q h) g2
   refine⟨L1,p::L3,rfl,⟨A.filter (λa=>!decide (e<=a.seq)),s.bck+1,pE s.pc (l1++o::L1),true,?_,?_,.inr ⟨by simp,rfl,rfl⟩⟩,λq hq=>cl q (Ad _ hq) λa' ha' he'=>?_⟩
   ·rw[hfin]
    unfold settle
    simp only[<-hAe,hls]
    rw[hb,hpc]
    simp
   ·refine zkR (l2:=p::L3) (by simpa using hA1) e (λq hq=>?_) g2
    rcases Aj.1 hq with h|h
    ·have:=(zy.1 hr).2.2 q h o (Am ..);omega
    ·rcases An.1 h with h|h
     ·have:q.seq=o.seq:=by rw[h]
      omega
     ·exact g1 q h
   ·cases hx:(ovr (stA o.seq c).seq a'&&Od.mt (stA o.seq c) a')with
    |false=>rfl
    |true=>
     obtain⟨j,hj⟩:=Ze ha'
     have:=hmin j a' (AV.1 hj).1 hj hx
     have:=g1 q hq
     omega
 ·have hs:sts o.i=false:=by simpa using hs
  have hm0:c.many=0:=by
   rcases hc.many with h|⟨h,_⟩
   ·exact h
   ·rw[hs]at h;cases h
  refine⟨l2,[],(AR _).symm,⟨s.asked,s.bck,s.fro,s.opn,?_,znX hA hs hl,.inl ⟨rfl,rfl,rfl⟩⟩,λq hq=>⟨λ_ k _ hin=>?_,λ_ _ _ k _ hin=>?_⟩⟩
  ·unfold fin1
   rw[hru,hsl,hmE]
   simp only[hs]
   rfl
  ·have:=hin;unfold inC at this;rw[hm0]at this;simp at this;omega
  ·have:=hin;unfold inC at this;rw[hm0]at this;simp at this;omega
theorem zjw{n:Nat}{wd wd':Int->Int}{l:List Dg}{k:List Ac}(A:As n wd l k)(h:∀o∈l,o.st=2->ldn o.i.op≠0->wd' o.a=wd o.a):As n wd' l k:=
 ⟨A.of,A.own,A.sto,λo ho h1 h2 h3=>by
  rw[h o ho h1 h2]at h3⊢
  exact A.lod o ho h1 h2 h3⟩
def wdF(wd:Int->Int)(o:Dg)(c:Cm):Int->Int:=if c.rd=0 then wd else upI wd o.to c.val
def thF(th:Int->Bool)(o:Dg)(c:Cm):Int->Bool:=if c.rd=0 then th else upB th o.to true
theorem zdd{wd:Int->Int}{o:Dg}{c:Cm}{x:Int}(h:x≠o.to):wdF wd o c x=wd x:=by
 unfold wdF upI;split
 ·rfl
 ·exact if_neg h
theorem zde{th:Int->Bool}{o:Dg}{c:Cm}{x:Int}(h:x≠o.to):thF th o c x=th x:=by
 unfold thF upB;split
 ·rfl
 ·exact if_neg h
theorem jY(s:Cr)(o:Dg)(c:Cm):jc s o c={s with wd:=wdF s.wd o c,th:=thF s.th o c}:=by
 unfold jc wdF thF
 split<;>rfl
theorem ya{M:Mc}{s:Cr}{m:Nat->Int}(I:Inv M s m){l1 l2:List Dg}{o:Dg}(hu:s.under=l1++o::l2):Ch M s.n s.wd s.th s.pc m s.f (l1++o::l2):=hu▸I.ch
theorem zdf{M:Mc}{s:Cr}{m:Nat->Int}(I:Inv M s m){l1 l2:List Dg}{o:Dg}(hu:s.under=l1++o::l2):Dis s.phys m (tos (l1++o::l2)++s.free):=hu▸I.dis
theorem kG{M:Mc}(hM:MOk M){s:Cr}{m:Nat->Int}(I:Inv M s m){l1 l2:List Dg}{o:Dg}(hu:s.under=l1++o::l2)(hrd:o.rd≠0):o.to∉tos l1/\o.to∉tos l2/\o.to∉s.free/\∀r,r<32->m r≠o.to:=by
 have d:=zdf I hu
 have hn:=d.nod
 rw[qj,zT,if_neg hrd,AF,AW]at hn
 obtain⟨_,h2,h3⟩:=hn
 rw[AG,AD]at h2
 refine⟨λh=>h3 _ h _ (by simp) rfl,λh=>h2.1 (Ad _ h),λh=>h2.1 (Ak _ h),λr hr e=>d.apart r hr ?_⟩
 rw[e,qj,zT,if_neg hrd]
 simp
theorem zjx{M:Mc}(hM:MOk M){s:Cr}{m:Nat->Int}(I:Inv M s m){l1 l2:List Dg}{o:Dg}(hu:s.under=l1++o::l2){p1 p2:List Dg}{q:Dg}(hp:l1++o::l2=p1++q::p2)(hsub:∀x,x∈tos p1->x∈tos l1)(hrd:o.rd≠0):q.a≠o.to/\q.b≠o.to:=by
 have hch:=ya I hu
 rw[hp]at hch
 obtain⟨ha,hb⟩:=zev hM hch
 obtain⟨n1,_,_,n4⟩:=kG hM I hu hrd
 refine⟨?_,?_⟩
 ·rcases ha with⟨r,hr,e⟩|e
  ·rw[e];exact n4 r hr
  ·exact λh=>n1 (hsub _ (h▸e))
 ·rcases hb with⟨r,hr,e⟩|e
  ·rw[e];exact n4 r hr
  ·exact λh=>n1 (hsub _ (h▸e))
theorem inv_of{M:Mc}(hM:MOk M){s:Cr}{m:Nat->Int}(I:Inv M s m){l1 l2:List Dg}{o:Dg}(hu:s.under=l1++o::l2){c:Cm}(h2:o.st≠2)(hth:s.th o.a=true/\s.th o.b=true)(hc:c=comC M s.n (fE s.f l1) o.i o.pc (s.wd o.a) (s.wd o.b)){l2' l3:List Dg}(hl:l2=l2'++l3){A:List Ac}{B F:Int}{P:Bool}{t:Cr}
  (ht:t={s with under:=l1++{o with st:=2,c:=c}::l2',slots:=(l1++{o with st:=2,c:=c}::l2').map slot,regs:=mE m (l1++{o with st:=2,c:=c}::l2'),free:=tos l3++s.free,asked:=A,bck:=B,fro:=F,opn:=P,wd:=wdF s.wd o c,th:=thF s.th o c})
  (hA:As s.n s.wd (l1++{o with st:=2,c:=c}::l2') A)
  (hch2:Ch M s.n (wdF s.wd o c) (thF s.th o c) c.next (nm (mE m l1) o) (stoC (fE s.f l1) c) l2')
  (hst:c.st≠0->l2'=[])
  (hw2:∀q∈l2',q.st=2->ldn q.i.op≠0->wdF s.wd o c q.a=s.wd q.a)
  (hen:(P=true/\F=pE s.pc (l1++{o with st:=2,c:=c}::l2')/\∀q∈l1++{o with st:=2,c:=c}::l2',¬stp q)\/(P=false/\∃l q,l1++{o with st:=2,c:=c}::l2'=l++[q]/\stp q)):Inv M t m:=by
 subst ht
 have hch:=ya I hu
 have hloc:=zap hch
 have hz:(fet M s.n (fE s.f l1) (pE s.pc l1)).2=0:=WY λhz=>h2 (hloc.bad hz).1
 obtain⟨x,hx⟩:=vC hz
 rw[<-hloc.ins]at hx
 have hcm:CmIs s.n o.i o.pc c:=by rw[hc];exact yM hM hx _ _ _ _ _
 have hrd:c.rd≠0->o.rd=c.rd:=λh=>by
  have h0:c.st=0:=WY λh'=>h (hcm.stops h').2.1
  rw[hloc.rd,<-hcm.gives h0]
 have hne:∀{p1 p2:List Dg} {q:Dg},l1++o::l2=p1++q::p2->(∀x,x∈tos p1->x∈tos l1)->wdF s.wd o c q.a=s.wd q.a/\wdF s.wd o c q.b=s.wd q.b/\thF s.th o c q.a=s.th q.a/\thF s.th o c q.b=s.th q.b:=by
  intro p1 p2 q hp hsub
  by_cases h0:c.rd=0
  ·unfold wdF thF;simp[h0]
  ·obtain⟨e1,e2⟩:=zjx hM I hu hp hsub (by rw[hrd h0];exact h0)
   exact⟨zdd e1,zdd e2,zde e1,zde e2⟩
 have hto:∀q∈l1++l2,q.rd≠0->wdF s.wd o c q.to=s.wd q.to/\thF s.th o c q.to=s.th q.to:=by
  intro q hq hqr
  by_cases h0:c.rd=0
  ·unfold wdF thF;simp[h0]
  ·obtain⟨n1,n2,_,_⟩:=kG hM I hu (by rw[hrd h0];exact h0)
   have:q.to≠o.to:=λe=>by
    rcases Aj.1 hq with h|h
    ·exact n1 (e▸vB h hqr)
    ·exact n2 (e▸vB h hqr)
   exact⟨zdd this,zde this⟩
 have hin1:∀{q:Dg},q∈l1->wdF s.wd o c q.a=s.wd q.a/\wdF s.wd o c q.b=s.wd q.b/\thF s.th o c q.a=s.th q.a/\thF s.th o c q.b=s.th q.b:=λ{q} hq=>by
  obtain⟨p1,p2,rfl⟩:=AK hq
  exact hne (p1:=p1) (p2:=p2++o::l2) (by simp) (λx hx=>by rw[qj];exact Ad _ hx)
 have hino:=hne (p1:=l1) (p2:=l2) (q:=o) rfl (λx hx=>hx)
 have hno1:∀q∈l1,¬stp q:=(jM.1 hch).2.1 (by simp)
 have hbase:∀r,r<32->thF s.th o c (m r)=true/\wdF s.wd o c (m r)=s.R r:=λr hr=>by
  have:=I.base r hr
  by_cases h0:c.rd=0
  ·unfold wdF thF;simpa[h0]using this
  ·have e:=(kG hM I hu (by rw[hrd h0];exact h0)).2.2.2 r hr
   rw[zdd e,zde e];exact this
 refine⟨hbase,?_,rfl,hen,?_,?_,?_,?_,rfl,?_,?_⟩
 ·show Ch M s.n (wdF s.wd o c) (thF s.th o c) s.pc m s.f (l1++{o with st:=2,c:=c}::l2')
  rw[jM]
  refine⟨yK (jM.1 hch).1 (λq hq=>⟨λ_ ha hb=>?_,λh0=>?_⟩),λ_=>hno1,?_,λhs=>hst hs.2,?_⟩
  ·obtain⟨e1,e2,e3,e4⟩:=hin1 hq
   rw[e1,e2,e3,e4]
   exact⟨ha,hb,rfl,rfl⟩
  ·obtain⟨e1,e2⟩:=hto q (Ad _ hq) h0
   exact⟨e2,e1⟩
  ·obtain⟨e1,e2,e3,e4⟩:=hino
   refine⟨hloc.hpc,hloc.ins,hloc.rd,hloc.a,hloc.b,hloc.old,λh=>absurd hz h,λ_ _=>⟨e3.trans hth.1,e4.trans hth.2⟩,λ_ _=>?_,λ_ h0 hr=>?_,λh=>absurd rfl h,.inr (.inr rfl),λh=>absurd rfl h⟩
   ·show c=comC M s.n (fE s.f l1) o.i (pE s.pc l1) (wdF s.wd o c o.a) (wdF s.wd o c o.b)
    rw[e1,e2,<-hloc.hpc]
    exact hc
   ·have hr0:c.rd≠0:=by
     rw[hcm.gives h0,<-hloc.rd];exact hr
    unfold thF wdF upB upI
    simp[hr0]
  ·have e1:nx {o with st:=2,c:=c}=c.next:=by unfold nx;rw[if_pos rfl]
   have e2:nf (fE s.f l1) {o with st:=2,c:=c}=stoC (fE s.f l1) c:=by unfold nf;rw[if_pos rfl]
   rw[e1,e2]
   exact hch2
 ·show Dis s.phys m (tos (l1++{o with st:=2,c:=c}::l2')++(tos l3++s.free))
  have d:=zdf I hu
  have e:tos (l1++{o with st:=2,c:=c}::l2')++(tos l3++s.free)=tos (l1++o::l2)++s.free:=by
   rw[hl,qj,qj,zdc (o:=o) (o':={o with st:=2,c:=c}) rfl rfl,<-AG,qj]
   simp
  rw[e]
  exact d
 ·show 32+((tos (l1++{o with st:=2,c:=c}::l2')++(tos l3++s.free)).length:Int)=s.phys
  have e:tos (l1++{o with st:=2,c:=c}::l2')++(tos l3++s.free)=tos (l1++o::l2)++s.free:=by
   rw[hl,qj,qj,zdc (o:=o) (o':={o with st:=2,c:=c}) rfl rfl,<-AG,qj]
   simp
  rw[e,<-hu]
  exact I.cnt
 ·show Rise (l1++{o with st:=2,c:=c}::l2')
  have hr:Rise (l1++o::l2):=hu▸I.rise
  rw[hl]at hr
  have hr3:Rise ((l1++o::l2')++l3):=by simpa using hr
  exact kF (o:=o) (zy.1 hr3).1 rfl
 ·intro q hq
  show 0<=q.seq/\q.seq<s.tak
  rcases Aj.1 hq with h|h
  ·exact I.low q (by rw[hu];exact Ad _ h)
  ·rcases An.1 h with h|h
   ·have:=I.low o (by rw[hu];simp)
    rw[h];exact this
   ·exact I.low q (by rw[hu,hl];exact Ak _ (Af _ (Ad _ h)))
 ·refine zjw hA λq hq g2 g0=>?_
  rcases Aj.1 hq with h|h
  ·exact(hin1 h).1
  ·rcases An.1 h with h|h
   ·rw[h];exact hino.1
   ·exact hw2 q h g2 g0
 ·intro q hq
  rcases Aj.1 hq with h|h
  ·exact I.lat q (by rw[hu];exact Ad _ h)
  ·rcases An.1 h with h|h
   ·have:=I.lat o (by rw[hu];simp)
    rw[h];exact this
   ·exact I.lat q (by rw[hu,hl];exact Ak _ (Af _ (Ad _ h)))
structure Same(s t:Cr):Prop where
 win:t.win=s.win
 phys:t.phys=s.phys
 wide:t.wide=s.wide
 n:t.n=s.n
 coms:t.coms=s.coms
 R:t.R=s.R
 pc:t.pc=s.pc
 st:t.st=s.st
 ca:t.ca=s.ca
 f:t.f=s.f
 cyc:t.cyc=s.cyc
 tak:t.tak=s.tak
theorem Same.refl(s:Cr):Same s s:=⟨rfl,rfl,rfl,rfl,rfl,rfl,rfl,rfl,rfl,rfl,rfl,rfl⟩
theorem Same.trans{a b c:Cr}(h:Same a b)(k:Same b c):Same a c:=
 ⟨k.win.trans h.win,k.phys.trans h.phys,k.wide.trans h.wide,k.n.trans h.n,k.coms.trans h.coms,k.R.trans h.R,k.pc.trans h.pc,k.st.trans h.st,k.ca.trans h.ca,k.f.trans h.f,k.cyc.trans h.cyc,k.tak.trans h.tak⟩
theorem zjy(f:Nat->Int)(a:Nat)(W:Int):sto f a W 0=f:=by
 funext i
 exact vD (by omega)
theorem yb{M:Mc}(hM:MOk M){s:Cr}{m:Nat->Int}(I:Inv M s m){l1 l2:List Dg}{o:Dg}(hu:s.under=l1++o::l2){c:Cm}(h2:o.st≠2)(hth:s.th o.a=true/\s.th o.b=true)(hc:c=comC M s.n (fE s.f l1) o.i o.pc (s.wd o.a) (s.wd o.b))
  (hl:ldn o.i.op≠0->fits s.n (place o.i (s.wd o.a)) (ldn o.i.op)=true->ldA o.seq (place o.i (s.wd o.a)) (ldn o.i.op)∈s.asked):
  Inv M (finish s o c) m/\Same s (finish s o c)/\(finish s o c).scr=s.scr/\(finish s o c).tb=s.tb/\(finish s o c).th=thF s.th o c/\∃l2' l3,l2=l2'++l3/\(finish s o c).under=l1++{o with st:=2,c:=c}::l2':=by
 have hch:=ya I hu
 have hloc:=zap hch
 have hz:(fet M s.n (fE s.f l1) (pE s.pc l1)).2=0:=WY λhz=>h2 (hloc.bad hz).1
 obtain⟨x,hx⟩:=vC hz
 rw[<-hloc.ins]at hx
 have hcm:CmIs s.n o.i o.pc c:=by rw[hc];exact yM hM hx _ _ _ _ _
 have hrd:c.rd≠0->o.rd=c.rd:=λh=>by
  have h0:c.st=0:=WY λh'=>h (hcm.stops h').2.1
  rw[hloc.rd,<-hcm.gives h0]
 have hno1:∀q∈l1,¬stp q:=(jM.1 hch).2.1 (by simp)
 obtain⟨l2',l3,F⟩:=zlP hM I hu h2 hcm hl
 obtain⟨A,B,Fr,P,he,hAs,hend⟩:=F.is
 have hsp:=F.split
 have hwd:(fin1 s o c).wd=s.wd:=by rw[he]
 have hrt:jL (fin1 s o c) o c=(decide (c.rd=0)||!o.gs||decide (s.wd o.to=c.val)):=by unfold jL;rw[hwd]
 unfold finish
 split
 ·rename_i hgood
  obtain⟨hr,hn⟩:=hgood
  have hst:c.st=0:=WY λh'=>by
   obtain⟨e1,_,e3,e4,_⟩:=hcm.stops h'
   have:=hloc.way h2 e3 e4
   omega
  have ht:jc (fin1 s o c) o c={s with under:=l1++{o with st:=2,c:=c}::l2',slots:=(l1++{o with st:=2,c:=c}::l2').map slot,regs:=mE m (l1++{o with st:=2,c:=c}::l2'),free:=tos l3++s.free,asked:=A,bck:=B,fro:=Fr,opn:=P,wd:=wdF s.wd o c,th:=thF s.th o c}:=by
   rw[jY,he]
  have hwt:∀q∈l2',q.st≠0->s.th q.a=true->s.th q.b=true->(thF s.th o c q.a=true/\thF s.th o c q.b=true/\wdF s.wd o c q.a=s.wd q.a/\wdF s.wd o c q.b=s.wd q.b):=by
   intro q hq hs ha hb
   by_cases h0:c.rd=0
   ·unfold thF wdF;simp[h0,ha,hb]
   ·have hro:=hrd h0
    have hg:=hloc.gsd h2 (by rw[hro];exact h0)
    cases hgs:o.gs with
    |false=>
     rw[hgs]at hg
     have e1:q.a≠o.to:=λe=>by rw[e,hg]at ha;cases ha
     have e2:q.b≠o.to:=λe=>by rw[e,hg]at hb;cases hb
     rw[zde e1,zde e2,zdd e1,zdd e2]
     exact⟨ha,hb,rfl,rfl⟩
    |true=>
     rw[hrt,hgs]at hr
     simp[h0]at hr
     have e:∀x,wdF s.wd o c x=s.wd x:=λx=>by
      unfold wdF upI
      simp only[h0,if_false]
      split
      ·rename_i hx;rw[hx,hr]
      ·rfl
     have e':∀x,s.th x=true->thF s.th o c x=true:=λx hx=>by
      unfold thF upB
      simp only[h0,if_false]
      split
      ·rfl
      ·exact hx
     exact⟨e' _ ha,e' _ hb,e _,e _⟩
  have hfull:Ch M s.n s.wd s.th (nx o) (nm (mE m l1) o) (nf (fE s.f l1) o) (l2'++l3):=by
   have:=(jM.1 hch).2.2.2.2
   rw[hsp]at this
   exact this
  have e1:nx o=c.next:=by unfold nx;rw[if_neg h2];exact hn.symm
  have e2:nf (fE s.f l1) o=fE s.f l1:=by unfold nf;rw[if_neg h2]
  rw[e1,e2]at hfull
  have hch2:Ch M s.n (wdF s.wd o c) (thF s.th o c) c.next (nm (mE m l1) o) (stoC (fE s.f l1) c) l2':=by
   refine yK (zkO (Q:=inC c) (jM.1 hfull).1 (λx hx=>vD hx) F.clear) (λq hq=>⟨hwt q hq,λh0=>?_⟩)
   by_cases h0':c.rd=0
   ·unfold thF wdF;simp[h0']
   ·obtain⟨_,n2,_,_⟩:=kG hM I hu (by rw[hrd h0'];exact h0')
    have:q.to≠o.to:=λe=>n2 (e▸vB (by rw[hsp];exact Ad _ hq) h0)
    exact⟨zde this,zdd this⟩
  refine⟨inv_of hM I hu h2 hth hc hsp ht hAs hch2 (λh=>absurd hst h) (λq hq g2 g0=>?_) ?_,?_,?_,?_,?_,l2',l3,hsp,?_⟩
  ·obtain⟨p1,p2,hp,hql⟩:=xf (jM.1 hfull).1 hq
   have hqz:(fet M s.n (fE (fE s.f l1) p1) (pE c.next p1)).2=0:=WY λhz=>by
    have:=za8 hz
    rw[hql.ins,this]at g0
    exact g0 (by decide)
   obtain⟨ta,tb⟩:=hql.thr (by omega) hqz
   exact(hwt q hq (by omega) ta tb).2.2.1
  ·have hpE:pE s.pc (l1++{o with st:=2,c:=c}::l2')=pE s.pc (l1++o::l2'):=by
    rw[zaC,zaC]
    show pE (nx _) l2'=pE (nx o) l2'
    rw[e1]
    unfold nx
    rw[if_pos rfl]
   have hnso:¬stp {o with st:=2,c:=c}:=λh=>h.2 hst
   rcases hend with⟨e3,e4,e5⟩|⟨e3,e4,e5⟩
   ·subst e3
    rw[AR]at hsp
    subst hsp
    rcases I.en with⟨g1,g2,g3⟩|⟨g1,l,q,g2,g3⟩
    ·left
     refine⟨e5.trans g1,by rw[hpE,e4,g2,hu],λq hq=>?_⟩
     rcases Aj.1 hq with h|h
     ·exact hno1 q h
     ·rcases An.1 h with h|h
      ·rw[h];exact hnso
      ·exact g3 q (by rw[hu];exact Ak _ (Af _ h))
    ·right
     refine⟨e5.trans g1,?_⟩
     rw[hu]at g2
     rcases Zc l2 with e|⟨r,y,e⟩
     ·subst e
      have:q=o:=by have:=congrArg List.getLast? g2;simp at this;exact this.symm
      rw[this]at g3
      exact absurd g3.1 h2
     ·rw[Zd]at e
      subst e
      have g2':(l1++o::r)++[y]=l++[q]:=by simpa using g2
      have hqy:y=q:=by have:=(AX g2' rfl).2;simpa using this
      exact⟨l1++{o with st:=2,c:=c}::r,y,by simp,by rw[hqy];exact g3⟩
   ·left
    refine⟨e4,by rw[hpE];exact e5,λq hq=>?_⟩
    rcases Aj.1 hq with h|h
    ·exact hno1 q h
    ·rcases An.1 h with h|h
     ·rw[h];exact hnso
     ·exact(jM.1 hfull).2.1 e3 q h
  ·rw[ht];exact⟨rfl,rfl,rfl,rfl,rfl,rfl,rfl,rfl,rfl,rfl,rfl,rfl⟩
  ·rw[ht]
  ·rw[ht]
  ·rw[ht]
  ·rw[ht]
 ·rename_i hbad
  have hr:Rise (l1++o::l2):=hu▸I.rise
  have hr2:Rise (l1++o::l2'):=by
   rw[hsp]at hr
   have hr3:Rise ((l1++o::l2')++l3):=by simpa using hr
   exact(zy.1 hr3).1
  have hol:Olds m (l1++o::l2'):=by
   have:=vE hch
   rw[hsp]at this
   have h3:Olds m ((l1++o::l2')++l3):=by simpa using this
   exact(xx.1 h3).1
  have hbk:Bk (jc (fin1 s o c) o c) m:=by
   rw[jY,he]
   exact⟨zbc hol rfl rfl rfl,rfl,kF (o:=o) hr2 rfl,rfl⟩
  have hb:=zbb hbk (l1:=l1++[{o with st:=2,c:=c}]) (l2:=l2') (by rw[jY,he];simp) (o.seq+1) c.next (λq hq=>by
   rcases Aj.1 hq with h|h
   ·have:=(zy.1 hr).2.2 q h o (Am ..);omega
   ·have:q.seq=o.seq:=by rw[Au.1 h]
    omega) (λq hq=>by have:=(zV.1 (zy.1 hr2).2.1).1 q hq;omega)
  have ht:{back (jc (fin1 s o c) o c) (o.seq+1) c.next with opn:=decide (c.st=0)}={s with under:=l1++{o with st:=2,c:=c}::[],slots:=(l1++{o with st:=2,c:=c}::[]).map slot,regs:=mE m (l1++{o with st:=2,c:=c}::[]),free:=tos l2++s.free,asked:=A.filter (λa=>!decide (o.seq+1<=a.seq)),bck:=if l2'=[]then B else B+1,fro:=c.next,opn:=decide (c.st=0),wd:=wdF s.wd o c,th:=thF s.th o c}:=by
   rw[hb,jY,he,hsp,qj]
   simp
  refine⟨inv_of hM I hu h2 hth hc (l2':=[]) (l3:=l2) rfl ht ?_ trivial (λ_=>rfl) (λq hq=>by cases hq) ?_,?_,?_,?_,?_,[],l2,rfl,?_⟩
  ·refine zkR (l2:=l2') (by simpa using hAs) (o.seq+1) (λq hq=>?_) (λq hq=>by have:=(zV.1 (zy.1 hr2).2.1).1 q hq;omega)
   rcases Aj.1 hq with h|h
   ·have:=(zy.1 hr).2.2 q h o (Am ..);omega
   ·have:q.seq=o.seq:=by rw[Au.1 h]
    omega
  ·by_cases h0:c.st=0
   ·left
    refine⟨by simp[h0],?_,λq hq=>?_⟩
    ·rw[zaC]
     simp[pE,nx]
    ·rcases Aj.1 hq with h|h
     ·exact hno1 q h
     ·rw[Au.1 h];exact λh=>h.2 h0
   ·exact .inr ⟨by simp[h0],l1,_,rfl,rfl,h0⟩
  ·rw[ht];exact⟨rfl,rfl,rfl,rfl,rfl,rfl,rfl,rfl,rfl,rfl,rfl,rfl⟩
  ·rw[ht]
  ·rw[ht]
  ·rw[ht]
  ·rw[ht]
theorem zhg{M:Mc}{s:Cr}{m:Nat->Int}(I:Inv M s m){l1 l2:List Dg}{o:Dg}(hu:s.under=l1++o::l2){o':Dg}(hL:∀pc m f,Loc M s.n s.wd s.th pc m f o->Loc M s.n s.wd s.th pc m f o')
  (e1:o'.seq=o.seq) (e2:o'.rd=o.rd) (e3:o'.to=o.to) (e4:nx o'=nx o) (h5:o.st≠2) (h6:o'.st≠2) (e7:o'.i=o.i) (e8:o'.pc=o.pc) (hl:0<=o'.late/\o'.late<=9) {t:Cr}
  (ht:t={s with under:=l1++o'::l2}):Inv M t m:=by
 subst ht
 have hch:=ya I hu
 have hd:=zdf I hu
 have hmem:∀q,q∈l1++o'::l2->q=o'\/q∈l1++o::l2:=λq hq=>by
  rcases Aj.1 hq with h|h
  ·exact .inr (Ad _ h)
  ·rcases An.1 h with h|h
   ·exact .inl h
   ·exact .inr (Ak _ (Af _ h))
 have htos:tos (l1++o'::l2)=tos (l1++o::l2):=by rw[qj,qj,zdc e2 e3]
 have hns:¬stp o:=λh=>h5 h.1
 have hns':¬stp o':=λh=>h6 h.1
 have hnm:nm (mE m l1) o'=nm (mE m l1) o:=by unfold nm;rw[e2,e3]
 have hnf:nf (fE s.f l1) o'=nf (fE s.f l1) o:=by unfold nf;rw[if_neg h5,if_neg h6]
 refine⟨I.base,?_,?_,?_,?_,?_,?_,?_,?_,?_,?_⟩
 ·show Ch M s.n s.wd s.th s.pc m s.f (l1++o'::l2)
  rw[jM]at hch⊢
  obtain⟨g1,g2,g3,g4,g5⟩:=hch
  refine⟨g1,λ_=>g2 (by simp),hL _ _ _ g3,λh=>absurd h hns',?_⟩
  rw[e4,hnm,hnf]
  exact g5
 ·show mE m (l1++o'::l2)=s.regs
  rw[<-I.reg,hu,kD,kD]
  exact zhc e2 e3
 ·have hpE:pE s.pc (l1++o'::l2)=pE s.pc (l1++o::l2):=by
   rw[zaC,zaC]
   show pE (nx o') l2=pE (nx o) l2
   rw[e4]
  rcases I.en with⟨g1,g2,g3⟩|⟨g1,l,q,g2,g3⟩
  ·left
   refine⟨g1,by rw[hpE,<-hu];exact g2,λq hq=>?_⟩
   rcases hmem q hq with h|h
   ·rw[h];exact hns'
   ·exact g3 q (by rw[hu];exact h)
  ·right
   refine⟨g1,?_⟩
   rw[hu]at g2
   rcases Zc l2 with e|⟨r,y,e⟩
   ·subst e
    have:o=q:=by have:=(AX g2 rfl).2;simpa using this
    rw[<-this]at g3
    exact absurd g3 hns
   ·rw[Zd]at e
    subst e
    have g2':(l1++o::r)++[y]=l++[q]:=by simpa using g2
    have hqy:y=q:=by have:=(AX g2' rfl).2;simpa using this
    exact⟨l1++o'::r,y,by simp,by rw[hqy];exact g3⟩
 ·show Dis s.phys m (tos (l1++o'::l2)++s.free)
  rw[htos]
  exact hd
 ·show 32+((tos (l1++o'::l2)++s.free).length:Int)=s.phys
  rw[htos,<-hu]
  exact I.cnt
 ·exact kF (hu▸I.rise) e1
 ·intro q hq
  rcases hmem q hq with h|h
  ·rw[h,e1];exact I.low o (by rw[hu];simp)
  ·exact I.low q (by rw[hu];exact h)
 ·show s.slots=(l1++o'::l2).map slot
  rw[I.slo,hu,Av,Av,AA,AA]
  have:slot o'=slot o:=by unfold slot;rw[e1];simp[h5,h6]
  rw[this]
 ·have hA:As s.n s.wd (l1++o::l2) s.asked:=hu▸I.ask
  have hom:o∈l1++o::l2:=by simp
  have hent:entA o'=entA o:=by unfold entA;rw[if_neg h5,if_neg h6,e1]
  refine⟨λq hq=>?_,λp hp=>?_,λp hp h=>?_,λp hp h1 h2 h3=>?_⟩
  ·obtain⟨p,hp,e,he⟩:=hA.of q hq
   by_cases hpo:p∈l1\/p∈l2
   ·refine⟨p,?_,e,he⟩
    rcases hpo with h|h
    ·exact Ad _ h
    ·exact Ak _ (Af _ h)
   ·have:p=o:=by
     rcases Aj.1 hp with h|h
     ·exact absurd (.inl h) hpo
     ·rcases An.1 h with h|h
      ·exact h
      ·exact absurd (.inr h) hpo
    subst this
    exact⟨o',Ak _ (Am ..),e.trans e1.symm,λh=>⟨by rw[e7];exact(he h).1,by rw[hent];exact(he h).2⟩⟩
  ·rcases hmem p hp with h|h
   ·have:=hA.own o hom
    unfold ownA at this⊢
    rw[h,e1,e8];exact this
   ·exact hA.own p h
  ·rcases hmem p hp with h'|h'
   ·rw[h',hent];rw[h',e7]at h;exact hA.sto o hom h
   ·exact hA.sto p h' h
  ·rcases hmem p hp with h'|h'
   ·rw[h']at h1;exact absurd h1 h6
   ·exact hA.lod p h' h1 h2 h3
 ·intro q hq
  rcases hmem q hq with h|h
  ·rw[h];exact hl
  ·exact I.lat q (by rw[hu];exact h)
theorem yc{l1 l2:List Dg}{o:Dg}(h:Rise (l1++o::l2)):(l1++o::l2).find? (λp=>decide (p.seq=o.seq))=some o:=by
 obtain⟨h1,h2,h3⟩:=zy.1 h
 rw[Zl,Zk.2 (λp hp=>by have:=h3 p hp o (Am ..);simp;omega)]
 simp
theorem jN{l:List Dg}{q:Int}{o:Dg}(h:l.find? (λp=>decide (p.seq=q))=some o):∃l1 l2,l=l1++o::l2/\o.seq=q:=by
 have h1:=List.find?_some h
 have h2:=List.mem_of_find?_eq_some h
 obtain⟨l1,l2,e⟩:=AK h2
 exact⟨l1,l2,e,by simpa using h1⟩
theorem zhh{M:Mc}{s:Cr}{m:Nat->Int}(I:Inv M s m){l1 l2:List Dg}{o:Dg}(hu:s.under=l1++o::l2)(x many:Int):Inv M {s with asked:=s.asked++[ldA o.seq x many]} m:=by
 refine⟨I.base,I.ch,I.reg,I.en,I.dis,I.cnt,I.rise,I.low,I.slo,⟨λq hq=>?_,λp hp=>Ad _ (I.ask.own p hp),λp hp h=>Ad _ (I.ask.sto p hp h),λp hp h1 h2 h3=>Ad _ (I.ask.lod p hp h1 h2 h3)⟩,I.lat⟩
 rcases Aj.1 hq with h|h
 ·exact I.ask.of q h
 ·rw[Au.1 h]
  exact⟨o,by show o∈s.under;rw[hu];simp,rfl,λh=>by cases h⟩
theorem znZ{n:Nat}{wd:Int->Int}{l1 l2:List Dg}{k:List Ac}(A:As n wd (l1++l2) k)(hr:Rise (l1++l2)){s:Int}(h1:∀o∈l1,o.seq<s)(h2:∀o∈l2,s<=o.seq)(hc:∀o∈l1,cmOk o)(f:Nat->Int)(a:Nat):
  sb k s k.length a f=λi=>fE f l1 (a+i):=by
 funext i
 have:=zlN A hr h1 h2 hc f (a+i)
 unfold sb
 rw[<-this]
 rfl
theorem zlQ{th:Int->Bool}{o:Dg}{c:Cm}{x:Int}(h:th x=true):thF th o c x=true:=by
 unfold thF upB
 split
 ·exact h
 ·show(if x=o.to then true else th x)=true
  split
  ·rfl
  ·exact h
structure Step(s t:Cr)(l1 l2:List Dg)(o o':Dg):Prop where
 same:Same s t
 scr:t.scr=s.scr
 tb:t.tb=s.tb
 thr:∀x,s.th x=true->t.th x=true
 under:∃l2' l3,l2=l2'++l3/\t.under=l1++o'::l2'
theorem zjz{M:Mc}(hM:MOk M){s:Cr}{m:Nat->Int}(I:Inv M s m){l1 l2:List Dg}{o:Dg}(hu:s.under=l1++o::l2)(h1:o.st=1):
  Inv M (lod1 s o) m/\∃o',Step s (lod1 s o) l1 l2 o o'/\(o'=o\/(o'.st=2/\o'.seq=o.seq))/\(seeU s.asked o.seq=true->o'.st=2):=by
 have hch:=ya I hu
 have hloc:=zap hch
 have hr:Rise (l1++o::l2):=hu▸I.rise
 have hld:ldn o.i.op≠0:=by
  rcases hloc.sta with h|⟨_,h⟩|h
  ·omega
  ·exact h
  ·omega
 have hz:(fet M s.n (fE s.f l1) (pE s.pc l1)).2=0:=WY λhz=>by have:=(hloc.bad hz).1;omega
 have hth:=hloc.thr (by omega) hz
 have hA:As s.n s.wd (l1++o::l2) s.asked:=hu▸I.ask
 have hsb:=znZ hA hr (s:=o.seq) (λq hq=>(zy.1 hr).2.2 q hq o (Am ..)) (λq hq=>by
  rcases An.1 hq with h|h
  ·rw[h];exact AL _
  ·have:=(zV.1 (zy.1 hr).2.1).1 q h;omega) (zkQ hM (jM.1 hch).1) s.f (place o.i (s.wd o.a)).toNat
 unfold lod1
 simp only[]
 split
 ·rename_i hf
  split
  ·rename_i hs
   refine⟨I,o,⟨Same.refl s,rfl,rfl,λ_ h=>h,l2,[],by simp,hu⟩,.inl rfl,λh=>?_⟩
   rw[h]at hs
   cases hs
  ·have hI:=zhh I hu (place o.i (s.wd o.a)) (ldn o.i.op)
   have hc:onC o.pc o.i.rd (ldv o.i.op (sb s.asked o.seq s.asked.length (place o.i (s.wd o.a)).toNat s.f))=comC M s.n (fE s.f l1) o.i o.pc (s.wd o.a) (s.wd o.b):=by
    unfold comC qf
    rw[if_pos hld,if_pos hf,hsb]
   obtain⟨g1,g2,g3,g4,gt,l2',l3,g5,g6⟩:=yb hM hI (s:={s with asked:=s.asked++[ldA o.seq (place o.i (s.wd o.a)) (ldn o.i.op)]}) hu (by omega) hth hc (λ_ _=>by simp)
   exact⟨g1,_,⟨(show Same s {s with asked:=s.asked++[ldA o.seq (place o.i (s.wd o.a)) (ldn o.i.op)]}from⟨rfl,rfl,rfl,rfl,rfl,rfl,rfl,rfl,rfl,rfl,rfl,rfl⟩).trans g2,g3,g4,λx h=>by rw[gt];exact zlQ h,l2',l3,g5,g6⟩,.inr ⟨rfl,rfl⟩,λ_=>rfl⟩
 ·rename_i hf
  have hc:qn o.pc 3=comC M s.n (fE s.f l1) o.i o.pc (s.wd o.a) (s.wd o.b):=by
   unfold comC qf
   rw[if_pos hld,if_neg hf]
  obtain⟨g1,g2,g3,g4,gt,l2',l3,g5,g6⟩:=yb hM I hu (by omega) hth hc (λ_ h=>absurd h hf)
  exact⟨g1,_,⟨g2,g3,g4,λx h=>by rw[gt];exact zlQ h,l2',l3,g5,g6⟩,.inr ⟨rfl,rfl⟩,λ_=>rfl⟩
theorem zbd{M:Mc}(hM:MOk M){s:Cr}{m:Nat->Int}(I:Inv M s m){l1 l2:List Dg}{o:Dg}(hu:s.under=l1++o::l2)(h1:o.st=1):
  Inv M (lodS s o.seq) m/\∃o',Step s (lodS s o.seq) l1 l2 o o'/\o'.seq=o.seq/\(o'=o\/o'={o with late:=o.late-1}/\0<o.late\/o'.st=2)/\(seeU s.asked o.seq=true->o'.st=2\/o'.st=1/\o'.late=o.late-1/\0<o.late):=by
 have hr:Rise (l1++o::l2):=hu▸I.rise
 unfold lodS
 rw[hu,yc hr]
 simp only[]
 split
 ·rename_i hlt
  rw[vF hr]
  have hlat:=I.lat o (by rw[hu];simp)
  refine⟨zhg I hu (o':={o with late:=o.late-1}) (λpc m f h=>⟨h.hpc,h.ins,h.rd,h.a,h.b,h.old,h.bad,h.thr,h.com,h.fil,h.gsd,h.sta,h.way⟩) rfl rfl rfl rfl (by omega) (by show o.st≠2;omega) rfl rfl (by show 0<=o.late-1/\o.late-1<=9;omega) rfl,{o with late:=o.late-1},⟨⟨rfl,rfl,rfl,rfl,rfl,rfl,rfl,rfl,rfl,rfl,rfl,rfl⟩,rfl,rfl,λ_ h=>h,l2,[],by simp,rfl⟩,rfl,.inr (.inl ⟨rfl,hlt⟩),λ_=>.inr ⟨h1,rfl,hlt⟩⟩
 ·obtain⟨g1,o',g2,g3,g4⟩:=zjz hM I hu h1
  refine⟨g1,o',g2,?_,?_,λh=>.inl (g4 h)⟩
  ·rcases g3 with h|h
   ·rw[h]
   ·exact h.2
  ·rcases g3 with h|h
   ·exact .inl h
   ·exact .inr (.inr h.1)
theorem zbe{M:Mc}(hM:MOk M){s:Cr}{m:Nat->Int}(I:Inv M s m){l1 l2:List Dg}{o:Dg}(hu:s.under=l1++o::l2)(h1:o.st=0)(hth:s.th o.a=true/\s.th o.b=true):
  Inv M (sta1 M s o) m/\∃o',Step s (sta1 M s o) l1 l2 o o'/\o'.seq=o.seq/\o'.late=o.late/\(o'.st=2\/o'.st=1):=by
 have hch:=ya I hu
 have hloc:=zap hch
 have hr:Rise (l1++o::l2):=hu▸I.rise
 unfold sta1
 split
 ·rename_i hld
  have hlat:=I.lat o (by rw[hu];simp)
  rw[hu,vF hr]
  refine⟨zhg I hu (o':={o with st:=1}) (λpc m f h=>⟨h.hpc,h.ins,h.rd,h.a,h.b,h.old,λhz=>?_,λ_ _=>hth,λh=>?_,λh=>?_,λ_=>h.gsd (by omega),.inr (.inl ⟨rfl,hld⟩),λ_=>h.way (by omega)⟩) rfl rfl rfl ?_ (by omega) (by show(1:Int)≠2;omega) rfl rfl hlat rfl,{o with st:=1},⟨⟨rfl,rfl,rfl,rfl,rfl,rfl,rfl,rfl,rfl,rfl,rfl,rfl⟩,rfl,rfl,λ_ h=>h,l2,[],by simp,rfl⟩,rfl,rfl,.inr rfl⟩
  ·have:=(h.bad hz).1;omega
  ·exact absurd (show(1:Int)=2 from h) (by omega)
  ·exact absurd (show(1:Int)=2 from h) (by omega)
  ·unfold nx
   rw[if_neg (show¬(1:Int)=2 by omega),if_neg (by omega)]
 ·rename_i hld
  have hc:M.dow o.i o.pc (s.wd o.a) (s.wd o.b) s.n=comC M s.n (fE s.f l1) o.i o.pc (s.wd o.a) (s.wd o.b):=by
   unfold comC
   rw[if_neg hld]
  obtain⟨g1,g2,g3,g4,gt,l2',l3,g5,g6⟩:=yb hM I hu (by omega) hth hc (λh=>absurd h hld)
  exact⟨g1,_,⟨g2,g3,g4,λx h=>by rw[gt];exact zlQ h,l2',l3,g5,g6⟩,rfl,rfl,.inl rfl⟩
theorem yP{M:Mc}(P:Cr->Dg->Prop)(g:Cr->Int->Cr)
  (step:∀(s:Cr) (m:Nat->Int) (l1 l2:List Dg) (o:Dg),Inv M s m->s.under=l1++o::l2->P s o->Inv M (g s o.seq) m/\∃o',Step s (g s o.seq) l1 l2 o o'/\o'.seq=o.seq)
  (no:∀(s:Cr) (q:Int),s.under.find? (λp=>decide (p.seq=q))=none->g s q=s)
  (keep:∀(s t:Cr) (o:Dg),(∀x,s.th x=true->t.th x=true)->P s o->P t o):∀(qs:List Int) (s:Cr) (m:Nat->Int),Inv M s m->qs.Nodup->(∀q∈qs,∀o∈s.under,o.seq=q->P s o)->
   Inv M (qs.foldl g s) m/\Same s (qs.foldl g s)/\(qs.foldl g s).scr=s.scr/\(qs.foldl g s).tb=s.tb/\(∀x,s.th x=true->(qs.foldl g s).th x=true)/\(s.under=[]->(qs.foldl g s).under=[])/\∀h l,s.under=h::l->∃h' l',(qs.foldl g s).under=h'::l'/\h'.seq=h.seq/\(h.seq∉qs->h'=h)
 |[],s,m,I,_,_=>⟨I,Same.refl s,rfl,rfl,λ_ h=>h,λh=>h,λh l e=>⟨h,l,e,rfl,λ_=>rfl⟩⟩
 |q::qs,s,m,I,hn,hP=>by
  obtain⟨hnq,hn2⟩:=AD.1 hn
  cases hf:s.under.find? (λp=>decide (p.seq=q))with
  |none=>
   have e:(q::qs).foldl g s=qs.foldl g s:=by rw[Ay,no s q hf]
   rw[e]
   obtain⟨g1,g2,g3,g4,g5,g6,g7⟩:=yP P g step no keep qs s m I hn2 (λq' hq'=>hP q' (Af _ hq'))
   refine⟨g1,g2,g3,g4,g5,g6,λh l e=>?_⟩
   obtain⟨h',l',e1,e2,e3⟩:=g7 h l e
   exact⟨h',l',e1,e2,λhh=>e3 (λhm=>hh (Af _ hm))⟩
  |some o=>
   obtain⟨l1,l2,hu,rfl⟩:=jN hf
   obtain⟨I',o',S,hs'⟩:=step s m l1 l2 o I hu (hP o.seq (Am ..) o (by rw[hu];simp) rfl)
   obtain⟨l2',l3,e1,e2⟩:=S.under
   obtain⟨g1,g2,g3,g4,g5,g6,g7⟩:=yP P g step no keep qs (g s o.seq) m I' hn2 (λq' hq' p hp hpq=>by
    refine keep s _ p S.thr (hP q' (Af _ hq') p ?_ hpq)
    rw[e2]at hp
    rw[hu,e1]
    rcases Aj.1 hp with h|h
    ·exact Ad _ h
    ·rcases An.1 h with h|h
     ·rw[h,hs']at hpq;exact absurd hq' (by rw[<-hpq];exact hnq)
     ·exact Ak _ (Af _ (Ad _ h)))
   rw[Ay]
   refine⟨g1,S.same.trans g2,g3.trans S.scr,g4.trans S.tb,λx h=>g5 x (S.thr x h),λh=>by rw[h]at hu;simp at hu,λh l e=>?_⟩
   rw[hu]at e
   cases l1 with
   |nil=>
    simp at e
    obtain⟨h',l',f1,f2,f3⟩:=g7 o' l2' (by rw[e2];rfl)
    exact⟨h',l',f1,by rw[f2,hs',e.1],λhh=>absurd (by rw[e.1];exact Am ..) hh⟩
   |cons k l1=>
    simp at e
    obtain⟨h',l',f1,f2,f3⟩:=g7 k (l1++o'::l2') (by rw[e2];rfl)
    exact⟨h',l',f1,by rw[f2,e.1],λhh=>by rw[f3 (by rw[e.1];exact λhm=>hh (Af _ hm)),e.1]⟩
def mu(o:Dg):Int:=if o.st=2 then 1 else if o.st=1 then o.late+2 else 12
theorem xz{l:List Dg}(h:Rise l)(p:Dg->Bool):((l.filter p).map (·.seq)).Nodup:=by
 unfold Rise at h
 have:((l.filter p).map (·.seq)).Pairwise (·<·):=h.sublist (List.filter_sublist.map _)
 exact this.imp λh=>by omega
theorem zhi{M:Mc}{s:Cr}{m:Nat->Int}(I:Inv M s m){h:Dg}{l:List Dg}(hu:s.under=h::l):seeU s.asked h.seq=true:=by
 unfold seeU
 rw[List.all_eq_true]
 intro q hq
 obtain⟨o,ho,e,_⟩:=I.ask.of q hq
 have hr:=I.rise
 rw[hu]at ho hr
 have:h.seq<=o.seq:=by
  rcases An.1 ho with h'|h'
  ·rw[h'];exact AL _
  ·have:=(zV.1 hr).1 o h';omega
 have e2:decide (q.seq<h.seq)=false:=decide_eq_false (by omega)
 unfold unk ahd
 rw[e2]
 simp
theorem zew{M:Mc}(hM:MOk M){s:Cr}{m:Nat->Int}(I:Inv M s m):
  Inv M (load s) m/\Same s (load s)/\(load s).scr=s.scr/\(load s).tb=s.tb/\(s.under=[]->(load s).under=[])/\∀h l,s.under=h::l->∃h' l',(load s).under=h'::l'/\(h.st≠1->h'=h)/\(h.st=1->mu h'<mu h):=by
 have F:=yP (M:=M) (λs o=>o.st=1) lodS (λs m l1 l2 o I hu h1=>by
   obtain⟨g1,o',g2,g3,_⟩:=zbd hM I hu h1
   exact⟨g1,o',g2,g3⟩) (λs q h=>by unfold lodS;rw[h]) (λs t o _ h=>h)
 have hn:=xz I.rise (λo=>decide (o.st=1))
 have hP:∀q∈(s.under.filter λo=>decide (o.st=1)).map (·.seq),∀o∈s.under,o.seq=q->o.st=1:=λq hq o ho e=>by
  obtain⟨p,hp,rfl⟩:=Az.1 hq
  obtain⟨hp1,hp2⟩:=Ax.1 hp
  rw[jX I.rise ho hp1 e]
  simpa using hp2
 obtain⟨g1,g2,g3,g4,g5,g6,g7⟩:=F _ s m I hn hP
 refine⟨g1,g2,g3,g4,g6,λh l e=>?_⟩
 by_cases h1:h.st=1
 ·have hqs:(s.under.filter λo=>decide (o.st=1)).map (·.seq)=h.seq::(l.filter λo=>decide (o.st=1)).map (·.seq):=by
   rw[e,AY (by simpa using h1)];rfl
  obtain⟨I',o',S,e1,_,e3⟩:=zbd hM I (l1:=[]) e h1
  obtain⟨l2',l3,k1,k2⟩:=S.under
  have hmu:=e3 (zhi I e)
  rw[hqs]at hn hP
  obtain⟨hn1,hn2⟩:=AD.1 hn
  obtain⟨_,_,_,_,_,_,f7⟩:=F _ (lodS s h.seq) m I' hn2 (λq hq p hp hpq=>by
   refine hP q (Af _ hq) p ?_ hpq
   rw[k2]at hp
   rw[e,k1]
   rcases An.1 hp with h'|h'
   ·rw[h',e1]at hpq;exact absurd hq (by rw[<-hpq];exact hn1)
   ·exact Af _ (Ad _ h'))
  obtain⟨h',l',f1,f2,f3⟩:=f7 o' l2' (by rw[k2];rfl)
  refine⟨h',l',?_,λh=>absurd h1 h,λ_=>?_⟩
  ·unfold load
   rw[hqs,Ay]
   exact f1
  ·rw[f3 (by rw[e1];exact hn1)]
   have hlat:=I.lat h (by rw[e];simp)
   unfold mu
   rw[if_neg (by omega:¬h.st=2),if_pos h1]
   rcases hmu with h2|⟨h2,h3,h4⟩
   ·rw[if_pos h2];omega
   ·rw[if_neg (by omega),if_pos h2];omega
 ·obtain⟨h',l',f1,f2,f3⟩:=g7 h l e
  refine⟨h',l',f1,λ_=>f3 (λhm=>?_),λh=>absurd h h1⟩
  obtain⟨p,hp,hpe⟩:=Az.1 hm
  obtain⟨hp1,hp2⟩:=Ax.1 hp
  rw[jX I.rise hp1 (by rw[e];simp) hpe]at hp2
  exact h1 (by simpa using hp2)
theorem zhj{M:Mc}{s:Cr}{m:Nat->Int}(I:Inv M s m)(k:List Int):Inv M {s with scr:=k} m:=
 ⟨I.base,I.ch,I.reg,I.en,I.dis,I.cnt,I.rise,I.low,I.slo,I.ask,I.lat⟩
theorem zjA(s:Cr)(k:List Int):Same s {s with scr:=k}:=⟨rfl,rfl,rfl,rfl,rfl,rfl,rfl,rfl,rfl,rfl,rfl,rfl⟩
theorem zex{s:Cr}{l:List Int}{q:Int}:q∈turn s l↔q∈l:=by
 unfold turn
 cases l with
 |nil=>simp
 |cons x r=>simp only[];split<;>simp
theorem zaE{s:Cr}{l:List Int}(h:l.Nodup):(turn s l).Nodup:=by
 unfold turn
 cases l with
 |nil=>simp
 |cons x r=>
  obtain⟨h1,h2⟩:=AD.1 h
  simp only[]
  split
  ·exact AD.2 ⟨by simpa using h1,by unfold List.Nodup at*;rw[List.pairwise_reverse];exact h2.imp λh=>h.symm⟩
  ·exact h
theorem zhk{s:Cr}{x:Int}{r:List Int}:∃r',turn s (x::r)=x::r':=by
 unfold turn
 simp only[]
 split
 ·exact⟨_,rfl⟩
 ·exact⟨_,rfl⟩
theorem zcc{M:Mc}(hM:MOk M){s:Cr}{m:Nat->Int}(I:Inv M s m)(hw:1<=s.wide):
  Inv M (start M s) m/\Same s (start M s)/\(start M s).tb=s.tb/\(s.under=[]->(start M s).under=[])/\∀h l,s.under=h::l->∃h' l',(start M s).under=h'::l'/\(h.st≠0->h'=h)/\(h.st=0->mu h'<mu h):=by
 have F:=yP (M:=M) (λs o=>o.st=0/\s.th o.a=true/\s.th o.b=true) (staS M) (λs m l1 l2 o I hu h1=>by
   have e:staS M s o.seq=sta1 M s o:=by unfold staS;rw[hu,yc (hu▸I.rise)]
   obtain⟨g1,o',g2,g3,_⟩:=zbe hM I hu h1.1 h1.2
   rw[e]
   exact⟨g1,o',g2,g3⟩) (λs q h=>by unfold staS;rw[h]) (λs t o ht h=>⟨h.1,ht _ h.2.1,ht _ h.2.2⟩)
 obtain⟨s1,hs1⟩:∃s1,s1=if 1<(ready s).length then chS s else s:=⟨_,rfl⟩
 have hex:∃k,s1={s with scr:=k}:=by
  rw[hs1]
  split
  ·exact⟨_,rfl⟩
  ·exact⟨s.scr,rfl⟩
 obtain⟨k,hk⟩:=hex
 have I1:Inv M s1 m:=by rw[hk];exact zhj I k
 have hu1:s1.under=s.under:=by rw[hk]
 have hth1:s1.th=s.th:=by rw[hk]
 have hS1:Same s s1:=by rw[hk];exact zjA s k
 have htb1:s1.tb=s.tb:=by rw[hk]
 obtain⟨qs,hqs⟩:∃qs,qs=(turn s (ready s)).take s.wide.toNat:=⟨_,rfl⟩
 have hst:start M s=qs.foldl (staS M) s1:=by rw[hqs,hs1];rfl
 have hn:qs.Nodup:=by rw[hqs];exact(zaE (xz I.rise _)).sublist (List.take_sublist _ _)
 have hP:∀q∈qs,∀o∈s1.under,o.seq=q->o.st=0/\s1.th o.a=true/\s1.th o.b=true:=λq hq o ho e=>by
  rw[hqs]at hq
  have hq:=zex.1 (List.mem_of_mem_take hq)
  unfold ready at hq
  obtain⟨p,hp,rfl⟩:=Az.1 hq
  obtain⟨hp1,hp2⟩:=Ax.1 hp
  rw[hu1]at ho
  rw[hth1,jX I.rise ho hp1 e]
  simp at hp2
  exact⟨hp2.1.1,hp2.1.2,hp2.2⟩
 obtain⟨g1,g2,g3,g4,g5,g6,g7⟩:=F qs s1 m I1 hn hP
 rw[hst]
 refine⟨g1,hS1.trans g2,g4.trans htb1,λh=>g6 (hu1.trans h),λh l e=>?_⟩
 have hloc:=zap (l1:=[]) (show Ch M s.n s.wd s.th s.pc m s.f ([]++h::l)from e▸I.ch)
 by_cases h0:h.st=0
 ·obtain⟨_,hra,hrb⟩:=kZ hM hloc
  have ha:s.th h.a=true:=by rw[hloc.a];exact(I.base _ hra).1
  have hb:s.th h.b=true:=by rw[hloc.b];exact(I.base _ hrb).1
  have hrd:∃r,ready s=h.seq::r:=by
   unfold ready
   rw[e,AY (by simp[h0,ha,hb])]
   exact⟨_,rfl⟩
  obtain⟨r,hr⟩:=hrd
  obtain⟨r',hr'⟩:=zhk (s:=s) (x:=h.seq) (r:=r)
  obtain⟨w,hw'⟩:∃w,s.wide.toNat=w+1:=⟨s.wide.toNat-1,by omega⟩
  have hq:qs=h.seq::r'.take w:=by rw[hqs,hr,hr',hw',AJ]
  have e1:s1.under=[]++h::l:=hu1.trans e
  have hsta:staS M s1 h.seq=sta1 M s1 h:=by
   unfold staS
   rw[e1,yc (show Rise ([]++h::l)from e▸I.rise)]
  obtain⟨I',o',S,k1,k2,k3⟩:=zbe hM I1 e1 h0 (by rw[hth1];exact⟨ha,hb⟩)
  rw[<-hsta]at I' S
  obtain⟨l2',l3,k4,k5⟩:=S.under
  rw[hq]at hn hP
  obtain⟨hn1,hn2⟩:=AD.1 hn
  obtain⟨_,_,_,_,_,_,f7⟩:=F _ (staS M s1 h.seq) m I' hn2 (λq hq p hp hpq=>by
   have hpm:p∈s1.under:=by
    rw[k5]at hp
    rw[e1,k4]
    rcases An.1 hp with h'|h'
    ·rw[h',k1]at hpq;exact absurd hq (by rw[<-hpq];exact hn1)
    ·exact Af _ (Ad _ h')
   obtain⟨x1,x2,x3⟩:=hP q (Af _ hq) p hpm hpq
   exact⟨x1,S.thr _ x2,S.thr _ x3⟩)
  obtain⟨h',l',f1,f2,f3⟩:=f7 o' l2' (by rw[k5];rfl)
  refine⟨h',l',by rw[hq,Ay];exact f1,λh=>absurd h0 h,λ_=>?_⟩
  rw[f3 (by rw[k1];exact hn1)]
  have hlat:=I.lat h (by rw[e];simp)
  unfold mu
  rw[if_neg (by omega:¬h.st=2),if_neg (by omega:¬h.st=1),k2]
  rcases k3 with h2|h2
  ·rw[if_pos h2];omega
  ·rw[if_neg (by omega),if_pos h2];omega
 ·obtain⟨h',l',f1,f2,f3⟩:=g7 h l (hu1.trans e)
  refine⟨h',l',f1,λ_=>f3 (λhm=>?_),λh=>absurd h h0⟩
  exact h0 (hP _ hm h (by rw[hu1,e];simp) rfl).1
theorem zhl{M:Mc}(hM:MOk M){s:Cr}{m:Nat->Int}(I:Inv M s m)(ho:s.opn=true){o:Dg}{wd:Int->Int}{th:Int->Bool}{regs:Nat->Int}{free:List Int}{A:List Ac}{scr:List Int}{fro:Int}{op:Bool}{t:Cr}
  (ht:t={s with slots:=s.slots++[slot o],under:=s.under++[o],tak:=s.tak+1,asked:=A,regs:=regs,free:=free,wd:=wd,th:=th,scr:=scr,fro:=fro,opn:=op})
  (hseq:o.seq=s.tak) (htak:0<=s.tak) (hL:Loc M s.n wd th (pE s.pc s.under) (mE m s.under) (fE s.f s.under) o)
  (hfree:s.free=(if o.rd=0 then[]else[o.to])++free) (hregs:regs=nm s.regs o)
  (hw:∀x,(o.rd≠0->x≠o.to)->wd x=s.wd x/\th x=s.th x)
  (hA:A=s.asked++(ownA o::if sts o.i then[st0 o.seq]else[])) (hst:o.st=0\/(o.st=2/\sts o.i=false/\ldn o.i.op=0))
  (hlat:0<=o.late/\o.late<=9)
  (hen:(op=true/\fro=nx o/\¬stp o)\/(op=false/\stp o)):Inv M t m:=by
 have hno:∀q∈s.under,¬stp q:=by
  rcases I.en with⟨_,_,h⟩|⟨h,_⟩
  ·exact h
  ·rw[ho]at h;cases h
 have htos:tos (s.under++[o])++free=tos s.under++s.free:=by
  rw[qj,hfree,zT]
  split<;>simp[tos]
 have hfr:o.rd≠0->o.to∈s.free:=λh=>by rw[hfree,if_neg h];simp
 have hd:=I.dis
 have hnm:∀r,r<32->o.rd≠0->m r≠o.to:=λr hr h e=>hd.apart r hr (by rw[e];exact Ak _ (hfr h))
 have hnt:o.rd≠0->o.to∉tos s.under:=λh hm=>by
  have:=(AW.1 hd.nod).2.2 _ hm _ (hfr h)
  exact this rfl
 have hM':∀q∈s.under,q.rd≠0->(o.rd≠0->q.to≠o.to):=λq hq hr h e=>hnt h (e▸vB hq hr)
 subst ht
 have hmem:∀q,q∈s.under++[o]->q∈s.under\/q=o:=λq hq=>by
  rcases Aj.1 hq with h|h
  ·exact .inl h
  ·exact .inr (Au.1 h)
 have hrd:∀q∈s.under,(wd q.a=s.wd q.a/\th q.a=s.th q.a)/\(wd q.b=s.wd q.b/\th q.b=s.th q.b):=λq hq=>by
  obtain⟨l1,l2,e⟩:=AK hq
  have hc:=I.ch
  rw[e]at hc
  obtain⟨ha,hb⟩:=zev hM hc
  have hsub:∀x,x∈tos l1->o.rd≠0->x≠o.to:=λx hx h ex=>hnt h (by rw[e,qj,<-ex];exact Ad _ hx)
  refine⟨hw q.a λh=>?_,hw q.b λh=>?_⟩
  ·rcases ha with⟨r,hr,e2⟩|e2
   ·rw[e2];exact hnm r hr h
   ·exact hsub _ e2 h
  ·rcases hb with⟨r,hr,e2⟩|e2
   ·rw[e2];exact hnm r hr h
   ·exact hsub _ e2 h
 refine⟨λr hr=>?_,?_,?_,?_,?_,?_,?_,?_,?_,?_,?_⟩
 ·obtain⟨e1,e2⟩:=hw (m r) (λh=>hnm r hr h)
  show th (m r)=true/\wd (m r)=s.R r
  rw[e1,e2]
  exact I.base r hr
 ·show Ch M s.n wd th s.pc m s.f (s.under++[o])
  rw[jM]
  refine⟨yK I.ch (λq hq=>⟨λhs ha hb=>?_,λh0=>?_⟩),λ_=>hno,hL,λ_=>rfl,trivial⟩
  ·obtain⟨⟨e1,e2⟩,e3,e4⟩:=hrd q hq
   rw[e1,e2,e3,e4]
   exact⟨ha,hb,rfl,rfl⟩
  ·obtain⟨e1,e2⟩:=hw q.to (hM' q hq h0)
   exact⟨e2,e1⟩
 ·show mE m (s.under++[o])=regs
  rw[kD,I.reg,hregs]
  rfl
 ·have hpE:pE s.pc (s.under++[o])=nx o:=by rw[zaC];rfl
  rcases hen with⟨h1,h2,h3⟩|⟨h1,h2⟩
  ·left
   refine⟨h1,h2.trans hpE.symm,λq hq=>?_⟩
   rcases hmem q hq with h|h
   ·exact hno q h
   ·rw[h];exact h3
  ·exact .inr ⟨h1,s.under,o,rfl,h2⟩
 ·show Dis s.phys m (tos (s.under++[o])++free)
  rw[htos]
  exact hd
 ·show 32+((tos (s.under++[o])++free).length:Int)=s.phys
  rw[htos]
  exact I.cnt
 ·show Rise (s.under++[o])
  rw[zy]
  refine⟨I.rise,by simp[Rise],λq hq p hp=>?_⟩
  rw[Au.1 hp,hseq]
  exact(I.low q hq).2
 ·intro q hq
  show 0<=q.seq/\q.seq<s.tak+1
  rcases hmem q hq with h|h
  ·have:=I.low q h;omega
  ·rw[h,hseq];omega
 ·show s.slots++[slot o]=(s.under++[o]).map slot
  rw[I.slo,Av]
  rfl
 ·show As s.n wd (s.under++[o]) A
  have hent:sts o.i=true->entA o=st0 o.seq:=λh=>by
   unfold entA
   rcases hst with h'|⟨_,h',_⟩
   ·rw[if_neg (by omega)]
   ·rw[h]at h';cases h'
  have hold:∀a∈s.asked,a∈A:=λa ha=>by rw[hA];exact Ad _ ha
  refine⟨λq hq=>?_,λp hp=>?_,λp hp h=>?_,λp hp h1 h2 h3=>?_⟩
  ·rw[hA]at hq
   rcases Aj.1 hq with h|h
   ·obtain⟨p,hp,e,he⟩:=I.ask.of q h
    exact⟨p,Ad _ hp,e,he⟩
   ·refine⟨o,by simp,?_⟩
    rcases An.1 h with h|h
    ·rw[h];exact⟨rfl,λh=>by cases h⟩
    ·split at h
     ·rename_i hs
      rw[Au.1 h]
      exact⟨rfl,λ_=>⟨hs,(hent hs).symm⟩⟩
     ·cases h
  ·rcases hmem p hp with h|h
   ·exact hold _ (I.ask.own p h)
   ·rw[h,hA];simp
  ·rcases hmem p hp with h'|h'
   ·exact hold _ (I.ask.sto p h' h)
   ·rw[h']at h⊢
    rw[hent h,hA,if_pos h]
    simp
  ·rcases hmem p hp with h'|h'
   ·rw[(hrd p h').1.1]at h3⊢
    exact hold _ (I.ask.lod p h' h1 h2 h3)
   ·rw[h']at h1 h2
    rcases hst with h4|⟨_,_,h4⟩
    ·omega
    ·exact absurd h4 h2
 ·intro q hq
  rcases hmem q hq with h|h
  ·exact I.lat q h
  ·rw[h];exact hlat
theorem zbf(s:Cr):0<=chN s:=by
 unfold chN
 split<;>omega
theorem zlR(M:Mc)(s:Cr)(o:Dg):∃K,(wayO M s o).1={s with scr:=K}/\(o.i.op≠3->trn o.i=false->(wayO M s o).2=(o.pc+4)%4294967296):=by
 unfold wayO
 split
 ·exact⟨s.scr,rfl,λh=>by contradiction⟩
 ·split
  ·rename_i h
   exact⟨_,rfl,λ_ h'=>by rw[h]at h';cases h'⟩
  ·exact⟨s.scr,rfl,λ_ _=>rfl⟩
theorem zlS(M:Mc)(s:Cr)(o:Dg)(hg:o.gs=false):∃L k g K v,(gueL M s o).2={o with late:=L,car:=k,gs:=g}/\
  (gueL M s o).1={s with scr:=K,wd:=if g=true then upI s.wd o.to v else s.wd,th:=if g=true then upB s.th o.to true else s.th}/\0<=L/\L<=9/\(g=true->o.rd≠0):=by
 have h0:=zbf s
 unfold gueL
 simp only[]
 split
 ·rename_i h
  exact⟨chN s%10,decide (chN s/10%2=1),true,s.scr.tail,(valO M s o.pc (chN s/10/2)).1,rfl,rfl,by omega,by omega,λ_=>h.2⟩
 ·exact⟨chN s%10,decide (chN s/10%2=1),false,s.scr.tail,0,by rw[<-hg],rfl,by omega,by omega,λh=>by cases h⟩
theorem zlT(M:Mc)(s:Cr)(o:Dg)(hg:o.gs=false)(hl:o.late=0):∃w L k g K v,(gueO M s o).2={o with next:=w,late:=L,car:=k,gs:=g}/\
  (gueO M s o).1={s with fro:=w,scr:=K,wd:=if g=true then upI s.wd o.to v else s.wd,th:=if g=true then upB s.th o.to true else s.th}/\0<=L/\L<=9/\(g=true->o.rd≠0)/\(o.i.op≠3->trn o.i=false->w=(o.pc+4)%4294967296):=by
 obtain⟨K,h1,h2⟩:=zlR M s o
 obtain⟨w,hw⟩:∃w,w=(wayO M s o).2:=⟨_,rfl⟩
 rw[<-hw]at h2
 have e:gueO M s o=if ldn o.i.op=0 then({s with scr:=K,fro:=w},{o with next:=w})else gueL M {s with scr:=K,fro:=w} {o with next:=w}:=by
  unfold gueO
  simp only[]
  rw[h1,<-hw]
 rw[e]
 split
 ·exact⟨w,o.late,o.car,false,K,0,by rw[<-hg],rfl,by omega,by omega,(λh=>by cases h),h2⟩
 ·obtain⟨L,k,g,K',v,g1,g2,g3,g4,g5⟩:=zlS M {s with scr:=K,fro:=w} {o with next:=w} hg
  exact⟨w,L,k,g,K',v,g1,g2,g3,g4,g5,h2⟩
theorem zn0{M:Mc}(hM:MOk M){s:Cr}{m:Nat->Int}(I:Inv M s m):rdI M s=fet M s.n (fE s.f s.under) s.fro:=by
 have h:=znZ (l1:=s.under) (l2:=[]) (by simpa using I.ask) (by simpa using I.rise) (s:=s.tak) (λq hq=>(I.low q hq).2) (λq hq=>by cases hq) (zkQ hM I.ch) s.f s.fro.toNat
 unfold rdI fet seeV
 rw[h]
 rfl
theorem zey{l:List Sl}{q:Int}(h:∀p∈l,p.1≠q):donS (l++[(q,false)]) q=l++[(q,true)]:=by
 unfold donS
 rw[Av]
 congr 1
 ·rw[AB (g:=id) (λp hp=>by rw[if_neg (h p hp)];rfl),Zo]
 ·simp
theorem yQ{M:Mc}(hM:MOk M){s:Cr}{m:Nat->Int}(I:Inv M s m)(ho:s.opn=true)(htak:0<=s.tak):
  Inv M (tak1 M s).1 m/\((tak1 M s).2=false->(tak1 M s).1=s/\(s.win<=s.slots.length\/s.free=[]))/\((tak1 M s).2=true->∃o,(tak1 M s).1.under=s.under++[o]/\mu o<=12/\(tak1 M s).1.tak=s.tak+1)/\
   (tak1 M s).1.coms=s.coms/\(tak1 M s).1.R=s.R/\(tak1 M s).1.pc=s.pc/\(tak1 M s).1.st=s.st/\(tak1 M s).1.ca=s.ca/\(tak1 M s).1.f=s.f/\(tak1 M s).1.n=s.n/\(tak1 M s).1.cyc=s.cyc/\(tak1 M s).1.win=s.win/\(tak1 M s).1.phys=s.phys/\(tak1 M s).1.wide=s.wide/\(tak1 M s).1.bck=s.bck/\(tak1 M s).1.tb=s.tb:=by
 have hrI:=zn0 hM I
 have hfro:s.fro=pE s.pc s.under:=by
  rcases I.en with⟨_,h,_⟩|⟨h,_⟩
  ·exact h
  ·rw[ho]at h;cases h
 unfold tak1
 split
 ·rename_i h
  exact⟨I,λ_=>⟨rfl,.inl h⟩,(λh=>by cases h),rfl,rfl,rfl,rfl,rfl,rfl,rfl,rfl,rfl,rfl,rfl,rfl,rfl⟩
 ·split
  ·rename_i h
   exact⟨I,λ_=>⟨rfl,.inr h.2⟩,(λh=>by cases h),rfl,rfl,rfl,rfl,rfl,rfl,rfl,rfl,rfl,rfl,rfl,rfl,rfl⟩
  ·rename_i hfree
   simp only[]
   by_cases hc:(rdI M s).2≠0
   ·rw[if_pos hc]
    have hz:(rdI M s).1=zin:=by rw[hrI]at hc⊢;exact za8 hc
    have e0:gvs zin=0:=zaD.1
    have hnew:(newO M s).rd=0:=by unfold newO;rw[hz];exact e0
    have hnam:namO (askO {s with slots:=s.slots++[(s.tak,false)],tak:=s.tak+1} (newO M s)) (newO M s)=(askO {s with slots:=s.slots++[(s.tak,false)],tak:=s.tak+1} (newO M s),{newO M s with a:=s.regs (ra (newO M s).i),b:=s.regs (rb (newO M s).i)}):=by
     unfold namO
     rw[if_pos hnew]
     rfl
    rw[hnam]
    have hsl:donS (s.slots++[(s.tak,false)]) s.tak=s.slots++[(s.tak,true)]:=zey λp hp=>by
     rw[I.slo]at hp
     obtain⟨q,hq,rfl⟩:=Az.1 hp
     have:=(I.low q hq).2
     show q.seq≠s.tak
     omega
    obtain⟨o,hoe⟩:∃o:Dg,o={newO M s with a:=s.regs (ra (newO M s).i),b:=s.regs (rb (newO M s).i),st:=2,c:=qn s.fro (rdI M s).2}:=⟨_,rfl⟩
    have hi:o.i=zin:=by rw[hoe];exact hz
    have hL:Loc M s.n s.wd s.th (pE s.pc s.under) (mE m s.under) (fE s.f s.under) o:=by
     have hf2:(fet M s.n (fE s.f s.under) (pE s.pc s.under))=rdI M s:=by rw[hrI,<-hfro]
     refine⟨?_,?_,?_,?_,?_,λh=>?_,λ_=>?_,λ_ h=>?_,λ_ h=>?_,λh h0 hr=>?_,λh=>?_,?_,λh=>?_⟩
     ·rw[hoe];exact hfro
     ·rw[hf2,hoe];rfl
     ·rw[hoe];rfl
     ·rw[hoe,I.reg]
     ·rw[hoe,I.reg]
     ·rw[hoe]at h;exact absurd hnew h
     ·rw[hf2,hoe,<-hfro];exact⟨rfl,rfl⟩
     ·rw[hf2]at h;exact absurd h hc
     ·rw[hf2]at h;exact absurd h hc
     ·rw[hoe]at hr;exact absurd hnew hr
     ·rw[hoe]at h;exact absurd rfl h
     ·rw[hoe];exact .inr (.inr rfl)
     ·rw[hoe]at h;exact absurd rfl h
    have hstp:stp o:=by rw[hoe];exact⟨rfl,by show(2:Int)≠0;decide⟩
    have hT:({(yC (askO {s with slots:=s.slots++[(s.tak,false)],tak:=s.tak+1} (newO M s)) {newO M s with a:=s.regs (ra (newO M s).i),b:=s.regs (rb (newO M s).i)} (rdI M s).2).1 with under:=(yC (askO {s with slots:=s.slots++[(s.tak,false)],tak:=s.tak+1} (newO M s)) {newO M s with a:=s.regs (ra (newO M s).i),b:=s.regs (rb (newO M s).i)} (rdI M s).2).1.under++[(yC (askO {s with slots:=s.slots++[(s.tak,false)],tak:=s.tak+1} (newO M s)) {newO M s with a:=s.regs (ra (newO M s).i),b:=s.regs (rb (newO M s).i)} (rdI M s).2).2]}:Cr)
      ={s with slots:=s.slots++[slot o],under:=s.under++[o],tak:=s.tak+1,asked:=s.asked++(ownA o::if sts o.i then[st0 o.seq]else[]),regs:=s.regs,free:=s.free,wd:=s.wd,th:=s.th,scr:=s.scr,fro:=s.fro,opn:=false}:=by
     unfold yC askO
     simp only[]
     have e1:donS (s.slots++[(s.tak,false)]) (newO M s).seq=s.slots++[slot o]:=by
      rw[hoe];exact hsl
     rw[e1,hoe]
     rfl
    refine⟨zhl hM I ho hT (by rw[hoe];rfl) htak hL (by rw[hoe,if_pos hnew];rfl) (by unfold nm;rw[if_pos (by rw[hoe];exact hnew)]) (λ_ _=>⟨rfl,rfl⟩) rfl (.inr ⟨by rw[hoe],by rw[hi];exact zaD.2.2.2.2,by rw[hi];exact zaD.2.2.2.1⟩) (by rw[hoe];exact⟨AL 0,by show(0:Int)<=9;omega⟩) (.inr ⟨rfl,hstp⟩),(λh=>by cases h),λ_=>⟨_,rfl,?_,rfl⟩,rfl,rfl,rfl,rfl,rfl,rfl,rfl,rfl,rfl,rfl,rfl,rfl,rfl⟩
    have hmu:∀p:Dg,p.st=2->mu p<=12:=λp hp=>by unfold mu;rw[if_pos hp];omega
    exact hmu _ rfl
   ·rw[if_neg hc]
    have hc:(rdI M s).2=0:=by simpa using hc
    obtain⟨o2,ho2⟩:∃o2:Dg,o2=(namO (askO {s with slots:=s.slots++[(s.tak,false)],tak:=s.tak+1} (newO M s)) (newO M s)).2:=⟨_,rfl⟩
    obtain⟨s2,hs2⟩:∃s2:Cr,s2=(namO (askO {s with slots:=s.slots++[(s.tak,false)],tak:=s.tak+1} (newO M s)) (newO M s)).1:=⟨_,rfl⟩
    rw[<-ho2,<-hs2]
    have f1:o2.gs=false/\o2.late=0/\o2.rd=gvs (rdI M s).1/\o2.i=(rdI M s).1/\o2.pc=s.fro/\o2.seq=s.tak/\o2.st=0/\o2.a=s.regs (ra o2.i)/\o2.b=s.regs (rb o2.i)/\(o2.rd≠0->o2.old=s.regs o2.rd):=by
     rw[ho2]
     unfold namO
     split
     ·exact⟨rfl,rfl,rfl,rfl,rfl,rfl,rfl,rfl,rfl,λh=>by rename_i h';exact absurd h' h⟩
     ·exact⟨rfl,rfl,rfl,rfl,rfl,rfl,rfl,rfl,rfl,λ_=>rfl⟩
    obtain⟨k1,k2,k3,k4,k5,k6,k7,k8,k9,k10⟩:=f1
    have f2:s2={s with slots:=s.slots++[(s.tak,false)],tak:=s.tak+1,asked:=s.asked++(ownA o2::if sts o2.i then[st0 o2.seq]else[]),regs:=nm s.regs o2,free:=if o2.rd=0 then s.free else s.free.tail,th:=if o2.rd=0 then s.th else upB s.th o2.to false}/\(o2.rd≠0->o2.to=s.free.headD 0):=by
     rw[hs2,ho2]
     unfold namO nm
     by_cases h:(newO M s).rd=0
     ·simp only[h,if_true];exact⟨rfl,λh'=>absurd rfl h'⟩
     ·simp only[h,if_false];exact⟨rfl,λ_=>rfl⟩
    obtain⟨f2,f3⟩:=f2
    have hfr:o2.rd≠0->s.free=o2.to::s.free.tail:=λh=>by
     rw[f3 h]
     cases hx:s.free with
     |nil=>exact absurd ⟨by rw[<-k3];exact h,hx⟩ hfree
     |cons x l=>rfl
    obtain⟨w,L,k,g,K,v,g1,g2,g3,g4,g5,g6⟩:=zlT M s2 o2 k1 k2
    rw[g1,g2]
    obtain⟨o,hoe⟩:∃o:Dg,o={o2 with next:=w,late:=L,car:=k,gs:=g}:=⟨_,rfl⟩
    rw[<-hoe]
    have hT:({({s2 with fro:=w,scr:=K,wd:=if g=true then upI s2.wd o2.to v else s2.wd,th:=if g=true then upB s2.th o2.to true else s2.th}:Cr)with under:=({s2 with fro:=w,scr:=K,wd:=if g=true then upI s2.wd o2.to v else s2.wd,th:=if g=true then upB s2.th o2.to true else s2.th}:Cr).under++[o]}:Cr)
      ={s with slots:=s.slots++[slot o],under:=s.under++[o],tak:=s.tak+1,asked:=s.asked++(ownA o::if sts o.i then[st0 o.seq]else[]),regs:=nm s.regs o,free:=if o.rd=0 then s.free else s.free.tail,wd:=if g=true then upI s.wd o.to v else s.wd,th:=if g=true then upB (if o.rd=0 then s.th else upB s.th o.to false) o.to true else(if o.rd=0 then s.th else upB s.th o.to false),scr:=K,fro:=w,opn:=s.opn}:=by
     have e1:slot o=(s.tak,false):=by rw[hoe];unfold slot;simp[k6,k7]
     rw[f2,e1,hoe]
     rfl
    have hst:o.st=0:=by rw[hoe];exact k7
    have hf2:(fet M s.n (fE s.f s.under) (pE s.pc s.under))=rdI M s:=by rw[hrI,<-hfro]
    have hth:o.rd≠0->(if g=true then upB (if o.rd=0 then s.th else upB s.th o.to false) o.to true else(if o.rd=0 then s.th else upB s.th o.to false)) o.to=o.gs:=λh=>by
     have hgs:o.gs=g:=by rw[hoe]
     rw[hgs,if_neg h]
     cases g with
     |false=>simp[upB]
     |true=>simp[upB]
    have hL:Loc M s.n (if g=true then upI s.wd o.to v else s.wd) (if g=true then upB (if o.rd=0 then s.th else upB s.th o.to false) o.to true else(if o.rd=0 then s.th else upB s.th o.to false)) (pE s.pc s.under) (mE m s.under) (fE s.f s.under) o:=by
     refine⟨?_,?_,?_,?_,?_,λh=>?_,λh=>?_,λh _=>absurd hst h,λh=>?_,λh=>?_,λ_ h=>hth h,.inl hst,λ_ h3 ht=>?_⟩
     ·rw[hoe,<-hfro];exact k5
     ·rw[hf2,hoe];exact k4
     ·rw[hoe];show o2.rd=gvs o2.i;rw[k3,k4]
     ·rw[hoe,I.reg];exact k8
     ·rw[hoe,I.reg];exact k9
     ·rw[hoe,I.reg]at*;exact k10 h
     ·rw[hf2]at h;exact absurd hc h
     ·omega
     ·omega
     ·rw[hoe]at h3 ht⊢;exact g6 h3 ht
    refine⟨zhl hM I ho hT (by rw[hoe];exact k6) htak hL ?_ rfl (λx hx=>?_) rfl (.inl hst) (by rw[hoe];exact⟨g3,g4⟩) (.inl ⟨ho,?_,λh=>by have:=h.1;omega⟩),(λh=>by cases h),λ_=>⟨o,by rw[f2],?_,by rw[f2]⟩,by rw[f2],by rw[f2],by rw[f2],by rw[f2],by rw[f2],by rw[f2],by rw[f2],by rw[f2],by rw[f2],by rw[f2],by rw[f2],by rw[f2],by rw[f2]⟩
    ·by_cases h:o.rd=0
     ·rw[if_pos h,if_pos h];rfl
     ·rw[if_neg h,if_neg h]
      have:=hfr (by rw[hoe]at h;exact h)
      rw[hoe]
      exact this
    ·refine⟨?_,?_⟩
     ·split
      ·rename_i hg
       have:o.rd≠0:=by rw[hoe];exact g5 hg
       exact if_neg (hx this)
      ·rfl
     ·have base:(if o.rd=0 then s.th else upB s.th o.to false) x=s.th x:=by
       split
       ·rfl
       ·rename_i h;exact if_neg (hx h)
      split
      ·rename_i hg
       have:o.rd≠0:=by rw[hoe];exact g5 hg
       rw[<-base]
       exact if_neg (hx this)
      ·exact base
    ·unfold nx;rw[if_neg (by omega),hoe]
    ·unfold mu;rw[if_neg (by omega),if_neg (by omega)];omega
structure Hs where
 R:Nat->Int
 pc:Int
 st:Int
 ca:Int
 f:Nat->Int
def hsC(M:Mc)(n:Nat)(h:Hs):Cm:=kC M n h.R h.pc h.f
def hsN(M:Mc)(n:Nat)(h:Hs):Hs:=⟨updC h.R (hsC M n h),(hsC M n h).next,(hsC M n h).st,(hsC M n h).ca,stoC h.f (hsC M n h)⟩
def hsAt(M:Mc)(n:Nat)(h:Hs):Nat->Hs
 |0=>h
 |k+1=>hsN M n (hsAt M n h k)
structure Ref(M:Mc)(h:Hs)(s:Cr):Prop where
 is:(⟨s.R,s.pc,s.st,s.ca,s.f⟩:Hs)=hsAt M s.n h s.coms.length
 coms:s.coms=(AU s.coms.length).map λj=>hsC M s.n (hsAt M s.n h j)
 runs:∀j,j<s.coms.length->(hsAt M s.n h j).st=0
def pop1(M:Mc)(s:Cr)(o:Dg)(l:List Dg):Cr:={com1 M s o with slots:=s.slots.drop 1,under:=l,asked:=s.asked.filter λq=>!decide (q.seq=o.seq)}
theorem zjB{M:Mc}(hM:MOk M){s:Cr}{m:Nat->Int}(I:Inv M s m){o:Dg}{l:List Dg}(hu:s.under=o::l)(h2:o.st=2):o.c=kC M s.n s.R s.pc s.f:=by
 have hloc:=zap (l1:=[]) (show Ch M s.n s.wd s.th s.pc m s.f ([]++o::l)from hu▸I.ch)
 have hloc:Loc M s.n s.wd s.th s.pc m s.f o:=hloc
 obtain⟨_,hra,hrb⟩:=kZ hM hloc
 unfold kC
 split
 ·rename_i hz
  exact(hloc.bad hz).2
 ·rename_i hz
  have hz:(fet M s.n s.f s.pc).2=0:=by simpa using hz
  rw[hloc.com h2 hz,hloc.a,hloc.b,(I.base _ hra).2,(I.base _ hrb).2,hloc.ins]
theorem zez{M:Mc}(hM:MOk M){s:Cr}{m:Nat->Int}(I:Inv M s m){o:Dg}{l:List Dg}(hu:s.under=o::l)(h2:o.st=2)(h0:o.c.st=0):Inv M (pop1 M s o l) (nm m o):=by
 have hch:Loc M s.n s.wd s.th s.pc m s.f o/\(stp o->l=[])/\Ch M s.n s.wd s.th (nx o) (nm m o) (nf s.f o) l:=by
  have:=I.ch
  rw[hu]at this
  exact this
 obtain⟨hloc,_,htail⟩:=hch
 have hcm:=zkP hM hloc h2
 have hrd:o.c.rd=o.rd:=by rw[hcm.gives h0,hloc.rd]
 have hr32:=(kZ hM hloc).1
 have hd:Dis s.phys m (tos (o::l)++s.free):=hu▸I.dis
 have hd1:=Dis.nm hd hr32
 have hcnt:32+((tos (o::l)++s.free).length:Int)=s.phys:=hu▸I.cnt
 have hns:¬stp o:=λh=>h.2 h0
 have hr:Rise (o::l):=hu▸I.rise
 obtain⟨hr1,hr2⟩:=zV.1 hr
 have hA:As s.n s.wd (o::l) s.asked:=hu▸I.ask
 refine⟨λr hr=>?_,?_,?_,?_,?_,?_,hr2,λq hq=>I.low q (by rw[hu];exact Af _ hq),?_,?_,λq hq=>I.lat q (by rw[hu];exact Af _ hq)⟩
 ·show s.th (nm m o r)=true/\s.wd (nm m o r)=updC s.R o.c r
  unfold nm updC
  rw[hrd]
  split
  ·exact I.base r hr
  ·rename_i hz
   by_cases e:r=o.rd
   ·subst e
    rw[zfm,zfm]
    exact hloc.fil h2 h0 hz
   ·rw[zjm e,zjm e];exact I.base r hr
 ·show Ch M s.n s.wd s.th o.c.next (nm m o) (stoC s.f o.c) l
  have e1:nx o=o.c.next:=if_pos h2
  have e2:nf s.f o=stoC s.f o.c:=if_pos h2
  rw[<-e1,<-e2]
  exact htail
 ·show mE (nm m o) l=s.regs
  rw[<-I.reg,hu]
  rfl
 ·have e1:nx o=o.c.next:=if_pos h2
  rcases I.en with⟨g1,g2,g3⟩|⟨g1,l0,q,g2,g3⟩
  ·left
   refine⟨g1,?_,λq hq=>g3 q (by rw[hu];exact Af _ hq)⟩
   show s.fro=pE o.c.next l
   rw[g2,hu,<-e1]
   rfl
  ·right
   refine⟨g1,?_⟩
   rw[hu]at g2
   cases l0 with
   |nil=>
    simp at g2
    rw[<-g2.1]at g3
    exact absurd g3 hns
   |cons x l0=>
    simp at g2
    exact⟨l0,q,g2.2,g3⟩
 ·show Dis s.phys (nm m o) (tos l++(if o.rd=0 then s.free else s.free++[o.old]))
  split
  ·exact hd1
  ·rename_i hz
   have hold:=hloc.old hz
   rw[zT,if_neg hz]at hd
   have hm:m o.rd∉o.to::tos l++s.free:=hd.apart _ hr32
   refine⟨hd1.inj,?_,λr hr hin=>?_,hd1.rm,λx hx=>?_⟩
   ·rw[<-AF,AW]
    refine⟨hd1.nod,by simp,λa ha b hb e=>hm ?_⟩
    rw[Au.1 hb,hold]at e
    rw[<-e]
    exact Af _ ha
   ·rw[<-AF]at hin
    rcases Aj.1 hin with h|h
    ·exact hd1.apart r hr h
    ·have h:=Au.1 h
     rw[hold]at h
     unfold nm at h
     rw[if_neg hz]at h
     by_cases e:r=o.rd
     ·subst e
      rw[zfm]at h
      exact hm (by rw[<-h];simp)
     ·rw[zjm e]at h
      exact e (hd.inj r o.rd hr hr32 h)
   ·rw[<-AF]at hx
    rcases Aj.1 hx with h|h
    ·exact hd1.rf x h
    ·rw[Au.1 h,hold]
     exact hd.rm _ hr32
 ·show 32+((tos l++(if o.rd=0 then s.free else s.free++[o.old])).length:Int)=s.phys
  rw[zT]at hcnt
  split
  ·rename_i hz;rw[if_pos hz]at hcnt;exact hcnt
  ·rename_i hz;rw[if_neg hz]at hcnt;rw[<-hcnt];simp;omega
 ·show s.slots.drop 1=l.map slot
  rw[I.slo,hu]
  rfl
 ·show As s.n s.wd l (s.asked.filter λq=>!decide (q.seq=o.seq))
  have keep:∀a∈s.asked,a.seq≠o.seq->a∈s.asked.filter λq=>!decide (q.seq=o.seq):=λa ha hn=>Ax.2 ⟨ha,by simp[hn]⟩
  have hne:∀p∈l,p.seq≠o.seq:=λp hp=>by have:=hr1 p hp;omega
  refine⟨λq hq=>?_,λp hp=>keep _ (hA.own p (Af _ hp)) (hne p hp),λp hp h=>keep _ (hA.sto p (Af _ hp) h) ?_,λp hp g1 g2 g3=>keep _ (hA.lod p (Af _ hp) g1 g2 g3) (hne p hp)⟩
  ·obtain⟨hq1,hq2⟩:=Ax.1 hq
   obtain⟨p,hp,e,he⟩:=hA.of q hq1
   simp at hq2
   rcases An.1 hp with h|h
   ·rw[h]at e;exact absurd e hq2
   ·exact⟨p,h,e,he⟩
  ·unfold entA
   split<;>exact hne p hp
theorem zjC{M:Mc}(hM:MOk M){s:Cr}{m:Nat->Int}(I:Inv M s m){o:Dg}{l:List Dg}(hu:s.under=o::l)(h2:o.st=2)(hs:s.st=0){h:Hs}(hR:Ref M h s):Ref M h (pop1 M s o l):=by
 have hc:=zjB hM I hu h2
 have hc':o.c=hsC M s.n (hsAt M s.n h s.coms.length):=by
  rw[<-hR.is]
  exact hc
 have hlen:(s.coms++[o.c]).length=s.coms.length+1:=by simp
 refine⟨?_,?_,λj hj=>?_⟩
 ·show(⟨updC s.R o.c,o.c.next,o.c.st,o.c.ca,stoC s.f o.c⟩:Hs)=hsAt M s.n h (s.coms++[o.c]).length
  rw[hlen]
  show _=hsN M s.n (hsAt M s.n h s.coms.length)
  unfold hsN
  rw[<-hc',<-hR.is]
 ·show s.coms++[o.c]=(AU (s.coms++[o.c]).length).map λj=>hsC M s.n (hsAt M s.n h j)
  rw[hlen,List.range_succ,Av,<-hR.coms,hc']
  rfl
 ·have hj:j<(s.coms++[o.c]).length:=hj
  rw[hlen]at hj
  by_cases e:j=s.coms.length
  ·subst e
   show(hsAt M s.n h s.coms.length).st=0
   rw[<-hR.is]
   exact hs
  ·exact hR.runs j (by omega)
def comN(M:Mc)(k:Nat)(s:Cr):Cr:=
 {(s.under.take k).foldl (com1 M) s with slots:=s.slots.drop k,under:=s.under.drop k,asked:=s.asked.filter λq=>!decide (q.seq∈(s.slots.take k).map (·.1))}
def cutC(s:Cr)(sl:List Sl)(un:List Dg)(ak:List Ac):Cr:={s with slots:=sl,under:=un,asked:=ak}
theorem zcd(M:Mc)(sl:List Sl)(un:List Dg)(ak:List Ac):∀(l:List Dg) (s:Cr),l.foldl (com1 M) (cutC s sl un ak)=cutC (l.foldl (com1 M) s) sl un ak
 |[],s=>rfl
 |o::l,s=>by
  rw[Ay,Ay]
  exact zcd M sl un ak l (com1 M s o)
theorem zce{M:Mc}{s:Cr}{m:Nat->Int}(I:Inv M s m){o:Dg}{l:List Dg}(hu:s.under=o::l)(k:Nat):comN M (k+1) s=comN M k (pop1 M s o l):=by
 have hsl:s.slots=slot o::l.map slot:=by rw[I.slo,hu];rfl
 have e:s.asked.filter (λq=>!decide (q.seq∈(s.slots.take (k+1)).map (·.1)))=(s.asked.filter λq=>!decide (q.seq=o.seq)).filter λq=>!decide (q.seq∈((s.slots.drop 1).take k).map (·.1)):=by
  rw[List.filter_filter,hsl]
  refine List.filter_congr λq _=>?_
  have:(slot o).1=o.seq:=rfl
  rw[Bool.and_comm]
  simp[this]
 have e1:comN M (k+1) s=cutC ((s.under.take (k+1)).foldl (com1 M) s) (s.slots.drop (k+1)) (s.under.drop (k+1)) (s.asked.filter λq=>!decide (q.seq∈(s.slots.take (k+1)).map (·.1))):=rfl
 have e2:comN M k (pop1 M s o l)=cutC ((l.take k).foldl (com1 M) (cutC (com1 M s o) (s.slots.drop 1) l (s.asked.filter λq=>!decide (q.seq=o.seq)))) ((s.slots.drop 1).drop k) (l.drop k) ((s.asked.filter λq=>!decide (q.seq=o.seq)).filter λq=>!decide (q.seq∈((s.slots.drop 1).take k).map (·.1))):=rfl
 rw[e1,e2,zcd,e,hu,AJ,Ay,List.drop_succ_cons,List.drop_drop]
 rw[Nat.add_comm 1 k]
 rfl
structure Stay(s t:Cr):Prop where
 win:t.win=s.win
 phys:t.phys=s.phys
 wide:t.wide=s.wide
 n:t.n=s.n
 cyc:t.cyc=s.cyc
 tak:t.tak=s.tak
 bck:t.bck=s.bck
 scr:t.scr=s.scr
theorem js(M:Mc)(s:Cr):comN M 0 s=s:=by
 have e:s.asked.filter (λq=>!decide (q.seq∈(s.slots.take 0).map (·.1)))=s.asked:=AT.2 λq _=>by simp
 show cutC _ _ _ _=_
 rw[e]
 rfl
theorem zbg{M:Mc}(hM:MOk M){h:Hs}:∀(k:Nat) (s:Cr) (m:Nat->Int),Inv M s m->s.st=0->Ref M h s->k<=s.under.length->(∀o∈s.under.take k,o.st=2)->
  Ref M h (comN M k s)/\(comN M k s).coms.length=s.coms.length+k/\((comN M k s).st=0->∃m',Inv M (comN M k s) m')/\Stay s (comN M k s)
 |0,s,m,I,hs,hR,_,_=>by
  rw[js]
  exact⟨hR,rfl,λ_=>⟨m,I⟩,rfl,rfl,rfl,rfl,rfl,rfl,rfl,rfl⟩
 |k+1,s,m,I,hs,hR,hk,hd=>by
  cases hu:s.under with
  |nil=>rw[hu]at hk;simp at hk
  |cons o l=>
   have h2:o.st=2:=hd o (by rw[hu];simp)
   have hR':=zjC hM I hu h2 hs hR
   rw[zce I hu k]
   have hl1:(pop1 M s o l).coms.length=s.coms.length+1:=by show(s.coms++[o.c]).length=_;simp
   by_cases h0:o.c.st=0
   ·have I':=zez hM I hu h2 h0
    obtain⟨g1,g2,g3,g4⟩:=zbg hM k (pop1 M s o l) (nm m o) I' h0 hR' (by show k<=l.length;rw[hu]at hk;simp at hk;omega) (λq hq=>hd q (by rw[hu,AJ];exact Af _ hq))
    exact⟨g1,by rw[g2,hl1];omega,g3,g4.win,g4.phys,g4.wide,g4.n,g4.cyc,g4.tak,g4.bck,g4.scr⟩
   ·have hl:l=[]:=by
     have:=I.ch
     rw[hu]at this
     exact this.2.1 ⟨h2,h0⟩
    subst hl
    rw[hu]at hk
    simp at hk
    subst hk
    rw[js]
    exact⟨hR',hl1,λh=>absurd h h0,rfl,rfl,rfl,rfl,rfl,rfl,rfl,rfl⟩
theorem yR:∀(l:List Sl) (k:Nat),qY l k<=k/\qY l k<=l.length
 |[],k=>by simp[qY]
 |q::l,0=>by simp[qY]
 |q::l,k+1=>by
  have:=yR l k
  unfold qY
  split
  ·simp;omega
  ·simp
theorem xA:∀(l:List Dg) (k:Nat),∀o∈l.take (qY (l.map slot) k),o.st=2
 |[],k,o,h=>by simp at h
 |q::l,0,o,h=>by simp[qY]at h
 |q::l,k+1,o,h=>by
  rw[AA]at h
  unfold qY at h
  split at h
  ·rename_i hq
   rw[AJ]at h
   rcases An.1 h with h|h
   ·rw[h];simpa[slot]using hq
   ·exact xA l k o h
  ·simp at h
theorem zdg{o:Dg}{l:List Dg}{k:Nat}(h:o.st=2)(hk:0<k):0<qY ((o::l).map slot) k:=by
 obtain⟨j,rfl⟩:∃j,k=j+1:=⟨k-1,by omega⟩
 rw[AA]
 unfold qY
 simp[slot,h]
end Go.Proofs.YtpiohehijkpghacGreatDoor.Co
namespace Go.Proofs.YtpiohehijkpghacGreatDoor.Co
open Go.RowKit
open Hy
open Wi Od Re.Hy
open Gu.Hy (Tb)
structure Keep(s t:Cr):Prop where
 win:t.win=s.win
 phys:t.phys=s.phys
 wide:t.wide=s.wide
 n:t.n=s.n
 coms:t.coms=s.coms
 R:t.R=s.R
 pc:t.pc=s.pc
 st:t.st=s.st
 ca:t.ca=s.ca
 f:t.f=s.f
 cyc:t.cyc=s.cyc
theorem Keep.refl(s:Cr):Keep s s:=⟨rfl,rfl,rfl,rfl,rfl,rfl,rfl,rfl,rfl,rfl,rfl⟩
theorem Keep.trans{a b c:Cr}(h:Keep a b)(k:Keep b c):Keep a c:=
 ⟨k.win.trans h.win,k.phys.trans h.phys,k.wide.trans h.wide,k.n.trans h.n,k.coms.trans h.coms,k.R.trans h.R,k.pc.trans h.pc,k.st.trans h.st,k.ca.trans h.ca,k.f.trans h.f,k.cyc.trans h.cyc⟩
theorem Same.keep{s t:Cr}(h:Same s t):Keep s t:=⟨h.win,h.phys,h.wide,h.n,h.coms,h.R,h.pc,h.st,h.ca,h.f,h.cyc⟩
theorem zhm{M:Mc}(hM:MOk M){s:Cr}{m:Nat->Int}(I:Inv M s m)(ho:s.opn=true)(htak:0<=s.tak):Keep s (tak1 M s).1:=by
 obtain⟨_,_,_,h1,h2,h3,h4,h5,h6,h7,h8,h9,h10,h11,_⟩:=yQ hM I ho htak
 exact⟨h9,h10,h11,h7,h1,h2,h3,h4,h5,h6,h8⟩
theorem zbh{M:Mc}(hM:MOk M):∀(k:Nat) (s:Cr) (m:Nat->Int),Inv M s m->0<=s.tak->Inv M (takN M k s) m/\Keep s (takN M k s)/\0<=(takN M k s).tak/\(takN M k s).bck=s.bck/\∀h l,s.under=h::l->∃l',(takN M k s).under=h::l'
 |0,s,m,I,ht=>⟨I,Keep.refl s,ht,rfl,λh l e=>⟨l,e⟩⟩
 |k+1,s,m,I,ht=>by
  unfold takN
  by_cases ho:s.opn=true
  ·rw[if_pos ho]
   have hk:=zhm hM I ho ht
   obtain⟨g1,g2,g3,_,_,_,_,_,_,_,_,_,_,_,gb,_⟩:=yQ hM I ho ht
   by_cases h2:(tak1 M s).2=true
   ·rw[if_pos h2]
    obtain⟨o,e1,e2,e3⟩:=g3 h2
    obtain⟨f1,f2,f3,f4,f5⟩:=zbh hM k (tak1 M s).1 m g1 (by rw[e3];omega)
    refine⟨f1,hk.trans f2,f3,f4.trans gb,λh l e=>?_⟩
    exact f5 h (l++[o]) (by rw[e1,e];rfl)
   ·rw[if_neg h2]
    obtain⟨e1,_⟩:=g2 (by simpa using h2)
    refine⟨g1,hk,by rw[e1];exact ht,by rw[e1],λh l e=>⟨l,by rw[e1];exact e⟩⟩
  ·rw[if_neg ho]
   exact⟨I,Keep.refl s,ht,rfl,λh l e=>⟨l,e⟩⟩
theorem zfu{M:Mc}(hM:MOk M){k:Nat}(hk:0<k){s:Cr}{m:Nat->Int}(I:Inv M s m)(ht:0<=s.tak)(hu:s.under=[])(hw:1<=s.win)(hp:33<=s.phys):∃h l,(takN M k s).under=h::l/\mu h<=12:=by
 obtain⟨j,rfl⟩:∃j,k=j+1:=⟨k-1,by omega⟩
 have ho:s.opn=true:=by
  rcases I.en with⟨h,_⟩|⟨_,l,o,h,_⟩
  ·exact h
  ·rw[hu]at h;simp at h
 unfold takN
 rw[if_pos ho]
 obtain⟨g1,g2,g3,_⟩:=yQ hM I ho ht
 by_cases h2:(tak1 M s).2=true
 ·rw[if_pos h2]
  obtain⟨o,e1,e2,e3⟩:=g3 h2
  obtain⟨_,_,_,_,f5⟩:=zbh hM j (tak1 M s).1 m g1 (by rw[e3];omega)
  obtain⟨l',hl⟩:=f5 o [] (by rw[e1,hu];rfl)
  exact⟨o,l',hl,e2⟩
 ·obtain⟨_,h⟩:=g2 (by simpa using h2)
  rcases h with h|h
  ·rw[I.slo,hu]at h;simp at h;omega
  ·have:=I.cnt
   rw[hu,h]at this
   simp[tos]at this
   omega
theorem zkS{M:Mc}{s:Cr}{m:Nat->Int}(I:Inv M s m){h:Dg}(hh:h∈s.under):1<=mu h/\mu h<=12:=by
 have:=I.lat h hh
 unfold mu
 split
 ·omega
 ·split<;>omega
structure Good(M:Mc)(h0:Hs)(s:Cr):Prop where
 ref:Ref M h0 s
 inv:s.st=0->∃m,Inv M s m
 tak:0<=s.tak
 bck:0<=s.bck
 cyc:0<=s.cyc
 win:1<=s.win
 phys:33<=s.phys
 wide:1<=s.wide
 many:(s.coms.length:Int)<=s.cyc*s.wide
 most:(s.coms.length:Int)<=2000
 goes:100<=s.coms.length\/s.cyc<=13*s.coms.length+12
 first:s.st=0->100<=s.coms.length\/(s.under=[]/\s.cyc=0)\/∃h l,s.under=h::l/\s.cyc<=13*s.coms.length+13-mu h
theorem zeA(s:Cr)(q pc:Int)(h:0<=s.bck):0<=(back s q pc).bck:=by
 unfold back
 simp only[]
 split<;>omega
theorem zfv(s:Cr)(q:Int)(c:Cm)(h:0<=s.bck):0<=(settle s q c).bck:=by
 unfold settle
 simp only[]
 split
 ·exact h
 ·exact zeA _ _ _ h
theorem jl(s:Cr)(o:Dg)(c:Cm)(h:0<=s.bck):0<=(finish s o c).bck:=by
 have h1:0<=(fin1 s o c).bck:=by
  unfold fin1
  simp only[]
  split
  ·exact zfv _ _ _ h
  ·exact h
 have h2:0<=(jc (fin1 s o c) o c).bck:=by rw[jY];exact h1
 unfold finish
 split
 ·exact h2
 ·exact zeA _ (o.seq+1) c.next h2
theorem zbi(g:Cr->Int->Cr)(hg:∀s q,0<=s.bck->0<=(g s q).bck):∀(l:List Int) (s:Cr),0<=s.bck->0<=(l.foldl g s).bck
 |[],s,h=>h
 |q::l,s,h=>zbi g hg l (g s q) (hg s q h)
theorem zjD(s:Cr)(h:0<=s.bck):0<=(load s).bck:=by
 refine zbi lodS (λs q h=>?_) _ _ h
 unfold lodS
 split
 ·exact h
 ·split
  ·exact h
  ·unfold lod1
   simp only[]
   split
   ·split
    ·exact h
    ·exact jl _ _ _ h
   ·exact jl _ _ _ h
theorem zhn(M:Mc)(s:Cr)(h:0<=s.bck):0<=(start M s).bck:=by
 unfold start
 simp only[]
 refine zbi (staS M) (λs q h=>?_) _ _ (by split<;>exact h)
 unfold staS
 split
 ·exact h
 ·unfold sta1
  split
  ·exact h
  ·exact jl _ _ _ h
theorem zjE{M:Mc}{h0:Hs}{s:Cr}(G:Good M h0 s)(hc:s.coms.length<100):1<=min s.wide (left {s with cyc:=s.cyc+1}):=by
 have h1:=G.wide
 have h2:=G.cyc
 unfold left
 simp only[]
 omega
theorem zjF{M:Mc}{h0:Hs}{s t:Cr}(h:Ref M h0 s)(k:Keep s t):Ref M h0 t:=by
 obtain⟨a,b,c⟩:=h
 refine⟨?_,?_,?_⟩
 ·rw[k.R,k.pc,k.st,k.ca,k.f,k.n,k.coms];exact a
 ·rw[k.n,k.coms];exact b
 ·rw[k.n,k.coms];exact c
theorem yd{M:Mc}(hM:MOk M){h0:Hs}{s:Cr}(G:Good M h0 s)(hs:s.st=0)(hc6:s.cyc<6000):Good M h0 (cycle M s)/\(cycle M s).cyc=s.cyc+1/\(cycle M s).wide=s.wide/\(cycle M s).n=s.n:=by
 obtain⟨m,I⟩:=G.inv hs
 obtain⟨s0,hs0⟩:∃s0:Cr,s0={s with cyc:=s.cyc+1}:=⟨_,rfl⟩
 have I0:Inv M s0 m:=by rw[hs0];exact⟨I.base,I.ch,I.reg,I.en,I.dis,I.cnt,I.rise,I.low,I.slo,I.ask,I.lat⟩
 have R0:Ref M h0 s0:=by rw[hs0];exact⟨G.ref.is,G.ref.coms,G.ref.runs⟩
 have hst0:s0.st=0:=by rw[hs0];exact hs
 obtain⟨k,hk⟩:∃k,k=qY s0.slots (min s0.wide (left s0)).toNat:=⟨_,rfl⟩
 have hcom:commit M s0=comN M k s0:=by rw[hk];rfl
 have hkl:=yR s0.slots (min s0.wide (left s0)).toNat
 rw[<-hk]at hkl
 have hkd:∀o∈s0.under.take k,o.st=2:=by rw[hk,I0.slo];exact xA _ _
 obtain⟨c1,c2,c3,c4⟩:=zbg hM k s0 m I0 hst0 R0 (by rw[I0.slo]at hkl;simpa using hkl.2) hkd
 have hcyc:(comN M k s0).cyc=s.cyc+1:=by rw[c4.cyc,hs0]
 have hwide:(comN M k s0).wide=s.wide:=by rw[c4.wide,hs0]
 have hn:(comN M k s0).n=s.n:=by rw[c4.n,hs0]
 have hlen:(comN M k s0).coms.length=s.coms.length+k:=by rw[c2,hs0]
 have htak:0<=(comN M k s0).tak:=by rw[c4.tak,hs0];exact G.tak
 have hbck:0<=(comN M k s0).bck:=by rw[c4.bck,hs0];exact G.bck
 have hwin:1<=(comN M k s0).win:=by rw[c4.win,hs0];exact G.win
 have hphys:33<=(comN M k s0).phys:=by rw[c4.phys,hs0];exact G.phys
 have g1:=G.wide
 have g2:=G.cyc
 have g3:=G.many
 have hleft:left s0=2000-s.coms.length-(6000-(s.cyc+1))/30:=by rw[hs0];rfl
 have hw0:s0.wide=s.wide:=by rw[hs0]
 rw[hw0,hleft]at hkl
 have hmany:((s.coms.length+k:Nat):Int)<=(s.cyc+1)*s.wide:=by
  have:(s.cyc+1)*s.wide=s.cyc*s.wide+s.wide:=by rw[Int.add_mul,Int.one_mul]
  omega
 have g5:=G.most
 have hmost:((s.coms.length+k:Nat):Int)<=2000:=by omega
 have hgoes:100<=s.coms.length+k\/s.cyc+1<=13*(s.coms.length+k:Nat)+12\/k=0:=by
  rcases G.goes with h|h
  ·exact .inl (by omega)
  ·by_cases hk0:k=0
   ·exact .inr (.inr hk0)
   ·exact .inr (.inl (by omega))
 unfold cycle
 simp only[]
 rw[<-hs0,hcom]
 split
 ·rename_i hrun
  obtain⟨m',I'⟩:=c3 hrun
  obtain⟨a1,a2,a3,a4,a5,a6⟩:=zew hM I'
  obtain⟨b1,b2,b3,b4,b5⟩:=zcc hM a1 (by rw[a2.wide,hwide];exact g1)
  have hkeep1:Keep (comN M k s0) (start M (load (comN M k s0))):=a2.keep.trans b2.keep
  have htk:0<=(start M (load (comN M k s0))).tak:=by rw[b2.tak,a2.tak];exact htak
  obtain⟨d1,d2,d3,d4,d5⟩:=zbh hM s.wide.toNat (start M (load (comN M k s0))) m' b1 htk
  have hkeep:=hkeep1.trans d2
  obtain⟨T,hT⟩:∃T,T=takN M s.wide.toNat (start M (load (comN M k s0))):=⟨_,rfl⟩
  rw[<-hT]at d1 d2 d3 d4 d5 hkeep⊢
  have hTc:T.coms.length=s.coms.length+k:=by rw[hkeep.coms,hlen]
  have hTb:0<=T.bck:=by rw[d4];exact zhn M _ (zjD _ hbck)
  have key:100<=s.coms.length+k\/∃h l,T.under=h::l/\s.cyc+1<=13*(s.coms.length+k:Nat)+13-mu h:=by
   by_cases h100:100<=s.coms.length+k
   ·exact .inl h100
   right
   cases hu:(comN M k s0).under with
   |nil=>
    have hu2:(start M (load (comN M k s0))).under=[]:=b4 (a5 hu)
    obtain⟨h,l,e1,e2⟩:=zfu hM (k:=s.wide.toNat) (by omega) b1 htk hu2 (by rw[b2.win,a2.win];exact hwin) (by rw[b2.phys,a2.phys];exact hphys)
    rw[<-hT]at e1
    refine⟨h,l,e1,?_⟩
    by_cases hk0:k=0
    ·rcases G.first hs with g|⟨_,g⟩|⟨x,y,g,_⟩
     ·omega
     ·omega
     ·have:(comN M k s0).under=s.under:=by rw[hk0,js,hs0]
      rw[this,g]at hu
      cases hu
    ·have:=G.goes;omega
   |cons h l=>
    obtain⟨h1,l1,e1,e2,e3⟩:=a6 h l hu
    obtain⟨h2,l2,e4,e5,e6⟩:=b5 h1 l1 e1
    obtain⟨l3,e7⟩:=d5 h2 l2 e4
    have r2:=zkS d1 (h:=h2) (by rw[e7];simp)
    refine⟨h2,l3,e7,?_⟩
    by_cases hk0:k=0
    ·have hsu:(comN M k s0).under=s.under:=by rw[hk0,js,hs0]
     rw[hsu]at hu
     rcases G.first hs with g|⟨g,_⟩|⟨x,y,g,g'⟩
     ·omega
     ·rw[g]at hu;cases hu
     ·have hxh:x=h/\y=l:=by rw[g]at hu;simpa using hu
      obtain⟨rfl,rfl⟩:=hxh
      have hne2:x.st≠2:=λh2'=>by
       have hp:=zjE G (by omega)
       have:0<qY s0.slots (min s0.wide (left s0)).toNat:=by
        rw[I0.slo,show s0.under=x::y by rw[hs0];exact g]
        refine zdg h2' ?_
        rw[<-hs0,show s.wide=s0.wide by rw[hs0]]at hp
        omega
       omega
      have hloc:=(show Loc M s.n s.wd s.th s.pc m s.f x from(by have:=I.ch;rw[g]at this;exact this.1))
      have hlt:mu h2<mu x:=by
       rcases hloc.sta with h0'|⟨h1',_⟩|h2'
       ·have:=e2 (by omega)
        subst this
        exact e6 h0'
       ·have l1':=e3 h1'
        by_cases h0':h1.st=0
        ·have:=e6 h0';omega
        ·rw[e5 h0'];exact l1'
       ·exact absurd h2' hne2
      omega
    ·have:=G.goes;omega
  refine⟨⟨zjF c1 hkeep,λ_=>⟨m',d1⟩,d3,hTb,?_,?_,?_,?_,?_,?_,?_,λ_=>?_⟩,?_,?_,?_⟩
  ·rw[hkeep.cyc,hcyc];omega
  ·rw[hkeep.win];exact hwin
  ·rw[hkeep.phys];exact hphys
  ·rw[hkeep.wide,hwide];exact g1
  ·rw[hTc,hkeep.cyc,hkeep.wide,hcyc,hwide];exact hmany
  ·rw[hTc];exact hmost
  ·rw[hTc,hkeep.cyc,hcyc]
   rcases key with h|⟨h,l,e,h'⟩
   ·exact .inl h
   ·have:=zkS d1 (h:=h) (by rw[e];simp)
    exact .inr (by omega)
  ·rw[hTc,hkeep.cyc,hcyc]
   rcases key with h|h
   ·exact .inl h
   ·exact .inr (.inr h)
  ·rw[hkeep.cyc,hcyc]
  ·rw[hkeep.wide,hwide]
  ·rw[hkeep.n,hn]
 ·rename_i hrun
  have hk0:k≠0:=λh=>by
   apply hrun
   rw[h,js]
   exact hst0
  refine⟨⟨c1,λh=>absurd h hrun,htak,hbck,by rw[hcyc];omega,hwin,hphys,by rw[hwide];exact g1,by rw[hlen,hcyc,hwide];exact hmany,by rw[hlen];exact hmost,?_,λh=>absurd h hrun⟩,hcyc,hwide,hn⟩
  rw[hlen,hcyc]
  rcases hgoes with h|h|h
  ·exact .inl h
  ·exact .inr h
  ·exact absurd h hk0
theorem zcf{M:Mc}(hM:MOk M){h0:Hs}:∀(k:Nat) (s:Cr),Good M h0 s->s.cyc+k<=6000->Good M h0 (runN M k s)/\(runN M k s).cyc<=s.cyc+k/\((runN M k s).st=0->(runN M k s).cyc=s.cyc+k)/\(runN M k s).wide=s.wide/\(runN M k s).n=s.n
 |0,s,G,_=>⟨G,by show s.cyc<=_;omega,λ_=>by show s.cyc=_;omega,rfl,rfl⟩
 |k+1,s,G,h=>by
  unfold runN
  by_cases hs:s.st=0
  ·rw[if_pos hs]
   obtain⟨G',e1,e2,e3⟩:=yd hM G hs (by omega)
   obtain⟨f1,f2,f3,f4,f5⟩:=zcf hM k (cycle M s) G' (by rw[e1];omega)
   exact⟨f1,by rw[e1]at f2;omega,λh=>by rw[f3 h,e1];omega,f4.trans e2,f5.trans e3⟩
  ·rw[if_neg hs]
   exact⟨G,by omega,λh=>absurd h hs,rfl,rfl⟩
theorem zaF{M:Mc}(win phys wide:Int)(n:Nat)(R:Nat->Int)(pc st ca:Int)(f:Nat->Int)(scr:List Int)(hw:1<=win)(hp:33<=phys)(hp2:phys<=96)(hwi:1<=wide):Good M ⟨R,pc,st,ca,f⟩ (begin win phys wide n R pc st ca f scr):=by
 refine⟨⟨rfl,rfl,λj hj=>absurd hj (by show¬j<0;omega)⟩,λ_=>⟨λi=>i,?_⟩,AL 0,AL 0,AL 0,hw,hp,hwi,?_,?_,.inr ?_,λ_=>.inr (.inl ⟨rfl,rfl⟩)⟩
 ·refine⟨λr hr=>?_,trivial,rfl,.inl ⟨rfl,rfl,(λo h=>by cases h)⟩,⟨λr r' _ _ e=>by omega,?_,λr hr hm=>?_,λr hr=>by show 0<=(r:Int)/\(r:Int)<phys;omega,λx hx=>?_⟩,?_,by simp[Rise,begin],(λo h=>by cases h),rfl,⟨(λq h=>by cases h),(λo h=>by cases h),(λo h=>by cases h),(λo h=>by cases h)⟩,(λo h=>by cases h)⟩
  ·show decide ((r:Int)<32)=true/\(if(r:Int)<32 then R (r:Int).toNat else 0)=R r
   refine⟨decide_eq_true (by omega),?_⟩
   rw[if_pos (by omega)]
   simp
  ·show((AU (phys.toNat-32)).map (λi:Nat=>32+(i:Int))).Nodup
   exact(List.nodup_range.map _ (λa b hab e=>hab (by omega)))
  ·have hm:(r:Int)∈(AU (phys.toNat-32)).map (λi:Nat=>32+(i:Int)):=hm
   obtain⟨i,_,e⟩:=Az.1 hm
   omega
  ·have hx:x∈(AU (phys.toNat-32)).map (λi:Nat=>32+(i:Int)):=hx
   obtain⟨i,hi,e⟩:=Az.1 hx
   have:=List.mem_range.1 hi
   show 0<=x/\x<phys
   omega
  ·show 32+((([]:List Int)++(AU (phys.toNat-32)).map (λi:Nat=>32+(i:Int))).length:Int)=phys
   simp
   omega
 ·show((0:Nat):Int)<=0*wide
  simp
 ·show((0:Nat):Int)<=2000
  omega
 ·show(0:Int)<=13*((0:Nat):Int)+12
  omega
end Go.Proofs.YtpiohehijkpghacGreatDoor.Co
namespace Go.Proofs.YtpiohehijkpghacGreatDoor
open Go.RowKit
open Hy
attribute [local go_sem ↓] Go.wp_at_zero Go.wp_at_succ
theorem yT(p0 p1 p2:Int)(h0:0<=p1)(h1:p1<=31)(w:World):
  Calls prog 101 #[.agg #[.int .u32 p0,.int .u32 p1,.int .u32 p2]] w λe w'=>e=.returned (.int .u32 (msk p1))/\Below w.heap.size w w':=by
 go_enter func101,ntmps101
 go_wp2
 go_ret
 exact⟨rfl,(Ae _ _).alloc (Aa _) _⟩
structure TB(f:Int)(B:Nat)(bs:Int)(w wl:World):Prop where
 c0:wl.cell? ⟨B+1+1,0,none⟩=some (.int .i64 f)
 c1:wl.cell? ⟨B+1+1,1,none⟩=some (.int .u32 bs)
 b0:wl.cell? ⟨B+1,0,none⟩=some (.int .u32 0)
 b1:wl.cell? ⟨B+1,1,none⟩=some (.int .u32 12)
 b2:wl.cell? ⟨B+1,2,none⟩=some (.int .u32 25)
 r0:wl.cell? ⟨B,0,none⟩=some (.int .i64 0)
 r1:wl.cell? ⟨B,1,none⟩=some (.int .u32 0)
 z0:wl.frozen? ⟨B,0,none⟩=false
 z1:wl.frozen? ⟨B,1,none⟩=false
 z2:wl.frozen? ⟨B+1+1,1,none⟩=false
 be:Below B w wl
theorem zlU{f:Int}{B:Nat}{T V V':Int}{w wr:World}(hV:V=V')
  (c0:wr.cell? ⟨B+1+1,0,none⟩=some (.int .i64 f))
  (c1:wr.cell? ⟨B+1+1,1,none⟩=some (.int .u32 T))
  (b0:wr.cell? ⟨B+1,0,none⟩=some (.int .u32 0))
  (b1:wr.cell? ⟨B+1,1,none⟩=some (.int .u32 12))
  (b2:wr.cell? ⟨B+1,2,none⟩=some (.int .u32 25))
  (r0:wr.cell? ⟨B,0,none⟩=some (.int .i64 0))
  (r1:wr.cell? ⟨B,1,none⟩=some (.int .u32 0))
  (z0:wr.frozen? ⟨B,0,none⟩=false)
  (z1:wr.frozen? ⟨B,1,none⟩=false)
  (z2:wr.frozen? ⟨B+1+1,1,none⟩=false)
  (be:Below B w wr):
  TB f B (bits .or .u32 T V') w (wr.setCell ⟨B+1+1,1,none⟩ (.int .u32 (bits .or .u32 T V))).drew:=by
 subst hV
 refine⟨?_,?_,?_,?_,?_,?_,?_,?_,?_,?_,(be.setCell (by simp;omega) _).drew⟩
 all_goals simp[go_sem, *]
theorem zfw(n:Nat)(hn:n<=3)(f:Int)(b:Nat)(ps:Nat->Int)(w:World)(hb:b<w.heap.size)
  (hc:∀j:Nat,j<n->w.cell? ⟨b,j,none⟩=some (.int .u32 (ps j))):
  Calls prog 68 #[.int .i64 f,.slice (some ⟨b,0,none⟩) n n] w λe w'=>e=.returned (.agg #[.int .i64 f,.int .u32 (tb ps n)])/\Below w.heap.size w w':=by
 go_enter func68,ntmps68
 go_wp2
 go_loopw [7,8,14] (λi p k wl=>∃j:Nat,j<=n/\k=.int .i64 j/\TB f w.heap.size (tb ps j) w wl) (λ_ _ k _=>n-(intOf k).toNat)
 case atStart=>
  refine⟨0,Nat.zero_le _,rfl,⟨?_,?_,?_,?_,?_,?_,?_,?_,?_,?_,?_⟩⟩
  all_goals try simp[go_sem,tb]
  exact(((Ae _ _).alloc (Aa _) _).alloc (by simp) _).alloc (by simp;omega) _
 case round=>
  obtain⟨j,hj,rfl,hT⟩:=hrel
  have c0:=hT.c0
  have c1:=hT.c1
  have b0:=hT.b0
  have b1:=hT.b1
  have b2:=hT.b2
  have r0:=hT.r0
  have r1:=hT.r1
  have z0:=hT.z0
  have z1:=hT.z1
  have z2:=hT.z2
  by_cases hlt:j<n
  ·have hx:wr.cell? ⟨b,j,none⟩=some (.int .u32 (ps j)):=(hT.be.cell (p:=⟨b,j,none⟩) hb).trans (hc j hlt)
   have hj3:j=0\/j=1\/j=2:=by omega
   obtain⟨T,hTb⟩:∃T,T=tb ps j:=⟨_,rfl⟩
   have HT:Hid (T=tb ps j):=hTb
   rw[<-hTb]at c1
   have hbe:=hT.be
   clear hc hTb hT
   rcases hj3 with rfl|rfl|rfl
   all_goals
    go_wp2_with fail
    go_region
    go_wp2
    refine⟨⟨_,hlt,by go_num,?_⟩,by simp[intOf];omega⟩
    rw[tb,<-HT.out]
    exact zlU (by simp[beg]) c0 c1 b0 b1 b2 r0 r1 z0 z1 z2 hbe
  ·obtain rfl:j=n:=by omega
   go_wp2
   exact WZ (v:=.agg #[.int .i64 f,.int .u32 (tb ps j)]) (by simp[results,results68,go_sem,r0,r1]) rfl ⟨rfl,(hT.be.setCell (Aa _) _).setCell (Aa _) _⟩
end Go.Proofs.YtpiohehijkpghacGreatDoor
namespace Go.Proofs.YtpiohehijkpghacGreatDoor
open Go.RowKit
open Hy
abbrev hcs(R:Nat->Int)(pc st ca:Int):Array Value:=#[.int .u32 (R 0),.int .u32 (R 1),.int .u32 (R 2),.int .u32 (R 3),.int .u32 (R 4),.int .u32 (R 5),.int .u32 (R 6),.int .u32 (R 7),.int .u32 (R 8),.int .u32 (R 9),.int .u32 (R 10),.int .u32 (R 11),.int .u32 (R 12),.int .u32 (R 13),.int .u32 (R 14),.int .u32 (R 15),.int .u32 (R 16),.int .u32 (R 17),.int .u32 (R 18),.int .u32 (R 19),.int .u32 (R 20),.int .u32 (R 21),.int .u32 (R 22),.int .u32 (R 23),.int .u32 (R 24),.int .u32 (R 25),.int .u32 (R 26),.int .u32 (R 27),.int .u32 (R 28),.int .u32 (R 29),.int .u32 (R 30),.int .u32 (R 31),.int .u32 pc,.int .i64 st,.int .i64 ca]
abbrev hv(R:Nat->Int)(pc st ca:Int):Value:=.agg (hcs R pc st ca)
def may(R:Nat->Int)(st ca:Int):Bool:=R 0==0&&(((st==0||st==1)&&ca==0)||(st==2&&decide (1<=ca)&&decide (ca<=6)))
abbrev ccs(pc next st ca rd val at_ many data:Int)(out:Bool)(told:Int):Array Value:=#[.int .u32 pc,.int .u32 next,.int .i64 st,.int .i64 ca,.int .i64 rd,.int .u32 val,.int .u32 at_,.int .i64 many,.int .u32 data,.bool out,.int .u32 told]
abbrev cv(pc next st ca rd val at_ many data:Int)(out:Bool)(told:Int):Value:=.agg (ccs pc next st ca rd val at_ many data out told)
theorem zq:(prog.info? 27).map (·.size)=some 35:=by kernel_rfl
theorem za:(prog.info? 68).map (·.size)=some 11:=by kernel_rfl
theorem qH{P:Program}{ops:Array Oper}{rest:List Oper}{o:Oper}{a:Act}{w:World}{Q:Exit->Act->World->Prop}(hg:o.guard=none)(t:TypeId)(parts:Array (Nat×Operand))(ho:o.op=.build t parts)(cells:Array Value)
  (hb:P.built t (parts.map λ(i,x)=>(i,a.eval x)).toList=some cells)
  (h:wpList P ops Q rest (a.put o.dst (.agg cells)) w):wpList P ops Q (o::rest) a w:=
 wpList_build hg t parts ho (by rw[hb];rfl) (by rw[hb];exact h)
def Ones(H:Array Value):Prop:=H.all (·.oneCell')=true
theorem Ones.set{H:Array Value}(h:Ones H)(i:Nat)(v:Value)(hv:v.oneCell'=true):Ones (H.setIfInBounds i v):=by
 unfold Ones at*
 rw[AN]at*
 intro x hx
 obtain⟨j,hj,e⟩:=Array.getElem_of_mem hx
 have hj':j<H.size:=by simpa using hj
 rw[Array.getElem_setIfInBounds hj']at e
 split at e
 ·rw[<-e];exact hv
 ·rw[<-e];exact h _ (Array.getElem_mem hj')
theorem zc{B:Nat}{a w:World}(h:Below B a w){g:Nat}(hg:B<=g)(cs:Array Value):Below B a (w.setRow g cs):=
 ⟨h.os,h.tape,h.output,by simpa using h.size,λk hk=>(Zm _ _ _ _ (by omega)).trans (h.block k hk)⟩
theorem qv(pc next st ca rd val at_ many data:Int)(out:Bool)(told:Int):Ones (ccs pc next st ca rd val at_ many data out told):=by unfold Ones;simp[Zf]
end Go.Proofs.YtpiohehijkpghacGreatDoor
namespace Go.Proofs.YtpiohehijkpghacGreatDoor
open Go.RowKit
open Hy
attribute [local go_sem ↓] Go.wp_at_zero Go.wp_at_succ
theorem bcell{W w1:World}{B:Nat}(hb:Below B W w1):(∀b o,b<B->w1.cell? ⟨b,o,none⟩=W.cell? ⟨b,o,none⟩)/\(∀b o,b<B->w1.frozen? ⟨b,o,none⟩=W.frozen? ⟨b,o,none⟩):=
 ⟨λb o h=>hb.cell (p:=⟨b,o,none⟩) h,λb o h=>hb.frozen (p:=⟨b,o,none⟩) h⟩
abbrev fv(c:Nat->Int):Value:=.agg #[.int .u32 (c 0),.int .u32 (c 1),.int .u32 (c 2),.int .u32 (c 3),.int .u32 (c 4),.int .u32 (c 5),.int .u32 (c 6),.int .u32 (c 7),.int .u32 (c 8),.int .u32 (c 9),.int .u32 (c 10),.int .u32 (c 11),.int .u32 (c 12),.int .u32 (c 13),.int .u32 (c 14),.int .u32 (c 15),.int .u32 (c 16)]
abbrev pcs(c:Nat->Int):Value:=.agg #[.int .u32 (c 5),.int .u32 (c 6),.int .u32 (c 7),.int .u32 (c 8),.int .u32 (c 9),.int .u32 (c 10),.int .u32 (c 11),.int .u32 (c 12),.int .u32 (c 13),.int .u32 (c 14),.int .u32 (c 15),.int .u32 (c 16)]
theorem ix0(c:Nat->Int)(w:World):(AP 111 (pcs c) (.int .i64 0)).run prog w=.ok (.agg #[.int .u32 (c 5),.int .u32 (c 6),.int .u32 (c 7)]) w:=by kernel_rfl
theorem ix1(c:Nat->Int)(w:World):(AP 111 (pcs c) (.int .i64 1)).run prog w=.ok (.agg #[.int .u32 (c 8),.int .u32 (c 9),.int .u32 (c 10)]) w:=by kernel_rfl
theorem ix2(c:Nat->Int)(w:World):(AP 111 (pcs c) (.int .i64 2)).run prog w=.ok (.agg #[.int .u32 (c 11),.int .u32 (c 12),.int .u32 (c 13)]) w:=by kernel_rfl
theorem ix3(c:Nat->Int)(w:World):(AP 111 (pcs c) (.int .i64 3)).run prog w=.ok (.agg #[.int .u32 (c 14),.int .u32 (c 15),.int .u32 (c 16)]) w:=by kernel_rfl
theorem zdh(c:Nat->Int)(x:Int)(x0:0<=x)(x1:x<=4294967295)
  (hb:∀j,1<=j->0<=c j/\c j<=31) (w:World):
  Calls prog 69 #[fv c,.int .u32 x] w λe w'=>e=.returned (.int .i32 (rim c x))/\Below w.heap.size w w':=by
 have i0:=ix0 c
 have i1:=ix1 c
 have i2:=ix2 c
 have i3:=ix3 c
 go_enter func69,ntmps69
 go_wp2
 go_loopw [5,7,10] (λb p k wl=>∃j:Nat,j<=4/\k=.int .i64 j/\b=.int .u32 (ib c x j)/\Below (w.heap.size+1) (w.alloc (.cells #[.int .u32 (c 0),.int .u32 (c 1),.int .u32 (c 2),.int .u32 (c 3),.int .u32 (c 4),.int .u32 (c 5),.int .u32 (c 6),.int .u32 (c 7),.int .u32 (c 8),.int .u32 (c 9),.int .u32 (c 10),.int .u32 (c 11),.int .u32 (c 12),.int .u32 (c 13),.int .u32 (c 14),.int .u32 (c 15),.int .u32 (c 16)] 113)) wl/\w.heap.size<wl.heap.size) (λ_ _ k _=>4-(intOf k).toNat)
 case atStart=>exact⟨0,by omega,rfl,rfl,Ae _ _,by simp⟩
 case round=>
  obtain⟨j,hj,rfl,rfl,hbe,hsz⟩:=hrel
  obtain⟨T,hTb⟩:∃T,T=ib c x j:=⟨_,rfl⟩
  have HT:Hid (T=ib c x j):=hTb
  rw[<-hTb]
  clear hTb
  by_cases hlt:j<4
  ·have hj3:j=0\/j=1\/j=2\/j=3:=by omega
   rcases hj3 with rfl|rfl|rfl|rfl
   ·obtain⟨h00,h01⟩:0<=c 6/\c 6<=31:=hb 6 (by omega)
    have hbe2:=hbe.alloc hsz (.cells #[.int .u32 (c 5),.int .u32 (c 6),.int .u32 (c 7)] 110)
    go_wp2_with fail
    go_region_held3 (λw'=>w'.cell? ⟨wr.heap.size,0,none⟩=some (.int .u32 (c 5))/\w'.cell? ⟨wr.heap.size,1,none⟩=some (.int .u32 (c 6))/\w'.cell? ⟨wr.heap.size,2,none⟩=some (.int .u32 (c 7))) (first|go_keep|(obtain⟨hc,hf⟩:=bcell hk;refine⟨?_,?_,?_⟩<;>(rw[hc _ _ (by simp)];go_keep))) ((go_at_call 101;refine(yT _ _ _ ?_ ?_ _).mono ?_;(iterate 2 omega);rintro e w' ⟨rfl,hk⟩))
    replace hbe2:=hbe2.drew.trans (hk.mono (B':=w.heap.size+1) (by simp;omega))
    have hs:=hk.size
    simp at hs
    go_wp2
    refine⟨⟨1,by omega,by go_num,?_,hbe2,by omega⟩,by simp[intOf]⟩
    rw[ib,<-HT.out];rfl
   ·obtain⟨h00,h01⟩:0<=c 9/\c 9<=31:=hb 9 (by omega)
    have hbe2:=hbe.alloc hsz (.cells #[.int .u32 (c 8),.int .u32 (c 9),.int .u32 (c 10)] 110)
    go_wp2_with fail
    go_region_held3 (λw'=>w'.cell? ⟨wr.heap.size,0,none⟩=some (.int .u32 (c 8))/\w'.cell? ⟨wr.heap.size,1,none⟩=some (.int .u32 (c 9))/\w'.cell? ⟨wr.heap.size,2,none⟩=some (.int .u32 (c 10))) (first|go_keep|(obtain⟨hc,hf⟩:=bcell hk;refine⟨?_,?_,?_⟩<;>(rw[hc _ _ (by simp)];go_keep))) ((go_at_call 101;refine(yT _ _ _ ?_ ?_ _).mono ?_;(iterate 2 omega);rintro e w' ⟨rfl,hk⟩))
    replace hbe2:=hbe2.drew.trans (hk.mono (B':=w.heap.size+1) (by simp;omega))
    have hs:=hk.size
    simp at hs
    go_wp2
    refine⟨⟨2,by omega,by go_num,?_,hbe2,by omega⟩,by simp[intOf]⟩
    rw[ib,<-HT.out];rfl
   ·obtain⟨h00,h01⟩:0<=c 12/\c 12<=31:=hb 12 (by omega)
    have hbe2:=hbe.alloc hsz (.cells #[.int .u32 (c 11),.int .u32 (c 12),.int .u32 (c 13)] 110)
    go_wp2_with fail
    go_region_held3 (λw'=>w'.cell? ⟨wr.heap.size,0,none⟩=some (.int .u32 (c 11))/\w'.cell? ⟨wr.heap.size,1,none⟩=some (.int .u32 (c 12))/\w'.cell? ⟨wr.heap.size,2,none⟩=some (.int .u32 (c 13))) (first|go_keep|(obtain⟨hc,hf⟩:=bcell hk;refine⟨?_,?_,?_⟩<;>(rw[hc _ _ (by simp)];go_keep))) ((go_at_call 101;refine(yT _ _ _ ?_ ?_ _).mono ?_;(iterate 2 omega);rintro e w' ⟨rfl,hk⟩))
    replace hbe2:=hbe2.drew.trans (hk.mono (B':=w.heap.size+1) (by simp;omega))
    have hs:=hk.size
    simp at hs
    go_wp2
    refine⟨⟨3,by omega,by go_num,?_,hbe2,by omega⟩,by simp[intOf]⟩
    rw[ib,<-HT.out];rfl
   ·obtain⟨h00,h01⟩:0<=c 15/\c 15<=31:=hb 15 (by omega)
    have hbe2:=hbe.alloc hsz (.cells #[.int .u32 (c 14),.int .u32 (c 15),.int .u32 (c 16)] 110)
    go_wp2_with fail
    go_region_held3 (λw'=>w'.cell? ⟨wr.heap.size,0,none⟩=some (.int .u32 (c 14))/\w'.cell? ⟨wr.heap.size,1,none⟩=some (.int .u32 (c 15))/\w'.cell? ⟨wr.heap.size,2,none⟩=some (.int .u32 (c 16))) (first|go_keep|(obtain⟨hc,hf⟩:=bcell hk;refine⟨?_,?_,?_⟩<;>(rw[hc _ _ (by simp)];go_keep))) ((go_at_call 101;refine(yT _ _ _ ?_ ?_ _).mono ?_;(iterate 2 omega);rintro e w' ⟨rfl,hk⟩))
    replace hbe2:=hbe2.drew.trans (hk.mono (B':=w.heap.size+1) (by simp;omega))
    have hs:=hk.size
    simp at hs
    go_wp2
    refine⟨⟨4,by omega,by go_num,?_,hbe2,by omega⟩,by simp[intOf]⟩
    rw[ib,<-HT.out];rfl
  ·obtain rfl:j=4:=by omega
   obtain⟨h00,h01⟩:0<=c 4/\c 4<=31:=hb 4 (by omega)
   obtain⟨hc,hf⟩:=bcell hbe
   have h4:wr.cell? ⟨w.heap.size,4,none⟩=some (.int .u32 (c 4)):=by rw[hc _ _ (by omega)];simp[go_sem]
   clear hc hf
   go_wp2
   go_ret
   exact⟨by rw[HT.out];rfl,((Ae _ _).alloc (Aa _) _).trans (hbe.mono (by omega))⟩
abbrev iv(op rd rs1 rs2 imm:Int):Value:=.agg #[.int .i64 op,.int .i64 rd,.int .i64 rs1,.int .i64 rs2,.int .i32 imm]
end Go.Proofs.YtpiohehijkpghacGreatDoor
namespace Go.Proofs.YtpiohehijkpghacGreatDoor
open Go.RowKit
open Hy
theorem zeB(H:Array Value)(z0 st ca:Int)(h0:H[0]?=some (.int .u32 z0))(h33:H[33]?=some (.int .i64 st))(h34:H[34]?=some (.int .i64 ca))(w:World):
  Calls prog 25 #[.agg H] w λe w'=>e=.returned (.bool (z0==0&&(((st==0||st==1)&&ca==0)||(st==2&&decide (1<=ca)&&decide (ca<=6)))))/\Below w.heap.size w w':=by
 go_enter func25,ntmps25
 go_wp2
 all_goals(go_ret;refine⟨?_,(Ae _ _).alloc (Aa _) _⟩)
 all_goals(simp_all;try omega)
theorem jt(pc k:Int)(w:World):
  Calls prog 99 #[.int .u32 pc,.int .i64 k] w λe w'=>e=.returned (cv pc pc 2 k 0 0 0 0 0 false 0)/\Below w.heap.size w w':=by
 go_enter func99,ntmps99
 go_wp2
 exact WZ (v:=cv pc pc 2 k 0 0 0 0 0 false 0) (Ai results99 _ _ _ 68 _ (0,0) _ rfl (heap_alloc_new _ _) underlying68 rfl za) rfl ⟨rfl,(Ae _ _).alloc (Aa _) _⟩
theorem zJ(pc:Int)(p0:0<=pc)(p1:pc<=4294967295)(w:World):
  Calls prog 130 #[.int .u32 pc] w λe w'=>e=.returned (cv pc ((pc+4)%4294967296) 0 0 0 0 0 0 0 false 0)/\Below w.heap.size w w':=by
 go_enter func130,ntmps130
 go_wp2
 exact WZ (v:=cv pc ((pc+4)%4294967296) 0 0 0 0 0 0 0 false 0) (Ai results130 _ _ _ 68 _ (0,0) _ rfl (heap_alloc_new _ _) underlying68 rfl za) rfl ⟨rfl,(Ae _ _).alloc (Aa _) _⟩
theorem zeC(pc next v:Int)(w:World):
  Calls prog 129 #[cv pc next 0 0 0 0 0 0 0 false 0,.int .i64 0,.int .u32 v] w λe w'=>e=.returned (cv pc next 0 0 0 0 0 0 0 false 0)/\Below w.heap.size w w':=by
 go_enter func129,ntmps129
 go_wp2
 exact WZ (v:=cv pc next 0 0 0 0 0 0 0 false 0) (Ai results129 _ _ _ 68 _ (0,0) _ rfl (Ap _ _ _) underlying68 rfl za) rfl ⟨rfl,((Ae _ _).alloc (Aa _) _).alloc (by simp) _⟩
theorem zcg(pc next v:Int)(rd:Nat)(hz:((rd:Int) != 0)=true)(w:World):
  Calls prog 129 #[cv pc next 0 0 0 0 0 0 0 false 0,.int .i64 rd,.int .u32 v] w λe w'=>e=.returned (cv pc next 0 0 rd v 0 0 0 false 0)/\Below w.heap.size w w':=by
 go_enter func129,ntmps129
 go_wp2
 exact WZ (v:=cv pc next 0 0 rd v 0 0 0 false 0) (Ai results129 _ _ _ 68 _ (0,0) _ rfl (Ap _ _ _) underlying68 rfl za) rfl ⟨rfl,((Ae _ _).alloc (Aa _) _).alloc (by simp) _⟩
def itab:List Int:=[0,0,0,0,0,0,0,0,0,0,0,0,0,0,0,0,0,0,0,28,31,32,33,36,37,30,34,35,0,0,0,0,0,0,0,0,0,0,0,0,0,0,0,0,0,0,0,0,0]
def Tab2(w:World):Prop:=∀i,i<49->w.cell? ⟨2,i,none⟩=some (.int .i64 (itab.getD i 0))
theorem Tab2.size{w:World}(h:Tab2 w):2<w.heap.size:=AM _ _ (h 0 (by omega))
theorem Tab2.below{w w':World}{B:Nat}(h:Tab2 w)(hb:Below B w w')(hB:2<B):Tab2 w':=
 λi hi=>(hb.cell (p:=⟨2,i,none⟩) hB).trans (h i hi)
theorem zlV(a:Int)(a0:0<=a)(a1:a<=4294967295):bits .andNot .u32 a 1=a-a%2:=by
 rw[u32_andNot a 1 a0 (by omega) (by omega) (by omega)]
 rw[show(4294967295-(1:Int).toNat)=4294967294 from rfl,and_even _ (by omega)]
 omega
abbrev wd(I:Int):Int:=I%4294967296
theorem zho(rd s1 s2 I pc A B:Int)(p0:0<=pc)(p1:pc<=4294967295)(w:World):
  Calls prog 133 #[iv 3 rd s1 s2 I,.int .u32 pc,.int .u32 A,.int .u32 B] w λe w'=>e=.returned (.int .u32 ((pc+wd I)%4294967296))/\Below w.heap.size w w':=by
 go_enter func133,ntmps133
 go_wp2
 go_ret
 exact⟨rfl,(Ae _ _).alloc (Aa _) _⟩
theorem zjG(op rd s1 s2 I pc A B:Int)(p0:0<=pc)(p1:pc<=4294967295)(hq:(op==3)=false)
  (q:∀W,Calls prog 167 #[.int .i64 op,.int .u32 A,.int .u32 B] W λe w'=>e=.returned (.bool true)/\w'=W) (w:World):
  Calls prog 133 #[iv op rd s1 s2 I,.int .u32 pc,.int .u32 A,.int .u32 B] w λe w'=>e=.returned (.int .u32 ((pc+wd I)%4294967296))/\Below w.heap.size w w':=by
 go_enter func133,ntmps133
 go_wp2_with fail
 refine(q _).mono ?_
 rintro e w' ⟨rfl,rfl⟩
 go_wp2
 go_ret
 exact⟨rfl,(Ae _ _).alloc (Aa _) _⟩
theorem zjH(op rd s1 s2 I pc A B:Int)(p0:0<=pc)(p1:pc<=4294967295)(hq:(op==3)=false)(hr:(op==4)=false)
  (q:∀W,Calls prog 167 #[.int .i64 op,.int .u32 A,.int .u32 B] W λe w'=>e=.returned (.bool false)/\w'=W) (w:World):
  Calls prog 133 #[iv op rd s1 s2 I,.int .u32 pc,.int .u32 A,.int .u32 B] w λe w'=>e=.returned (.int .u32 ((pc+4)%4294967296))/\Below w.heap.size w w':=by
 go_enter func133,ntmps133
 go_wp2_with fail
 refine(q _).mono ?_
 rintro e w' ⟨rfl,rfl⟩
 go_wp2
 go_ret
 exact⟨rfl,(Ae _ _).alloc (Aa _) _⟩
theorem zfx(rd s1 s2 I pc A B:Int)(p0:0<=pc)(p1:pc<=4294967295)(a0:0<=A)(a1:A<=4294967295)
  (q:∀W,Calls prog 167 #[.int .i64 4,.int .u32 A,.int .u32 B] W λe w'=>e=.returned (.bool false)/\w'=W) (w:World):
  Calls prog 133 #[iv 4 rd s1 s2 I,.int .u32 pc,.int .u32 A,.int .u32 B] w λe w'=>e=.returned (.int .u32 ((A+wd I)%4294967296-(A+wd I)%4294967296%2))/\Below w.heap.size w w':=by
 have hb:=zlV ((A+wd I)%4294967296) (by omega) (by omega)
 go_enter func133,ntmps133
 go_wp2_with fail
 refine(q _).mono ?_
 rintro e w' ⟨rfl,rfl⟩
 go_wp2
 go_ret
 exact⟨zZ (by rw[show(A+I)%4294967296=(A+wd I)%4294967296 by unfold wd;omega];exact hb),(Ae _ _).alloc (Aa _) _⟩
theorem zdi(rd s1 s2 I pc A B:Int)(w:World):
  Calls prog 134 #[iv 1 rd s1 s2 I,.int .u32 pc,.int .u32 A,.int .u32 B] w λe w'=>e=.returned (.int .u32 (wd I))/\Below w.heap.size w w':=by
 go_enter func134,ntmps134
 go_wp2
 go_ret
 exact⟨rfl,(Ae _ _).alloc (Aa _) _⟩
theorem zbj(rd s1 s2 I pc A B:Int)(p0:0<=pc)(p1:pc<=4294967295)(w:World):
  Calls prog 134 #[iv 2 rd s1 s2 I,.int .u32 pc,.int .u32 A,.int .u32 B] w λe w'=>e=.returned (.int .u32 ((pc+wd I)%4294967296))/\Below w.heap.size w w':=by
 go_enter func134,ntmps134
 go_wp2
 go_ret
 exact⟨rfl,(Ae _ _).alloc (Aa _) _⟩
theorem zdj(rd s1 s2 I pc A B:Int)(p0:0<=pc)(p1:pc<=4294967295)(w:World):
  Calls prog 134 #[iv 3 rd s1 s2 I,.int .u32 pc,.int .u32 A,.int .u32 B] w λe w'=>e=.returned (.int .u32 ((pc+4)%4294967296))/\Below w.heap.size w w':=by
 go_enter func134,ntmps134
 go_wp2
 go_ret
 exact⟨rfl,(Ae _ _).alloc (Aa _) _⟩
theorem zch(rd s1 s2 I pc A B:Int)(p0:0<=pc)(p1:pc<=4294967295)(w:World):
  Calls prog 134 #[iv 4 rd s1 s2 I,.int .u32 pc,.int .u32 A,.int .u32 B] w λe w'=>e=.returned (.int .u32 ((pc+4)%4294967296))/\Below w.heap.size w w':=by
 go_enter func134,ntmps134
 go_wp2
 go_ret
 exact⟨rfl,(Ae _ _).alloc (Aa _) _⟩
theorem zdk(m:Nat)(rd s1 s2 I pc A B O V:Int)(m0:5<=m)(m1:m<49)(ht:itab.getD m 0=O)(hO:(O != 0)=true)
  (q:∀W,Calls prog 168 #[.int .i64 O,.int .u32 A,.int .u32 (wd I)] W λe w'=>e=.returned (.int .u32 V)/\w'=W) (w:World) (hT:Tab2 w):
  Calls prog 134 #[iv m rd s1 s2 I,.int .u32 pc,.int .u32 A,.int .u32 B] w λe w'=>e=.returned (.int .u32 V)/\Below w.heap.size w w':=by
 have k:=hT m m1
 rw[ht]at k
 have hs:=hT.size
 have n1:((m:Int)==1)=false:=beq_eq_false_iff_ne.2 (by omega)
 have n2:((m:Int)==2)=false:=beq_eq_false_iff_ne.2 (by omega)
 have n3:((m:Int)==3)=false:=beq_eq_false_iff_ne.2 (by omega)
 have n4:((m:Int)==4)=false:=beq_eq_false_iff_ne.2 (by omega)
 clear hT ht
 go_enter func134,ntmps134
 go_wp2_with fail
 refine(q _).mono ?_
 rintro e w' ⟨rfl,rfl⟩
 go_wp2
 go_ret
 exact⟨rfl,(Ae _ _).alloc (Aa _) _⟩
theorem zdl(m:Nat)(rd s1 s2 I pc A B V:Int)(m0:5<=m)(m1:m<49)(ht:itab.getD m 0=0)
  (q:∀W,Calls prog 168 #[.int .i64 m,.int .u32 A,.int .u32 B] W λe w'=>e=.returned (.int .u32 V)/\w'=W) (w:World) (hT:Tab2 w):
  Calls prog 134 #[iv m rd s1 s2 I,.int .u32 pc,.int .u32 A,.int .u32 B] w λe w'=>e=.returned (.int .u32 V)/\Below w.heap.size w w':=by
 have k:=hT m m1
 rw[ht]at k
 have hs:=hT.size
 have n1:((m:Int)==1)=false:=beq_eq_false_iff_ne.2 (by omega)
 have n2:((m:Int)==2)=false:=beq_eq_false_iff_ne.2 (by omega)
 have n3:((m:Int)==3)=false:=beq_eq_false_iff_ne.2 (by omega)
 have n4:((m:Int)==4)=false:=beq_eq_false_iff_ne.2 (by omega)
 clear hT ht
 go_enter func134,ntmps134
 go_wp2_with fail
 refine(q _).mono ?_
 rintro e w' ⟨rfl,rfl⟩
 go_wp2
 go_ret
 exact⟨rfl,(Ae _ _).alloc (Aa _) _⟩
end Go.Proofs.YtpiohehijkpghacGreatDoor
namespace Go.Proofs.YtpiohehijkpghacGreatDoor
open Go.RowKit
open Hy
theorem zjI(x k:Nat):x&&& (255*2^k)=(x/2^k%256)*2^k:=by
 apply Nat.eq_of_testBit_eq
 intro i
 rw[Zr 255,Zr (x/2^k%256),Nat.testBit_and,AZ,AZ]
 by_cases h:k<=i
 ·simp only[h,decide_true,Bool.true_and]
  rw[show(255:Nat)=2^8-1 from rfl,Nat.testBit_two_pow_sub_one,show(256:Nat)=2^8 from rfl,Nat.testBit_mod_two_pow,Nat.testBit_div_two_pow,Nat.sub_add_cancel h,Bool.and_comm]
 ·simp[h]
theorem zfy(B P:Int)(k:Nat)(hk:k<=24)(hP:P=((2^k:Nat):Int))(b0:0<=B)(b1:B<=4294967295):bits .and .u32 B (255*P)=B/P%256*P:=by
 have hle:2^k<=2^24:=Zg (by omega) hk
 have hab:=zjI B.toNat k
 generalize 2^k=q at hle hP hab
 subst hP
 rw[u32_and _ _ b0 (by omega) (by omega) (by omega),show(255*(q:Int)).toNat=255*q by omega,hab]
 obtain⟨x,rfl⟩:=Aq b0
 simp
theorem yU(B T P Q:Int)(k:Nat)(hk:k<=24)(hP:P=((2^k:Nat):Int))(hQ:Q=P*256)(b0:0<=B)(b1:B<=4294967295)(hT:T=B%P):
  bits .or .u32 T (bits .and .u32 B (255*P))=B%Q:=by
 have hle:2^k<=2^24:=Zg (by omega) hk
 have hp:0<2^k:=Nat.pos_of_ne_zero (by simp)
 have hP0:0<P:=by omega
 have t0:0<=T:=by rw[hT];exact Int.emod_nonneg _ (by omega)
 have t1:T<P:=by rw[hT];exact Int.emod_lt_of_pos _ hP0
 rw[zfy B P k hk hP b0 b1]
 have d0:0<=B/P%256:=by omega
 have d1:B/P%256<=255:=by omega
 have dm:B/P%256*P<=255*P:=Int.mul_le_mul_of_nonneg_right d1 (by omega)
 have dn:0<=B/P%256*P:=Int.mul_nonneg d0 (by omega)
 rw[zbS k P T _ hP (by omega) t0 t1 dn (by omega) (Int.mul_emod_left _ _),hT,hQ]
 have e1:=Zn B (P*256)
 have e2:=Zn B P
 have e3:=Zn (B/P) 256
 have e4:B/(P*256)=B/P/256:=(Int.ediv_ediv_of_nonneg (by omega)).symm
 rw[e1,e2,e3,e4,Int.sub_mul,Int.mul_assoc P 256,Int.mul_comm (256*(B/P/256)) P,Int.mul_comm (B/P) P]
 omega
theorem ye(B:Int)(m:Nat)(hm:m=1\/m=2\/m=4)(b0:0<=B)(b1:B<=4294967295)(w:World):
  Calls prog 166 #[.int .u32 B,.int .u32 m] w λe w'=>e=.returned (.int .u32 (B%p256 m))/\w'=w:=by
 go_enter func166,ntmps166
 go_wp2
 go_loop [5,6,8] (λt i k=>∃j:Nat,j<=m/\k=.int .u32 j/\t=.int .u32 (B%p256 j)) (λ_ _ k=>m-(intOf k).toNat)
 case atStart=>exact⟨0,by omega,rfl,int_eq (by rw[show p256 0=1 from rfl];omega)⟩
 case round=>
  obtain⟨j,hj,rfl,rfl⟩:=hrel
  obtain⟨T,hT⟩:∃T,T=B%p256 j:=⟨_,rfl⟩
  have HT:Hid (T=B%p256 j):=hT
  rw[<-hT]
  clear hT
  by_cases hlt:j<m
  ·rcases(by omega:j=0\/j=1\/j=2\/j=3)with rfl|rfl|rfl|rfl
   ·go_wp2
    go_round
    case rel=>exact⟨1,by omega,by go_num,int_eq (yU B T 1 256 0 (by omega) rfl rfl b0 b1 HT.out)⟩
    case measure=>simp[intOf];omega
   ·go_wp2
    go_round
    case rel=>exact⟨2,by omega,by go_num,int_eq (yU B T 256 65536 8 (by omega) rfl rfl b0 b1 HT.out)⟩
    case measure=>simp[intOf];omega
   ·go_wp2
    go_round
    case rel=>exact⟨3,by omega,by go_num,int_eq (yU B T 65536 16777216 16 (by omega) rfl rfl b0 b1 HT.out)⟩
    case measure=>simp[intOf];omega
   ·go_wp2
    go_round
    case rel=>exact⟨4,by omega,by go_num,int_eq (yU B T 16777216 4294967296 24 (by omega) rfl rfl b0 b1 HT.out)⟩
    case measure=>simp[intOf];omega
  ·obtain rfl:j=m:=by omega
   go_wp2
   go_ret
   exact⟨congrArg Ending.returned (int_eq HT.out),rfl⟩
theorem jm(op rd s1 s2 I pc V:Int)(w:World):
  Calls prog 88 #[iv op rd s1 s2 I,.int .u32 pc,.int .u32 V,.bool false] w λe w'=>e=.returned (cv pc pc 2 3 0 0 0 0 0 false 0)/\Below w.heap.size w w':=by
 go_enter func88,ntmps88
 go_wp2_with fail
 refine(jt pc 3 _).mono ?_
 rintro e w2 ⟨rfl,hk⟩
 have hs:=hk.size
 simp at hs
 have hr:=(hk.block (w.heap.size+1) (by simp)).trans (Ap _ _ _)
 go_wp2_with(refine Ao rfl 68 _ _ rfl _ _ rfl rfl 68 _ hr za rfl (qv _ _ _ _ _ _ _ _ _ _ _) ?_)
 exact WZ (v:=cv pc pc 2 3 0 0 0 0 0 false 0) (Ai results88 _ _ _ 68 _ (0,0) _ rfl (Ar _ _ _ _ _ _ hr) underlying68 rfl za) rfl ⟨rfl,zc ((((Ae _ _).alloc (Aa _) _).alloc (by simp) _).trans (hk.mono (by simp;omega))) (by simp) _⟩
theorem zg{N:Nat}{W w2:World}(hk:Below W.drew.heap.size W.drew w2)(h:N<=W.heap.size):Below N W w2:=((Ae _ W).drew).trans (hk.mono h)
theorem xB{N:Nat}{W w2 w3:World}(h2:Below N W w2)(hk:Below w2.heap.size w2 w3)(h:N<=W.heap.size):Below N W w3:=h2.trans (hk.mono (Zs h h2.size))
theorem zP{N:Nat}{W w2:World}{b:Nat}{o:Obj}(h2:Below N W w2)(hb:b<N)(h:W.heap[b]?=some o):w2.heap[b]?=some o:=(h2.block b hb).trans h
theorem jZ{N:Nat}{W w2:World}{b j:Nat}{v:Value}(h2:Below N W w2)(hb:b<N)(h:W.cell? ⟨b,j,none⟩=some v):w2.cell? ⟨b,j,none⟩=some v:=(h2.cell (p:=⟨b,j,none⟩) hb).trans h
theorem qB(op I pc V NX:Int)(rd s1 s2:Nat)(w:World)
  (CN:∀W,Calls prog 130 #[.int .u32 pc] W λe w'=>e=.returned (cv pc NX 0 0 0 0 0 0 0 false 0)/\Below W.heap.size W w')
  (r v:Int) (CG:∀W,Calls prog 129 #[cv pc NX 0 0 0 0 0 0 0 false 0,.int .i64 rd,.int .u32 V] W λe w'=>e=.returned (cv pc NX 0 0 r v 0 0 0 false 0)/\Below W.heap.size W w'):
  Calls prog 88 #[iv op rd s1 s2 I,.int .u32 pc,.int .u32 V,.bool true] w λe w'=>e=.returned (cv pc NX 0 0 r v 0 0 0 false 0)/\Below w.heap.size w w':=by
 go_enter func88,ntmps88
 go_wp2_with fail
 obtain⟨W,hW⟩:∃W:World,W=(w.alloc (.cells #[.int .i64 op,.int .i64 rd,.int .i64 s1,.int .i64 s2,.int .i32 I] 78)).alloc (.cells (ccs 0 0 0 0 0 0 0 0 0 false 0) 68):=⟨_,rfl⟩
 have r24:W.heap[w.heap.size]?=some (.cells #[.int .i64 op,.int .i64 rd,.int .i64 s1,.int .i64 s2,.int .i32 I] 78 (0,0)):=by rw[hW];exact Zb _ _ _
 have r38:W.heap[w.heap.size+1]?=some (.cells (ccs 0 0 0 0 0 0 0 0 0 false 0) 68 (0,0)):=by rw[hW];exact Ap _ _ _
 have hsz:w.heap.size+2<=W.heap.size:=by rw[hW];simp
 have hb:Below w.heap.size w W:=by rw[hW];exact((Ae _ _).alloc (Aa _) _).alloc (by simp) _
 have y1:=(AQ W w.heap.size 1 _ _ _ r24).trans rfl
 have R38:Hid (W.heap[w.heap.size+1]?=some (.cells (ccs 0 0 0 0 0 0 0 0 0 false 0) 68 (0,0))):=r38
 rw[<-hW]
 clear hW r24 r38
 have hl:w.heap.size+1<w.heap.size+2:=by omega
 have hl0:w.heap.size<w.heap.size+2:=by omega
 refine Zh (S:=λw'=>Below (w.heap.size+1) W w') (by kernel_rfl) ((Ae _ _).drew) (λhH=>?_)
 refine Co.tI 0 (.int .u32 pc) ?_
 try simp only[Aw,Ab,Ag,Ah]
 refine Co.tI 2 (.pointer (some ⟨w.heap.size,1,none⟩)) ?_
 try simp only[Aw,Ab,Ag,Ah]
 refine Co.tH 3 (.int .i64 rd) rfl (Or.inl ⟨by rfl,by intro w hSw;have hc:=jZ hSw (Nat.lt_succ_self _) y1;go_simp⟩) hH ?_
 try simp only[Aw,Ab,Ag,Ah]
 refine Co.tI 4 (.int .u32 V) ?_
 try simp only[Aw,Ab,Ag,Ah]
 refine AH (rs:=[1]) (by kernel_rfl) (by simp) ?_
 refine AC rfl (λK hK=>?_) AE
 go_simp
 refine(CN _).mono ?_
 rintro e w2 ⟨rfl,hk⟩
 have hB2:Below (w.heap.size+2) W w2:=zg hk hsz
 go_wp2_with fail
 refine hK.out _ _ (hB2.mono (by omega)) (λhH=>?_)
 clear hK K
 try simp only[Aw,Ab,Ag,Ah]
 refine AH (rs:=[5]) (by kernel_rfl) (by simp) ?_
 refine AC rfl (λK hK=>?_) AE
 go_simp
 refine(CG _).mono ?_
 rintro e w3 ⟨rfl,hk3⟩
 have hB3:Below (w.heap.size+2) W w3:=xB hB2 hk3 hsz
 go_wp2_with fail
 refine hK.out _ _ (hB3.mono (by omega)) (λhH=>?_)
 clear hK K
 try simp only[Aw,Ab,Ag,Ah]
 refine AH (rs:=[6]) (by kernel_rfl) (by simp) ?_
 refine AC rfl (λK hK=>?_) AE
 rw[if_pos (by rfl)]
 refine wp_store_row 68 _ _ rfl _ _ rfl rfl 68 _ (zP hB3 hl R38.out) za rfl (qv _ _ _ _ _ _ _ _ _ _ _) ?_
 refine hK.out _ _ (zc (hB3.mono (by omega)) (Aa _) _) (λhH=>?_)
 clear hK K
 try simp only[Aw,Ab,Ag,Ah]
 refine wpAnyH_done (by kernel_rfl) ?_ _
 go_wp2_with fail
 exact WZ (v:=cv pc NX 0 0 r v 0 0 0 false 0) (Ai results88 _ _ _ 68 _ (0,0) _ rfl (Ar _ _ _ _ _ _ (zP hB3 hl R38.out)) underlying68 rfl za) rfl ⟨rfl,zc (hb.trans (hB3.mono (by omega))) (by omega) _⟩
theorem vG(op rd s1 s2 I pc A B:Int)(p:Option Addr)(n c:Nat)(a0:0<=A)(a1:A<=4294967295)(w:World)
  (CM:∀W,Calls prog 111 #[.slice p n c,.int .i64 op,.int .u32 ((A+I)%4294967296)] W λe w'=>e=.returned (.int .u32 0)/\w'=W):
  Calls prog 131 #[iv op rd s1 s2 I,.int .u32 pc,.int .u32 A,.int .u32 B,.slice p n c] w λe w'=>e=.returned (cv pc pc 2 4 0 0 0 0 0 false 0)/\Below w.heap.size w w':=by
 go_enter func131,ntmps131
 go_wp2_with fail
 refine(CM _).mono ?_
 rintro e w' ⟨rfl,rfl⟩
 go_wp2_with fail
 refine(jt pc 4 _).mono ?_
 rintro e w2 ⟨rfl,hk⟩
 have hs:=hk.size
 simp at hs
 have hr:=(hk.block (w.heap.size+1) (by simp)).trans (Ap _ _ _)
 go_wp2_with(refine Ao rfl 68 _ _ rfl _ _ rfl rfl 68 _ hr za rfl (qv _ _ _ _ _ _ _ _ _ _ _) ?_)
 exact WZ (v:=cv pc pc 2 4 0 0 0 0 0 false 0) (Ai results131 _ _ _ 68 _ (0,0) _ rfl (Ar _ _ _ _ _ _ hr) underlying68 rfl za) rfl ⟨rfl,zc ((((Ae _ _).alloc (Aa _) _).alloc (by simp) _).trans (hk.mono (by simp;omega))) (by simp) _⟩
theorem yf(op rd s1 s2 I pc A B NX L:Int)(m:Nat)(hm:m=1\/m=2\/m=4)(p:Option Addr)(n c:Nat)(a0:0<=A)(a1:A<=4294967295)(w:World)
  (CM:∀W,Calls prog 111 #[.slice p n c,.int .i64 op,.int .u32 ((A+I)%4294967296)] W λe w'=>e=.returned (.int .u32 m)/\w'=W)
  (CN:∀W,Calls prog 130 #[.int .u32 pc] W λe w'=>e=.returned (cv pc NX 0 0 0 0 0 0 0 false 0)/\Below W.heap.size W w')
  (CW:∀W,Calls prog 166 #[.int .u32 B,.int .u32 m] W λe w'=>e=.returned (.int .u32 L)/\w'=W):
  Calls prog 131 #[iv op rd s1 s2 I,.int .u32 pc,.int .u32 A,.int .u32 B,.slice p n c] w λe w'=>e=.returned (cv pc NX 0 0 0 0 ((A+I)%4294967296) m L false 0)/\Below w.heap.size w w':=by
 have hz:((m:Int)==0)=false:=beq_eq_false_iff_ne.2 (by omega)
 have hm1:(m:Int)<=4:=by omega
 go_enter func131,ntmps131
 go_wp2_with fail
 refine(CM _).mono ?_
 rintro e w' ⟨rfl,rfl⟩
 go_wp2_with fail
 refine(CN _).mono ?_
 rintro e w2 ⟨rfl,hk⟩
 have hs:=hk.size
 simp at hs
 have hr:=(hk.block (w.heap.size+1) (by simp)).trans (Ap _ _ _)
 have hb:Below w.heap.size w w2:=(((Ae _ _).alloc (Aa _) _).alloc (by simp) _).trans (hk.mono (by simp;omega))
 have HR:Hid (w2.heap[w.heap.size+1]?=some (.cells (ccs 0 0 0 0 0 0 0 0 0 false 0) 68 (0,0))):=hr
 have hs':w.heap.size+1<w2.heap.size:=by omega
 clear hr hk
 go_wp2_with fail
 refine(CW _).mono ?_
 rintro e w' ⟨rfl,rfl⟩
 go_wp2_with(first|(refine AS rfl 68 _ rfl _ rfl 68 _ (0,0) _ (heap_alloc_new _ _) underlying68 rfl za ?_)|(refine Ao rfl 68 _ _ rfl _ _ rfl rfl 68 (ccs 0 0 0 0 0 0 0 0 0 false 0) ((AI _ _ _ hs').trans HR.out) za rfl (qv _ _ _ _ _ _ _ _ _ _ _) ?_))
 exact WZ (v:=cv pc NX 0 0 0 0 ((A+I)%4294967296) m L false 0) (Ai results131 _ _ _ 68 _ (0,0) _ rfl (Ar _ _ _ _ _ _ ((AI _ _ _ hs').trans HR.out)) underlying68 rfl za) rfl ⟨rfl,zc (hb.alloc (by omega) _) (by omega) _⟩
theorem zlW(pc T10 NX:Int)(w:World)
  (CN:∀W,Calls prog 130 #[.int .u32 pc] W λe w'=>e=.returned (cv pc NX 0 0 0 0 0 0 0 false 0)/\Below W.heap.size W w'):
  Calls prog 132 #[.int .u32 pc,.int .u32 1,.int .u32 T10] w λe w'=>e=.returned (cv pc NX 0 0 0 0 0 0 0 true T10)/\Below w.heap.size w w':=by
 go_enter func132,ntmps132
 go_wp2_with fail
 refine(CN _).mono ?_
 rintro e w2 ⟨rfl,hk⟩
 have hs:=hk.size
 simp at hs
 have hr:=(hk.block w.heap.size (by simp)).trans (heap_alloc_new _ _)
 have hb:Below w.heap.size w w2:=((Ae _ _).alloc (Aa _) _).trans (hk.mono (by simp))
 have HR:Hid (w2.heap[w.heap.size]?=some (.cells (ccs 0 0 0 0 0 0 0 0 0 false 0) 68 (0,0))):=hr
 have hs':w.heap.size<w2.heap.size:=by omega
 clear hr hk
 go_wp2_with(first|(refine AS rfl 68 _ rfl _ rfl 68 _ (0,0) _ (heap_alloc_new _ _) underlying68 rfl za ?_)|(refine Ao rfl 68 _ _ rfl _ _ rfl rfl 68 (ccs 0 0 0 0 0 0 0 0 0 false 0) ((AI _ _ _ hs').trans HR.out) za rfl (qv _ _ _ _ _ _ _ _ _ _ _) ?_))
 exact WZ (v:=cv pc NX 0 0 0 0 0 0 0 true T10) (Ai results132 _ _ _ 68 _ (0,0) _ rfl (Ar _ _ _ _ _ _ ((AI _ _ _ hs').trans HR.out)) underlying68 rfl za) rfl ⟨rfl,zc (hb.alloc (by omega) _) (by omega) _⟩
theorem zlX(pc B:Int)(w:World):
  Calls prog 132 #[.int .u32 pc,.int .u32 0,.int .u32 B] w λe w'=>e=.returned (cv pc pc 1 0 0 0 0 0 0 false 0)/\Below w.heap.size w w':=by
 go_enter func132,ntmps132
 go_wp2_with fail
 exact WZ (v:=cv pc pc 1 0 0 0 0 0 0 false 0) (Ai results132 _ _ _ 68 _ (0,0) _ rfl (heap_alloc_new _ _) underlying68 rfl za) rfl ⟨rfl,(Ae _ _).alloc (Aa _) _⟩
theorem zlY(pc T17 B:Int)(n0:(T17==0)=false)(n1:(T17==1)=false)(w:World):
  Calls prog 132 #[.int .u32 pc,.int .u32 T17,.int .u32 B] w λe w'=>e=.returned (cv pc pc 2 5 0 0 0 0 0 false 0)/\Below w.heap.size w w':=by
 go_enter func132,ntmps132
 go_wp2_with fail
 refine(jt pc 5 _).mono ?_
 rintro e w2 ⟨rfl,hk⟩
 have hs:=hk.size
 simp at hs
 have hr:=(hk.block w.heap.size (by simp)).trans (heap_alloc_new _ _)
 go_wp2_with(refine Ao rfl 68 _ _ rfl _ _ rfl rfl 68 _ hr za rfl (qv _ _ _ _ _ _ _ _ _ _ _) ?_)
 exact WZ (v:=cv pc pc 2 5 0 0 0 0 0 false 0) (Ai results132 _ _ _ 68 _ (0,0) _ rfl (Ar _ _ _ _ _ _ hr) underlying68 rfl za) rfl ⟨rfl,zc (((Ae _ _).alloc (Aa _) _).trans (hk.mono (by simp))) (by simp) _⟩
end Go.Proofs.YtpiohehijkpghacGreatDoor
namespace Go.Proofs.YtpiohehijkpghacGreatDoor
open Go.RowKit
open Hy
theorem Lies.below{w w':World}{g o n:Nat}{f:Nat->Int}(h:Lies w g o n f)(hb:Below w.heap.size w w'):Lies w' g o n f:=λi hi=>by
 have hlt:=AM _ _ (h i hi)
 rw[hb.cell hlt]
 exact h i hi
theorem Lies.part{w:World}{g o n:Nat}{f:Nat->Int}(h:Lies w g o n f)(a m:Nat)(ham:a+m<=n):Lies w g (o+a) m (λi=>f (a+i)):=λi hi=>by
 rw[Nat.add_assoc]
 exact h (a+i) (by omega)
end Go.Proofs.YtpiohehijkpghacGreatDoor
namespace Go.Proofs.YtpiohehijkpghacGreatDoor
open Go.RowKit
open Hy
theorem vH(w:World)(A B C:Obj):(((w.alloc A).alloc B).alloc C).drew.heap[w.heap.size]?=some A:=
 (AI _ _ _ (by simp;omega)).trans (Zb _ _ _)
theorem xh(w:World)(A B C:Obj):(((w.alloc A).alloc B).alloc C).drew.heap[w.heap.size+1+1]?=some C:=by
 have h:=heap_alloc_new ((w.alloc A).alloc B) C
 rw[show((w.alloc A).alloc B).heap.size=w.heap.size+1+1 by simp]at h
 exact h
theorem zci(H:Array Value)(pc next st ca v at_ many data told:Int)(out:Bool)(hH:H.size=35)(hO:Ones H)(h32:∃z,H[32]?=some (.int .u32 z))(h33:∃z,H[33]?=some (.int .i64 z))(h34:∃z,H[34]?=some (.int .i64 z))(w:World):
  Calls prog 66 #[.agg H,cv pc next st ca 0 v at_ many data out told] w λe w'=>e=.returned (.agg (((H.setIfInBounds 32 (.int .u32 next)).setIfInBounds 33 (.int .i64 st)).setIfInBounds 34 (.int .i64 ca)))/\Below w.heap.size w w':=by
 obtain⟨z2,h32⟩:=h32
 obtain⟨z3,h33⟩:=h33
 obtain⟨z4,h34⟩:=h34
 have HI:Hid ((prog.info? 27).map (·.size)=some (((H.setIfInBounds 32 (.int .u32 next)).setIfInBounds 33 (.int .i64 st)).setIfInBounds 34 (.int .i64 ca)).size):=by show _=_;rw[zq];simp[hH]
 have HZ:Hid (35=(((H.setIfInBounds 32 (.int .u32 next)).setIfInBounds 33 (.int .i64 st)).setIfInBounds 34 (.int .i64 ca)).size):=by show _=_;simp[hH]
 have HN:Hid (Ones (((H.setIfInBounds 32 (.int .u32 next)).setIfInBounds 33 (.int .i64 st)).setIfInBounds 34 (.int .i64 ca))):=by
  show Ones _
  repeat refine Ones.set ?_ _ _ (by simp[Zf])
  exact hO
 clear hH hO
 go_enter func66,ntmps66
 go_wp2_with fail
 go_region
 go_upto_region 4 with fail
 go_wp2_with(first|(refine AS rfl 27 _ rfl _ rfl 27 _ (0,0) _ (vH _ _ _ _) underlying27 rfl HI.out ?_)|(refine Ao rfl 27 _ _ rfl _ _ rfl rfl 27 _ (xh _ _ _ _) HI.out HZ.out HN.out ?_))
 exact WZ (v:=.agg (((H.setIfInBounds 32 (.int .u32 next)).setIfInBounds 33 (.int .i64 st)).setIfInBounds 34 (.int .i64 ca))) (Ai results66 _ _ _ 27 _ (0,0) _ rfl (Ar _ _ _ _ _ _ (xh _ _ _ _)) underlying27 rfl HI.out) rfl ⟨rfl,zc (((((Ae _ _).alloc (Aa _) _).alloc (by simp) _).alloc (by simp;omega) _).drew) (by omega) _⟩
theorem zcj(H:Array Value)(pc next st ca v at_ many data told:Int)(rd:Nat)(R0:Int)(out:Bool)(hH:H.size=35)(hO:Ones H)(h32:∃z,H[32]?=some (.int .u32 z))(h33:∃z,H[33]?=some (.int .i64 z))(h34:∃z,H[34]?=some (.int .i64 z))(hR:H[rd]?=some (.int .u32 R0))(lr:rd<32)(hz:((rd:Int) != 0)=true)(w:World):
  Calls prog 66 #[.agg H,cv pc next st ca rd v at_ many data out told] w λe w'=>e=.returned (.agg ((((H.setIfInBounds 32 (.int .u32 next)).setIfInBounds 33 (.int .i64 st)).setIfInBounds 34 (.int .i64 ca)).setIfInBounds rd (.int .u32 v)))/\Below w.heap.size w w':=by
 obtain⟨z2,h32⟩:=h32
 obtain⟨z3,h33⟩:=h33
 obtain⟨z4,h34⟩:=h34
 have HI:Hid ((prog.info? 27).map (·.size)=some ((((H.setIfInBounds 32 (.int .u32 next)).setIfInBounds 33 (.int .i64 st)).setIfInBounds 34 (.int .i64 ca)).setIfInBounds rd (.int .u32 v)).size):=by show _=_;rw[zq];simp[hH]
 have HZ:Hid (35=((((H.setIfInBounds 32 (.int .u32 next)).setIfInBounds 33 (.int .i64 st)).setIfInBounds 34 (.int .i64 ca)).setIfInBounds rd (.int .u32 v)).size):=by show _=_;simp[hH]
 have HN:Hid (Ones ((((H.setIfInBounds 32 (.int .u32 next)).setIfInBounds 33 (.int .i64 st)).setIfInBounds 34 (.int .i64 ca)).setIfInBounds rd (.int .u32 v))):=by
  show Ones _
  repeat refine Ones.set ?_ _ _ (by simp[Zf])
  exact hO
 clear hH hO
 have hz1:0<rd:=by simp at hz;omega
 have e32:¬32=rd:=by omega
 have e33:¬33=rd:=by omega
 have e34:¬34=rd:=by omega
 have f32:¬rd=32:=by omega
 have f33:¬rd=33:=by omega
 have f34:¬rd=34:=by omega
 go_enter func66,ntmps66
 go_wp2_with fail
 go_region
 go_upto_region 4 with fail
 go_wp2_with(first|(refine AS rfl 27 _ rfl _ rfl 27 _ (0,0) _ (vH _ _ _ _) underlying27 rfl HI.out ?_)|(refine Ao rfl 27 _ _ rfl _ _ rfl rfl 27 _ (xh _ _ _ _) HI.out HZ.out HN.out ?_))
 exact WZ (v:=.agg ((((H.setIfInBounds 32 (.int .u32 next)).setIfInBounds 33 (.int .i64 st)).setIfInBounds 34 (.int .i64 ca)).setIfInBounds rd (.int .u32 v))) (Ai results66 _ _ _ 27 _ (0,0) _ rfl (Ar _ _ _ _ _ _ (xh _ _ _ _)) underlying27 rfl HI.out) rfl ⟨rfl,zc (((((Ae _ _).alloc (Aa _) _).alloc (by simp) _).alloc (by simp;omega) _).drew) (by omega) _⟩
def Mem(w:World)(p:Option Addr)(n:Nat)(f:Nat->Int):Prop:=0<n->∃g o,p=some ⟨g,o,none⟩/\Lies w g o n f
theorem Mem.below{w w':World}{p:Option Addr}{n:Nat}{f:Nat->Int}(h:Mem w p n f)(hb:Below w.heap.size w w'):Mem w' p n f:=λh0=>by
 obtain⟨g,o,rfl,hl⟩:=h h0
 exact⟨g,o,rfl,hl.below hb⟩
end Go.Proofs.YtpiohehijkpghacGreatDoor
namespace Go.Proofs.YtpiohehijkpghacGreatDoor
open Go.RowKit
open Hy
def pv(cs:Array Value)(j:Nat):Int:=match cs[j]? with
 |some (.int .u32 v)=>v
 |_=>0
def chk(cs:Array Value):Nat->Bool
 |0=>true
 |n+1=>(match cs[n]? with
  |some (.int .u32 _)=>true
  |_=>false)&&chk cs n
theorem zkT(cs:Array Value):∀n,chk cs n=true->∀j,j<n->cs[j]?=some (.int .u32 (pv cs j))
 |0,_,j,h=>by omega
 |n+1,hk,j,h=>by
  simp only[chk,AO]at hk
  by_cases e:j=n
  ·subst e
   have h1:=hk.1
   unfold pv
   split at h1
   ·rename_i v hv;rw[hv]
   ·cases h1
  ·exact zkT cs n hk.2 j (by omega)
theorem zfz{w w2:World}{o:Obj}(k:Below (w.alloc o).heap.size (w.alloc o) w2):Below w.heap.size w w2:=
 ((Ae _ _).alloc (Aa _) o).trans (k.mono (by simp))
theorem zjJ(f:Int)(cs:Array Value)(n:Nat)(t:TypeId)(g:Nat)(w:World)(hg:g=w.heap.size)(hn:n<=3)(hk:chk cs n=true):
  Calls prog 68 #[.int .i64 f,.slice (some ⟨g,0,none⟩) n n] (w.alloc (.cells cs t)) λe w'=>e=.returned (.agg #[.int .i64 f,.int .u32 (tb (pv cs) n)])/\Below w.heap.size w w':=by
 subst hg
 exact(zfw n hn f _ (pv cs) _ (by simp) (by
  intro j hj
  rw[World.cell?_alloc_at _ _ _ _ rfl]
  exact zkT cs n hk j hj)).mono λe w' ⟨he,hb⟩=>⟨he,zfz hb⟩
def zeros:List Value->Nat->List Value
 |l,0=>l
 |l,n+1=>.int .i64 0::.int .u32 0::zeros l n
def xM:Array Value:=(zeros [] 49).toArray
def kcells:Nat->List Value
 |0=>[]
 |n+1=>kcells n++[.int .i64 (kf n),.int .u32 (kb n)]
def kc:Array Value:=(kcells 49).toArray
theorem zhp{P:Program}{o:Oper}{a:Act}{K:Act->World->Prop}{Q:Exit->Act->World->Prop}{r:Result Next}(r':Result Next)(h:r=r')(k:o.upon P a K Q r'):o.upon P a K Q r:=h▸k
theorem zn1:(prog.info? 107).map (·.size)=some kc.size:=by kernel_rfl
theorem zlZ:kc.all (·.oneCell')=true:=by kernel_rfl
theorem zhq:xM.size=kc.size:=by kernel_rfl
theorem zl0{w w':World}(hb:Below (w.heap.size+1) (w.alloc (.cells xM 107)) w'):
  (storeCells ⟨w.heap.size,0,none⟩ kc.toList).run prog w'=.ok () (w'.setRow w.heap.size kc):=by
 have hg:w'.heap[w.heap.size]?=some (.cells xM 107 (0,0)):=(hb.block _ (by omega)).trans (Zq _ _)
 have:=run_storeCells_from (P:=prog) w.heap.size 107 kc.toList 0 xM w' hg (by rw[zhq];simp) (λv hv=>(AN.1 zlZ) v (by simpa using hv))
 rw[List.take_zero,List.nil_append,Array.toArray_toList]at this
 exact this
theorem zn2{w w':World}(hb:Below (w.heap.size+1) (w.alloc (.cells xM 107)) w'):
  (loadVar 107 ⟨w.heap.size,0,none⟩).run prog (w'.setRow w.heap.size kc)=.ok (.agg kc) (w'.setRow w.heap.size kc):=by
 have hg:w'.heap[w.heap.size]?=some (.cells xM 107 (0,0)):=(hb.block _ (by omega)).trans (Zq _ _)
 exact run_loadVar_row _ _ 107 107 kc (0,0) _ (Ar w' _ _ kc 107 (0,0) hg) underlying107 rfl zn1
theorem zck{w w':World}{o:Obj}{c:Array Value}(hb:Below (w.heap.size+1) (w.alloc o) w'):Below w.heap.size w (w'.setRow w.heap.size c):=by
 have h:=((Ae w.heap.size w).alloc (Aa _) o).trans (hb.mono (by omega))
 exact⟨h.os,h.tape,h.output,by simpa using h.size,λk hk=>(Zm _ _ _ _ (by omega)).trans (h.block k hk)⟩
theorem zhr(w:World):Calls prog 37 #[] w λe w'=>e=.returned (.agg kc)/\Below w.heap.size w w':=by
 have hb:Below (w.heap.size+1) (w.alloc (.cells xM 107)) (w.alloc (.cells xM 107)):=Ae _ _
 have hB:w.heap.size+1<=(w.alloc (.cells xM 107)).heap.size:=by simp
 go_enter func37,ntmps37
 go_wp2_with fail
 rw[show zeroCells107=xM from by kernel_rfl]
 go_wp2_with(go_at_call 68;refine(zjJ _ _ _ _ _ _ ?_ ?_ ?_).mono ?_;(iterate 1 simp);(iterate 1 omega);(iterate 1 exact rfl);rintro e w' ⟨rfl,hk⟩;replace hb:=hb.trans (hk.mono hB);replace hB:=Zs hB hk.size;clear hk)
 refine zhp (.ok .skip (w'.setRow w.heap.size kc)) ?_ ?_
 ·refine Eq.trans (b:=((storeCells ⟨w.heap.size,0,none⟩ kc.toList).run prog w').andThen λa w'=>Result.ok Next.skip w') (by kernel_rfl) ?_
  rw[zl0 hb]
  rfl
 rw[Oper.upon_skip]
 go_wp2_with fail
 refine WZ (v:=.agg kc) ?_ rfl ⟨rfl,zck hb⟩
 simp[results,results37,asAddr,Aw,zn2 hb]
end Go.Proofs.YtpiohehijkpghacGreatDoor
namespace Go.Proofs.YtpiohehijkpghacGreatDoor
open Go.RowKit
open Hy
attribute [local go_sem ↓] Go.wp_at_zero Go.wp_at_succ
theorem vI(n:Int):IntKind.i64.wrap n=wrap64 n:=by
 simp[IntKind.wrap,IntKind.bits,IntKind.signed,wrap64]
 try omega
theorem res5{w w':World}{o:Obj}{t:TypeId}(hk:Below ((w.alloc o).alloc (.cells #[.int .i64 0,.int .i64 0,.int .i64 0,.int .i64 0,.int .i32 0] t)).drew.heap.size ((w.alloc o).alloc (.cells #[.int .i64 0,.int .i64 0,.int .i64 0,.int .i64 0,.int .i32 0] t)).drew w'):
  w'.cell? ⟨w.heap.size+1,0,none⟩=some (.int .i64 0)/\w'.cell? ⟨w.heap.size+1,1,none⟩=some (.int .i64 0)/\w'.cell? ⟨w.heap.size+1,2,none⟩=some (.int .i64 0)/\w'.cell? ⟨w.heap.size+1,3,none⟩=some (.int .i64 0)/\w'.cell? ⟨w.heap.size+1,4,none⟩=some (.int .i32 0)
  /\w'.frozen? ⟨w.heap.size+1,0,none⟩=false/\w'.frozen? ⟨w.heap.size+1,1,none⟩=false/\w'.frozen? ⟨w.heap.size+1,2,none⟩=false/\w'.frozen? ⟨w.heap.size+1,3,none⟩=false/\w'.frozen? ⟨w.heap.size+1,4,none⟩=false:=by
 obtain⟨hc,hf⟩:=bcell hk
 simp only[hc _ _ (show w.heap.size+1<_ by simp),hf _ _ (show w.heap.size+1<_ by simp)]
 simp[go_sem]
theorem zjK(c:Nat->Int)(n x:Int)(x0:0<=x)(x1:x<=4294967295)
  (hb:∀j,1<=j->0<=c j/\c j<=31) (w:World):
  Calls prog 38 #[fv c,.int .i64 n,.int .u32 x] w λe w'=>e=.returned (.agg #[.int .i64 n,.int .i64 (rrg x 128 (c 1)),.int .i64 (rrg x 32768 (c 2)),.int .i64 (rrg x 1048576 (c 3)),.int .i32 (rim c x)])/\Below w.heap.size w w':=by
 go_enter func38,ntmps38
 go_wp2_with fail
 go_region_held3 (λw'=>w'.cell? ⟨w.heap.size,0,none⟩=some (.int .u32 (c 0))/\w'.cell? ⟨w.heap.size,1,none⟩=some (.int .u32 (c 1))/\w'.cell? ⟨w.heap.size,2,none⟩=some (.int .u32 (c 2))/\w'.cell? ⟨w.heap.size,3,none⟩=some (.int .u32 (c 3))/\w'.cell? ⟨w.heap.size,4,none⟩=some (.int .u32 (c 4))/\w'.cell? ⟨w.heap.size,5,none⟩=some (.int .u32 (c 5))/\w'.cell? ⟨w.heap.size,6,none⟩=some (.int .u32 (c 6))/\w'.cell? ⟨w.heap.size,7,none⟩=some (.int .u32 (c 7))/\w'.cell? ⟨w.heap.size,8,none⟩=some (.int .u32 (c 8))/\w'.cell? ⟨w.heap.size,9,none⟩=some (.int .u32 (c 9))/\w'.cell? ⟨w.heap.size,10,none⟩=some (.int .u32 (c 10))/\w'.cell? ⟨w.heap.size,11,none⟩=some (.int .u32 (c 11))/\w'.cell? ⟨w.heap.size,12,none⟩=some (.int .u32 (c 12))/\w'.cell? ⟨w.heap.size,13,none⟩=some (.int .u32 (c 13))/\w'.cell? ⟨w.heap.size,14,none⟩=some (.int .u32 (c 14))/\w'.cell? ⟨w.heap.size,15,none⟩=some (.int .u32 (c 15))/\w'.cell? ⟨w.heap.size,16,none⟩=some (.int .u32 (c 16))) (first|go_keep|(obtain⟨hc,hf⟩:=bcell hk;refine⟨?_,?_,?_,?_,?_,?_,?_,?_,?_,?_,?_,?_,?_,?_,?_,?_,?_⟩<;>(rw[hc _ _ (by simp;omega)];go_keep))) ((go_at_call 69;refine(zdh c x x0 x1 hb _).mono ?_;rintro e w' ⟨rfl,hk⟩;obtain⟨r0,r1,r2,r3,r4,z0,z1,z2,z3,z4⟩:=res5 hk))
 have hs:=hk.size
 simp at hs
 go_wp2
 refine WZ (v:=.agg #[.int .i64 n,.int .i64 (rrg x 128 (c 1)),.int .i64 (rrg x 32768 (c 2)),.int .i64 (rrg x 1048576 (c 3)),.int .i32 (rim c x)]) ?_ rfl ⟨rfl,?_⟩
 ·simp[results,results38,go_sem,rrg,r0,r1,r2,r3,r4]
  exact⟨vI _,vI _,vI _⟩
 ·have hbase:Below w.heap.size w w':=(((Ae _ _).alloc (Aa _) _).alloc (by simp) _).drew.trans (hk.mono (by simp;omega))
  repeat(first|exact hbase|refine Below.drew ?_|refine Zi ?_ (by simp) _)
end Go.Proofs.YtpiohehijkpghacGreatDoor
namespace Go.Proofs.YtpiohehijkpghacGreatDoor
open Go.RowKit
open Hy
def Tab(w:World):Prop:=∀i,i<153->w.cell? ⟨0,i,none⟩=some (.int .u32 (ftab.getD i 0))
theorem Tab.size{w:World}(h:Tab w):0<w.heap.size:=AM _ _ (h 0 (by omega))
theorem Tab.below{w w':World}{B:Nat}(h:Tab w)(hb:Below B w w')(hB:0<B):Tab w':=
 λi hi=>(hb.cell (p:=⟨0,i,none⟩) hB).trans (h i hi)
theorem Tab.alloc{w:World}(h:Tab w)(o:Obj):Tab (w.alloc o):=
 h.below ((Ae w.heap.size w).alloc (Aa _) o) h.size
theorem Tab.form{w:World}(h:Tab w)(f:Nat)(hf:f<9)(j:Nat)(hj:j<17):w.cell? ⟨0,f*17+j,none⟩=some (.int .u32 (fm f j)):=by
 rw[h _ (by omega),fm,if_pos hj]
theorem ix34(n:Nat)(hn:n<49)(w:World):(AP 107 (.agg kc) (.int .i64 (n:Int))).run prog w=.ok (.agg #[.int .i64 (kn n:Int),.int .u32 (kb n)]) w:=
 match n,hn with
 |0,_=>by kernel_rfl
 |1,_=>by kernel_rfl
 |2,_=>by kernel_rfl
 |3,_=>by kernel_rfl
 |4,_=>by kernel_rfl
 |5,_=>by kernel_rfl
 |6,_=>by kernel_rfl
 |7,_=>by kernel_rfl
 |8,_=>by kernel_rfl
 |9,_=>by kernel_rfl
 |10,_=>by kernel_rfl
 |11,_=>by kernel_rfl
 |12,_=>by kernel_rfl
 |13,_=>by kernel_rfl
 |14,_=>by kernel_rfl
 |15,_=>by kernel_rfl
 |16,_=>by kernel_rfl
 |17,_=>by kernel_rfl
 |18,_=>by kernel_rfl
 |19,_=>by kernel_rfl
 |20,_=>by kernel_rfl
 |21,_=>by kernel_rfl
 |22,_=>by kernel_rfl
 |23,_=>by kernel_rfl
 |24,_=>by kernel_rfl
 |25,_=>by kernel_rfl
 |26,_=>by kernel_rfl
 |27,_=>by kernel_rfl
 |28,_=>by kernel_rfl
 |29,_=>by kernel_rfl
 |30,_=>by kernel_rfl
 |31,_=>by kernel_rfl
 |32,_=>by kernel_rfl
 |33,_=>by kernel_rfl
 |34,_=>by kernel_rfl
 |35,_=>by kernel_rfl
 |36,_=>by kernel_rfl
 |37,_=>by kernel_rfl
 |38,_=>by kernel_rfl
 |39,_=>by kernel_rfl
 |40,_=>by kernel_rfl
 |41,_=>by kernel_rfl
 |42,_=>by kernel_rfl
 |43,_=>by kernel_rfl
 |44,_=>by kernel_rfl
 |45,_=>by kernel_rfl
 |46,_=>by kernel_rfl
 |47,_=>by kernel_rfl
 |48,_=>by kernel_rfl
 |k+49,h=>by omega
theorem below_drewN{B:Nat}{a w:World}(h:Below B a w)(n:Nat):Below B a (w.drewN n):=⟨h.os,h.tape,h.output,h.size,h.block⟩
theorem zpF{wr w1:World}{o:Obj}{nq B:Nat}(hk:Below ((wr.alloc o).drewN nq).heap.size ((wr.alloc o).drewN nq) w1)(hB:B<wr.heap.size)
  (r0:wr.cell? ⟨B,0,none⟩=some (.int .i64 0)) (r1:wr.cell? ⟨B,1,none⟩=some (.int .i64 0)) (r2:wr.cell? ⟨B,2,none⟩=some (.int .i64 0)) (r3:wr.cell? ⟨B,3,none⟩=some (.int .i64 0)) (r4:wr.cell? ⟨B,4,none⟩=some (.int .i32 0))
  (z:∀j,wr.frozen? ⟨B,j,none⟩=false):
  w1.cell? ⟨B,0,none⟩=some (.int .i64 0)/\w1.cell? ⟨B,1,none⟩=some (.int .i64 0)/\w1.cell? ⟨B,2,none⟩=some (.int .i64 0)/\w1.cell? ⟨B,3,none⟩=some (.int .i64 0)/\w1.cell? ⟨B,4,none⟩=some (.int .i32 0)/\∀j,w1.frozen? ⟨B,j,none⟩=false:=by
 have hb:Below wr.heap.size wr w1:=(below_drewN ((Ae _ _).alloc (Aa _) o) nq).trans (hk.mono (by simp))
 obtain⟨hc,hf⟩:=bcell hb
 exact⟨(hc _ _ hB).trans r0,(hc _ _ hB).trans r1,(hc _ _ hB).trans r2,(hc _ _ hB).trans r3,(hc _ _ hB).trans r4,λj=>(hf _ _ hB).trans (z j)⟩
abbrev insv(n:Nat)(x:Int):Value:=iv n (rrg x 128 (fm (kn n) 1)) (rrg x 32768 (fm (kn n) 2)) (rrg x 1048576 (fm (kn n) 3)) (rim (fm (kn n)) x)
theorem zfA(x:Int)(x0:0<=x)(x1:x<=4294967295)(w:World)(ht:Tab w):
  Calls prog 19 #[.int .u32 x] w λe w'=>((∃n:Nat,1<=n/\n<=48/\hit n x=true/\(∀m,1<=m->m<n->hit m x=false)/\e=.returned (.tuple #[insv n x,.bool true]))\/((∀m,1<=m->m<=48->hit m x=false)/\e=.returned (.tuple #[iv 0 0 0 0 0,.bool false])))/\Below w.heap.size w w':=by
 go_enter func19,ntmps19
 go_wp2_with(go_at_call 37;refine(zhr _).mono ?_;rintro e w1 ⟨rfl,hk⟩)
 go_loopw [4,5,7] (λo p i wl=>∃n:Nat,n<=49/\i=.int .i64 n/\(∀m,1<=m->m<n->hit m x=false)/\Below (w.heap.size+1) (w.alloc (.cells #[.int .i64 0,.int .i64 0,.int .i64 0,.int .i64 0,.int .i32 0] 78)) wl/\w.heap.size+1<=wl.heap.size) (λ_ _ k _=>49-(intOf k).toNat)
 case atStart=>
  have:=hk.size
  simp at this
  exact⟨0,by omega,rfl,λm h1 h2=>by omega,hk.mono (by simp),this⟩
 case round=>
  clear hk w1
  obtain⟨n,hn,rfl,hno,hbe,hsz⟩:=hrel
  have htr:Tab wr:=(ht.alloc _).below hbe (by have:=ht.size;omega)
  have hbig:=htr.size
  obtain⟨hc,hf⟩:=bcell hbe
  have r0:wr.cell? ⟨w.heap.size,0,none⟩=some (.int .i64 0):=by rw[hc _ _ (by omega)];simp[go_sem]
  have r1:wr.cell? ⟨w.heap.size,1,none⟩=some (.int .i64 0):=by rw[hc _ _ (by omega)];simp[go_sem]
  have r2:wr.cell? ⟨w.heap.size,2,none⟩=some (.int .i64 0):=by rw[hc _ _ (by omega)];simp[go_sem]
  have r3:wr.cell? ⟨w.heap.size,3,none⟩=some (.int .i64 0):=by rw[hc _ _ (by omega)];simp[go_sem]
  have r4:wr.cell? ⟨w.heap.size,4,none⟩=some (.int .i32 0):=by rw[hc _ _ (by omega)];simp[go_sem]
  have z:∀j,wr.frozen? ⟨w.heap.size,j,none⟩=false:=by intro j;rw[hf _ _ (by omega)];simp[go_sem]
  clear hc hf
  have h0:=ht.size
  have hw0:0<wr.heap.size:=by omega
  by_cases hlt:n<49
  ·by_cases hn0:n=0
   ·subst hn0
    have ix:∀w,(AP 107 (.agg kc) (.int .i64 0)).run prog w=.ok (.agg #[.int .i64 0,.int .u32 0]) w:=λw=>ix34 0 (by omega) w
    go_wp2_with fail
    go_quiet(fail)
    go_wp2_with fail
    refine⟨⟨1,by omega,by go_num,λm h1 h2=>by omega,?_,?_⟩,by simp[intOf]⟩
    ·exact below_drewN (hbe.alloc hsz _) _
    ·simp;omega
   ·have ix:=ix34 n hlt
    obtain⟨hF9,_,hF1⟩:=zns n hlt
    obtain⟨F,hF⟩:∃F,F=kn n:=⟨_,rfl⟩
    have hF1':=hF1 (by omega)
    clear hF1
    rw[<-hF]at ix hF9 hF1'
    have HF:Hid (F=kn n):=hF
    clear hF
    have hne:((F:Int) != 0)=true:=by simp;omega
    have b1:(0:Int)<=(F:Int):=by omega
    have b2:(F:Int)<9:=by omega
    have f0':wr.cell? ⟨0,F*17,none⟩=some (.int .u32 (fm F 0)):=htr.form F hF9 0 (by omega)
    have f1:=htr.form F hF9 1 (by omega)
    have f2:=htr.form F hF9 2 (by omega)
    have f3:=htr.form F hF9 3 (by omega)
    have f4:=htr.form F hF9 4 (by omega)
    have f5:=htr.form F hF9 5 (by omega)
    have f6:=htr.form F hF9 6 (by omega)
    have f7:=htr.form F hF9 7 (by omega)
    have f8:=htr.form F hF9 8 (by omega)
    have f9:=htr.form F hF9 9 (by omega)
    have f10:=htr.form F hF9 10 (by omega)
    have f11:=htr.form F hF9 11 (by omega)
    have f12:=htr.form F hF9 12 (by omega)
    have f13:=htr.form F hF9 13 (by omega)
    have f14:=htr.form F hF9 14 (by omega)
    have f15:=htr.form F hF9 15 (by omega)
    have f16:=htr.form F hF9 16 (by omega)
    by_cases hh:hit n x=true
    ·have hh':(bits .and .u32 x (fm F 0)==kb n)=true:=by rw[HF.out];exact hh
     go_wp2_with fail
     go_quiet(fail)
     have hbe2:=below_drewN (hbe.alloc hsz (.cells #[.int .i64 (F:Int),.int .u32 (kb n)] 106)) nq
     go_wp2_with(go_at_call 38;refine(zjK (fm F) _ _ x0 x1 (zi4 F hF9) _).mono ?_;rintro e w1 ⟨rfl,hk⟩;obtain⟨q0,q1,q2,q3,q4,y⟩:=zpF hk (by omega) r0 r1 r2 r3 r4 z)
     replace hbe2:=hbe2.trans (hk.mono (by simp;omega))
     refine WZ (v:=.tuple #[insv n x,.bool true]) ?_ rfl ⟨.inl ⟨n,by omega,by omega,hh,hno,rfl⟩,?_⟩
     ·simp[results,results19,go_sem,q0,q1,q2,q3,q4,HF.out]
     ·have hbase:Below w.heap.size w w1:=((Ae _ _).alloc (Aa _) _).trans (hbe2.mono (by omega))
      repeat(first|exact hbase|refine Zi ?_ (by simp) _)
    ·have hh':(bits .and .u32 x (fm F 0)==kb n)=false:=by rw[HF.out];simpa[hit]using hh
     clear f1 f2 f3 f4 f5 f6 f7 f8 f9 f10 f11 f12 f13 f14 f15 f16
     go_wp2_with fail
     go_quiet(fail)
     go_wp2_with fail
     refine⟨⟨n+1,by omega,by go_num,?_,below_drewN (hbe.alloc hsz _) _,by simp;omega⟩,by simp[intOf];omega⟩
     intro m h1 h2
     by_cases e:m=n
     ·subst e;simpa using hh
     ·exact hno m h1 (by omega)
  ·obtain rfl:n=49:=by omega
   go_wp2_with fail
   refine WZ (v:=.tuple #[iv 0 0 0 0 0,.bool false]) ?_ rfl ⟨.inr ⟨λm h1 h2=>hno m h1 (by omega),rfl⟩,?_⟩
   ·simp[results,results19,go_sem,r0,r1,r2,r3,r4]
   ·have hbase:Below w.heap.size w wr:=((Ae _ _).alloc (Aa _) _).trans (hbe.mono (by omega))
    repeat(first|exact hbase|refine Zi ?_ (by simp) _)
end Go.Proofs.YtpiohehijkpghacGreatDoor
namespace Go.Proofs.YtpiohehijkpghacGreatDoor
open Go.RowKit
open Hy
attribute [local go_sem ↓] Go.wp_at_zero Go.wp_at_succ
def back(X:Int)(n:Nat)(rd rs1 rs2 imm:Int):Prop:=hit n X=true/\(∀k,1<=k->k<n->hit k X=false)/\rrg X 128 (fm (kn n) 1)=rd/\rrg X 32768 (fm (kn n) 2)=rs1/\rrg X 1048576 (fm (kn n) 3)=rs2/\rim (fm (kn n)) X=imm
end Go.Proofs.YtpiohehijkpghacGreatDoor
namespace Go.Proofs.YtpiohehijkpghacGreatDoor
open Go.RowKit
open Hy
theorem zeD(pc:Int)(p:Option Addr)(n c:Nat)(w:World)(I A B V:Int)(ok:Bool)(rd s1 s2:Nat)(C:Array Value)(hC:Hid (C.size=11/\Ones C))
  (CM:∀W,Below w.heap.size w W->Calls prog 98 #[.slice p n c,.int .i64 11,.int .u32 ((A+I)%4294967296)] W λe w'=>e=.returned (.tuple #[.int .u32 V,.bool ok])/\w'=W)
  (CF:∀W,Calls prog 88 #[iv 11 rd s1 s2 I,.int .u32 pc,.int .u32 V,.bool ok] W λe w'=>e=.returned (.agg C)/\Below W.heap.size W w') (a0:0<=A) (a1:A<=4294967295):
  Calls prog 90 #[iv 11 rd s1 s2 I,.int .u32 pc,.int .u32 A,.int .u32 B,.slice p n c] w λe w'=>e=.returned (.agg C)/\Below w.heap.size w w':=by
 go_enter func90,ntmps90
 go_wp2_with fail
 refine(CM _ (((Ae _ _).alloc (Aa _) _).alloc (by simp) _)).mono ?_
 rintro e w' ⟨rfl,rfl⟩
 go_wp2_with fail
 refine(CF _).mono ?_
 rintro e w3 ⟨rfl,hk3⟩
 have HZ3:Hid (w3.heap[w.heap.size+1]?=some (.cells (ccs 0 0 0 0 0 0 0 0 0 false 0) 68 (0,0))):=(hk3.block _ (by simp)).trans (Ap _ _ _)
 have hb3:Below w.heap.size w w3:=(((Ae _ _).alloc (Aa _) _).alloc (by simp) _).trans (hk3.mono (by simp;omega))
 clear hk3
 go_wp2_with(refine Ao rfl 68 _ _ rfl _ _ rfl rfl 68 (ccs 0 0 0 0 0 0 0 0 0 false 0) HZ3.out (za.trans (congrArg some hC.out.1.symm)) hC.out.1.symm hC.out.2 ?_)
 exact WZ (v:=.agg C) (Ai results90 _ _ _ 68 _ (0,0) _ rfl (Ar _ _ _ _ _ _ HZ3.out) underlying68 rfl (za.trans (congrArg some hC.out.1.symm))) rfl ⟨rfl,zc hb3 (by omega) _⟩
theorem zeE(pc:Int)(p:Option Addr)(n c:Nat)(w:World)(I A B V:Int)(ok:Bool)(rd s1 s2:Nat)(C:Array Value)(hC:Hid (C.size=11/\Ones C))
  (CM:∀W,Below w.heap.size w W->Calls prog 98 #[.slice p n c,.int .i64 12,.int .u32 ((A+I)%4294967296)] W λe w'=>e=.returned (.tuple #[.int .u32 V,.bool ok])/\w'=W)
  (CF:∀W,Calls prog 88 #[iv 12 rd s1 s2 I,.int .u32 pc,.int .u32 V,.bool ok] W λe w'=>e=.returned (.agg C)/\Below W.heap.size W w') (a0:0<=A) (a1:A<=4294967295):
  Calls prog 90 #[iv 12 rd s1 s2 I,.int .u32 pc,.int .u32 A,.int .u32 B,.slice p n c] w λe w'=>e=.returned (.agg C)/\Below w.heap.size w w':=by
 go_enter func90,ntmps90
 go_wp2_with fail
 refine(CM _ (((Ae _ _).alloc (Aa _) _).alloc (by simp) _)).mono ?_
 rintro e w' ⟨rfl,rfl⟩
 go_wp2_with fail
 refine(CF _).mono ?_
 rintro e w3 ⟨rfl,hk3⟩
 have HZ3:Hid (w3.heap[w.heap.size+1]?=some (.cells (ccs 0 0 0 0 0 0 0 0 0 false 0) 68 (0,0))):=(hk3.block _ (by simp)).trans (Ap _ _ _)
 have hb3:Below w.heap.size w w3:=(((Ae _ _).alloc (Aa _) _).alloc (by simp) _).trans (hk3.mono (by simp;omega))
 clear hk3
 go_wp2_with(refine Ao rfl 68 _ _ rfl _ _ rfl rfl 68 (ccs 0 0 0 0 0 0 0 0 0 false 0) HZ3.out (za.trans (congrArg some hC.out.1.symm)) hC.out.1.symm hC.out.2 ?_)
 exact WZ (v:=.agg C) (Ai results90 _ _ _ 68 _ (0,0) _ rfl (Ar _ _ _ _ _ _ HZ3.out) underlying68 rfl (za.trans (congrArg some hC.out.1.symm))) rfl ⟨rfl,zc hb3 (by omega) _⟩
theorem zeF(pc:Int)(p:Option Addr)(n c:Nat)(w:World)(I A B V:Int)(ok:Bool)(rd s1 s2:Nat)(C:Array Value)(hC:Hid (C.size=11/\Ones C))
  (CM:∀W,Below w.heap.size w W->Calls prog 98 #[.slice p n c,.int .i64 13,.int .u32 ((A+I)%4294967296)] W λe w'=>e=.returned (.tuple #[.int .u32 V,.bool ok])/\w'=W)
  (CF:∀W,Calls prog 88 #[iv 13 rd s1 s2 I,.int .u32 pc,.int .u32 V,.bool ok] W λe w'=>e=.returned (.agg C)/\Below W.heap.size W w') (a0:0<=A) (a1:A<=4294967295):
  Calls prog 90 #[iv 13 rd s1 s2 I,.int .u32 pc,.int .u32 A,.int .u32 B,.slice p n c] w λe w'=>e=.returned (.agg C)/\Below w.heap.size w w':=by
 go_enter func90,ntmps90
 go_wp2_with fail
 refine(CM _ (((Ae _ _).alloc (Aa _) _).alloc (by simp) _)).mono ?_
 rintro e w' ⟨rfl,rfl⟩
 go_wp2_with fail
 refine(CF _).mono ?_
 rintro e w3 ⟨rfl,hk3⟩
 have HZ3:Hid (w3.heap[w.heap.size+1]?=some (.cells (ccs 0 0 0 0 0 0 0 0 0 false 0) 68 (0,0))):=(hk3.block _ (by simp)).trans (Ap _ _ _)
 have hb3:Below w.heap.size w w3:=(((Ae _ _).alloc (Aa _) _).alloc (by simp) _).trans (hk3.mono (by simp;omega))
 clear hk3
 go_wp2_with(refine Ao rfl 68 _ _ rfl _ _ rfl rfl 68 (ccs 0 0 0 0 0 0 0 0 0 false 0) HZ3.out (za.trans (congrArg some hC.out.1.symm)) hC.out.1.symm hC.out.2 ?_)
 exact WZ (v:=.agg C) (Ai results90 _ _ _ 68 _ (0,0) _ rfl (Ar _ _ _ _ _ _ HZ3.out) underlying68 rfl (za.trans (congrArg some hC.out.1.symm))) rfl ⟨rfl,zc hb3 (by omega) _⟩
theorem zeG(pc:Int)(p:Option Addr)(n c:Nat)(w:World)(I A B V:Int)(ok:Bool)(rd s1 s2:Nat)(C:Array Value)(hC:Hid (C.size=11/\Ones C))
  (CM:∀W,Below w.heap.size w W->Calls prog 98 #[.slice p n c,.int .i64 14,.int .u32 ((A+I)%4294967296)] W λe w'=>e=.returned (.tuple #[.int .u32 V,.bool ok])/\w'=W)
  (CF:∀W,Calls prog 88 #[iv 14 rd s1 s2 I,.int .u32 pc,.int .u32 V,.bool ok] W λe w'=>e=.returned (.agg C)/\Below W.heap.size W w') (a0:0<=A) (a1:A<=4294967295):
  Calls prog 90 #[iv 14 rd s1 s2 I,.int .u32 pc,.int .u32 A,.int .u32 B,.slice p n c] w λe w'=>e=.returned (.agg C)/\Below w.heap.size w w':=by
 go_enter func90,ntmps90
 go_wp2_with fail
 refine(CM _ (((Ae _ _).alloc (Aa _) _).alloc (by simp) _)).mono ?_
 rintro e w' ⟨rfl,rfl⟩
 go_wp2_with fail
 refine(CF _).mono ?_
 rintro e w3 ⟨rfl,hk3⟩
 have HZ3:Hid (w3.heap[w.heap.size+1]?=some (.cells (ccs 0 0 0 0 0 0 0 0 0 false 0) 68 (0,0))):=(hk3.block _ (by simp)).trans (Ap _ _ _)
 have hb3:Below w.heap.size w w3:=(((Ae _ _).alloc (Aa _) _).alloc (by simp) _).trans (hk3.mono (by simp;omega))
 clear hk3
 go_wp2_with(refine Ao rfl 68 _ _ rfl _ _ rfl rfl 68 (ccs 0 0 0 0 0 0 0 0 0 false 0) HZ3.out (za.trans (congrArg some hC.out.1.symm)) hC.out.1.symm hC.out.2 ?_)
 exact WZ (v:=.agg C) (Ai results90 _ _ _ 68 _ (0,0) _ rfl (Ar _ _ _ _ _ _ HZ3.out) underlying68 rfl (za.trans (congrArg some hC.out.1.symm))) rfl ⟨rfl,zc hb3 (by omega) _⟩
theorem zeH(pc:Int)(p:Option Addr)(n c:Nat)(w:World)(I A B V:Int)(ok:Bool)(rd s1 s2:Nat)(C:Array Value)(hC:Hid (C.size=11/\Ones C))
  (CM:∀W,Below w.heap.size w W->Calls prog 98 #[.slice p n c,.int .i64 15,.int .u32 ((A+I)%4294967296)] W λe w'=>e=.returned (.tuple #[.int .u32 V,.bool ok])/\w'=W)
  (CF:∀W,Calls prog 88 #[iv 15 rd s1 s2 I,.int .u32 pc,.int .u32 V,.bool ok] W λe w'=>e=.returned (.agg C)/\Below W.heap.size W w') (a0:0<=A) (a1:A<=4294967295):
  Calls prog 90 #[iv 15 rd s1 s2 I,.int .u32 pc,.int .u32 A,.int .u32 B,.slice p n c] w λe w'=>e=.returned (.agg C)/\Below w.heap.size w w':=by
 go_enter func90,ntmps90
 go_wp2_with fail
 refine(CM _ (((Ae _ _).alloc (Aa _) _).alloc (by simp) _)).mono ?_
 rintro e w' ⟨rfl,rfl⟩
 go_wp2_with fail
 refine(CF _).mono ?_
 rintro e w3 ⟨rfl,hk3⟩
 have HZ3:Hid (w3.heap[w.heap.size+1]?=some (.cells (ccs 0 0 0 0 0 0 0 0 0 false 0) 68 (0,0))):=(hk3.block _ (by simp)).trans (Ap _ _ _)
 have hb3:Below w.heap.size w w3:=(((Ae _ _).alloc (Aa _) _).alloc (by simp) _).trans (hk3.mono (by simp;omega))
 clear hk3
 go_wp2_with(refine Ao rfl 68 _ _ rfl _ _ rfl rfl 68 (ccs 0 0 0 0 0 0 0 0 0 false 0) HZ3.out (za.trans (congrArg some hC.out.1.symm)) hC.out.1.symm hC.out.2 ?_)
 exact WZ (v:=.agg C) (Ai results90 _ _ _ 68 _ (0,0) _ rfl (Ar _ _ _ _ _ _ HZ3.out) underlying68 rfl (za.trans (congrArg some hC.out.1.symm))) rfl ⟨rfl,zc hb3 (by omega) _⟩
theorem zcl(pc:Int)(p:Option Addr)(n c:Nat)(w:World)(I A B:Int)(rd s1 s2:Nat)(C:Array Value)(hC:Hid (C.size=11/\Ones C))
  (CF:∀W,Below w.heap.size w W->Calls prog 131 #[iv 16 rd s1 s2 I,.int .u32 pc,.int .u32 A,.int .u32 B,.slice p n c] W λe w'=>e=.returned (.agg C)/\Below W.heap.size W w'):
  Calls prog 90 #[iv 16 rd s1 s2 I,.int .u32 pc,.int .u32 A,.int .u32 B,.slice p n c] w λe w'=>e=.returned (.agg C)/\Below w.heap.size w w':=by
 go_enter func90,ntmps90
 go_wp2_with fail
 refine(CF _ (((Ae _ _).alloc (Aa _) _).alloc (by simp) _)).mono ?_
 rintro e w3 ⟨rfl,hk3⟩
 have HZ3:Hid (w3.heap[w.heap.size+1]?=some (.cells (ccs 0 0 0 0 0 0 0 0 0 false 0) 68 (0,0))):=(hk3.block _ (by simp)).trans (Ap _ _ _)
 have hb3:Below w.heap.size w w3:=(((Ae _ _).alloc (Aa _) _).alloc (by simp) _).trans (hk3.mono (by simp;omega))
 clear hk3
 go_wp2_with(refine Ao rfl 68 _ _ rfl _ _ rfl rfl 68 (ccs 0 0 0 0 0 0 0 0 0 false 0) HZ3.out (za.trans (congrArg some hC.out.1.symm)) hC.out.1.symm hC.out.2 ?_)
 exact WZ (v:=.agg C) (Ai results90 _ _ _ 68 _ (0,0) _ rfl (Ar _ _ _ _ _ _ HZ3.out) underlying68 rfl (za.trans (congrArg some hC.out.1.symm))) rfl ⟨rfl,zc hb3 (by omega) _⟩
theorem zcn(pc:Int)(p:Option Addr)(n c:Nat)(w:World)(I A B:Int)(rd s1 s2:Nat)(C:Array Value)(hC:Hid (C.size=11/\Ones C))
  (CF:∀W,Below w.heap.size w W->Calls prog 131 #[iv 17 rd s1 s2 I,.int .u32 pc,.int .u32 A,.int .u32 B,.slice p n c] W λe w'=>e=.returned (.agg C)/\Below W.heap.size W w'):
  Calls prog 90 #[iv 17 rd s1 s2 I,.int .u32 pc,.int .u32 A,.int .u32 B,.slice p n c] w λe w'=>e=.returned (.agg C)/\Below w.heap.size w w':=by
 go_enter func90,ntmps90
 go_wp2_with fail
 refine(CF _ (((Ae _ _).alloc (Aa _) _).alloc (by simp) _)).mono ?_
 rintro e w3 ⟨rfl,hk3⟩
 have HZ3:Hid (w3.heap[w.heap.size+1]?=some (.cells (ccs 0 0 0 0 0 0 0 0 0 false 0) 68 (0,0))):=(hk3.block _ (by simp)).trans (Ap _ _ _)
 have hb3:Below w.heap.size w w3:=(((Ae _ _).alloc (Aa _) _).alloc (by simp) _).trans (hk3.mono (by simp;omega))
 clear hk3
 go_wp2_with(refine Ao rfl 68 _ _ rfl _ _ rfl rfl 68 (ccs 0 0 0 0 0 0 0 0 0 false 0) HZ3.out (za.trans (congrArg some hC.out.1.symm)) hC.out.1.symm hC.out.2 ?_)
 exact WZ (v:=.agg C) (Ai results90 _ _ _ 68 _ (0,0) _ rfl (Ar _ _ _ _ _ _ HZ3.out) underlying68 rfl (za.trans (congrArg some hC.out.1.symm))) rfl ⟨rfl,zc hb3 (by omega) _⟩
theorem zco(pc:Int)(p:Option Addr)(n c:Nat)(w:World)(I A B:Int)(rd s1 s2:Nat)(C:Array Value)(hC:Hid (C.size=11/\Ones C))
  (CF:∀W,Below w.heap.size w W->Calls prog 131 #[iv 18 rd s1 s2 I,.int .u32 pc,.int .u32 A,.int .u32 B,.slice p n c] W λe w'=>e=.returned (.agg C)/\Below W.heap.size W w'):
  Calls prog 90 #[iv 18 rd s1 s2 I,.int .u32 pc,.int .u32 A,.int .u32 B,.slice p n c] w λe w'=>e=.returned (.agg C)/\Below w.heap.size w w':=by
 go_enter func90,ntmps90
 go_wp2_with fail
 refine(CF _ (((Ae _ _).alloc (Aa _) _).alloc (by simp) _)).mono ?_
 rintro e w3 ⟨rfl,hk3⟩
 have HZ3:Hid (w3.heap[w.heap.size+1]?=some (.cells (ccs 0 0 0 0 0 0 0 0 0 false 0) 68 (0,0))):=(hk3.block _ (by simp)).trans (Ap _ _ _)
 have hb3:Below w.heap.size w w3:=(((Ae _ _).alloc (Aa _) _).alloc (by simp) _).trans (hk3.mono (by simp;omega))
 clear hk3
 go_wp2_with(refine Ao rfl 68 _ _ rfl _ _ rfl rfl 68 (ccs 0 0 0 0 0 0 0 0 0 false 0) HZ3.out (za.trans (congrArg some hC.out.1.symm)) hC.out.1.symm hC.out.2 ?_)
 exact WZ (v:=.agg C) (Ai results90 _ _ _ 68 _ (0,0) _ rfl (Ar _ _ _ _ _ _ HZ3.out) underlying68 rfl (za.trans (congrArg some hC.out.1.symm))) rfl ⟨rfl,zc hb3 (by omega) _⟩
theorem zl1(pc:Int)(p:Option Addr)(n c:Nat)(w:World)(I A B:Int)(rd s1 s2:Nat)(C:Array Value)(hC:Hid (C.size=11/\Ones C))
  (CF:∀W,Below w.heap.size w W->Calls prog 130 #[.int .u32 pc] W λe w'=>e=.returned (.agg C)/\Below W.heap.size W w'):
  Calls prog 90 #[iv 46 rd s1 s2 I,.int .u32 pc,.int .u32 A,.int .u32 B,.slice p n c] w λe w'=>e=.returned (.agg C)/\Below w.heap.size w w':=by
 go_enter func90,ntmps90
 go_wp2_with fail
 refine(CF _ (((Ae _ _).alloc (Aa _) _).alloc (by simp) _)).mono ?_
 rintro e w3 ⟨rfl,hk3⟩
 have HZ3:Hid (w3.heap[w.heap.size+1]?=some (.cells (ccs 0 0 0 0 0 0 0 0 0 false 0) 68 (0,0))):=(hk3.block _ (by simp)).trans (Ap _ _ _)
 have hb3:Below w.heap.size w w3:=(((Ae _ _).alloc (Aa _) _).alloc (by simp) _).trans (hk3.mono (by simp;omega))
 clear hk3
 go_wp2_with(refine Ao rfl 68 _ _ rfl _ _ rfl rfl 68 (ccs 0 0 0 0 0 0 0 0 0 false 0) HZ3.out (za.trans (congrArg some hC.out.1.symm)) hC.out.1.symm hC.out.2 ?_)
 exact WZ (v:=.agg C) (Ai results90 _ _ _ 68 _ (0,0) _ rfl (Ar _ _ _ _ _ _ HZ3.out) underlying68 rfl (za.trans (congrArg some hC.out.1.symm))) rfl ⟨rfl,zc hb3 (by omega) _⟩
theorem zhs(pc:Int)(p:Option Addr)(n c:Nat)(w:World)(I A B:Int)(rd s1 s2:Nat)(C:Array Value)(hC:Hid (C.size=11/\Ones C))
  (CF:∀W,Below w.heap.size w W->Calls prog 132 #[.int .u32 pc,.int .u32 A,.int .u32 B] W λe w'=>e=.returned (.agg C)/\Below W.heap.size W w'):
  Calls prog 90 #[iv 47 rd s1 s2 I,.int .u32 pc,.int .u32 A,.int .u32 B,.slice p n c] w λe w'=>e=.returned (.agg C)/\Below w.heap.size w w':=by
 go_enter func90,ntmps90
 go_wp2_with fail
 refine(CF _ (((Ae _ _).alloc (Aa _) _).alloc (by simp) _)).mono ?_
 rintro e w3 ⟨rfl,hk3⟩
 have HZ3:Hid (w3.heap[w.heap.size+1]?=some (.cells (ccs 0 0 0 0 0 0 0 0 0 false 0) 68 (0,0))):=(hk3.block _ (by simp)).trans (Ap _ _ _)
 have hb3:Below w.heap.size w w3:=(((Ae _ _).alloc (Aa _) _).alloc (by simp) _).trans (hk3.mono (by simp;omega))
 clear hk3
 go_wp2_with(refine Ao rfl 68 _ _ rfl _ _ rfl rfl 68 (ccs 0 0 0 0 0 0 0 0 0 false 0) HZ3.out (za.trans (congrArg some hC.out.1.symm)) hC.out.1.symm hC.out.2 ?_)
 exact WZ (v:=.agg C) (Ai results90 _ _ _ 68 _ (0,0) _ rfl (Ar _ _ _ _ _ _ HZ3.out) underlying68 rfl (za.trans (congrArg some hC.out.1.symm))) rfl ⟨rfl,zc hb3 (by omega) _⟩
theorem zl2(pc:Int)(p:Option Addr)(n c:Nat)(w:World)(I A B:Int)(rd s1 s2:Nat)(C:Array Value)(hC:Hid (C.size=11/\Ones C))
  (CF:∀W,Below w.heap.size w W->Calls prog 99 #[.int .u32 pc,.int .i64 6] W λe w'=>e=.returned (.agg C)/\Below W.heap.size W w'):
  Calls prog 90 #[iv 48 rd s1 s2 I,.int .u32 pc,.int .u32 A,.int .u32 B,.slice p n c] w λe w'=>e=.returned (.agg C)/\Below w.heap.size w w':=by
 go_enter func90,ntmps90
 go_wp2_with fail
 refine(CF _ (((Ae _ _).alloc (Aa _) _).alloc (by simp) _)).mono ?_
 rintro e w3 ⟨rfl,hk3⟩
 have HZ3:Hid (w3.heap[w.heap.size+1]?=some (.cells (ccs 0 0 0 0 0 0 0 0 0 false 0) 68 (0,0))):=(hk3.block _ (by simp)).trans (Ap _ _ _)
 have hb3:Below w.heap.size w w3:=(((Ae _ _).alloc (Aa _) _).alloc (by simp) _).trans (hk3.mono (by simp;omega))
 clear hk3
 go_wp2_with(refine Ao rfl 68 _ _ rfl _ _ rfl rfl 68 (ccs 0 0 0 0 0 0 0 0 0 false 0) HZ3.out (za.trans (congrArg some hC.out.1.symm)) hC.out.1.symm hC.out.2 ?_)
 exact WZ (v:=.agg C) (Ai results90 _ _ _ 68 _ (0,0) _ rfl (Ar _ _ _ _ _ _ HZ3.out) underlying68 rfl (za.trans (congrArg some hC.out.1.symm))) rfl ⟨rfl,zc hb3 (by omega) _⟩
end Go.Proofs.YtpiohehijkpghacGreatDoor
namespace Go.Proofs.YtpiohehijkpghacGreatDoor
open Go.RowKit
open Hy
theorem qe{w2s bs:Nat}{W w:World}{b j:Nat}{v:Value}(h:∀b,b<w2s->b≠bs->w.heap[b]?=W.heap[b]?)(hb:b<w2s)(hn:b≠bs)(hv:W.cell? ⟨b,j,none⟩=some v):w.cell? ⟨b,j,none⟩=some v:=
 (World.cell?_of_block (w:=W) (a:=⟨b,j,none⟩) (h b hb hn)).trans hv
theorem zn3(pc:Int)(p:Option Addr)(n c:Nat)(w:World)(I A B M NX V:Int)(rd s1 s2:Nat)(C:Array Value)(hC:Hid (C.size=11/\Ones C))(h1:1<=M)(hM:M<11\/18<M)(hM2:M<46)
  (CX:∀W,Below w.heap.size w W->Calls prog 133 #[iv M rd s1 s2 I,.int .u32 pc,.int .u32 A,.int .u32 B] W λe w'=>e=.returned (.int .u32 NX)/\Below W.heap.size W w')
  (CR:∀W,Below w.heap.size w W->Calls prog 134 #[iv M rd s1 s2 I,.int .u32 pc,.int .u32 A,.int .u32 B] W λe w'=>e=.returned (.int .u32 V)/\Below W.heap.size W w')
  (CG:∀W,Calls prog 129 #[cv pc NX 0 0 0 0 0 0 0 false 0,.int .i64 rd,.int .u32 V] W λe w'=>e=.returned (.agg C)/\Below W.heap.size W w'):
  Calls prog 90 #[iv M rd s1 s2 I,.int .u32 pc,.int .u32 A,.int .u32 B,.slice p n c] w λe w'=>e=.returned (.agg C)/\Below w.heap.size w w':=by
 have q11:(M==11)=false:=beq_eq_false_iff_ne.2 (by omega)
 have q12:(M==12)=false:=beq_eq_false_iff_ne.2 (by omega)
 have q13:(M==13)=false:=beq_eq_false_iff_ne.2 (by omega)
 have q14:(M==14)=false:=beq_eq_false_iff_ne.2 (by omega)
 have q15:(M==15)=false:=beq_eq_false_iff_ne.2 (by omega)
 have q16:(M==16)=false:=beq_eq_false_iff_ne.2 (by omega)
 have q17:(M==17)=false:=beq_eq_false_iff_ne.2 (by omega)
 have q18:(M==18)=false:=beq_eq_false_iff_ne.2 (by omega)
 have q46:(M==46)=false:=beq_eq_false_iff_ne.2 (by omega)
 have q47:(M==47)=false:=beq_eq_false_iff_ne.2 (by omega)
 have q48:(M==48)=false:=beq_eq_false_iff_ne.2 (by omega)
 have ql:decide (M<1)=false:=decide_eq_false (by omega)
 have qg:decide ((48:Int)<M)=false:=decide_eq_false (by omega)
 clear hM hM2 h1
 go_enter func90,ntmps90
 go_wp2_with fail
 obtain⟨W,hW⟩:∃W:World,W=(w.alloc (.cells #[.int .i64 M,.int .i64 rd,.int .i64 s1,.int .i64 s2,.int .i32 I] 78)).alloc (.cells (ccs 0 0 0 0 0 0 0 0 0 false 0) 68):=⟨_,rfl⟩
 rw[<-hW]
 have r24:W.heap[w.heap.size]?=some (.cells #[.int .i64 M,.int .i64 rd,.int .i64 s1,.int .i64 s2,.int .i32 I] 78 (0,0)):=by rw[hW];exact Zb _ _ _
 have R38:Hid (W.heap[w.heap.size+1]?=some (.cells (ccs 0 0 0 0 0 0 0 0 0 false 0) 68 (0,0))):=by rw[hW];exact Ap _ _ _
 have hsz:w.heap.size+2<=W.heap.size:=by rw[hW];simp
 have hb:Below w.heap.size w W:=by rw[hW];exact((Ae _ _).alloc (Aa _) _).alloc (by simp) _
 have y0:=(AQ W w.heap.size 0 _ _ _ r24).trans rfl
 have y1:=(AQ W w.heap.size 1 _ _ _ r24).trans rfl
 have y2:=(AQ W w.heap.size 2 _ _ _ r24).trans rfl
 have y3:=(AQ W w.heap.size 3 _ _ _ r24).trans rfl
 have y4:=(AQ W w.heap.size 4 _ _ _ r24).trans rfl
 have a1:w.heap.size<w.heap.size+2:=by omega
 have a2:w.heap.size+1<w.heap.size+2:=by omega
 clear hW r24
 refine Zh (S:=λw'=>∀b,b<w.heap.size+2->b≠w.heap.size+1->w'.heap[b]?=W.heap[b]?) (by kernel_rfl) (λ_ _ _=>rfl) (λhH=>?_)
 refine Co.tI 0 (.int .u32 pc) ?_
 try simp only[Aw,Ab,Ag,Ah]
 refine Co.tH 1 (.agg #[.int .i64 M,.int .i64 rd,.int .i64 s1,.int .i64 s2,.int .i32 I]) rfl (Or.inl ⟨by rfl,by intro w hSw;have hc0:=qe hSw a1 (by omega) y0;have hc1:=qe hSw a1 (by omega) y1;have hc2:=qe hSw a1 (by omega) y2;have hc3:=qe hSw a1 (by omega) y3;have hc4:=qe hSw a1 (by omega) y4;go_simp⟩) hH ?_
 try simp only[Aw,Ab,Ag,Ah]
 refine Co.tI 2 (.int .u32 pc) ?_
 try simp only[Aw,Ab,Ag,Ah]
 refine Co.tI 3 (.int .u32 A) ?_
 try simp only[Aw,Ab,Ag,Ah]
 refine Co.tI 4 (.int .u32 B) ?_
 try simp only[Aw,Ab,Ag,Ah]
 refine Co.tI 7 (.pointer (some ⟨w.heap.size,1,none⟩)) ?_
 try simp only[Aw,Ab,Ag,Ah]
 refine Co.tH 8 (.int .i64 rd) rfl (Or.inl ⟨by rfl,by intro w hSw;have hc:=qe hSw a1 (by omega) y1;go_simp⟩) hH ?_
 try simp only[Aw,Ab,Ag,Ah]
 refine Co.tH 9 (.agg #[.int .i64 M,.int .i64 rd,.int .i64 s1,.int .i64 s2,.int .i32 I]) rfl (Or.inl ⟨by rfl,by intro w hSw;have hc0:=qe hSw a1 (by omega) y0;have hc1:=qe hSw a1 (by omega) y1;have hc2:=qe hSw a1 (by omega) y2;have hc3:=qe hSw a1 (by omega) y3;have hc4:=qe hSw a1 (by omega) y4;go_simp⟩) hH ?_
 try simp only[Aw,Ab,Ag,Ah]
 refine Co.tI 10 (.int .u32 pc) ?_
 try simp only[Aw,Ab,Ag,Ah]
 refine Co.tI 11 (.int .u32 A) ?_
 try simp only[Aw,Ab,Ag,Ah]
 refine Co.tI 12 (.int .u32 B) ?_
 try simp only[Aw,Ab,Ag,Ah]
 refine AH (rs:=[5]) (by kernel_rfl) (by simp) ?_
 refine AC rfl (λK hK=>?_) AE
 go_simp
 refine(CX _ hb.drew).mono ?_
 rintro e w3 ⟨rfl,hk3⟩
 have hB3:Below W.heap.size W w3:=zg hk3 (Aa _)
 go_wp2_with fail
 refine hK.out _ _ (λb hb _=>hB3.block b (by omega)) (λhH=>?_)
 clear hK K
 try simp only[Aw,Ab,Ag,Ah]
 refine Co.tI 6 (cv pc NX 0 0 0 0 0 0 0 false 0) ?_
 try simp only[Aw,Ab,Ag,Ah]
 refine AH (rs:=[13]) (by kernel_rfl) (by simp) ?_
 refine AC rfl (λK hK=>?_) AE
 go_simp
 refine(CR _ (hb.trans (hB3.mono (by omega)))).mono ?_
 rintro e w4 ⟨rfl,hk4⟩
 have hB4:Below W.heap.size W w4:=xB hB3 hk4 (Aa _)
 go_wp2_with fail
 refine hK.out _ _ (λb hb _=>hB4.block b (by omega)) (λhH=>?_)
 clear hK K
 try simp only[Aw,Ab,Ag,Ah]
 refine AH (rs:=[14]) (by kernel_rfl) (by simp) ?_
 refine AC rfl (λK hK=>?_) AE
 go_simp
 refine(CG _).mono ?_
 rintro e w5 ⟨rfl,hk5⟩
 have hB5:Below W.heap.size W w5:=xB hB4 hk5 (Aa _)
 go_wp2_with fail
 refine hK.out _ _ (λb hb _=>hB5.block b (by omega)) (λhH=>?_)
 clear hK K
 try simp only[Aw,Ab,Ag,Ah]
 refine AH (rs:=[15]) (by kernel_rfl) (by simp) ?_
 refine AC rfl (λK hK=>?_) AE
 rw[if_pos (by rfl)]
 refine wp_store_row 68 _ _ rfl _ _ rfl rfl 68 (ccs 0 0 0 0 0 0 0 0 0 false 0) (zP hB5 (by omega) R38.out) (za.trans (congrArg some hC.out.1.symm)) hC.out.1.symm hC.out.2 ?_
 refine hK.out _ _ (λb hb hn=>(Zm _ _ _ _ hn).trans (hB5.block b (by omega))) (λhH=>?_)
 clear hK K
 refine wpAnyH_done (by kernel_rfl) ?_ _
 go_wp2_with fail
 exact WZ (v:=.agg C) (Ai results90 _ _ _ 68 _ (0,0) _ rfl (Ar _ _ _ _ _ _ (zP hB5 (by omega) R38.out)) underlying68 rfl (za.trans (congrArg some hC.out.1.symm))) rfl ⟨rfl,zc (hb.trans (hB5.mono (by omega))) (by omega) _⟩
abbrev cC(c:Cm):Array Value:=ccs c.pc c.next c.st c.ca c.rd c.val c.pl c.many c.data c.out c.told
abbrev cvC(c:Cm):Value:=.agg (cC c)
abbrev ivI(i:In):Value:=iv i.op i.rd i.s1 i.s2 i.im
structure InOk(i:In):Prop where
 lr:i.rd<32
 l1:i.s1<32
 l2:i.s2<32
 i0:-2147483648<=i.im
 i1:i.im<=2147483647
 o0:1<=i.op
 o1:i.op<=48
theorem qZ(c:Cm):(cC c).size=11/\Ones (cC c):=⟨rfl,qv _ _ _ _ _ _ _ _ _ _ _⟩
structure Bys(w:World)(p:Option Addr)(n c:Nat)(f:Nat->Int):Prop where
 hn:n<=4096
 hnc:n<=c
 hm:Mem w p n f
 hf:∀i,i<n->0<=f i/\f i<=255
theorem Bys.below{w w':World}{p:Option Addr}{n c:Nat}{f:Nat->Int}(h:Bys w p n c f)(hb:Below w.heap.size w w'):Bys w' p n c f:=⟨h.hn,h.hnc,h.hm.below hb,h.hf⟩
theorem ju{w:World}{p:Option Addr}{n c:Nat}{f:Nat->Int}(o:Bys w p n c f)(op:Int)(a:Nat)(a1:(a:Int)<=4294967295)(ho:0<ldn op/\(a:Int)%ldn op=0/\(a:Int)+ldn op<=n):
  ∀W,Below w.heap.size w W->Calls prog 98 #[.slice p n c,.int .i64 op,.int .u32 a] W λe w'=>e=.returned (.tuple #[.int .u32 (ldv op (λi=>f (a+i))),.bool true])/\w'=W:=by
 have hn:=o.hn
 obtain⟨m,hm⟩:=Aq (show 0<=ldn op by omega)
 have ho':=ho
 rw[hm]at ho'
 obtain⟨g,q,hp,hc⟩:=o.hm (by omega)
 have hf:∀i,i<m->0<=f (a+i)/\f (a+i)<=255:=λi hi=>o.hf _ (by omega)
 intro W hW
 subst hp
 exact zel g q n c op a m _ hm (by omega) (by omega) (by omega) (by omega) (by omega) o.hnc W hf (Lies.part (hc.below hW) a m (by omega))
theorem xC{w:World}{p:Option Addr}{n c:Nat}{f:Nat->Int}(o:Bys w p n c f)(op:Int)(a:Nat)(a1:(a:Int)<=4294967295)(ho:¬(0<ldn op/\(a:Int)%ldn op=0/\(a:Int)+ldn op<=n)):
  ∀W,Below w.heap.size w W->Calls prog 98 #[.slice p n c,.int .i64 op,.int .u32 a] W λe w'=>e=.returned (.tuple #[.int .u32 0,.bool false])/\w'=W:=by
 have hn:=o.hn
 exact λW _=>zgF p n c op a (by omega) (by omega) (by omega) ho W
theorem xU{w:World}{p:Option Addr}{n c:Nat}{f:Nat->Int}(o:Bys w p n c f)(op:Int)(a K:Nat)(hK:stn op=(K:Int))(a1:(a:Int)<=4294967295)(ho:0<stn op/\(a:Int)%stn op=0/\(a:Int)+stn op<=n):
  ∀W,Calls prog 111 #[.slice p n c,.int .i64 op,.int .u32 a] W λe w'=>e=.returned (.int .u32 K)/\w'=W:=λW=>by
 have hn:=o.hn
 have h:=zaz p n c op a (by omega) (by omega) (by omega) ho W
 rw[hK]at h
 exact h
theorem yg{w:World}{p:Option Addr}{n c:Nat}{f:Nat->Int}(o:Bys w p n c f)(op:Int)(a:Nat)(a1:(a:Int)<=4294967295)(ho:¬(0<stn op/\(a:Int)%stn op=0/\(a:Int)+stn op<=n)):
  ∀W,Calls prog 111 #[.slice p n c,.int .i64 op,.int .u32 a] W λe w'=>e=.returned (.int .u32 0)/\w'=W:=λW=>by
 have hn:=o.hn
 exact zgO p n c op a (by omega) (by omega) (by omega) ho W
theorem zX{n:Nat}{x m:Int}:fits n x m=true↔0<=x/\x%m=0/\x+m<=n:=by unfold fits;simp
theorem jO(pc nx v:Int)(rd:Nat)(W:World):
  Calls prog 129 #[cv pc nx 0 0 0 0 0 0 0 false 0,.int .i64 rd,.int .u32 v] W λe w'=>e=.returned (cv pc nx 0 0 rd (if rd=0 then 0 else v) 0 0 0 false 0)/\Below W.heap.size W w':=by
 by_cases h:rd=0
 ·subst h
  exact zeC pc nx v W
 ·rw[if_neg h]
  exact zcg pc nx v rd (by simp;omega) W
theorem zfB(rd s1 s2:Nat)(I pc a b:Int)(p0:0<=pc)(p1:pc<=4294967295)(a0:0<=a)(a1:a<=4294967295)(w:World){p:Option Addr}{n c:Nat}{f:Nat->Int}(o:Bys w p n c f):
  Calls prog 90 #[iv 11 rd s1 s2 I,.int .u32 pc,.int .u32 a,.int .u32 b,.slice p n c] w λe w'=>e=.returned (cvC (qf n f ⟨11,rd,s1,s2,I⟩ pc a))/\Below w.heap.size w w':=by
 obtain⟨q,hq⟩:=Aq (show 0<=(a+I)%4294967296 by omega)
 have hpl:place ⟨11,rd,s1,s2,I⟩ a=(q:Int):=hq
 have q1:(q:Int)<=4294967295:=by omega
 by_cases ho:0<ldn 11/\(q:Int)%ldn 11=0/\(q:Int)+ldn 11<=n
 ·have CM:=ju o 11 q q1 ho
  rw[<-hq]at CM
  have e:qf n f ⟨11,rd,s1,s2,I⟩ pc a=onC pc rd (ldv 11 (λi=>f (q+i))):=by
   unfold qf
   rw[hpl,if_pos (zX.2 ⟨by omega,ho.2⟩)]
   rfl
  rw[e]
  exact zeD pc p n c w I a b _ true rd s1 s2 _ (qZ _) CM (λW=>qB 11 I pc _ _ rd s1 s2 W (λW=>zJ pc p0 p1 W) _ _ (λW=>jO pc _ _ rd W)) a0 a1
 ·have CM:=xC o 11 q q1 ho
  rw[<-hq]at CM
  have e:qf n f ⟨11,rd,s1,s2,I⟩ pc a=qn pc 3:=by
   unfold qf
   rw[hpl,if_neg (λh=>ho ⟨by decide,(zX.1 h).2⟩)]
  rw[e]
  exact zeD pc p n c w I a b _ false rd s1 s2 _ (qZ _) CM (λW=>jm 11 rd s1 s2 I pc _ W) a0 a1
theorem zfC(rd s1 s2:Nat)(I pc a b:Int)(p0:0<=pc)(p1:pc<=4294967295)(a0:0<=a)(a1:a<=4294967295)(w:World){p:Option Addr}{n c:Nat}{f:Nat->Int}(o:Bys w p n c f):
  Calls prog 90 #[iv 12 rd s1 s2 I,.int .u32 pc,.int .u32 a,.int .u32 b,.slice p n c] w λe w'=>e=.returned (cvC (qf n f ⟨12,rd,s1,s2,I⟩ pc a))/\Below w.heap.size w w':=by
 obtain⟨q,hq⟩:=Aq (show 0<=(a+I)%4294967296 by omega)
 have hpl:place ⟨12,rd,s1,s2,I⟩ a=(q:Int):=hq
 have q1:(q:Int)<=4294967295:=by omega
 by_cases ho:0<ldn 12/\(q:Int)%ldn 12=0/\(q:Int)+ldn 12<=n
 ·have CM:=ju o 12 q q1 ho
  rw[<-hq]at CM
  have e:qf n f ⟨12,rd,s1,s2,I⟩ pc a=onC pc rd (ldv 12 (λi=>f (q+i))):=by
   unfold qf
   rw[hpl,if_pos (zX.2 ⟨by omega,ho.2⟩)]
   rfl
  rw[e]
  exact zeE pc p n c w I a b _ true rd s1 s2 _ (qZ _) CM (λW=>qB 12 I pc _ _ rd s1 s2 W (λW=>zJ pc p0 p1 W) _ _ (λW=>jO pc _ _ rd W)) a0 a1
 ·have CM:=xC o 12 q q1 ho
  rw[<-hq]at CM
  have e:qf n f ⟨12,rd,s1,s2,I⟩ pc a=qn pc 3:=by
   unfold qf
   rw[hpl,if_neg (λh=>ho ⟨by decide,(zX.1 h).2⟩)]
  rw[e]
  exact zeE pc p n c w I a b _ false rd s1 s2 _ (qZ _) CM (λW=>jm 12 rd s1 s2 I pc _ W) a0 a1
theorem zfD(rd s1 s2:Nat)(I pc a b:Int)(p0:0<=pc)(p1:pc<=4294967295)(a0:0<=a)(a1:a<=4294967295)(w:World){p:Option Addr}{n c:Nat}{f:Nat->Int}(o:Bys w p n c f):
  Calls prog 90 #[iv 13 rd s1 s2 I,.int .u32 pc,.int .u32 a,.int .u32 b,.slice p n c] w λe w'=>e=.returned (cvC (qf n f ⟨13,rd,s1,s2,I⟩ pc a))/\Below w.heap.size w w':=by
 obtain⟨q,hq⟩:=Aq (show 0<=(a+I)%4294967296 by omega)
 have hpl:place ⟨13,rd,s1,s2,I⟩ a=(q:Int):=hq
 have q1:(q:Int)<=4294967295:=by omega
 by_cases ho:0<ldn 13/\(q:Int)%ldn 13=0/\(q:Int)+ldn 13<=n
 ·have CM:=ju o 13 q q1 ho
  rw[<-hq]at CM
  have e:qf n f ⟨13,rd,s1,s2,I⟩ pc a=onC pc rd (ldv 13 (λi=>f (q+i))):=by
   unfold qf
   rw[hpl,if_pos (zX.2 ⟨by omega,ho.2⟩)]
   rfl
  rw[e]
  exact zeF pc p n c w I a b _ true rd s1 s2 _ (qZ _) CM (λW=>qB 13 I pc _ _ rd s1 s2 W (λW=>zJ pc p0 p1 W) _ _ (λW=>jO pc _ _ rd W)) a0 a1
 ·have CM:=xC o 13 q q1 ho
  rw[<-hq]at CM
  have e:qf n f ⟨13,rd,s1,s2,I⟩ pc a=qn pc 3:=by
   unfold qf
   rw[hpl,if_neg (λh=>ho ⟨by decide,(zX.1 h).2⟩)]
  rw[e]
  exact zeF pc p n c w I a b _ false rd s1 s2 _ (qZ _) CM (λW=>jm 13 rd s1 s2 I pc _ W) a0 a1
theorem zfE(rd s1 s2:Nat)(I pc a b:Int)(p0:0<=pc)(p1:pc<=4294967295)(a0:0<=a)(a1:a<=4294967295)(w:World){p:Option Addr}{n c:Nat}{f:Nat->Int}(o:Bys w p n c f):
  Calls prog 90 #[iv 14 rd s1 s2 I,.int .u32 pc,.int .u32 a,.int .u32 b,.slice p n c] w λe w'=>e=.returned (cvC (qf n f ⟨14,rd,s1,s2,I⟩ pc a))/\Below w.heap.size w w':=by
 obtain⟨q,hq⟩:=Aq (show 0<=(a+I)%4294967296 by omega)
 have hpl:place ⟨14,rd,s1,s2,I⟩ a=(q:Int):=hq
 have q1:(q:Int)<=4294967295:=by omega
 by_cases ho:0<ldn 14/\(q:Int)%ldn 14=0/\(q:Int)+ldn 14<=n
 ·have CM:=ju o 14 q q1 ho
  rw[<-hq]at CM
  have e:qf n f ⟨14,rd,s1,s2,I⟩ pc a=onC pc rd (ldv 14 (λi=>f (q+i))):=by
   unfold qf
   rw[hpl,if_pos (zX.2 ⟨by omega,ho.2⟩)]
   rfl
  rw[e]
  exact zeG pc p n c w I a b _ true rd s1 s2 _ (qZ _) CM (λW=>qB 14 I pc _ _ rd s1 s2 W (λW=>zJ pc p0 p1 W) _ _ (λW=>jO pc _ _ rd W)) a0 a1
 ·have CM:=xC o 14 q q1 ho
  rw[<-hq]at CM
  have e:qf n f ⟨14,rd,s1,s2,I⟩ pc a=qn pc 3:=by
   unfold qf
   rw[hpl,if_neg (λh=>ho ⟨by decide,(zX.1 h).2⟩)]
  rw[e]
  exact zeG pc p n c w I a b _ false rd s1 s2 _ (qZ _) CM (λW=>jm 14 rd s1 s2 I pc _ W) a0 a1
theorem zfF(rd s1 s2:Nat)(I pc a b:Int)(p0:0<=pc)(p1:pc<=4294967295)(a0:0<=a)(a1:a<=4294967295)(w:World){p:Option Addr}{n c:Nat}{f:Nat->Int}(o:Bys w p n c f):
  Calls prog 90 #[iv 15 rd s1 s2 I,.int .u32 pc,.int .u32 a,.int .u32 b,.slice p n c] w λe w'=>e=.returned (cvC (qf n f ⟨15,rd,s1,s2,I⟩ pc a))/\Below w.heap.size w w':=by
 obtain⟨q,hq⟩:=Aq (show 0<=(a+I)%4294967296 by omega)
 have hpl:place ⟨15,rd,s1,s2,I⟩ a=(q:Int):=hq
 have q1:(q:Int)<=4294967295:=by omega
 by_cases ho:0<ldn 15/\(q:Int)%ldn 15=0/\(q:Int)+ldn 15<=n
 ·have CM:=ju o 15 q q1 ho
  rw[<-hq]at CM
  have e:qf n f ⟨15,rd,s1,s2,I⟩ pc a=onC pc rd (ldv 15 (λi=>f (q+i))):=by
   unfold qf
   rw[hpl,if_pos (zX.2 ⟨by omega,ho.2⟩)]
   rfl
  rw[e]
  exact zeH pc p n c w I a b _ true rd s1 s2 _ (qZ _) CM (λW=>qB 15 I pc _ _ rd s1 s2 W (λW=>zJ pc p0 p1 W) _ _ (λW=>jO pc _ _ rd W)) a0 a1
 ·have CM:=xC o 15 q q1 ho
  rw[<-hq]at CM
  have e:qf n f ⟨15,rd,s1,s2,I⟩ pc a=qn pc 3:=by
   unfold qf
   rw[hpl,if_neg (λh=>ho ⟨by decide,(zX.1 h).2⟩)]
  rw[e]
  exact zeH pc p n c w I a b _ false rd s1 s2 _ (qZ _) CM (λW=>jm 15 rd s1 s2 I pc _ W) a0 a1
theorem zdm(rd s1 s2:Nat)(I pc a b:Int)(p0:0<=pc)(p1:pc<=4294967295)(a0:0<=a)(a1:a<=4294967295)(b0:0<=b)(b1:b<=4294967295)(w:World){p:Option Addr}{n c:Nat}{f:Nat->Int}(o:Bys w p n c f):
  Calls prog 90 #[iv 16 rd s1 s2 I,.int .u32 pc,.int .u32 a,.int .u32 b,.slice p n c] w λe w'=>e=.returned (cvC (doW ⟨16,rd,s1,s2,I⟩ pc a b n))/\Below w.heap.size w w':=by
 obtain⟨q,hq⟩:=Aq (show 0<=(a+I)%4294967296 by omega)
 have hpl:place ⟨16,rd,s1,s2,I⟩ a=(q:Int):=hq
 have q1:(q:Int)<=4294967295:=by omega
 have hs:sts ⟨16,rd,s1,s2,I⟩=true:=rfl
 by_cases ho:0<stn 16/\(q:Int)%stn 16=0/\(q:Int)+stn 16<=n
 ·have CM:=xU o 16 q 1 rfl q1 ho
  rw[<-hq]at CM
  have e:doW ⟨16,rd,s1,s2,I⟩ pc a b n=⟨pc,(pc+4)%4294967296,0,0,0,0,(a+I)%4294967296,1,b%p256 1,false,0⟩:=by
   unfold doW
   rw[if_pos hs,if_pos (zX.2 (by rw[hpl];exact⟨by omega,ho.2⟩))]
   rfl
  rw[e]
  exact zcl pc p n c w I a b rd s1 s2 _ (qZ _) (λW hW=>yf 16 rd s1 s2 I pc a b _ _ 1 (by omega) p n c a0 a1 W CM (λW=>zJ pc p0 p1 W) (λW=>ye b 1 (by omega) b0 b1 W))
 ·have CM:=yg o 16 q q1 ho
  rw[<-hq]at CM
  have e:doW ⟨16,rd,s1,s2,I⟩ pc a b n=qn pc 4:=by
   unfold doW
   rw[if_pos hs,if_neg (λh=>ho (by rw[hpl]at h;exact⟨by decide,(zX.1 h).2⟩))]
  rw[e]
  exact zcl pc p n c w I a b rd s1 s2 _ (qZ _) (λW hW=>vG 16 rd s1 s2 I pc a b p n c a0 a1 W CM)
theorem zdn(rd s1 s2:Nat)(I pc a b:Int)(p0:0<=pc)(p1:pc<=4294967295)(a0:0<=a)(a1:a<=4294967295)(b0:0<=b)(b1:b<=4294967295)(w:World){p:Option Addr}{n c:Nat}{f:Nat->Int}(o:Bys w p n c f):
  Calls prog 90 #[iv 17 rd s1 s2 I,.int .u32 pc,.int .u32 a,.int .u32 b,.slice p n c] w λe w'=>e=.returned (cvC (doW ⟨17,rd,s1,s2,I⟩ pc a b n))/\Below w.heap.size w w':=by
 obtain⟨q,hq⟩:=Aq (show 0<=(a+I)%4294967296 by omega)
 have hpl:place ⟨17,rd,s1,s2,I⟩ a=(q:Int):=hq
 have q1:(q:Int)<=4294967295:=by omega
 have hs:sts ⟨17,rd,s1,s2,I⟩=true:=rfl
 by_cases ho:0<stn 17/\(q:Int)%stn 17=0/\(q:Int)+stn 17<=n
 ·have CM:=xU o 17 q 2 rfl q1 ho
  rw[<-hq]at CM
  have e:doW ⟨17,rd,s1,s2,I⟩ pc a b n=⟨pc,(pc+4)%4294967296,0,0,0,0,(a+I)%4294967296,2,b%p256 2,false,0⟩:=by
   unfold doW
   rw[if_pos hs,if_pos (zX.2 (by rw[hpl];exact⟨by omega,ho.2⟩))]
   rfl
  rw[e]
  exact zcn pc p n c w I a b rd s1 s2 _ (qZ _) (λW hW=>yf 17 rd s1 s2 I pc a b _ _ 2 (by omega) p n c a0 a1 W CM (λW=>zJ pc p0 p1 W) (λW=>ye b 2 (by omega) b0 b1 W))
 ·have CM:=yg o 17 q q1 ho
  rw[<-hq]at CM
  have e:doW ⟨17,rd,s1,s2,I⟩ pc a b n=qn pc 4:=by
   unfold doW
   rw[if_pos hs,if_neg (λh=>ho (by rw[hpl]at h;exact⟨by decide,(zX.1 h).2⟩))]
  rw[e]
  exact zcn pc p n c w I a b rd s1 s2 _ (qZ _) (λW hW=>vG 17 rd s1 s2 I pc a b p n c a0 a1 W CM)
theorem zdo(rd s1 s2:Nat)(I pc a b:Int)(p0:0<=pc)(p1:pc<=4294967295)(a0:0<=a)(a1:a<=4294967295)(b0:0<=b)(b1:b<=4294967295)(w:World){p:Option Addr}{n c:Nat}{f:Nat->Int}(o:Bys w p n c f):
  Calls prog 90 #[iv 18 rd s1 s2 I,.int .u32 pc,.int .u32 a,.int .u32 b,.slice p n c] w λe w'=>e=.returned (cvC (doW ⟨18,rd,s1,s2,I⟩ pc a b n))/\Below w.heap.size w w':=by
 obtain⟨q,hq⟩:=Aq (show 0<=(a+I)%4294967296 by omega)
 have hpl:place ⟨18,rd,s1,s2,I⟩ a=(q:Int):=hq
 have q1:(q:Int)<=4294967295:=by omega
 have hs:sts ⟨18,rd,s1,s2,I⟩=true:=rfl
 by_cases ho:0<stn 18/\(q:Int)%stn 18=0/\(q:Int)+stn 18<=n
 ·have CM:=xU o 18 q 4 rfl q1 ho
  rw[<-hq]at CM
  have e:doW ⟨18,rd,s1,s2,I⟩ pc a b n=⟨pc,(pc+4)%4294967296,0,0,0,0,(a+I)%4294967296,4,b%p256 4,false,0⟩:=by
   unfold doW
   rw[if_pos hs,if_pos (zX.2 (by rw[hpl];exact⟨by omega,ho.2⟩))]
   rfl
  rw[e]
  exact zco pc p n c w I a b rd s1 s2 _ (qZ _) (λW hW=>yf 18 rd s1 s2 I pc a b _ _ 4 (by omega) p n c a0 a1 W CM (λW=>zJ pc p0 p1 W) (λW=>ye b 4 (by omega) b0 b1 W))
 ·have CM:=yg o 18 q q1 ho
  rw[<-hq]at CM
  have e:doW ⟨18,rd,s1,s2,I⟩ pc a b n=qn pc 4:=by
   unfold doW
   rw[if_pos hs,if_neg (λh=>ho (by rw[hpl]at h;exact⟨by decide,(zX.1 h).2⟩))]
  rw[e]
  exact zco pc p n c w I a b rd s1 s2 _ (qZ _) (λW hW=>vG 18 rd s1 s2 I pc a b p n c a0 a1 W CM)
theorem zjL:∀m,m<28->19<=m->itab.getD m 0=opn m:=by decide
theorem zjM:∀m,m<46->5<=m->¬(19<=m/\m<=27)->itab.getD m 0=0:=by decide
theorem zn4:∀m:Nat,m<28->19<=m->(opn m != 0)=true:=by decide
theorem zht(i:In)(h1:1<=i.op)(h2:i.op<46)(pc a b:Int)(p0:0<=pc)(p1:pc<=4294967295)(a0:0<=a)(a1:a<=4294967295)(b0:0<=b)(b1:b<=4294967295)(W:World):
  Calls prog 133 #[ivI i,.int .u32 pc,.int .u32 a,.int .u32 b] W λe w'=>e=.returned (.int .u32 (nxW i pc a b))/\Below W.heap.size W w':=by
 obtain⟨op,rd,s1,s2,I⟩:=i
 have HB:=λW=>zgK op a b a0 a1 b0 b1 W
 unfold nxW
 simp only[]at h1 h2⊢
 by_cases e3:op=3
 ·subst e3
  rw[if_pos rfl]
  exact zho rd s1 s2 I pc a b p0 p1 W
 ·rw[if_neg e3]
  by_cases e4:op=4
  ·subst e4
   rw[if_pos rfl]
   exact zfx rd s1 s2 I pc a b p0 p1 a0 a1 (λW=>by have h:=HB W;rwa [holds_none _ _ _ (by omega) (by omega) (by omega) (by omega) (by omega) (by omega)]at h) W
  ·rw[if_neg e4]
   cases hb:holds op a b with
   |true=>
    rw[hb]at HB
    rw[if_pos rfl]
    exact zjG op rd s1 s2 I pc a b p0 p1 (beq_eq_false_iff_ne.2 e3) HB W
   |false=>
    rw[hb]at HB
    rw[if_neg (by decide)]
    exact zjH op rd s1 s2 I pc a b p0 p1 (beq_eq_false_iff_ne.2 e3) (beq_eq_false_iff_ne.2 e4) HB W
theorem zdp(i:In)(h1:1<=i.op)(h2:i.op<46)(pc a b:Int)(p0:0<=pc)(p1:pc<=4294967295)(a0:0<=a)(a1:a<=4294967295)(b0:0<=b)(b1:b<=4294967295)(W:World)(hT2:Tab2 W):
  Calls prog 134 #[ivI i,.int .u32 pc,.int .u32 a,.int .u32 b] W λe w'=>e=.returned (.int .u32 (rkW i pc a b))/\Below W.heap.size W w':=by
 obtain⟨op,rd,s1,s2,I⟩:=i
 unfold rkW
 simp only[]at h1 h2⊢
 by_cases e1:op=1
 ·subst e1;rw[if_pos rfl];exact zdi rd s1 s2 I pc a b W
 ·rw[if_neg e1]
  by_cases e2:op=2
  ·subst e2;rw[if_pos rfl];exact zbj rd s1 s2 I pc a b p0 p1 W
  ·rw[if_neg e2]
   by_cases e3:op=3
   ·subst e3;rw[if_pos (.inl rfl)];exact zdj rd s1 s2 I pc a b p0 p1 W
   ·by_cases e4:op=4
    ·subst e4;rw[if_pos (.inr rfl)];exact zch rd s1 s2 I pc a b p0 p1 W
    ·rw[if_neg (by omega)]
     obtain⟨m,hm⟩:=Aq (show 0<=op by omega)
     subst hm
     by_cases e5:19<=(m:Int)/\(m:Int)<=27
     ·rw[if_pos e5]
      exact zdk m rd s1 s2 I pc a b (opn m) _ (by omega) (by omega) (zjL m (by omega) (by omega)) (zn4 m (by omega) (by omega)) (λW=>zgJ (opn m) a (I%4294967296) a0 a1 (by omega) (by omega) W) W hT2
     ·rw[if_neg e5]
      exact zdl m rd s1 s2 I pc a b _ (by omega) (by omega) (zjM m (by omega) (by omega) (by omega)) (λW=>zgJ m a b a0 a1 b0 b1 W) W hT2
theorem zhu(i:In)(hi:InOk i)(pc a b:Int)(p0:0<=pc)(p1:pc<=4294967295)(a0:0<=a)(a1:a<=4294967295)(b0:0<=b)(b1:b<=4294967295)(w:World){p:Option Addr}{n c:Nat}{f:Nat->Int}(o:Bys w p n c f)(hT2:Tab2 w):
  Calls prog 90 #[ivI i,.int .u32 pc,.int .u32 a,.int .u32 b,.slice p n c] w λe w'=>e=.returned (cvC (allW n f i pc a b))/\Below w.heap.size w w':=by
 obtain⟨op,rd,s1,s2,I⟩:=i
 have o0:1<=op:=hi.o0
 have o1:op<=48:=hi.o1
 by_cases hl:11<=op/\op<=15
 ·have e:allW n f ⟨op,rd,s1,s2,I⟩ pc a b=qf n f ⟨op,rd,s1,s2,I⟩ pc a:=by
   unfold allW
   refine if_pos ?_
   show ldn op≠0
   rcases(by omega:op=11\/op=12\/op=13\/op=14\/op=15)with rfl|rfl|rfl|rfl|rfl<;>decide
  rw[e]
  rcases(by omega:op=11\/op=12\/op=13\/op=14\/op=15)with rfl|rfl|rfl|rfl|rfl
  ·exact zfB rd s1 s2 I pc a b p0 p1 a0 a1 w o
  ·exact zfC rd s1 s2 I pc a b p0 p1 a0 a1 w o
  ·exact zfD rd s1 s2 I pc a b p0 p1 a0 a1 w o
  ·exact zfE rd s1 s2 I pc a b p0 p1 a0 a1 w o
  ·exact zfF rd s1 s2 I pc a b p0 p1 a0 a1 w o
 ·have e:allW n f ⟨op,rd,s1,s2,I⟩ pc a b=doW ⟨op,rd,s1,s2,I⟩ pc a b n:=by
   unfold allW
   refine if_neg ?_
   show¬(ldn op≠0)
   unfold ldn
   rw[if_neg (by omega),if_neg (by omega),if_neg (by omega)]
   exact λh=>h rfl
  rw[e]
  by_cases hs:16<=op/\op<=18
  ·rcases(by omega:op=16\/op=17\/op=18)with rfl|rfl|rfl
   ·exact zdm rd s1 s2 I pc a b p0 p1 a0 a1 b0 b1 w o
   ·exact zdn rd s1 s2 I pc a b p0 p1 a0 a1 b0 b1 w o
   ·exact zdo rd s1 s2 I pc a b p0 p1 a0 a1 b0 b1 w o
  ·have hs':¬sts ⟨op,rd,s1,s2,I⟩=true:=by unfold sts;simpa using hs
   unfold doW
   rw[if_neg hs']
   by_cases e46:op=46
   ·subst e46
    rw[if_pos rfl]
    exact zl1 pc p n c w I a b rd s1 s2 _ (qZ _) (λW _=>zJ pc p0 p1 W)
   ·rw[if_neg e46]
    by_cases e47:op=47
    ·subst e47
     rw[if_pos rfl]
     by_cases z0:a=0
     ·subst z0
      rw[if_pos rfl]
      exact zhs pc p n c w I 0 b rd s1 s2 _ (qZ _) (λW _=>zlX pc b W)
     ·rw[if_neg z0]
      by_cases z1:a=1
      ·subst z1
       rw[if_pos rfl]
       exact zhs pc p n c w I 1 b rd s1 s2 _ (qZ _) (λW _=>zlW pc b _ W (λW=>zJ pc p0 p1 W))
      ·rw[if_neg z1]
       exact zhs pc p n c w I a b rd s1 s2 _ (qZ _) (λW _=>zlY pc a b (beq_eq_false_iff_ne.2 z0) (beq_eq_false_iff_ne.2 z1) W)
    ·rw[if_neg e47]
     by_cases e48:op=48
     ·subst e48
      rw[if_pos rfl]
      exact zl2 pc p n c w I a b rd s1 s2 _ (qZ _) (λW _=>jt pc 6 W)
     ·rw[if_neg e48]
      exact zn3 pc p n c w I a b op _ _ rd s1 s2 _ (qZ _) o0 (by omega) (by omega) (λW hW=>zht ⟨op,rd,s1,s2,I⟩ o0 (by show op<46;omega) pc a b p0 p1 a0 a1 b0 b1 W) (λW hW=>zdp ⟨op,rd,s1,s2,I⟩ o0 (by show op<46;omega) pc a b p0 p1 a0 a1 b0 b1 W (hT2.below hW hT2.size)) (λW=>jO pc _ _ rd W)
theorem zaG(i:In)(w:World):
  Calls prog 100 #[ivI i] w λe w'=>e=.returned (.tuple #[.int .i64 (ra i),.int .i64 (rb i)])/\Below w.heap.size w w':=by
 obtain⟨op,rd,s1,s2,I⟩:=i
 unfold ra rb
 simp only[]
 by_cases h:op=47
 ·subst h
  go_enter func100,ntmps100
  go_wp2
  go_ret2
  exact⟨rfl,(Ae _ _).alloc (Aa _) _⟩
 ·have hq:(op==47)=false:=beq_eq_false_iff_ne.2 h
  rw[if_neg h,if_neg h]
  go_enter func100,ntmps100
  go_wp2
  go_region
  go_wp2
  go_ret2
  exact⟨rfl,((Ae _ _).alloc (Aa _) _).drew⟩
end Go.Proofs.YtpiohehijkpghacGreatDoor
