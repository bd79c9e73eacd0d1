/- The keeper: digits, numbers told, a NUMBER. -/
import Derived.Shelf.Strings.BuilderK
import Derived.Shelf.Strconv.Itoa4
import Derived.Shelf.Pu.ErrVarParseUint
import Derived.Shelf.Strings.Shaped
import Derived.Test.YtpiohehijkpghacGreatDoorProg
import Derived.WalkSpells
import Derived.WalkLawsBesides
import Derived.OpenShut
import Derived.ProofKit
import Derived.Deep.RegionHeld
import Derived.Deep.Cut
import Derived.Deep.WholeRow
import Derived.BigQuiet
import Derived.Lib.ItoaLen
open Array renaming getElem?_eq_some_iff->Af,toArray_toList->AD,length_toList->AL,getElem?_eq_none->AT,toList_setIfInBounds->Zg,mem_of_getElem?->Zy,toList_append->ZD,size_append->ZK
open Bool renaming false_eq_true->AN
open ByteArray renaming size->Az,data_extract->AR,ext->ZF
open Classical renaming byContradiction->AK
open Go renaming cell_of_row->Ae,wpAnyH_ready->Aj,wp_region_held_drew->WX,frozen_of_row->AB,run_underlying->AE,info_parts->AO,wpAnyH_done->AQ,wpList_plain->Zd,growslice_fits->Zh,run_convert_bytes_back->Zq,setRow_heap->Zz,grownCap_le_maxLen->ZG,wpList_append_own->ZH,setRow_other->ZN,yieldsIf_load_mid->ZR,wpList_store_row->ZS,run_append_grow->ZU,wpList_load_mid->ZX
open Go.Addr renaming add->AM,add_lit->Qb
open Go.AllReadyH renaming cons->Ab,nil->Ah
open Go.Builtin renaming append_->Ao,lenOf->Zl,zeroCells->ZJ
open Go.ByteArray renaming mk_append_mk->AV
open Go.Code renaming wp->ZQ
open Go.IntKind renaming signed->AS,wrap->Zb,bits->Zc
open Go.Lib renaming itoa->Am,indexByte->An,strCells->Aq,itoa_length_le->Ar,parseUintB->Av,decDigits->Ay,byteCells->AY,run_append_grow_string->Zi,run_firstCells_string->Zk,strCells_length->ZE,pow10Tab->Qa
open Go.Oper renaming upon_value->Zw,wp->ZO
open Go.Region renaming noSelect->ZW,ready->Qf,free->Qi
open Go.Result renaming andThen_ok->Aw,andThen->ZC
open Go.RowKit.Below renaming refl->Aa
open Go.Sem renaming run_bind->AU,run_pure->Ze
open Go.Value renaming int->Ag,ownBlock->Ai,slice->Qh
open Go.World renaming ownsRow->Au,ownsRow_nil->AC,setRow_alloc_new->Zr,setCell->ZZ
open Int renaming tdiv_eq_ediv_of_nonneg->AH,eq_ofNat_of_zero_le->Zm
open List renaming getElem?_eq_some_iff->Ad,getElem?_eq_getElem->Ak,length_append->WY,take_add_one->Ax,mem_of_getElem?->AG,map_toArray->AI,getLast?_cons_cons->AP,length_take->AW,length_cons->AX,map_cons->AZ,mem_cons->Za,map_nil->Zf,range->Zj,take_length->Zn,take_of_length_le->Zo,append_nil->Zu,mem_append->Zv,getElem?_eq_none->Zx,take_left->ZA,mem_of_mem_take->ZB,size_toArray->ZL,append_assoc->ZM,flatMap_cons->ZP,length_nil->ZT,length_set->ZV,mem_map->Qe
open Nat renaming le_refl->WZ,lt_of_lt_of_le->Ap,zero_le->AA,mul_le_mul_right->AF,le_trans->AJ,zero_add->Zp,add_zero->ZI,add_assoc->ZY,pow_succ->Qc,mul_comm->Qd,add_mul->Qg
open Option renaming map_eq_some_iff->Zs
open UInt8 renaming toNat_inj->Zt
set_option maxHeartbeats 4000000
set_option maxRecDepth 100000
set_option linter.unusedSimpArgs false
set_option linter.unusedVariables false
open Go.Proofs.Tryz
namespace Go.Proofs.YtpiohehijkpghacGreatDoor.Dr
open Go.RowKit
def cutL(c:UInt8):List UInt8->List UInt8×List UInt8×Bool
 |[]=>([],[],false)
 |x::l=>if x=c then([],l,true)else(x::(cutL c l).1,(cutL c l).2.1,(cutL c l).2.2)
theorem xO(c:UInt8):∀l,(cutL c l).2.1.length<=l.length
 |[]=>WZ _
 |x::l=>by
  unfold cutL
  split
  ·simp
  ·have:=xO c l
   simp
   omega
theorem zd4(c:UInt8):∀l,l≠[]->(cutL c l).2.1.length<l.length
 |[],h=>absurd rfl h
 |x::l,_=>by
  unfold cutL
  split
  ·simp
  ·have:=xO c l
   simp
   omega
def goL{S:Type}(f:S->List UInt8->S×List UInt8):Nat->S->List UInt8->List UInt8
 |0,_,_=>[]
 |k+1,p,s=>if s=[]then[]else(f p (cutL 10 s).1).2++10::goL f k (f p (cutL 10 s).1).1 (cutL 10 s).2.1
def xI(t:List UInt8):Option Nat:=if 1<t.length/\t.head?=some 48 then none else match Av 32 t with
 |.ok u=>some u
 |_=>none
def numsL:Nat->List UInt8->Bool->Option (List Nat)
 |0,_,_=>none
 |k+1,t,b=>if b=false then some []else match xI (cutL 32 t).1 with
  |none=>none
  |some n=>(numsL k (cutL 32 t).2.1 (cutL 32 t).2.2).map (n::·)
def zp(t:List UInt8)(l:List Int):List UInt8:=t++l.flatMap λn=>32::Am n
end Go.Proofs.YtpiohehijkpghacGreatDoor.Dr
namespace Go.Proofs
open Go.Shelf
def lays169_ren:Go.Shelf.Ren:=⟨λ|169=>24|n=>n,λ|70=>83|9=>9|0=>0|72=>85|37=>28|127=>123|3=>3|5=>5|n=>n,λ|n=>n⟩
theorem lays169:Go.Proofs.Lays.n169 prog lays169_ren:={mixed:=by kernel_rfl,f169:=func24.trans (congrArg some (by kernel_rfl)),t0:=underlying0,a0:=isAgg0,z0:=sizeOf0,v0:=zeroValue0,t3:=underlying3,a3:=isAgg3,z3:=sizeOf3,v3:=zeroValue3,t9:=underlying9,a9:=isAgg9,z9:=sizeOf9,v9:=zeroValue9,t37:=underlying28,a37:=isAgg28,z37:=sizeOf28,v37:=zeroValue28,t70:=underlying83,a70:=isAgg83,z70:=sizeOf83,v70:=zeroValue83,t72:=underlying85,a72:=isAgg85,z72:=sizeOf85,v72:=zeroValue85,t127:=underlying123,a127:=isAgg123,z127:=sizeOf123,v127:=zeroValue123}
theorem Builder_Extra_169:Builder.Extra prog lays169_ren:={sizeBuilder:=by kernel_rfl,liesBuilder:=by kernel_rfl,t5:=underlying5,a5:=isAgg5,z5:=sizeOf5,v5:=zeroValue5,infoByte:=by kernel_rfl,cellsByte:=by kernel_rfl,sizeByte:=by kernel_rfl,neB5:=by decide}
open Go.RowKit in
theorem Builder_String_any(B b:Nat)(l:List UInt8)(w:World)(h:Lib.IsBuilder 85 5 B b (AY l) w)(hBw:B<=w.heap.size):
  Calls prog 24 #[.pointer (some ⟨b,0,none⟩)] w λe w'=>e=.returned (.string ⟨l.toArray⟩)/\Below B w w':=Any.Builder_String_any lays169 Builder_Extra_169 B b l w h hBw
def laysM173_ren:Go.Shelf.Ren:=⟨λ|173=>109|246=>146|283=>180|284=>181|285=>182|286=>183|129=>202|317=>201|318=>203|319=>204|320=>205|337=>207|338=>208|n=>n,λ|2=>2|3=>3|9=>9|4=>4|171=>257|0=>0|53=>190|37=>28|5=>5|173=>260|212=>272|51=>24|20=>20|213=>273|46=>142|232=>279|233=>280|n=>n,λ|17=>5|18=>6|19=>7|n=>n⟩
theorem laysM173:Go.Proofs.LaysM.n173 prog laysM173_ren:={mixed:=by kernel_rfl,f129:=func202.trans (congrArg some (by kernel_rfl)),f173:=func109.trans (congrArg some (by kernel_rfl)),f246:=func146.trans (congrArg some (by kernel_rfl)),f283:=func180.trans (congrArg some (by kernel_rfl)),f284:=func181.trans (congrArg some (by kernel_rfl)),f285:=func182.trans (congrArg some (by kernel_rfl)),f286:=func183.trans (congrArg some (by kernel_rfl)),f317:=func201.trans (congrArg some (by kernel_rfl)),f318:=func203.trans (congrArg some (by kernel_rfl)),f319:=func204.trans (congrArg some (by kernel_rfl)),f320:=func205.trans (congrArg some (by kernel_rfl)),f337:=func207.trans (congrArg some (by kernel_rfl)),f338:=func208.trans (congrArg some (by kernel_rfl)),t0:=underlying0,a0:=isAgg0,z0:=sizeOf0,v0:=zeroValue0,t2:=underlying2,a2:=isAgg2,z2:=sizeOf2,v2:=zeroValue2,t3:=underlying3,a3:=isAgg3,z3:=sizeOf3,v3:=zeroValue3,t4:=underlying4,a4:=isAgg4,z4:=sizeOf4,v4:=zeroValue4,t5:=underlying5,a5:=isAgg5,z5:=sizeOf5,v5:=zeroValue5,t9:=underlying9,a9:=isAgg9,z9:=sizeOf9,v9:=zeroValue9,t20:=underlying20,a20:=isAgg20,z20:=sizeOf20,v20:=zeroValue20,t37:=underlying28,a37:=isAgg28,z37:=sizeOf28,v37:=zeroValue28,t46:=underlying142,a46:=isAgg142,z46:=sizeOf142,v46:=zeroValue142,t51:=underlying24,a51:=isAgg24,z51:=sizeOf24,v51:=zeroValue24,t53:=underlying190,a53:=isAgg190,z53:=sizeOf190,v53:=zeroValue190,t171:=underlying257,a171:=isAgg257,z171:=sizeOf257,v171:=zeroValue257,t173:=underlying260,a173:=isAgg260,z173:=sizeOf260,v173:=zeroValue260,t212:=underlying272,a212:=isAgg272,z212:=sizeOf272,v212:=zeroValue272,t213:=underlying273,a213:=isAgg273,z213:=sizeOf273,t232:=underlying279,a232:=isAgg279,z232:=sizeOf279,v232:=zeroValue279,t233:=underlying280,a233:=isAgg280,z233:=sizeOf280,v233:=zeroValue280,g17:=by kernel_rfl,g18:=by kernel_rfl,g19:=by kernel_rfl,i0:=by kernel_rfl,i2:=by kernel_rfl,i3:=by kernel_rfl,i4:=by kernel_rfl,i5:=by kernel_rfl,i9:=by kernel_rfl,i20:=by kernel_rfl,i37:=by kernel_rfl,i46:=by kernel_rfl,i51:=by kernel_rfl,i53:=by kernel_rfl,i171:=by kernel_rfl,i173:=by kernel_rfl,i212:=by kernel_rfl,i232:=by kernel_rfl,i233:=by kernel_rfl,m17:=by kernel_rfl,m18:=by kernel_rfl,m19:=by kernel_rfl}
open Go.RowKit Go.Sort Go.Lib in
theorem strconv_FormatInt_10(n:Int)(h0:-9223372036854775808<=n)(h1:n<=9223372036854775807)(w:World)(htab:Lib.TabIs prog w "internal/strconv.uint64pow10" .u64 Qa):
  Calls prog 109 #[.int .i64 n,.int .i64 10] w λe w'=>e=.returned (.string ⟨(Am n).toArray⟩)/\∃k os,w'=grow (w.drewN k) os:=Any.strconv_FormatInt_10 laysM173 n h0 h1 w htab
def laysPu14_ren:Go.Shelf.Ren:=⟨λ|14=>106|16=>144|17=>145|19=>174|20=>175|21=>176|22=>177|23=>178|24=>179|25=>198|27=>200|26=>199|28=>206|29=>146|30=>180|31=>181|32=>182|33=>183|35=>202|34=>201|36=>203|37=>204|38=>205|39=>207|40=>208|n=>n,λ|9=>9|3=>3|22=>190|24=>89|25=>191|4=>4|34=>252|5=>5|36=>142|37=>28|0=>0|39=>254|21=>21|44=>269|47=>123|50=>277|48=>275|2=>2|52=>257|55=>260|59=>272|60=>24|20=>20|61=>273|65=>279|66=>280|67=>93|n=>n,λ|0=>3|1=>4|2=>5|3=>6|4=>7|n=>n⟩
theorem laysPu14:Go.Proofs.LaysPu.n14 prog laysPu14_ren:={mixed:=by kernel_rfl,f14:=func106.trans (congrArg some (by kernel_rfl)),f16:=func144.trans (congrArg some (by kernel_rfl)),f17:=func145.trans (congrArg some (by kernel_rfl)),f19:=func174.trans (congrArg some (by kernel_rfl)),f20:=func175.trans (congrArg some (by kernel_rfl)),f21:=func176.trans (congrArg some (by kernel_rfl)),f22:=func177.trans (congrArg some (by kernel_rfl)),f23:=func178.trans (congrArg some (by kernel_rfl)),f24:=func179.trans (congrArg some (by kernel_rfl)),f25:=func198.trans (congrArg some (by kernel_rfl)),f26:=func199.trans (congrArg some (by kernel_rfl)),f27:=func200.trans (congrArg some (by kernel_rfl)),f28:=func206.trans (congrArg some (by kernel_rfl)),f29:=func146.trans (congrArg some (by kernel_rfl)),f30:=func180.trans (congrArg some (by kernel_rfl)),f31:=func181.trans (congrArg some (by kernel_rfl)),f32:=func182.trans (congrArg some (by kernel_rfl)),f33:=func183.trans (congrArg some (by kernel_rfl)),f34:=func201.trans (congrArg some (by kernel_rfl)),f35:=func202.trans (congrArg some (by kernel_rfl)),f36:=func203.trans (congrArg some (by kernel_rfl)),f37:=func204.trans (congrArg some (by kernel_rfl)),f38:=func205.trans (congrArg some (by kernel_rfl)),f39:=func207.trans (congrArg some (by kernel_rfl)),f40:=func208.trans (congrArg some (by kernel_rfl)),t0:=underlying0,a0:=isAgg0,z0:=sizeOf0,v0:=zeroValue0,i0:=by kernel_rfl,t2:=underlying2,a2:=isAgg2,z2:=sizeOf2,v2:=zeroValue2,i2:=by kernel_rfl,t3:=underlying3,a3:=isAgg3,z3:=sizeOf3,v3:=zeroValue3,i3:=by kernel_rfl,t4:=underlying4,a4:=isAgg4,z4:=sizeOf4,v4:=zeroValue4,i4:=by kernel_rfl,t5:=underlying5,a5:=isAgg5,z5:=sizeOf5,v5:=zeroValue5,i5:=by kernel_rfl,t9:=underlying9,a9:=isAgg9,z9:=sizeOf9,v9:=zeroValue9,i9:=by kernel_rfl,t20:=underlying20,a20:=isAgg20,z20:=sizeOf20,v20:=zeroValue20,i20:=by kernel_rfl,t21:=underlying21,a21:=isAgg21,z21:=sizeOf21,v21:=zeroValue21,i21:=by kernel_rfl,t22:=underlying190,a22:=isAgg190,z22:=sizeOf190,v22:=zeroValue190,i22:=by kernel_rfl,t24:=underlying89,a24:=isAgg89,z24:=sizeOf89,v24:=zeroValue89,i24:=by kernel_rfl,t25:=underlying191,a25:=isAgg191,z25:=sizeOf191,v25:=zeroValue191,i25:=by kernel_rfl,t34:=underlying252,a34:=isAgg252,z34:=sizeOf252,v34:=zeroValue252,i34:=by kernel_rfl,c34:=by kernel_rfl,t36:=underlying142,a36:=isAgg142,z36:=sizeOf142,v36:=zeroValue142,i36:=by kernel_rfl,t37:=underlying28,a37:=isAgg28,z37:=sizeOf28,v37:=zeroValue28,i37:=by kernel_rfl,t39:=underlying254,a39:=isAgg254,z39:=sizeOf254,v39:=zeroValue254,i39:=by kernel_rfl,t44:=underlying269,a44:=isAgg269,z44:=sizeOf269,v44:=zeroValue269,i44:=by kernel_rfl,t47:=underlying123,a47:=isAgg123,z47:=sizeOf123,v47:=zeroValue123,i47:=by kernel_rfl,t48:=underlying275,a48:=isAgg275,z48:=sizeOf275,v48:=zeroValue275,i48:=by kernel_rfl,t50:=underlying277,a50:=isAgg277,z50:=sizeOf277,v50:=zeroValue277,i50:=by kernel_rfl,t52:=underlying257,a52:=isAgg257,z52:=sizeOf257,v52:=zeroValue257,i52:=by kernel_rfl,t55:=underlying260,a55:=isAgg260,z55:=sizeOf260,v55:=zeroValue260,i55:=by kernel_rfl,t59:=underlying272,a59:=isAgg272,z59:=sizeOf272,v59:=zeroValue272,i59:=by kernel_rfl,t60:=underlying24,a60:=isAgg24,z60:=sizeOf24,v60:=zeroValue24,i60:=by kernel_rfl,t61:=underlying273,a61:=isAgg273,z61:=sizeOf273,t65:=underlying279,a65:=isAgg279,z65:=sizeOf279,v65:=zeroValue279,i65:=by kernel_rfl,t66:=underlying280,a66:=isAgg280,z66:=sizeOf280,v66:=zeroValue280,i66:=by kernel_rfl,t67:=underlying93,a67:=isAgg93,z67:=sizeOf93,v67:=zeroValue93,i67:=by kernel_rfl,g0:=by kernel_rfl,m0:=by kernel_rfl,g1:=by kernel_rfl,m1:=by kernel_rfl,g2:=by kernel_rfl,m2:=by kernel_rfl,g3:=by kernel_rfl,m3:=by kernel_rfl,g4:=by kernel_rfl,m4:=by kernel_rfl}
open Go.RowKit in
open Go.RowKit in
open Go.RowKit in
theorem strconv_ParseUint_10_at32_ok(s:ByteArray)(hmax:s.size<=9223372036854775806)(u:Nat)(h:Av 32 s.data.toList=.ok u)(w:World):
  Calls prog 106 #[.string s,.int .i64 10,.int .i64 32] w λe w'=>e=.returned (.tuple #[.int .u64 u,.nilIface])/\(w'=w\/w'=Lib.bytesWorld w 5 s):=Any.strconv_ParseUint_10_at32_ok laysPu14 s hmax u h w
open Go.RowKit in
open Go.RowKit in
open Go.RowKit in
theorem strconv_ParseUint_10_at32_syntax_var(s:ByteArray)(hlim:s.size<=281474976710656)(r:_)(h:Av 32 s.data.toList=r)(h1:∀u,r≠.ok u)(h2:r≠.range)(tp:TypeId)(p:Value)(w:World)(hvar:w.var? prog "strconv.ErrSyntax" =some #[.iface tp p]):
  Calls prog 106 #[.string s,.int .i64 10,.int .i64 32] w λe w'=>∃N,e=.returned (.tuple #[.int .u64 0,.iface 254 (.pointer (some ⟨N,0,none⟩))])/\w.heap.size<=N/\w'.heap[N]?=some (.cells #[.string ⟨#[80,97,114,115,101,85,105,110,116]⟩,.string s,.iface tp p] 269 (0,0))/\Below w.heap.size w w':=by
 cases r
 ·exact absurd rfl (h1 _)
 ·exact Any.strconv_ParseUint_10_at32_syntax_var laysPu14 s hlim h tp p w hvar
 ·exact absurd rfl h2
open Go.RowKit in
theorem strconv_ParseUint_10_at32_range_var(s:ByteArray)(hlim:s.size<=281474976710656)(h:Av 32 s.data.toList=.range)(tp:TypeId)(p:Value)(w:World)(hvar:w.var? prog "strconv.ErrRange" =some #[.iface tp p]):
  Calls prog 106 #[.string s,.int .i64 10,.int .i64 32] w λe w'=>∃N,e=.returned (.tuple #[.int .u64 4294967295,.iface 254 (.pointer (some ⟨N,0,none⟩))])/\w.heap.size<=N/\w'.heap[N]?=some (.cells #[.string ⟨#[80,97,114,115,101,85,105,110,116]⟩,.string s,.iface tp p] 269 (0,0))/\Below w.heap.size w w':=Any.strconv_ParseUint_10_at32_range_var laysPu14 s hlim h tp p w hvar
def lays219_ren:Go.Shelf.Ren:=⟨λ|219=>70|217=>102|225=>103|224=>104|267=>105|266=>142|314=>143|n=>n,λ|9=>9|3=>3|4=>4|5=>5|46=>142|146=>228|51=>24|n=>n,λ|1=>1|n=>n⟩
theorem lays219:Go.Proofs.Lays.n219 prog lays219_ren:={mixed:=by kernel_rfl,f217:=func102.trans (congrArg some (by kernel_rfl)),f219:=func70.trans (congrArg some (by kernel_rfl)),f224:=func104.trans (congrArg some (by kernel_rfl)),f225:=func103.trans (congrArg some (by kernel_rfl)),f266:=func142.trans (congrArg some (by kernel_rfl)),f267:=func105.trans (congrArg some (by kernel_rfl)),f314:=func143.trans (congrArg some (by kernel_rfl)),t3:=underlying3,a3:=isAgg3,z3:=sizeOf3,v3:=zeroValue3,t4:=underlying4,a4:=isAgg4,z4:=sizeOf4,v4:=zeroValue4,t5:=underlying5,a5:=isAgg5,z5:=sizeOf5,v5:=zeroValue5,t9:=underlying9,a9:=isAgg9,z9:=sizeOf9,v9:=zeroValue9,t46:=underlying142,a46:=isAgg142,z46:=sizeOf142,v46:=zeroValue142,t51:=underlying24,a51:=isAgg24,z51:=sizeOf24,v51:=zeroValue24,t146:=underlying228,a146:=isAgg228,z146:=sizeOf228,v146:=zeroValue228,g1:=by kernel_rfl}
open Go.RowKit Go.Lib in
theorem stringslite_Index_one(s:ByteArray)(c:UInt8)(w:World):
  Calls prog 70 #[.string s,.string ⟨#[c]⟩] w λe w'=>e=.returned (.int .i64 (An s.data.toList c))/\w'=w:=Any.stringslite_Index_one lays219 s c w
end Go.Proofs
namespace Go.Proofs.YtpiohehijkpghacGreatDoor.Dr
open Go.RowKit
abbrev sv(l:List UInt8):Value:=.string ⟨l.toArray⟩
theorem zd5(c:UInt8):∀l,0<=An l c\/An l c=-1
 |[]=>.inr rfl
 |x::l=>by
  unfold An
  split
  ·exact .inl (Int.le_refl 0)
  ·split
   ·exact .inr rfl
   ·rename_i h
    rcases zd5 c l with h1|h1
    ·left;omega
    ·rw[h1]at h
     simp at h
theorem zkC(c:UInt8):∀l,An l c=-1->cutL c l=(l,[],false)
 |[],_=>rfl
 |x::l,h=>by
  unfold An at h
  by_cases e:x=c
  ·subst e
   simp at h
  ·have e':(x==c)=false:=by simpa using e
   rw[e']at h
   simp only[AN,if_false]at h
   by_cases h1:An l c=-1
   ·unfold cutL
    rw[if_neg e,zkC c l h1]
   ·exfalso
    have hb:(An l c==-1)=false:=by simpa using h1
    rw[hb]at h
    simp only[AN,if_false]at h
    have:=zd5 c l
    omega
theorem zgf(c:UInt8):∀(l:List UInt8) (i:Nat),An l c=(i:Int)->i<l.length/\cutL c l=(l.take i,l.drop (i+1),true)
 |[],i,h=>by unfold An at h;omega
 |x::l,i,h=>by
  unfold An at h
  by_cases e:x=c
  ·subst e
   simp at h
   obtain rfl:i=0:=by omega
   simp[cutL]
  ·have e':(x==c)=false:=by simpa using e
   rw[e']at h
   simp only[AN,if_false]at h
   by_cases h1:An l c=-1
   ·have hb:(An l c==-1)=true:=by simpa using h1
    rw[hb]at h
    simp at h
   ·have hb:(An l c==-1)=false:=by simpa using h1
    rw[hb]at h
    simp only[AN,if_false]at h
    obtain⟨j,rfl⟩:∃j,i=j+1:=⟨i-1,by have:=zd5 c l;omega⟩
    obtain⟨h2,h3⟩:=zgf c l j (by omega)
    refine⟨by simp;omega,?_⟩
    unfold cutL
    rw[if_neg e,h3]
    simp
theorem ziM(l:List UInt8)(i:Nat):(⟨l.toArray⟩:ByteArray).extract 0 i=⟨(l.take i).toArray⟩:=by
 apply ZF
 rw[AR]
 simp
theorem ziN(l:List UInt8)(i:Nat):(⟨l.toArray⟩:ByteArray).extract i l.length=⟨(l.drop i).toArray⟩:=by
 apply ZF
 rw[AR]
 simp[Zo]
theorem zgg(l:List UInt8)(c:UInt8)(hl:l.length<=4294967295)(w:World):
  Calls prog 39 #[sv l,.string ⟨#[c]⟩] w λe w'=>e=.returned (.tuple #[sv (cutL c l).1,sv (cutL c l).2.1,.bool (cutL c l).2.2])/\∃k,w'=w.drewN k:=by
 have CI:=stringslite_Index_one ⟨l.toArray⟩ c
 rcases zd5 c l with h|h
 ·obtain⟨i,hi⟩:=Zm h
  obtain⟨hlt,hc⟩:=zgf c l i hi
  have HC:Hid (cutL c l=(l.take i,l.drop (i+1),true)):=hc
  have CI:∀w,Calls prog 70 #[sv l,.string ⟨#[c]⟩] w λe w'=>e=.returned (.int .i64 (i:Int))/\w'=w:=λw=>by have h:=CI w;rw[show An (⟨l.toArray⟩:ByteArray).data.toList c=(i:Int) by simpa using hi]at h;exact h
  clear hi hc h
  have hsz:(⟨l.toArray⟩:ByteArray).size=l.length:=by simp[Az]
  go_enter func39,ntmps39
  go_wp2_with(go_at_call 70;refine(CI _).mono ?_;rintro e w' ⟨rfl,rfl⟩)
  go_region
  go_wp2_with fail
  go_ret3
  refine⟨?_,1,rfl⟩
  rw[HC.out]
  show Ending.returned (.tuple #[.string ((⟨l.toArray⟩:ByteArray).extract 0 i),.string ((⟨l.toArray⟩:ByteArray).extract (i+1) l.length),.bool true])=_
  rw[ziM,ziN]
 ·rw[zkC c l h]
  have CI:∀w,Calls prog 70 #[sv l,.string ⟨#[c]⟩] w λe w'=>e=.returned (.int .i64 (-1))/\w'=w:=λw=>by have h2:=CI w;rw[show An (⟨l.toArray⟩:ByteArray).data.toList c=-1 by simpa using h]at h2;exact h2
  go_enter func39,ntmps39
  go_wp2_with(go_at_call 70;refine(CI _).mono ?_;rintro e w' ⟨rfl,rfl⟩)
  go_ret3
  exact⟨rfl,0,by simp[World.drewN]⟩
theorem zaQ(l:List UInt8)(c:UInt8)(hl:l.length<=4294967295)(w:World):
  Calls prog 20 #[sv l,.string ⟨#[c]⟩] w λe w'=>e=.returned (.tuple #[sv (cutL c l).1,sv (cutL c l).2.1,.bool (cutL c l).2.2])/\∃k,w'=w.drewN k:=by
 have C:=zgg l c hl
 obtain⟨a,ha⟩:∃a,a=(cutL c l).1:=⟨_,rfl⟩
 obtain⟨b,hb⟩:∃b,b=(cutL c l).2.1:=⟨_,rfl⟩
 obtain⟨d,hd⟩:∃d,d=(cutL c l).2.2:=⟨_,rfl⟩
 rw[<-ha,<-hb,<-hd]at C⊢
 clear ha hb hd
 go_enter func20,ntmps20
 go_wp2_with(go_at_call 39;refine(C _).mono ?_;rintro e w' ⟨rfl,k,rfl⟩)
 go_ret3
 exact⟨rfl,k,rfl⟩
def Errs(w:World):Prop:=(∃tp p,World.var? prog w "strconv.ErrSyntax" =some #[.iface tp p])/\∃tp p,World.var? prog w "strconv.ErrRange" =some #[.iface tp p]
theorem zgh{l:List UInt8}(h:¬(1<l.length/\l.head?=some 48)):xI l=match Av 32 l with
  |.ok u=>some u
  |_=>none:=if_neg h
def lead(l:List UInt8):Bool:=match l with
 |x::_::_=>x==48
 |_=>false
theorem ze9(x y:UInt8)(r:List UInt8)(hx:x=48)(hl:r.length<=4294967290)(w:World):
  Calls prog 72 #[sv (x::y::r)] w λe w'=>e=.returned (.tuple #[.int .u32 0,.bool false])/\w'=w:=by
 subst hx
 go_enter func72,ntmps72
 go_wp2_with fail
 go_ret2
 exact⟨rfl,rfl⟩
theorem zgi{x y:UInt8}{r:List UInt8}(h0:lead (x::y::r)=false):((((⟨(x::y::r).toArray⟩:ByteArray)[0]'(by simp[Az])).toNat:Int)==48)=false:=by
 have:(x==48)=false:=h0
 show((x.toNat:Int)==48)=false
 rw[beq_eq_false_iff_ne]at this⊢
 intro h
 exact this (Zt.1 (show x.toNat=48 by omega))
theorem ziO(l:List UInt8)(hl:l.length<=4294967290)(h0:lead l=false)(N:Int)(n0:0<=N)(n1:N<=4294967295)(w:World)
  (CP:Calls prog 106 #[sv l,.int .i64 10,.int .i64 32] w λe w'=>e=.returned (.tuple #[.int .u64 N,.nilIface])/\Below w.heap.size w w'):
  Calls prog 72 #[sv l] w λe w'=>e=.returned (.tuple #[.int .u32 N,.bool true])/\Below w.heap.size w w':=by
 have hw:IntKind.u32.wrap N=N:=by simp[Zb,Zc,AS];omega
 rcases l with _|⟨x,_|⟨y,r⟩⟩
 rotate_right
 have hx:=zgi h0
 all_goals
  go_enter func72,ntmps72
  go_wp2_with(go_at_call 106;refine CP.mono ?_;rintro e w' ⟨rfl,hb⟩)
  go_region
  go_wp2_with fail
  go_ret2
  exact⟨by simp,hb.drew⟩
theorem zd6(l:List UInt8)(hl:l.length<=4294967290)(h0:lead l=false)(N:Int)(n0:0<=N)(n1:N<=4294967295)(w:World)
  (tp:TypeId) (CP:Calls prog 106 #[sv l,.int .i64 10,.int .i64 32] w λe w'=>(∃q,e=.returned (.tuple #[.int .u64 N,.iface tp (.pointer q)]))/\Below w.heap.size w w'):
  Calls prog 72 #[sv l] w λe w'=>e=.returned (.tuple #[.int .u32 N,.bool false])/\Below w.heap.size w w':=by
 have hw:IntKind.u32.wrap N=N:=by simp[Zb,Zc,AS];omega
 rcases l with _|⟨x,_|⟨y,r⟩⟩
 rotate_right
 have hx:=zgi h0
 all_goals
  go_enter func72,ntmps72
  go_wp2_with(go_at_call 106;refine CP.mono ?_;rintro e w' ⟨⟨q,rfl⟩,hb⟩)
  go_region
  go_wp2_with fail
  go_ret2
  exact⟨by simp,hb.drew⟩
theorem zd7(l:List UInt8):lead l=true↔1<l.length/\l.head?=some 48:=by
 rcases l with _|⟨x,_|⟨y,r⟩⟩<;>simp[lead]
theorem zgj(l:List UInt8)(hl:l.length<=4294967290)(w:World)(he:Errs w):
  Calls prog 72 #[sv l] w λe w'=>(∃n:Int,e=.returned (.tuple #[.int .u32 n,.bool (xI l).isSome])/\∀u,xI l=some u->n=(u:Int))/\Below w.heap.size w w':=by
 have hsz:(⟨l.toArray⟩:ByteArray).size=l.length:=by simp[Az]
 cases hz:lead l with
 |true=>
  have hr:xI l=none:=if_pos ((zd7 l).1 hz)
  rw[hr]
  rcases l with _|⟨x,_|⟨y,r⟩⟩
  ·cases hz
  ·cases hz
  ·refine(ze9 x y r (by simpa[lead]using hz) (by simp at hl;omega) w).mono λe w' ⟨he,hw⟩=>⟨⟨0,he,λu hu=>by cases hu⟩,by rw[hw];exact Aa _ _⟩
 |false=>
  have hr:=zgh (l:=l) (λh=>by rw[(zd7 l).2 h]at hz;cases hz)
  cases hp:Av 32 l
  ·rename_i u
   rw[hp]at hr
   have hu:=Lib.parseUintB_le hp
   rw[hr]
   refine(ziO l hl hz (u:Int) (by omega) (by omega) w ((strconv_ParseUint_10_at32_ok ⟨l.toArray⟩ (by omega) u (by simpa using hp) w).mono λe w' ⟨he,hw⟩=>⟨he,?_⟩)).mono λe w' ⟨he,hb⟩=>⟨⟨u,he,λv hv=>by cases hv;rfl⟩,hb⟩
   rcases hw with rfl|rfl
   ·exact Aa _ _
   ·exact Lib.bytesWorld_below _ _ _
  ·rw[hp]at hr
   rw[hr]
   obtain⟨tp,p,hv⟩:=he.1
   exact(zd6 l hl hz 0 (by omega) (by omega) w _ ((strconv_ParseUint_10_at32_syntax_var ⟨l.toArray⟩ (by omega) (Av 32 l) (by simp) (λu h=>by rw[hp]at h;cases h) (λh=>by rw[hp]at h;cases h) tp p w hv).mono λe w' ⟨N,he,_,_,hb⟩=>⟨⟨_,he⟩,hb⟩)).mono λe w' ⟨he,hb⟩=>⟨⟨0,he,λu hu=>by cases hu⟩,hb⟩
  ·rw[hp]at hr
   rw[hr]
   obtain⟨tp,p,hv⟩:=he.2
   exact(zd6 l hl hz 4294967295 (by omega) (by omega) w _ ((strconv_ParseUint_10_at32_range_var ⟨l.toArray⟩ (by omega) (by simpa using hp) tp p w hv).mono λe w' ⟨N,he,_,_,hb⟩=>⟨⟨_,he⟩,hb⟩)).mono λe w' ⟨he,hb⟩=>⟨⟨_,he,λu hu=>by cases hu⟩,hb⟩
abbrev ucs(l:List Nat):List Value:=l.map λ(n:Nat)=>.int .u32 (n:Int)
theorem zgk:(prog.info? 24).map (λi=>(i.zero,i.size,i.bytes))=some (some (.int .u32 0),1,4):=by kernel_rfl
theorem yX{P:Program}{w w':World}{n:String}{cs:Array Value}(h:w.var? P n=some cs)(hb:Below w.heap.size w w'):w'.var? P n=some cs:=by
 unfold World.var? at h⊢
 cases hg:P.globalNamed n with
 |none=>rw[hg]at h;cases h
 |some g=>
  rw[hg]at h
  simp only[Option.bind_some]at h⊢
  have hlt:g<w.heap.size:=AK λhn=>by
   rw[AT (by omega)]at h
   cases h
  rw[hb.block g hlt]
  exact h
theorem Errs.below{w w':World}(h:Errs w)(hb:Below w.heap.size w w'):Errs w':=by
 obtain⟨⟨a,p,h1⟩,c,q,h2⟩:=h
 exact⟨⟨a,p,yX h1 hb⟩,c,q,yX h2 hb⟩
theorem xP(w:World)(k:Nat):Below w.heap.size w (w.drewN k):=⟨rfl,rfl,rfl,WZ _,λ_ _=>rfl⟩
theorem zd8:xI []=none:=by
 unfold xI
 rw[if_neg (by simp)]
 rfl
theorem zbE:∀(k:Nat) (t:List UInt8) (b:Bool),t.length+2<=k->numsL (k+1) t b=numsL k t b
 |0,t,b,h=>absurd h (by omega)
 |k+1,t,b,h=>by
  show(if b=false then some []else _)=(if b=false then some []else _)
  by_cases hb:b=false
  ·rw[if_pos hb,if_pos hb]
  ·rw[if_neg hb,if_neg hb]
   cases hr:xI (cutL 32 t).1 with
   |none=>rfl
   |some n=>
    simp only[]
    have ht:t≠[]:=λe=>by
     subst e
     rw[show(cutL 32 []).1=[]from rfl,zd8]at hr
     cases hr
    have:=zd4 32 t ht
    rw[zbE k (cutL 32 t).2.1 (cutL 32 t).2.2 (by omega)]
theorem zbF(t:List UInt8)(b:Bool):∀j,numsL (t.length+2+j) t b=numsL (t.length+2) t b
 |0=>rfl
 |j+1=>by
  rw[show t.length+2+(j+1)=(t.length+2+j)+1 by omega,zbE _ t b (by omega)]
  exact zbF t b j
theorem qE{w w':World}{B e size:Nat}{v:Value}{n:Nat}{xs:List Value}(h:w.ownsRow B e size v n xs)(hb:Below w.heap.size w w'):w'.ownsRow B e size v n xs:=by
 obtain⟨h1,h2⟩:=h
 refine⟨h1,?_⟩
 rcases h2 with h2|⟨g,cap,cur,hv,hg,hh,r⟩
 ·exact .inl h2
 ·exact .inr ⟨g,cap,cur,hv,hg,(hb.block g (Af.1 hh).1).trans hh,r⟩
def NumP(B:Nat)(w':World)(e:Ending)(R:Option (List Nat)):Prop:=match R with
 |none=>e=.returned (.tuple #[.slice none 0 0,.bool false])
 |some ns=>∃v,e=.returned (.tuple #[v,.bool true])/\w'.ownsRow B 24 1 v ns.length (ucs ns)
def msr(tx th:Value):Nat:=match tx,th with
 |.string s,.bool true=>s.size+1
 |_,_=>0
theorem zpd(t:List UInt8):msr (sv t) (.bool true)=t.length+1:=by simp[msr,Az]
theorem znl(t:List UInt8)(b:Bool):msr (sv t) (.bool b)<=t.length+1:=by cases b<;>simp[msr,Az]
theorem zgl(c:UInt8):∀l,(cutL c l).2.2=false->(cutL c l).2.1=[]
 |[],_=>rfl
 |x::l,h=>by
  unfold cutL at h⊢
  split at h
  ·cases h
  ·rename_i e
   rw[if_neg e]
   exact zgl c l h
theorem zaR(c:UInt8):∀l,(cutL c l).1.length<=l.length
 |[]=>WZ _
 |x::l=>by
  have:=zaR c l
  unfold cutL
  split<;>simp<;>omega
theorem zbG(l:List UInt8)(b:Bool)(hl:l.length<=3000000)(w:World)(he:Errs w):
  Calls prog 41 #[sv l,.bool b] w λe w'=>NumP w.heap.size w' e (numsL (l.length+2) l b)/\Below w.heap.size w w':=by
 obtain⟨R,hR⟩:∃R,Hid (R=numsL (l.length+2) l b):=⟨_,rfl⟩
 rw[<-hR.out]
 go_enter func41,ntmps41
 go_wp2_with fail
 go_loopw [0,1,6] (λtx th lv wr=>∃(t:List UInt8) (bb:Bool) (ns:List Nat),tx=sv t/\th=.bool bb/\t.length<=l.length/\ns.length+t.length<=l.length+1/\Hid (R=(numsL (t.length+2) t bb).map (ns++·)/\wr.ownsRow w.heap.size 24 1 lv ns.length (ucs ns)/\Below w.heap.size w wr)) (λtx th _ _=>msr tx th)
 case atStart=>exact⟨l,b,[],rfl,rfl,WZ _,by simp,by rw[hR.out];simp,AC _ _ _ _,Aa _ _⟩
 case round=>
  obtain⟨t,bb,ns,rfl,rfl,ht,hns,hrel⟩:=hrel
  cases bb with
  |false=>
   have hRs:Hid (R=some ns):=by
    have:=hrel.out.1
    rw[show numsL (t.length+2) t false=some []from if_pos rfl]at this
    have e:R=some ns:=by simpa using this
    exact e
   have q5:Hid (wr.ownsRow w.heap.size 24 1 u6 ns.length (ucs ns)):=hrel.out.2.1
   have qb:Hid (Below w.heap.size w wr):=hrel.out.2.2
   clear hrel
   go_wp2_with fail
   go_ret2
   rw[hRs.out]
   exact⟨⟨u6,rfl,q5.out⟩,qb.out⟩
  |true=>
   have C1:=λW=>zaQ t 32 (by omega) W
   have hlen1:=zaR 32 t
   have hlen2:=xO 32 t
   have hnil:=zgl 32 t
   have hlt:=zd4 32 t
   have hstep:Hid (R=(match xI (cutL 32 t).1 with|none=>none|some n=>(numsL (t.length+1) (cutL 32 t).2.1 (cutL 32 t).2.2).map (n::·)).map (ns++·)):=hrel.out.1
   obtain⟨x,hx⟩:∃x,x=(cutL 32 t).1:=⟨_,rfl⟩
   obtain⟨y,hy⟩:∃y,y=(cutL 32 t).2.1:=⟨_,rfl⟩
   obtain⟨d,hd⟩:∃d,d=(cutL 32 t).2.2:=⟨_,rfl⟩
   rw[<-hx,<-hy,<-hd]at C1
   rw[<-hx]at hlen1
   rw[<-hy]at hlen2 hlt
   rw[<-hy,<-hd]at hnil
   rw[<-hx,<-hy,<-hd]at hstep
   have q5:Hid (wr.ownsRow w.heap.size 24 1 u6 ns.length (ucs ns)):=hrel.out.2.1
   have qb:Hid (Below w.heap.size w wr):=hrel.out.2.2
   have hx0:t=[]->x=[]:=λh=>by rw[hx,h];rfl
   clear hx hy hd hrel
   go_wp2_with(go_at_call 20;refine(C1 _).mono ?_;rintro e w1 ⟨rfl,hw1⟩)
   have b1:Hid (Below wr.heap.size wr w1):=by obtain⟨k1,rfl⟩:=hw1;exact xP _ _
   have B1:Hid (Below w.heap.size w w1):=qb.out.trans (b1.out.mono qb.out.size)
   have q6:Hid (w1.ownsRow w.heap.size 24 1 u6 ns.length (ucs ns)):=qE q5.out b1.out
   have C2:=zgj x (by omega) w1 (he.below B1.out)
   clear hw1 C1 q5 qb b1
   cases hr:xI x with
   |none=>
    rw[hr]at C2 hstep
    go_wp2_with(go_at_call 72;refine C2.mono ?_;rintro e w2 ⟨⟨n,rfl,_⟩,hb2⟩)
    go_ret2
    have hRn:R=none:=by simpa using hstep.out
    rw[hRn]
    exact⟨rfl,B1.out.trans (hb2.mono B1.out.size)⟩
   |some u=>
    rw[hr]at C2 hstep
    have hlt:y.length<t.length:=hlt λh=>by rw[hx0 h,zd8]at hr;cases hr
    obtain⟨i0,hi,hz0,hz1,hz2⟩:=AO zgk
    have C2:Calls prog 72 #[sv x] w1 λe w'=>e=.returned (.tuple #[.int .u32 (u:Int),.bool true])/\Below w1.heap.size w1 w':=C2.mono λe w' ⟨⟨n,h1,h2⟩,h3⟩=>⟨by rw[h1,h2 u rfl];rfl,h3⟩
    have hu0:Hid (w.heap.size<=w1.heap.size):=B1.out.size
    go_upto_region 8 with(go_at_call 72;refine C2.mono ?_;rintro e w2 ⟨rfl,hb2⟩)
    have B2:Hid (Below w.heap.size w w2):=B1.out.trans (hb2.mono B1.out.size)
    have q7:Hid (w2.ownsRow w.heap.size 24 1 u6 ns.length (ucs ns)):=qE q6.out hb2
    clear hb2 q6 B1 C2
    go_wp2_with(at_builtin;refine ZH _ rfl _ _ 69 rfl w.heap.size 24 i0 _ 1 4 underlying69 hi hz0 hz1 hz2 rfl (by decide) u6 ns.length (ucs ns) rfl ?q1 ⟨w2.heap.size,0,none⟩ 1 1 [.int .u32 (u:Int)] rfl ?q2 ?q3 ?q4 ?q5 ?q6 ?q7 ?_)
    case q1=>exact qE q7.out ((Aa _ _).alloc (WZ _) _)
    case q2=>rfl
    case q3=>
     intro j v hv
     have hj:j=0:=by have:=(Ad.1 hv).1;simp at this;omega
     subst hj
     have hadd:(⟨w2.heap.size,0,none⟩:Addr).add 0=⟨w2.heap.size,0,none⟩:=by unfold AM;split<;>simp_all
     rw[hadd,Ae _ w2.heap.size 0 _ _ (0,0) (heap_alloc_new w2 _)]
     simpa using hv
    case q4=>intro v hv;simp at hv;subst hv;rfl
    case q5=>unfold maxLen;omega
    case q6=>omega
    case q7=>have:=B2.out.size;simp;omega
    intro v' w5 hown5 hgrow5 _
    have B5:Hid (Below w.heap.size w w5):=(B2.out.alloc B2.out.size _).grown hgrow5 (by have:=B2.out.size;simp;omega) (λk hk=>(q7.out.lt k hk).1)
    have own5:Hid (w5.ownsRow w.heap.size 24 1 v' (ns++[u]).length (ucs (ns++[u]))):=by
     have h:=hown5
     show Au _ _ _ _ _ _ _
     rw[show(ns++[u]).length=ns.length+1 by simp,show ucs (ns++[u])=ucs ns++[.int .u32 (u:Int)] by simp[ucs]]
     exact h
    have hRR:Hid (R=(numsL (y.length+2) y d).map ((ns++[u])++·)):=by
     show _=_
     rw[hstep.out]
     have e:=zbF y d (t.length+1-(y.length+2))
     rw[show y.length+2+(t.length+1-(y.length+2))=t.length+1 by omega]at e
     simp only[e]
     cases numsL (y.length+2) y d<;>simp
    clear hown5 hgrow5 hi hz0 hz1 hz2
    go_wp2_with fail
    go_roundw
    case rel=>exact⟨y,d,ns++[u],rfl,rfl,by omega,by simp;omega,hRR.out,own5.out,B5.out⟩
    case measure=>
     rw[zpd]
     have:=znl y d
     omega
def Pow(w:World):Prop:=Lib.TabIs prog w "internal/strconv.uint64pow10" .u64 Qa
theorem kR(w:World)(k:Nat)(os:Array Obj):Below w.heap.size w (Sort.grow (w.drewN k) os):=
 ⟨rfl,rfl,rfl,by show w.heap.size<=(w.heap++os).size;simp,λj hj=>by show(w.heap++os)[j]?=w.heap[j]?;exact Array.getElem?_append_left hj⟩
theorem zbH(n:Int)(n0:0<=n)(n1:n<=9223372036854775807)(w:World)(hp:Pow w):
  Calls prog 76 #[.int .i64 n] w λe w'=>e=.returned (sv (Am n))/\Below w.heap.size w w':=by
 have C:=strconv_FormatInt_10 n (by omega) n1 w hp
 have C:Calls prog 109 #[.int .i64 n,.int .i64 10] w λe w'=>e=.returned (sv (Am n))/\Below w.heap.size w w':=C.mono λe w' ⟨h1,k,os,h2⟩=>⟨h1,by rw[h2];exact kR _ _ _⟩
 go_enter func76,ntmps76
 go_wp2_with(go_at_call 109;refine C.mono ?_;rintro e w' ⟨rfl,hb⟩)
 go_ret
 exact⟨rfl,hb⟩
theorem zgm(n:Int)(n0:0<=n)(n1:n<=9223372036854775807)(w:World)(hp:Pow w):
  Calls prog 107 #[.int .i64 n] w λe w'=>e=.returned (sv (Am n))/\Below w.heap.size w w':=by
 have C:=strconv_FormatInt_10 n (by omega) n1 w hp
 have C:Calls prog 109 #[.int .i64 n,.int .i64 10] w λe w'=>e=.returned (sv (Am n))/\Below w.heap.size w w':=C.mono λe w' ⟨h1,k,os,h2⟩=>⟨h1,by rw[h2];exact kR _ _ _⟩
 go_enter func107,ntmps107
 go_wp2_with(go_at_call 109;refine C.mono ?_;rintro e w' ⟨rfl,hb⟩)
 go_ret
 exact⟨rfl,hb⟩
theorem zgn(n:Int)(n0:0<=n)(n1:n<=4294967295)(w:World)(hp:Pow w):
  Calls prog 108 #[.int .u32 n] w λe w'=>e=.returned (sv (Am n))/\Below w.heap.size w w':=by
 have C:=strconv_FormatInt_10 n (by omega) (by omega) w hp
 have C:Calls prog 109 #[.int .i64 n,.int .i64 10] w λe w'=>e=.returned (sv (Am n))/\Below w.heap.size w w':=C.mono λe w' ⟨h1,k,os,h2⟩=>⟨h1,by rw[h2];exact kR _ _ _⟩
 have hw:IntKind.i64.wrap n=n:=by simp[Zb,Zc,AS];omega
 go_enter func108,ntmps108
 go_wp2_with(go_at_call 109;refine C.mono ?_;rintro e w' ⟨rfl,hb⟩)
 go_ret
 exact⟨rfl,hb⟩
def OwnT(w:World)(B:Nat)(e:TypeId)(v:Value)(xs:List Value):Prop:=
 ∃g cap cur fz,v=.slice (some ⟨g,0,none⟩) xs.length cap/\B<=g/\w.heap[g]?=some (.cells cur e fz)/\(fz.2<=0\/cap<=fz.1)/\xs.length<=cap/\cap<=maxLen/\cur.size=cap/\cur.toList.take xs.length=xs
theorem OwnT.lt{w:World}{B:Nat}{e:TypeId}{v:Value}{xs:List Value}(h:OwnT w B e v xs):∀k,v.ownBlock=some k->B<=k/\k<w.heap.size:=by
 obtain⟨g,cap,cur,fz,rfl,hB,hg,_⟩:=h
 intro k hk
 simp[Ai]at hk
 subst hk
 exact⟨hB,(Af.1 hg).1⟩
theorem OwnT.stays{w w':World}{B:Nat}{e:TypeId}{v:Value}{xs:List Value}(h:OwnT w B e v xs)(hb:Below w.heap.size w w'):OwnT w' B e v xs:=by
 obtain⟨g,cap,cur,fz,hv,hB,hg,r⟩:=h
 exact⟨g,cap,cur,fz,hv,hB,(hb.block g (Af.1 hg).1).trans hg,r⟩
theorem OwnT.cells{w:World}{B:Nat}{e:TypeId}{v:Value}{xs:List Value}(h:OwnT w B e v xs){g:Nat}(hg:v.ownBlock=some g):∀j u,xs[j]?=some u->w.cell? ((⟨g,0,none⟩:Addr).add j)=some u:=by
 intro j u hu
 obtain⟨g',cap,cur,fz,rfl,hB,hgg,_,_,_,_,htake⟩:=h
 simp[Ai]at hg
 subst hg
 have hadd:(⟨g',0,none⟩:Addr).add j=⟨g',j,none⟩:=by unfold AM;split<;>simp_all
 rw[hadd,Ae w g' j cur e fz hgg]
 rw[<-htake,List.getElem?_take]at hu
 split at hu
 ·simpa using hu
 ·cases hu
theorem qV(P:Program)(g o:Nat)(t:TypeId)(fz:Nat×Nat):∀(vs:List Value) (i:Nat) (cur:Array Value) (w:World),w.heap[g]?=some (.cells cur t fz)->(fz.2<=0\/cur.size<=fz.1)->o+i+vs.length<=cur.size->(∀v∈vs,v.oneCell'=true)->
  (storeCells ⟨g,o,none⟩ vs i).run P w=.ok () (w.setRow g (cur.toList.take (o+i)++vs++cur.toList.drop (o+i+vs.length)).toArray)
 |[],i,cur,w,hg,_,_,_=>by
  simp only[storeCells,Zu,ZT,ZI,List.take_append_drop,AD]
  rw[setRow_self w g cur t fz hg]
  rfl
 |v::rest,i,cur,w,hg,hfz,hl,h1=>by
  have hi:o+i<cur.size:=by simp at hl;omega
  have hadd:(⟨g,o,none⟩:Addr).add i=⟨g,o+i,none⟩:=by unfold AM;split<;>simp_all
  have hcell:w.cell? ⟨g,o+i,none⟩=some cur[o+i]:=by simp[World.cell?,hg,hi]
  have hfro:w.frozen? ⟨g,o+i,none⟩=false:=by
   obtain⟨lo,hi'⟩:=fz
   simp only[World.frozen?,hg,Bool.and_eq_false_iff,decide_eq_false_iff_not]
   simp only at hfz
   omega
  have hst:(store ((⟨g,o,none⟩:Addr).add i) v).run P w=.ok () (w.setRow g (cur.setIfInBounds (o+i) v)):=by
   rw[hadd,run_store P w _ v _ (h1 v (by simp)),hcell]
   simp[hfro,setCell_eq_setRow w g (o+i) cur t fz v hg]
  have ih:=qV P g o t fz rest (i+1) (cur.setIfInBounds (o+i) v) (w.setRow g (cur.setIfInBounds (o+i) v)) (Zz w g cur _ t _ hg) (by simpa using hfz) (by simp at hl⊢;omega) (λx hx=>h1 x (by simp[hx]))
  simp only[storeCells,AU,hst,Aw,ih,setRow_setRow]
  congr 3
  have e:=list_seg_step cur.toList (o+i) v rest (by simp at hl⊢;omega)
  simpa[Zg,ZY]using e
section
variable {P:Program} (w:World)
theorem zd9(B:Nat)(e:TypeId)(xs ys:List Value)(old:Nat)(h63:xs.length+ys.length<=maxLen)(hB:B<=w.heap.size)(row:Option Nat):
  OwnT (w.drew.alloc (.cells (xs.toArray++ys.toArray++ZJ (Ag .u8 0).cells (grownCap w (xs.length+ys.length) old e-(xs.length+ys.length))) e)) B e (.slice (some ⟨w.heap.size,0,none⟩) (xs.length+ys.length) (grownCap w (xs.length+ys.length) old e)) (xs++ys)/\
  w.grownBy (w.drew.alloc (.cells (xs.toArray++ys.toArray++ZJ (Ag .u8 0).cells (grownCap w (xs.length+ys.length) old e-(xs.length+ys.length))) e)) row:=by
 have hge:=grownCap_ge w (xs.length+ys.length) old e
 have hcm:grownCap w (xs.length+ys.length) old e<=maxLen:=ZG w (xs.length+ys.length) old e h63
 refine⟨⟨w.heap.size,_,_,(0,0),by rw[WY],hB,heap_alloc_new w.drew _,.inl (WZ _),by rw[WY];exact hge,hcm,?_,?_⟩,⟨rfl,rfl,rfl,by simp,λk hk _=>Below.heap_alloc w.drew _ k hk⟩⟩
 ·have hz1:(Ag IntKind.u8 0).cells.size=1:=rfl
  simp only[ZK,ZL,size_zeroCells,hz1]
  omega
 ·simp only[ZD,ZM]
  rw[<-ZM]
  exact ZA
theorem zgo(B:Nat)(e:TypeId)(g cap:Nat)(cur:Array Value)(fz:Nat×Nat)(xs ys:List Value)(hB:B<=g)(hg:w.heap[g]?=some (.cells cur e fz))(hfz:fz.2<=0\/cap<=fz.1)(hroom:xs.length+ys.length<=cap)(hcm:cap<=maxLen)(hcs:cur.size=cap)(ht:cur.toList.take xs.length=xs):
  OwnT (w.setRow g (cur.toList.take xs.length++ys++cur.toList.drop (xs.length+ys.length)).toArray) B e (.slice (some ⟨g,0,none⟩) (xs.length+ys.length) cap) (xs++ys)/\
  w.grownBy (w.setRow g (cur.toList.take xs.length++ys++cur.toList.drop (xs.length+ys.length)).toArray) (some g):=by
 refine⟨⟨g,cap,_,fz,by rw[WY],hB,Zz w g cur _ e _ hg,hfz,by rw[WY];exact hroom,hcm,?_,?_⟩,⟨rfl,rfl,rfl,by simp,λk _ hk=>ZN w g k _ (λe=>hk (by simp[e]))⟩⟩
 ·simp only[ZL,WY,AW,List.length_drop,AL]
  omega
 ·rw[ht]
  exact ZA
theorem zbI(B:Nat)(t ty e:TypeId)(i:TypeInfo)(ht:P.underlying t=some (.slice e))(hi:P.info? e=some i)(hz:i.zero=some (.int .u8 0))
  (hsize:i.size=1) (hby:i.bytes=1) (v:Value) (xs:List Value) (hown:OwnT w B e v xs)
  (a:Addr) (m c:Nat) (news:List Value) (hl:news.length=m) (hnews:∀j u,news[j]?=some u->w.cell? (a.add j)=some u) (h1:∀u∈news,u.oneCell'=true)
  (h63:xs.length+m<=maxLen) (hbytes:xs.length+m<=140737488355328) (hbase:B<=w.heap.size):
  ∃v' w',(Ao #[t,t] ty #[v,.slice (some a) m c]).run P w=.ok v' w'/\OwnT w' B e v' (xs++news)/\w.grownBy w' v.ownBlock:=by
 subst hl
 have hsmall:xs.length+news.length<=9223372036854775807:=by simp only[maxLen]at h63;omega
 have hO:=hown
 obtain⟨g,cap,cur,fz,rfl,hB,hg,hfz,hnc,hcm,hcs,htake⟩:=hown
 by_cases hroom:xs.length+news.length<=cap
 ·have hf:=run_firstCells_some (P:=P) w i.size news.length a news.length c news (by rw[hsize];simp) hnews
  have hst:=qV P g (xs.length*i.size) e fz news 0 cur w hg (by rw[hcs];exact hfz) (by rw[hsize];omega) h1
  simp only[ZI,hsize,Nat.mul_one]at hst
  have hr:(Ao #[t,t] ty #[.slice (some ⟨g,0,none⟩) xs.length cap,.slice (some a) news.length c]).run P w=.ok (.slice (some ⟨g,0,none⟩) (xs.length+news.length) cap) (w.setRow g (cur.toList.take xs.length++news++cur.toList.drop (xs.length+news.length)).toArray):=by
   rw[hsize]at hf
   simp[Ao,AE ht,sizeOf,typeInfo,hi,hsize,Zl,hroom,hf,Qb,hst]
  obtain⟨r1,r2⟩:=zgo w B e g cap cur fz xs news hB hg hfz hroom hcm hcs htake
  exact⟨_,_,hr,r1,r2⟩
 ·have holds:=hO.cells (g:=g) rfl
  have hr:=ZU (P:=P) w t ty e i (.int .u8 0) ht hi hz ⟨g,0,none⟩ xs.length cap xs (by rw[hsize];simp) holds a news.length c news (by rw[hsize];simp) hnews (by omega) (by omega) (by rw[hby];exact Zh (by omega) (by omega))
  obtain⟨r1,r2⟩:=zd9 w B e xs news cap h63 hbase (Ai (.slice (some ⟨g,0,none⟩) xs.length cap))
  exact⟨_,_,hr,r1,r2⟩
theorem zaS(B:Nat)(t u ty e:TypeId)(i:TypeInfo)(ht:P.underlying t=some (.slice e))(hu:P.underlying u=some .string)(hi:P.info? e=some i)(hz:i.zero=some (.int .u8 0))
  (hsize:i.size=1) (hby:i.bytes=1) (v:Value) (xs:List Value) (hown:OwnT w B e v xs) (s:ByteArray)
  (h63:xs.length+s.size<=maxLen) (hbytes:xs.length+s.size<=140737488355328) (hbase:B<=w.heap.size):
  ∃v' w',(Ao #[t,u] ty #[v,.string s]).run P w=.ok v' w'/\OwnT w' B e v' (xs++Aq s)/\w.grownBy w' v.ownBlock:=by
 have hsmall:xs.length+s.size<=9223372036854775807:=by simp only[maxLen]at h63;omega
 have hO:=hown
 have hsl:=ZE s
 obtain⟨g,cap,cur,fz,rfl,hB,hg,hfz,hnc,hcm,hcs,htake⟩:=hown
 by_cases hroom:xs.length+s.size<=cap
 ·have hf:=Zk (P:=P) w 1 s
  have hst:=qV P g xs.length e fz (Aq s) 0 cur w hg (by rw[hcs];exact hfz) (by rw[hsl];omega) (Lib.strCells_oneCell s)
  simp only[ZI,hsl]at hst
  have hr:(Ao #[t,u] ty #[.slice (some ⟨g,0,none⟩) xs.length cap,.string s]).run P w=.ok (.slice (some ⟨g,0,none⟩) (xs.length+s.size) cap) (w.setRow g (cur.toList.take xs.length++Aq s++cur.toList.drop (xs.length+s.size)).toArray):=by
   simp[Ao,AE ht,AE hu,sizeOf,typeInfo,hi,hsize,Zl,hroom,hf,Qb,hst]
  obtain⟨r1,r2⟩:=zgo w B e g cap cur fz xs (Aq s) hB hg hfz (by rw[hsl];exact hroom) hcm hcs htake
  rw[hsl]at r1 r2
  exact⟨_,_,hr,r1,r2⟩
 ·have holds:=hO.cells (g:=g) rfl
  have hr:=Zi (P:=P) w t u ty e i (.int .u8 0) ht hu hi hz ⟨g,0,none⟩ xs.length cap xs (by rw[hsize];simp) holds s (by omega) (by omega) (by rw[hby];exact Zh (by omega) (by omega))
  obtain⟨r1,r2⟩:=zd9 w B e xs (Aq s) cap (by rw[hsl];exact h63) hbase (Ai (.slice (some ⟨g,0,none⟩) xs.length cap))
  rw[hsl]at r1 r2
  exact⟨_,_,hr,r1,r2⟩
theorem yY{ops:Array Oper}{rest:List Oper}{o:Oper}{a:Act}{Q:Exit->Act->World->Prop}(hgd:o.guard=none)(s x:Operand)(t:TypeId)
  (ho:o.op=.call {callee:=.builtin .append,args:=#[s,x],argTypes:=#[t,t]})
  (B:Nat) (e:TypeId) (i:TypeInfo) (ht:P.underlying t=some (.slice e)) (hi:P.info? e=some i) (hz:i.zero=some (.int .u8 0)) (hsize:i.size=1) (hby:i.bytes=1)
  (v:Value) (xs:List Value) (hs:a.eval s=v) (hown:OwnT w B e v xs)
  (ad:Addr) (m c:Nat) (news:List Value) (hx:a.eval x=.slice (some ad) m c) (hl:news.length=m) (hnews:∀j u,news[j]?=some u->w.cell? (ad.add j)=some u) (h1:∀u∈news,u.oneCell'=true)
  (h63:xs.length+m<=maxLen) (hbytes:xs.length+m<=140737488355328) (hbase:B<=w.heap.size)
  (h:∀v' w',OwnT w' B e v' (xs++news)->w.grownBy w' v.ownBlock->wpList P ops Q rest (a.put o.dst v') w'):wpList P ops Q (o::rest) a w:=by
 refine Zd hgd λK hK=>?_
 obtain⟨v',w',hr,h2,h3⟩:=zbI (P:=P) w B t o.type e i ht hi hz hsize hby v xs hown ad m c news hl hnews h1 h63 hbytes hbase
 unfold ZO execOp
 simp only[ho,resolve,invoke,builtin,AU,Ze,Aw,AI,AZ,Zf,hs,hx,hr]
 exact hK _ _ (h v' w' h2 h3)
theorem yz{ops:Array Oper}{rest:List Oper}{o:Oper}{a:Act}{Q:Exit->Act->World->Prop}(hgd:o.guard=none)(sl x:Operand)(t u:TypeId)
  (ho:o.op=.call {callee:=.builtin .append,args:=#[sl,x],argTypes:=#[t,u]})
  (B:Nat) (e:TypeId) (i:TypeInfo) (ht:P.underlying t=some (.slice e)) (hu:P.underlying u=some .string) (hi:P.info? e=some i) (hz:i.zero=some (.int .u8 0)) (hsize:i.size=1) (hby:i.bytes=1)
  (v:Value) (xs:List Value) (hs:a.eval sl=v) (hown:OwnT w B e v xs) (s:ByteArray) (hx:a.eval x=.string s)
  (h63:xs.length+s.size<=maxLen) (hbytes:xs.length+s.size<=140737488355328) (hbase:B<=w.heap.size)
  (h:∀v' w',OwnT w' B e v' (xs++Aq s)->w.grownBy w' v.ownBlock->wpList P ops Q rest (a.put o.dst v') w'):wpList P ops Q (o::rest) a w:=by
 refine Zd hgd λK hK=>?_
 obtain⟨v',w',hr,h2,h3⟩:=zaS (P:=P) w B t u o.type e i ht hu hi hz hsize hby v xs hown s h63 hbytes hbase
 unfold ZO execOp
 simp only[ho,resolve,invoke,builtin,AU,Ze,Aw,AI,AZ,Zf,hs,hx,hr]
 exact hK _ _ (h v' w' h2 h3)
end
section
variable {P:Program} (w:World)
theorem yt(base:Nat)(t ty e:TypeId)(i:TypeInfo)(z:Value)(size bytes:Nat)(ht:P.underlying t=some (.slice e))(hi:P.info? e=some i)(hz:i.zero=some z)
  (hsize:i.size=size) (hby:i.bytes=bytes) (hsz:0<size)
  (v:Value) (n:Nat) (xs:List Value) (hown:w.ownsRow base e size v n xs)
  (a:Addr) (m c:Nat) (news:List Value) (hl:news.length=m*size) (hnews:∀j u,news[j]?=some u->w.cell? (a.add j)=some u) (h1:∀u∈news,u.oneCell'=true)
  (h63:n+m<=maxLen) (hbytes:(n+m)*bytes<=140737488355328) {v':Value} {w':World} (hrun:(Ao #[t,t] ty #[v,.slice (some a) m c]).run P w=.ok v' w'):
  ∀k,v'.ownBlock=some k->v.ownBlock=some k\/k=w.heap.size:=by
 subst hsize
 subst hby
 have hsmall:n+m<=9223372036854775807:=by simp only[maxLen]at h63;omega
 rcases hown.2 with⟨rfl,rfl⟩|⟨g,cap,cur,rfl,hbg,hg,hnc,hcm,hcs,htake⟩
 ·by_cases hm:m=0
  ·subst hm
   simp[Ao,AE ht,sizeOf,typeInfo,hi,Zl,Builtin.firstCells,loadCells,loadCellsFrom]at hrun
   obtain⟨rfl,_⟩:=hrun
   intro k hk
   simp[Ai]at hk
  ·have hr:=run_append_nil (P:=P) w t ty e i z ht hi hz a m c news hl hnews (by omega) (by omega) (by have hb:=hbytes;simp only[Zp]at hb;omega)
   rw[hr]at hrun
   injection hrun with h1 _
   subst h1
   intro k hk
   simp[Ai]at hk
   exact .inr hk.symm
 ·by_cases hroom:n+m<=cap
  ·have hfit:n*i.size+news.length<=cur.size:=by rw[hl,hcs,<-Qg];exact AF _ hroom
   have hr:=run_append_room (P:=P) w t ty e i ht hi g n cap cur hg a m c news hl hnews h1 hroom hfit
   rw[hr]at hrun
   injection hrun with h1 _
   subst h1
   intro k hk
   simp[Ai]at hk
   exact .inl (by simp[Ai,hk])
  ·have holds:∀j u,xs[j]?=some u->w.cell? ((⟨g,0,none⟩:Addr).add j)=some u:=hown.cells (g:=g) rfl
   have hr:=ZU (P:=P) w t ty e i z ht hi hz ⟨g,0,none⟩ n cap xs hown.1 holds a m c news hl hnews (by omega) (by omega) (Zh (by omega) hbytes)
   rw[hr]at hrun
   injection hrun with h1 _
   subst h1
   intro k hk
   simp[Ai]at hk
   exact .inr hk.symm
theorem xc{ops:Array Oper}{rest:List Oper}{o:Oper}{a:Act}{Q:Exit->Act->World->Prop}(hgd:o.guard=none)(s x:Operand)(t:TypeId)
  (ho:o.op=.call {callee:=.builtin .append,args:=#[s,x],argTypes:=#[t,t]})
  (base:Nat) (e:TypeId) (i:TypeInfo) (z:Value) (size bytes:Nat) (ht:P.underlying t=some (.slice e)) (hi:P.info? e=some i) (hz:i.zero=some z)
  (hsize:i.size=size) (hby:i.bytes=bytes) (hzs:z.cells.size=size) (hsz:0<size)
  (v:Value) (n:Nat) (xs:List Value) (hs:a.eval s=v) (hown:w.ownsRow base e size v n xs)
  (ad:Addr) (m c:Nat) (news:List Value) (hx:a.eval x=.slice (some ad) m c) (hl:news.length=m*size) (hnews:∀j u,news[j]?=some u->w.cell? (ad.add j)=some u) (h1:∀u∈news,u.oneCell'=true)
  (h63:n+m<=maxLen) (hbytes:(n+m)*bytes<=140737488355328) (hbase:base<=w.heap.size)
  (h:∀v' w',w'.ownsRow base e size v' (n+m) (xs++news)->w.grownBy w' v.ownBlock->(∀k,v'.ownBlock=some k->v.ownBlock=some k\/k=w.heap.size)->wpList P ops Q rest (a.put o.dst v') w'):wpList P ops Q (o::rest) a w:=by
 refine Zd hgd λK hK=>?_
 obtain⟨v',w',hr,h2,h3,_⟩:=run_append_own (P:=P) w base t o.type e i z size bytes ht hi hz hsize hby hzs hsz v n xs hown ad m c news hl hnews h1 h63 hbytes hbase
 have h4:=yt (P:=P) w base t o.type e i z size bytes ht hi hz hsize hby hsz v n xs hown ad m c news hl hnews h1 h63 hbytes hr
 unfold ZO execOp
 simp only[ho,resolve,invoke,builtin,AU,Ze,Aw,AI,AZ,Zf,hs,hx,hr]
 exact hK _ _ (h v' w' h2 h3 h4)
end
theorem zcR{P:Program}(w:World)(src dst e:TypeId)(hs:P.underlying src=some .string)(hd:P.underlying dst=some (.slice e))(he:P.underlying e=some (.int .u8))(s:ByteArray)(hl:s.size<=maxLen):
  ∃v' w',(convert src dst (.string s)).run P w=.ok v' w'/\OwnT w' w.heap.size e v' (Aq s)/\Below w.heap.size w w':=by
 have hr:=run_bytes_of_string (P:=P) w src dst e s hs hd he
 refine⟨_,_,hr,?_,(Aa _ _).drew.alloc (WZ _) _⟩
 have hge:=grownCap_ge w s.size 0 e
 have hcm:grownCap w s.size 0 e<=maxLen:=ZG w s.size 0 e hl
 have hsl:=ZE s
 have hz:(bytesRow s (grownCap w s.size 0 e)).size=grownCap w s.size 0 e:=by
  unfold bytesRow
  simp only[ZK,Array.size_map,Array.size_replicate]
  show s.size+_=_
  omega
 refine⟨w.heap.size,_,_,_,by rw[hsl],WZ _,heap_alloc_new w.drew _,.inr ?_,by rw[hsl];exact hge,hcm,hz,?_⟩
 ·show _<=(bytesRow s (grownCap w s.size 0 e)).size
  omega
 ·unfold bytesRow
  rw[ZD,show(s.data.map λb=>Ag .u8 b.toNat).toList=Aq s by simp[Aq]]
  exact ZA
theorem zfa{P:Program}(w:World)(src dst e:TypeId)(hs:P.underlying src=some (.slice e))(he:P.underlying e=some (.int .u8))(hd:P.underlying dst=some .string)(B:Nat)(v:Value)(l:List UInt8)(hown:OwnT w B e v (l.map λb=>.int .u8 (b.toNat:Int))):
  (convert src dst v).run P w=.ok (.string ⟨l.toArray⟩) w:=by
 have hO:=hown
 obtain⟨g,cap,cur,fz,rfl,hB,hg,hfz,hnc,hcm,hcs,htake⟩:=hown
 rw[List.length_map]
 exact Zq (P:=P) w src dst e ⟨g,0,none⟩ cap l hs he hd (λj hj=>hO.cells (g:=g) rfl j _ (by simp[Ak hj]))
end Go.Proofs.YtpiohehijkpghacGreatDoor.Dr
namespace Go.Proofs.YtpiohehijkpghacGreatDoor.Dr
open Go.RowKit
def valL:Nat->List UInt8->Option Nat
 |a,[]=>some a
 |a,c::r=>if 48<=c.toNat/\c.toNat<=57 then valL (a*10+(c.toNat-48)) r else none
theorem zgp:∀(l:List UInt8) (a u:Nat),valL a l=some u->a*10^l.length<=u
 |[],a,u,h=>by
  cases h
  simp
 |c::r,a,u,h=>by
  unfold valL at h
  split at h
  ·have:=zgp r _ u h
   have e:a*10^(c::r).length=(a*10)*10^r.length:=by rw[AX,Qc];rw[Qd (10^r.length) 10,Nat.mul_assoc]
   rw[e]
   exact AJ (AF _ (Nat.le_add_right _ _)) this
  ·cases h
theorem zgq:∀(l:List UInt8) (a:Nat) (c:UInt8),valL a (l++[c])=(valL a l).bind λu=>if 48<=c.toNat/\c.toNat<=57 then some (u*10+(c.toNat-48))else none
 |[],a,c=>rfl
 |x::l,a,c=>by
  show(if 48<=x.toNat/\x.toNat<=57 then valL (a*10+(x.toNat-48)) (l++[c])else none)=(if 48<=x.toNat/\x.toNat<=57 then valL (a*10+(x.toNat-48)) l else none).bind _
  split
  ·exact zgq l _ c
  ·rfl
theorem zkD:∀(l:List UInt8) (a u:Nat),valL a l=some u->u<(a+1)*10^l.length
 |[],a,u,h=>by
  cases h
  simp
 |c::r,a,u,h=>by
  unfold valL at h
  split at h
  ·have:=zkD r _ u h
   have e:(a+1)*10^(c::r).length=(a*10+10)*10^r.length:=by rw[AX,Qc,Qd (10^r.length) 10,<-Nat.mul_assoc,Qg]
   rw[e]
   exact Ap this (AF _ (by omega))
  ·cases h
theorem zbJ:∀(l:List UInt8) (a:Nat),a<=4294967295->(match Lib.parseUintM 4294967295 a l with|.ok u=>some u|_=>none)=match valL a l with|some u=>if u<4294967296 then some u else none|none=>none
 |[],a,h=>by
  show some a=if a<4294967296 then some a else none
  rw[if_pos (by omega)]
 |c::r,a,h=>by
  unfold Lib.parseUintM valL
  by_cases hd:48<=c.toNat/\c.toNat<=57
  ·rw[if_pos hd,if_pos hd,if_neg (by omega)]
   by_cases hM:4294967295<a*10+(c.toNat-48)
   ·rw[if_pos hM]
    cases hv:valL (a*10+(c.toNat-48)) r with
    |none=>rfl
    |some u=>
     have h1:=zgp r _ u hv
     have h2:1<=10^r.length:=Nat.one_le_pow _ _ (by decide)
     have h3:(a*10+(c.toNat-48))*1<=(a*10+(c.toNat-48))*10^r.length:=Nat.mul_le_mul_left _ h2
     show none=if u<4294967296 then some u else none
     rw[if_neg (by omega)]
   ·rw[if_neg hM]
    exact zbJ r _ (by omega)
  ·rw[if_neg hd,if_neg hd]
def numK(t:List UInt8):Option Nat:=if t.length<1\/10<t.length\/(1<t.length/\t.head?=some 48)then none else match valL 0 t with
 |some u=>if u<4294967296 then some u else none
 |none=>none
theorem zcS(t:List UInt8):numK t=xI t:=by
 unfold numK xI Av
 by_cases hz:1<t.length/\t.head?=some 48
 ·rw[if_pos (.inr (.inr hz)),if_pos hz]
 ·rw[if_neg hz]
  rcases t with _|⟨c,r⟩
  ·rw[if_pos (.inl (by simp)),if_pos rfl]
  ·rw[if_neg (show¬(c::r=[]) by simp)]
   have hp:=zbJ (c::r) 0 (by omega)
   rw[show(2^32-1:Nat)=4294967295 by decide]
   refine Eq.trans ?_ hp.symm
   by_cases hl:10<(c::r).length
   ·rw[if_pos (.inr (.inl hl))]
    cases hv:valL 0 (c::r)with
    |none=>rfl
    |some u=>
     show none=if u<4294967296 then some u else none
     refine(if_neg ?_).symm
     unfold valL at hv
     split at hv
     ·rename_i hd
      have h1:=zgp r _ u hv
      have hc:c.toNat≠48:=λe=>hz ⟨by omega,by
       have:c=48:=Zt.1 e
       rw[this];rfl⟩
      have hr:10<=r.length:=by simp at hl;omega
      have h2:10^10<=10^r.length:=Nat.pow_le_pow_right (by decide) hr
      have h3:1*10^r.length<=(0*10+(c.toNat-48))*10^r.length:=AF _ (by omega)
      have h4:(10:Nat)^10=10000000000:=by decide
      omega
     ·cases hv
   ·rw[if_neg (λh=>h.elim (λh=>by simp at h) λh=>h.elim hl hz)]
theorem zea{t:List UInt8}{u:Nat}(h:xI t=some u):u<4294967296:=by
 rw[<-zcS]at h
 unfold numK at h
 split at h
 ·cases h
 ·split at h
  ·split at h
   ·cases h;assumption
   ·cases h
  ·cases h
def zr(c:UInt8):List UInt8->List (List UInt8)
 |[]=>[[]]
 |x::l=>if x=c then[]::zr c l else match zr c l with
  |y::m=>(x::y)::m
  |[]=>[[x]]
theorem yF(c:UInt8):∀l,zr c l≠[]
 |[]=>by simp[zr]
 |x::l=>by
  unfold zr
  split
  ·simp
  ·split<;>simp
theorem kd(c:UInt8):∀l,zr c l=(cutL c l).1::if(cutL c l).2.2 then zr c (cutL c l).2.1 else[]
 |[]=>rfl
 |x::l=>by
  have h1:zr c (x::l)=if x=c then[]::zr c l else match zr c l with|z::m=>(x::z)::m|[]=>[[x]]:=rfl
  have h2:cutL c (x::l)=if x=c then([],l,true)else(x::(cutL c l).1,(cutL c l).2.1,(cutL c l).2.2):=rfl
  rw[h1,h2]
  by_cases e:x=c
  ·rw[if_pos e,if_pos e]
   rfl
  ·rw[if_neg e,if_neg e,kd c l]
theorem yZ(c:UInt8):∀(l:List UInt8) (x:UInt8),zr c (l++[x])=if x=c then zr c l++[[]]else(zr c l).dropLast++[((zr c l).getLast?.getD [])++[x]]
 |[],x=>by
  show zr c [x]=_
  unfold zr
  by_cases e:x=c
  ·rw[if_pos e,if_pos e];rfl
  ·rw[if_neg e,if_neg e];rfl
 |y::l,x=>by
  show zr c (y::(l++[x]))=_
  have ih:=yZ c l x
  have hne:=yF c l
  have h1:zr c (y::(l++[x]))=if y=c then[]::zr c (l++[x])else match zr c (l++[x])with|z::m=>(y::z)::m|[]=>[[y]]:=rfl
  have h2:zr c (y::l)=if y=c then[]::zr c l else match zr c l with|z::m=>(y::z)::m|[]=>[[y]]:=rfl
  rw[h1,h2,ih]
  cases hs:zr c l with
  |nil=>exact absurd hs hne
  |cons z m=>
   by_cases e:x=c
   ·simp only[if_pos e]
    by_cases ey:y=c
    ·simp[ey]
    ·simp[ey]
   ·simp only[if_neg e]
    by_cases ey:y=c
    ·simp only[if_pos ey]
     cases m with
     |nil=>rfl
     |cons z2 m2=>simp[AP]
    ·simp only[if_neg ey]
     cases m with
     |nil=>rfl
     |cons z2 m2=>simp[AP]
structure Ps where
 R:Nat->Int
 pc:Int
 mem:List Int
 wi:Int
 ph:Int
 wd:Int
 ch:List Int
structure Ou where
 er:Int
 many:Nat
 st:Int
 ca:Int
 pc:Int
 told:List Int
def tOk:List UInt8:=[111,107]
def qW:List UInt8:=[63]
def ranL(o:Ou):List UInt8:=if o.er=0 then zp (zp (Am o.many) [o.st,o.ca]) (o.pc::o.told)else zp [98,97,100] [o.er]
def jz(x:Nat):List Int:=[((x%256:Nat):Int),((x/256%256:Nat):Int),((x/65536%256:Nat):Int),((x/16777216%256:Nat):Int)]
def addL(m:List Int)(ns:List Nat):List Int:=m++ns.flatMap jz
def one?(ns:List Nat):Option Nat:=match ns with
 |[x]=>some x
 |_=>none
def two?(ns:List Nat):Option (Nat×Nat):=match ns with
 |[x,y]=>some (x,y)
 |_=>none
def tri?(ns:List Nat):Option (Nat×Nat×Nat):=match ns with
 |[x,y,z]=>some (x,y,z)
 |_=>none
section
variable (mo co:Ps->Nat->Ou) (wh:Nat->List UInt8) (may:Int->Int->Int->Bool)
def cmdL(p:Ps)(w:List UInt8)(ns:List Nat):Ps×List UInt8:=
 if w=[119,111,114,100,115]then(if 4096<p.mem.length+4*ns.length then(p,qW)else({p with mem:=addL p.mem ns},zp tOk [((p.mem.length+4*ns.length:Nat):Int)]))
 else if w=[112,99]then(match one? ns with
  |some x=>({p with pc:=x},tOk)
  |none=>(p,qW))
 else if w=[115,101,116]then(match two? ns with
  |some (r,x)=>if 1<=r/\r<=31 then({p with R:=λi=>if i=r then(x:Int)else p.R i},tOk)else(p,qW)
  |none=>(p,qW))
 else if w=[99,111,114,101]then(match tri? ns with
  |some (a,b,c)=>if may a b c=true then({p with wi:=a,ph:=b,wd:=c},tOk)else(p,qW)
  |none=>(p,qW))
 else if w=[99,104,111,111,115,101]then({p with ch:=ns.map λ(n:Nat)=>(n:Int)},zp tOk [(ns.length:Int)])
 else if w=[109,111,100,101,108]then(match one? ns with
  |some x=>(p,ranL (mo p x))
  |none=>(p,qW))
 else if w=[114,117,110]then(match one? ns with
  |some x=>(p,ranL (co p x))
  |none=>(p,qW))
 else if w=[119,104,97,116]then(match one? ns with
  |some x=>(p,wh x)
  |none=>(p,qW))
 else(p,qW)
def qy(p:Ps)(s:List UInt8):Ps×List UInt8:=match numsL ((cutL 32 s).2.1.length+2) (cutL 32 s).2.1 (cutL 32 s).2.2 with
 |none=>(p,qW)
 |some ns=>cmdL mo co wh may p (cutL 32 s).1 ns
end
def ps0:Ps:=⟨λ_=>0,0,[],8,64,2,[]⟩
theorem ke(t:List UInt8)(a b:List Int):zp (zp t a) b=zp t (a++b):=by simp[zp]
theorem vb(m:List Int):∀ns,(addL m ns).length=m.length+4*ns.length:=λns=>by
 unfold addL
 rw[WY]
 have:∀l:List Nat,(l.flatMap jz).length=4*l.length:=λl=>by
  induction l with
  |nil=>rfl
  |cons x l ih=>rw[ZP,WY,ih];simp[jz];omega
 rw[this]
theorem zlf(m:List Int)(ns:List Nat)(x:Nat):addL m (ns++[x])=addL m ns++jz x:=by simp[addL]
theorem ziP(x:Nat):∀b∈jz x,0<=b/\b<=255:=λb hb=>by
 simp only[jz,Za,List.not_mem_nil,or_false]at hb
 omega
theorem zlg{m:List Int}(hm:∀b∈m,0<=b/\b<=255)(ns:List Nat):∀b∈addL m ns,0<=b/\b<=255:=λb hb=>by
 unfold addL at hb
 rcases Zv.1 hb with h|h
 ·exact hm b h
 ·obtain⟨x,_,hx⟩:=List.mem_flatMap.1 h
  exact ziP x b hx
structure POk(may:Int->Int->Int->Bool)(p:Ps):Prop where
 r0:p.R 0=0
 hR:∀i,0<=p.R i/\p.R i<=4294967295
 p0:0<=p.pc/\p.pc<=4294967295
 hm:p.mem.length<=4096
 hb:∀b∈p.mem,0<=b/\b<=255
 hc:may p.wi p.ph p.wd=true
 hch:∀b∈p.ch,0<=b/\b<=4294967295
 hcl:p.ch.length<=3000000
theorem znm{mo co:Ps->Nat->Ou}{wh:Nat->List UInt8}{may:Int->Int->Int->Bool}{p:Ps}(h:POk may p)(w:List UInt8)(ns:List Nat)(hns:∀n∈ns,n<4294967296)(hnl:ns.length<=3000000):POk may (cmdL mo co wh may p w ns).1:=by
 obtain⟨r0,hR,p0,hm,hb,hc,hch,hcl⟩:=h
 unfold cmdL
 split
 ·split
  ·exact⟨r0,hR,p0,hm,hb,hc,hch,hcl⟩
  ·refine⟨r0,hR,p0,?_,zlg hb ns,hc,hch,hcl⟩
   show(addL p.mem ns).length<=4096
   rw[vb]
   omega
 split
 ·unfold one?
  split
  ·rename_i x hx
   split at hx
   ·have:=hns x (by cases hx;simp)
    exact⟨r0,hR,⟨by show(0:Int)<=(x:Int);omega,by show(x:Int)<=_;omega⟩,hm,hb,hc,hch,hcl⟩
   ·cases hx
  ·exact⟨r0,hR,p0,hm,hb,hc,hch,hcl⟩
 split
 ·unfold two?
  split
  ·rename_i r x hx
   split at hx
   ·cases hx
    split
    ·have:=hns x (by simp)
     refine⟨?_,λi=>?_,p0,hm,hb,hc,hch,hcl⟩
     ·show(if 0=r then(x:Int)else p.R 0)=0
      rw[if_neg (by omega)]
      exact r0
     ·show 0<=(if i=r then(x:Int)else p.R i)/\(if i=r then(x:Int)else p.R i)<=_
      split
      ·omega
      ·exact hR i
    ·exact⟨r0,hR,p0,hm,hb,hc,hch,hcl⟩
   ·cases hx
  ·exact⟨r0,hR,p0,hm,hb,hc,hch,hcl⟩
 split
 ·split
  ·split
   ·rename_i hmay
    exact⟨r0,hR,p0,hm,hb,hmay,hch,hcl⟩
   ·exact⟨r0,hR,p0,hm,hb,hc,hch,hcl⟩
  ·exact⟨r0,hR,p0,hm,hb,hc,hch,hcl⟩
 split
 ·refine⟨r0,hR,p0,hm,hb,hc,λb hb'=>?_,by simpa using hnl⟩
  obtain⟨n,hn,rfl⟩:=Qe.1 hb'
  have:=hns n hn
  omega
 all_goals repeat' split
 all_goals exact⟨r0,hR,p0,hm,hb,hc,hch,hcl⟩
theorem yG:∀(k:Nat) (t:List UInt8) (b:Bool) (ns:List Nat),numsL k t b=some ns->∀n∈ns,n<4294967296
 |0,t,b,ns,h=>by cases h
 |k+1,t,b,ns,h=>by
  unfold numsL at h
  split at h
  ·cases h
   simp
  ·split at h
   ·cases h
   ·rename_i n hn
    cases hm:numsL k (cutL 32 t).2.1 (cutL 32 t).2.2 with
    |none=>rw[hm]at h;cases h
    |some l=>
     rw[hm]at h
     cases h
     intro x hx
     rcases Za.1 hx with rfl|hx
     ·exact zea hn
     ·exact yG k _ _ l hm x hx
theorem yH:∀(k:Nat) (t:List UInt8) (b:Bool) (ns:List Nat),numsL k t b=some ns->ns.length<=t.length+1
 |0,t,b,ns,h=>by cases h
 |k+1,t,b,ns,h=>by
  unfold numsL at h
  split at h
  ·cases h
   simp
  ·split at h
   ·cases h
   ·rename_i n hn
    cases hm:numsL k (cutL 32 t).2.1 (cutL 32 t).2.2 with
    |none=>rw[hm]at h;cases h
    |some l=>
     rw[hm]at h
     cases h
     have h1:=yH k _ _ l hm
     rcases t with _|⟨x,t⟩
     ·have:numsL k [] false=some l:=hm
      cases k with
      |zero=>cases this
      |succ k=>cases this;simp
     ·have h2:=zd4 32 (x::t) (by simp)
      simp at h1 h2⊢
      omega
theorem zgr{mo co:Ps->Nat->Ou}{wh:Nat->List UInt8}{may:Int->Int->Int->Bool}{p:Ps}(h:POk may p)(s:List UInt8)(hs:s.length<=2999999):POk may (qy mo co wh may p s).1:=by
 unfold qy
 split
 ·exact h
 ·rename_i ns hns
  have h1:=yH _ _ _ ns hns
  have h2:=xO 32 s
  exact znm h _ ns (yG _ _ _ ns hns) (by omega)
end Go.Proofs.YtpiohehijkpghacGreatDoor.Dr
namespace Go.Proofs.YtpiohehijkpghacGreatDoor.Dr
open Go.RowKit
def rowD(f:Nat->Value)(n:Nat):Array Value:=((Zj n).map f).toArray
theorem jI(f:Nat->Value)(n:Nat):(rowD f n).size=n:=by simp[rowD]
theorem kg(f:Nat->Value){n i:Nat}(h:i<n):(rowD f n)[i]?=some (f i):=by simp[rowD,h]
theorem kS{f g:Nat->Value}{n:Nat}(h:∀i,i<n->f i=g i):rowD f n=rowD g n:=by
 unfold rowD
 congr 1
 exact List.map_congr_left λi hi=>h i (List.mem_range.1 hi)
theorem zaT(f:Nat->Value)(n i:Nat)(v:Value):(rowD f n).setIfInBounds i v=rowD (λj=>if j=i then v else f j) n:=by
 apply Array.ext_getElem?
 intro j
 by_cases hj:j<n
 ·rw[kg _ hj]
  by_cases e:j=i
  ·subst e
   simp[jI,hj]
  ·have e':¬i=j:=λh=>e h.symm
   simp[e,e',kg f hj]
 ·rw[AT (by simp[jI];omega),AT (by rw[jI];omega)]
theorem zpe{w:World}{b n i:Nat}{f:Nat->Value}{t:TypeId}{fr:Nat×Nat}(h:w.heap[b]?=some (.cells (rowD f n) t fr))(hi:i<n):w.cell? ⟨b,i,none⟩=some (f i):=by
 rw[Ae _ _ _ _ _ _ h,kg f hi]
theorem znn{w:World}{b n o m:Nat}{f g:Nat->Value}{t:TypeId}{fr:Nat×Nat}(h:w.heap[b]?=some (.cells (rowD f n) t fr))(hm:o+m<=n)(e:∀j,j<m->f (o+j)=g j):w.rangeAt b o (rowD g m).toList:=λj v hv=>by
 have hj:j<m:=by have:=(Ad.1 hv).1;simpa[jI]using this
 rw[Array.getElem?_toList,kg g hj]at hv
 rw[Ae _ _ _ _ _ _ h,kg f (by omega),e j hj]
 exact hv
theorem xQ{w:World}{b i:Nat}{cs:Array Value}{t:TypeId}{fr:Nat×Nat}{v:Value}(h:w.heap[b]?=some (.cells cs t fr)):(w.setCell ⟨b,i,none⟩ v).heap[b]?=some (.cells (cs.setIfInBounds i v) t fr):=by
 simp[ZZ,Array.getElem?_modify,h]
structure Frm(S:Nat->Prop)(w w':World):Prop where
 os:w'.os=w.os
 tape:w'.tape=w.tape
 output:w'.output=w.output
 size:w.heap.size<=w'.heap.size
 block:∀k,k<w.heap.size->¬S k->w'.heap[k]?=w.heap[k]?
theorem Frm.trans{S S':Nat->Prop}{a b c:World}(h:Frm S a b)(k:Frm S' b c)(hs:∀i,S' i->S i\/a.heap.size<=i):Frm S a c:=
 ⟨k.os.trans h.os,k.tape.trans h.tape,k.output.trans h.output,AJ h.size k.size,λi hi hn=>(k.block i (Ap hi h.size) λhk=>(hs i hk).elim hn λhl=>by omega).trans (h.block i hi hn)⟩
theorem Frm.of{S:Nat->Prop}{w w':World}(h:Below w.heap.size w w'):Frm S w w':=⟨h.os,h.tape,h.output,h.size,λk hk _=>h.block k hk⟩
theorem Frm.below{S:Nat->Prop}{w w':World}{B:Nat}(h:Frm S w w')(hB:B<=w.heap.size)(hs:∀k,S k->B<=k):Below B w w':=⟨h.os,h.tape,h.output,h.size,λk hk=>h.block k (by omega) λhS=>by have:=hs k hS;omega⟩
theorem Frm.mono{S S':Nat->Prop}{w w':World}(h:Frm S w w')(hs:∀k,S k->S' k):Frm S' w w':=⟨h.os,h.tape,h.output,h.size,λk hk hn=>h.block k hk λhS=>hn (hs k hS)⟩
theorem Frm.grown{w w':World}{row:Option Nat}(h:w.grownBy w' row):Frm (λk=>row=some k) w w':=⟨h.os,h.tape,h.output,h.size,λk hk hn=>h.block k hk λe=>hn e.symm⟩
theorem Frm.set(w:World)(b i:Nat)(v:Value):Frm (λk=>k=b) w (w.setCell ⟨b,i,none⟩ v):=⟨rfl,rfl,rfl,by simp[ZZ],λk _ hn=>Below.heap_setCell _ _ _ _ hn⟩
abbrev ucb(m:List Int):List Value:=m.map λ(b:Int)=>.int .u8 b
abbrev ici(m:List Int):List Value:=m.map λ(b:Int)=>.int .i64 b
def patD(p:Ps)(M C:Value)(i:Nat):Value:=
 if i<32 then .int .u32 (p.R i)else if i=32 then .int .u32 p.pc else if i<35 then .int .i64 0 else if i=35 then M else if i=36 then .int .i64 p.wi else if i=37 then .int .i64 p.ph else if i=38 then .int .i64 p.wd else C
def hatD(p:Ps)(i:Nat):Value:=if i<32 then .int .u32 (p.R i)else if i=32 then .int .u32 p.pc else .int .i64 0
structure PW(T:TypeId)(N:Nat)(w:World)(b:Nat)(p:Ps)(M C:Value):Prop where
 base:N<=b
 row:w.heap[b]?=some (.cells (rowD (patD p M C) 40) T (0,0))
 mem:w.ownsRow N 5 1 M p.mem.length (ucb p.mem)
 ch:w.ownsRow N 3 1 C p.ch.length (ici p.ch)
theorem zaU{w:World}{B:Nat}{e:TypeId}{size:Nat}{v:Value}{n:Nat}{xs:List Value}(h:w.ownsRow B e size v n xs){g:Nat}(hg:v.ownBlock=some g):∃c,w.heap[g]?=some (.cells c e (0,0)):=by
 rcases h.2 with⟨rfl,_⟩|⟨g',cap,cur,rfl,_,hgg,_⟩
 ·simp[Ai]at hg
 ·simp[Ai]at hg
  subst hg
  exact⟨_,hgg⟩
theorem zQ{w:World}{B:Nat}{e T:TypeId}{size:Nat}{v:Value}{n:Nat}{xs:List Value}{b:Nat}{cs:Array Value}{fr:Nat×Nat}(h:w.ownsRow B e size v n xs)(hb:w.heap[b]?=some (.cells cs T fr))(hne:T≠e):v.ownBlock≠some b:=λhv=>by
 obtain⟨c,hc⟩:=zaU h hv
 rw[hb]at hc
 injection hc with hc
 injection hc with _ h2 _
 exact hne h2
theorem qq{w w':World}{B e size:Nat}{v:Value}{n:Nat}{xs:List Value}(h:w.ownsRow B e size v n xs)(hb:∀g,v.ownBlock=some g->w'.heap[g]?=w.heap[g]?):w'.ownsRow B e size v n xs:=by
 obtain⟨h1,h2⟩:=h
 refine⟨h1,?_⟩
 rcases h2 with h2|⟨g,cap,cur,hv,hg,hh,r⟩
 ·exact .inl h2
 ·exact .inr ⟨g,cap,cur,hv,hg,(hb g (by rw[hv];rfl)).trans hh,r⟩
theorem zU{w:World}{B e size:Nat}{v:Value}{n:Nat}{xs:List Value}(h:w.ownsRow B e size v n xs):∃p c,v=.slice p n c:=by
 rcases h.2 with⟨hv,rfl⟩|⟨g,cap,cur,hv,_⟩
 ·exact⟨_,_,hv⟩
 ·exact⟨_,_,hv⟩
theorem qO{w:World}{B B' e size:Nat}{v:Value}{n:Nat}{xs:List Value}(h:w.ownsRow B e size v n xs)(hB:B'<=B):w.ownsRow B' e size v n xs:=by
 obtain⟨h1,h2⟩:=h
 refine⟨h1,?_⟩
 rcases h2 with h2|⟨g,cap,cur,hv,hg,r⟩
 ·exact .inl h2
 ·exact .inr ⟨g,cap,cur,hv,AJ hB hg,r⟩
def Mine(b:Nat)(M C:Value)(k:Nat):Prop:=k=b\/M.ownBlock=some k\/C.ownBlock=some k
section
variable {T:TypeId} {N:Nat} {w w':World} {b:Nat} {p:Ps} {M C:Value}
theorem PW.lt(h:PW T N w b p M C):b<w.heap.size:=(Af.1 h.row).1
theorem PW.cell(h:PW T N w b p M C)(i:Nat)(hi:i<40):w.cell? ⟨b,i,none⟩=some (patD p M C i):=zpe h.row hi
theorem PW.keeps(h:PW T N w b p M C){S:Nat->Prop}(hf:Frm S w w')(hS:∀k,Mine b M C k->¬S k):PW T N w' b p M C:=
 ⟨h.base,(hf.block b h.lt (hS b (.inl rfl))).trans h.row,qq h.mem λg hg=>hf.block g (h.mem.lt g hg).2 (hS g (.inr (.inl hg))),qq h.ch λg hg=>hf.block g (h.ch.lt g hg).2 (hS g (.inr (.inr hg)))⟩
theorem PW.below(h:PW T N w b p M C)(hb:Below w.heap.size w w'):PW T N w' b p M C:=h.keeps (S:=λ_=>False) (Frm.of hb) λ_ _ h=>h
theorem PW.mine(h:PW T N w b p M C):∀k,Mine b M C k->N<=k/\k<w.heap.size:=λk hk=>by
 rcases hk with rfl|hk|hk
 ·exact⟨h.base,h.lt⟩
 ·exact h.mem.lt k hk
 ·exact h.ch.lt k hk
theorem PW.put(h:PW T N w b p M C)(h5:T≠5)(h3:T≠3)(i:Nat)(v:Value)(p':Ps)(hm:p'.mem=p.mem)(hc:p'.ch=p.ch)(hv:∀j,j<40->(if j=i then v else patD p M C j)=patD p' M C j):PW T N (w.setCell ⟨b,i,none⟩ v) b p' M C:=by
 refine⟨h.base,?_,?_,?_⟩
 ·rw[xQ h.row,zaT,kS hv]
 ·rw[hm]
  exact qq h.mem λg hg=>(Frm.set w b i v).block g (h.mem.lt g hg).2 λe=>zQ h.mem h.row h5 (by rw[hg,e])
 ·rw[hc]
  exact qq h.ch λg hg=>(Frm.set w b i v).block g (h.ch.lt g hg).2 λe=>zQ h.ch h.row h3 (by rw[hg,e])
end
def PTo(T:TypeId)(N b:Nat)(w:World)(M C:Value)(w':World)(p':Ps):Prop:=
 ∃M' C',PW T N w' b p' M' C'/\Frm (Mine b M C) w w'/\(∀k,M'.ownBlock=some k->M.ownBlock=some k\/w.heap.size<=k)/\(∀k,C'.ownBlock=some k->C.ownBlock=some k\/w.heap.size<=k)
theorem PTo.same{T:TypeId}{N:Nat}{w w':World}{b:Nat}{p:Ps}{M C:Value}(h:PW T N w b p M C)(hb:Below w.heap.size w w'):PTo T N b w M C w' p:=
 ⟨M,C,h.below hb,Frm.of hb,λk hk=>.inl hk,λk hk=>.inl hk⟩
theorem PTo.ahead{T:TypeId}{N:Nat}{w w1 w':World}{b:Nat}{p':Ps}{M C:Value}(hb:Below w.heap.size w w1)(h:PTo T N b w1 M C w' p'):PTo T N b w M C w' p':=by
 obtain⟨M',C',hp,hf,hM,hC⟩:=h
 refine⟨M',C',hp,(Frm.of hb).trans hf λi hi=>.inl hi,λk hk=>(hM k hk).imp id λh=>AJ hb.size h,λk hk=>(hC k hk).imp id λh=>AJ hb.size h⟩
theorem PTo.behind{T:TypeId}{N:Nat}{w w1 w':World}{b:Nat}{p':Ps}{M C:Value}(h:PTo T N b w M C w1 p')(hb:Below w1.heap.size w1 w'):PTo T N b w M C w' p':=by
 obtain⟨M',C',hp,hf,hM,hC⟩:=h
 exact⟨M',C',hp.below hb,hf.trans (Frm.of (S:=λ_=>False) hb) λi hi=>hi.elim,hM,hC⟩
theorem PTo.put{T:TypeId}{N:Nat}{w w':World}{b:Nat}{p:Ps}{M C:Value}(h:PW T N w b p M C)(h5:T≠5)(h3:T≠3)(i:Nat)(v:Value)(p':Ps)(hm:p'.mem=p.mem)(hc:p'.ch=p.ch)(hv:∀j,j<40->(if j=i then v else patD p M C j)=patD p' M C j):PTo T N b w M C (w.setCell ⟨b,i,none⟩ v) p':=
 ⟨M,C,h.put h5 h3 i v p' hm hc hv,(Frm.set w b i v).mono λk hk=>.inl hk,λk hk=>.inl hk,λk hk=>.inl hk⟩
theorem PTo.lower{T:TypeId}{N:Nat}{w w':World}{b:Nat}{p p':Ps}{M C:Value}(h:PW T N w b p M C)(ht:PTo T N b w M C w' p'):Below N w w':=by
 obtain⟨M',C',hp,hf,hM,hC⟩:=ht
 exact hf.below (by have:=h.lt;have:=h.base;omega) λk hk=>(h.mine k hk).1
theorem qF(t:List UInt8):∀(l:List Int),(∀n∈l,0<=n/\n<=9223372036854775807)->(zp t l).length<=t.length+22*l.length
 |[],_=>by simp[zp]
 |n::l,h=>by
  have h1:=h n (by simp)
  have h2:=Ar n (by omega) h1.2
  have h3:=qF t l λm hm=>h m (by simp[hm])
  simp only[zp,WY,ZP,AX]at h3⊢
  omega
def zA(ot:Nat->Bool)(tl:Nat->Int):Nat->List Int
 |0=>[]
 |n+1=>zA ot tl n++if ot n then[tl n]else[]
theorem xo(ot:Nat->Bool)(tl:Nat->Int):∀n,(zA ot tl n).length<=n
 |0=>WZ _
 |n+1=>by
  have:=xo ot tl n
  unfold zA
  split<;>simp<;>omega
theorem zaV{ot:Nat->Bool}{tl:Nat->Int}:∀n,(∀k,k<n->0<=tl k/\tl k<=4294967295)->∀x∈zA ot tl n,0<=x/\x<=4294967295
 |0,_=>by simp[zA]
 |n+1,h=>by
  intro x hx
  unfold zA at hx
  rcases Zv.1 hx with hx|hx
  ·exact zaV n (λk hk=>h k (by omega)) x hx
  ·split at hx
   ·simp at hx
    subst hx
    exact h n (by omega)
   ·simp at hx
structure OuOk(o:Ou):Prop where
 er:0<=o.er/\o.er<=3
 many:o.many<=24000
 st:0<=o.st/\o.st<=6
 ca:0<=o.ca/\o.ca<=6
 pc:0<=o.pc/\o.pc<=4294967295
 told:∀x∈o.told,0<=x/\x<=4294967295
 tlen:o.told.length<=24000
theorem zgs{o:Ou}(h:OuOk o):(ranL o).length<=1000000:=by
 obtain⟨he,hm,hs,hc,hp,ht,hl⟩:=h
 unfold ranL
 split
 ·rw[ke]
  have h1:=Ar (o.many:Int) (by omega) (by omega)
  have h2:=qF (Am o.many) ([o.st,o.ca]++o.pc::o.told) (λn hn=>by
   rcases Zv.1 hn with hn|hn
   ·rcases Za.1 hn with rfl|hn
    ·omega
    ·simp at hn
     subst hn
     omega
   ·rcases Za.1 hn with rfl|hn
    ·omega
    ·have:=ht n hn
     omega)
  simp only[WY,AX,ZT]at h2
  omega
 ·have h2:=qF [98,97,100] [o.er] (λn hn=>by simp at hn;subst hn;omega)
  simp at h2
  omega
def ComP(w:World)(v:Value)(n:Nat)(ot:Nat->Bool)(tl:Nat->Int):Prop:=
 ∃(a:Option Addr) (c:Nat) (g:Nat->Nat->Value),v=.slice a n c/\n<=c/\(0<n->∃b o,a=some ⟨b,o,none⟩/\b<w.heap.size/\∀k j,k<n->j<11->w.cell? ⟨b,o+(k*11+j),none⟩=some (g k j))/\(∀k,k<n->g k 9=.bool (ot k)/\g k 10=.int .u32 (tl k))/\∀k j,k<n->j<11->(g k j).oneCell'=true
theorem ComP.below{w w':World}{v:Value}{n:Nat}{ot:Nat->Bool}{tl:Nat->Int}(h:ComP w v n ot tl)(hb:Below w.heap.size w w'):ComP w' v n ot tl:=by
 obtain⟨a,c,g,hv,hc,hp,hg,h1⟩:=h
 refine⟨a,c,g,hv,hc,λh0=>?_,hg,h1⟩
 obtain⟨b,o,ha,hlt,hcell⟩:=hp h0
 exact⟨b,o,ha,Ap hlt hb.size,λk j hk hj=>(hb.cell (p:=⟨b,o+(k*11+j),none⟩) hlt).trans (hcell k j hk hj)⟩
structure Tells(w:World)(v:Value)(H:Array Value)(o:Ou):Prop where
 size:H.size=35
 one:H.all (·.oneCell')=true
 sl:∃a n c,v=.slice a n c
 yes:o.er=0->∃ot tl,ComP w v o.many ot tl/\o.told=zA ot tl o.many/\H[32]?=some (.int .u32 o.pc)/\H[33]?=some (.int .i64 o.st)/\H[34]?=some (.int .i64 o.ca)
theorem Tells.below{w w':World}{v:Value}{H:Array Value}{o:Ou}(h:Tells w v H o)(hb:Below w.heap.size w w'):Tells w' v H o:=
 ⟨h.size,h.one,h.sl,λh0=>by
  obtain⟨ot,tl,hc,r⟩:=h.yes h0
  exact⟨ot,tl,hc.below hb,r⟩⟩
abbrev hvD(p:Ps):Value:=.agg (rowD (hatD p) 35)
abbrev cfD(p:Ps):Value:=.agg #[.int .i64 p.wi,.int .i64 p.ph,.int .i64 p.wd]
def RanM(w:World)(e:Ending)(o:Ou):Prop:=∃v H m,e=.returned (.tuple #[v,.agg H,m,.int .i64 o.er])/\Tells w v H o
def RanC(w:World)(e:Ending)(o:Ou):Prop:=∃Y v H,e=.returned (.tuple #[.agg Y,.int .i64 o.er])/\Y.size=40/\Y.all (·.oneCell')=true/\Y[0]?=some v/\(∀j,j<35->Y[1+j]?=H[j]?)/\Tells w v H o
structure In5 where
 op:Int
 rd:Int
 r1:Int
 r2:Int
 im:Int
def DecP(e:Ending)(r:Option In5):Prop:=match r with
 |none=>e=.returned (.tuple #[.agg #[.int .i64 0,.int .i64 0,.int .i64 0,.int .i64 0,.int .i32 0],.bool false])
 |some i=>e=.returned (.tuple #[.agg #[.int .i64 i.op,.int .i64 i.rd,.int .i64 i.r1,.int .i64 i.r2,.int .i32 i.im],.bool true])/\(0<=i.op/\i.op<=4294967295)/\(0<=i.rd/\i.rd<=4294967295)/\(0<=i.r1/\i.r1<=4294967295)/\(0<=i.r2/\i.r2<=4294967295)/\-2147483648<=i.im/\i.im<=2147483647
def whL(dec:Nat->Option In5)(x:Nat):List UInt8:=match dec x with
 |none=>[110,111]
 |some i=>zp [105,115] [i.op,i.rd,i.r1,i.r2,i.im%4294967296]
theorem Pow.below{w w':World}(h:Pow w)(hb:Below w.heap.size w w'):Pow w':=yX h hb
abbrev bcs(l:List UInt8):List Value:=l.map λb=>.int .u8 (b.toNat:Int)
theorem zcT(l:List UInt8):Aq ⟨l.toArray⟩=bcs l:=by simp[Aq]
theorem jT(l:List UInt8):(⟨l.toArray⟩:ByteArray).size=l.length:=by simp[Az]
def qG(w:World)(v:Value)(k:IntKind)(l:List Int):Prop:=
 ∃(a:Option Addr) (c:Nat),v=.slice a l.length c/\(0<l.length->∃b o,a=some ⟨b,o,none⟩/\b<w.heap.size/\∀j x,l[j]?=some x->w.cell? ⟨b,o+j,none⟩=some (.int k x))
theorem qG.below{w w':World}{v:Value}{k:IntKind}{l:List Int}(h:qG w v k l)(hb:Below w.heap.size w w'):qG w' v k l:=by
 obtain⟨a,c,hv,hp⟩:=h
 refine⟨a,c,hv,λh0=>?_⟩
 obtain⟨b,o,ha,hlt,hcell⟩:=hp h0
 exact⟨b,o,ha,Ap hlt hb.size,λj x hx=>(hb.cell (p:=⟨b,o+j,none⟩) hlt).trans (hcell j x hx)⟩
theorem zbK(t:List UInt8){l:List Int}{i:Nat}{x:Int}(hx:l[i]?=some x):zp t (l.take (i+1))=zp t (l.take i)++[32]++Am x:=by
 rw[Ax,hx]
 simp[zp]
theorem zfb(t:List UInt8)(ht:t.length<=100000000)(w:World):∃v w',(convert 9 28 (sv t)).run prog w=.ok v w'/\OwnT w' w.heap.size 5 v (bcs t)/\Below w.heap.size w w':=by
 have h:=zcR (P:=prog) w 9 28 5 underlying9 underlying28 underlying5 ⟨t.toArray⟩ (by rw[jT];unfold maxLen;omega)
 rw[zcT]at h
 exact h
theorem zbL:(prog.info? 5).map (λi=>(i.zero,i.size,i.bytes))=some (some (.int .u8 0),1,1):=by kernel_rfl
theorem vd{F G:FuncId}{k:IntKind}{top:Int}(hF:(F=73/\G=76/\k=.i64)\/(F=74/\G=107/\k=.i64)\/(F=75/\G=108/\k=.u32))(htop:top<=9223372036854775807)
  (CG:∀x W,0<=x->x<=top->Pow W->Calls prog G #[.int k x] W λe w'=>e=.returned (sv (Am x))/\Below W.heap.size W w') (t:List UInt8) (l:List Int) (v:Value) (w:World) (hp:Pow w) (ht:t.length<=100000000) (hl:l.length<=100000) (hr:∀x∈l,0<=x/\x<=top) (hv:qG w v k l):
  Calls prog F #[sv t,v] w λe w'=>e=.returned (sv (zp t l))/\Below w.heap.size w w':=by
 obtain⟨a,c,rfl,hcell⟩:=hv
 obtain⟨i0,hi,hz0,hz1,hz2⟩:=AO zbL
 have HC:Hid (0<l.length->∃b o,a=some ⟨b,o,none⟩/\b<w.heap.size/\∀j x,l[j]?=some x->w.cell? ⟨b,o+j,none⟩=some (.int k x)):=hcell
 have HR:Hid (∀x∈l,0<=x/\x<=top):=hr
 have HP:Hid (Pow w):=hp
 have hsz:=jT t
 have HT:Hid (∀i,i<=l.length->(zp t (l.take i)).length<=110000000):=λi hi=>by
  have h1:=qF t (l.take i) (λn hn=>by have:=hr n (ZB hn);omega)
  rw[AW]at h1
  omega
 have CG:Hid (∀x W,0<=x->x<=top->Pow W->Calls prog G #[.int k x] W λe w'=>e=.returned (sv (Am x))/\Below W.heap.size W w'):=CG
 clear hcell hr hp
 rcases hF with⟨rfl,rfl,rfl⟩|⟨rfl,rfl,rfl⟩|⟨rfl,rfl,rfl⟩
 all_goals
  first|(go_enter func73,ntmps73)|(go_enter func74,ntmps74)|(go_enter func75,ntmps75)
  obtain⟨v1,w1,hr1,h1,hb1⟩:=zfb t (by omega) w
  go_wp2_with fail
  clear hr1
  have H1:Hid (OwnT w1 w.heap.size 5 v1 (bcs (zp t (l.take 0)))):=by
   have e:zp t (l.take 0)=t:=by simp[zp]
   rw[e]
   exact h1
  have B1:Hid (Below w.heap.size w w1):=hb1
  clear h1 hb1
  go_loopw [5,12] (λtv ct wr=>∃i:Nat,ct=.int .i64 (i:Int)/\i<=l.length/\Hid (OwnT wr w.heap.size 5 tv (bcs (zp t (l.take i)))/\Below w.heap.size w wr)) (λ_ ct _=>l.length-(intOf ct).toNat)
  case atStart=>exact⟨0,rfl,AA _,H1.out,B1.out⟩
  case round=>
   clear H1 B1
   obtain⟨i,rfl,hil,hrel⟩:=hrel
   have q5:Hid (OwnT wr w.heap.size 5 u5 (bcs (zp t (l.take i)))):=hrel.out.1
   have qb:Hid (Below w.heap.size w wr):=hrel.out.2
   clear hrel
   by_cases hlt:i<l.length
   ·obtain⟨b,o,rfl,hbw,hcl⟩:=HC.out (by omega)
    obtain⟨x,hx⟩:∃x,l[i]?=some x:=⟨_,Ak hlt⟩
    have hxr:=HR.out x (AG hx)
    have hcx:wr.cell? ⟨b,o+i,none⟩=some (.int _ x):=(qb.out.cell (p:=⟨b,o+i,none⟩) hbw).trans (hcl i x hx)
    have HX:Hid (l[i]?=some x):=hx
    have hTl:Hid ((zp t (l.take i)).length<=110000000):=HT.out i hil
    have hszw:Hid (w.heap.size<=wr.heap.size):=qb.out.size
    clear hcl hx
    go_upto_region 5 with fail
    go_upto_region 6 with(at_builtin;refine yY _ rfl _ _ 28 rfl w.heap.size 5 i0 underlying28 hi hz0 hz1 hz2 u5 (bcs (zp t (l.take i))) rfl ?q1 ⟨wr.heap.size,0,none⟩ 1 1 [.int .u8 32] rfl rfl ?q2 ?q3 ?q4 ?q5 ?q6 ?_)
    case q1=>exact q5.out.stays ((Aa _ _).alloc (WZ _) _)
    case q2=>
     intro j u hu
     have hj:j=0:=by have:=(Ad.1 hu).1;simp at this;omega
     subst hj
     have hadd:(⟨wr.heap.size,0,none⟩:Addr).add 0=⟨wr.heap.size,0,none⟩:=by unfold AM;split<;>simp_all
     rw[hadd,Ae _ wr.heap.size 0 _ _ (0,0) (heap_alloc_new wr _)]
     simpa using hu
    case q3=>intro u hu;simp at hu;subst hu;rfl
    case q4=>have:=hTl.out;unfold maxLen;simp;omega
    case q5=>have:=hTl.out;simp;omega
    case q6=>have:=hszw.out;simp;omega
    intro v2 w2 hown2 hg2
    have B2:Hid (Below w.heap.size w w2):=(qb.out.alloc qb.out.size _).grown hg2 (by have:=qb.out.size;simp;omega) (λk hk=>(q5.out.lt k hk).1)
    have O2:Hid (OwnT w2 w.heap.size 5 v2 (bcs (zp t (l.take i)++[32]))):=by
     show OwnT _ _ _ _ _
     rw[show bcs (zp t (l.take i)++[32])=bcs (zp t (l.take i))++[.int .u8 32] by simp[bcs]]
     exact hown2
    have CD:=CG.out x w2 hxr.1 hxr.2 (HP.out.below B2.out)
    clear hown2 hg2 q5 hcx
    have hTx:Hid ((Am x).length<=21):=Ar x (by omega) (by omega)
    go_upto_region 7 with(first|((first|(go_at_call 76)|(go_at_call 107)|(go_at_call 108));refine CD.mono ?_;rintro e w3 ⟨rfl,hb3⟩;have O3:Hid (OwnT w3 w.heap.size 5 v2 (bcs (zp t (l.take i)++[32]))):=O2.out.stays hb3;have B3:Hid (Below w.heap.size w w3):=B2.out.trans (hb3.mono B2.out.size))|(at_builtin;refine yz _ rfl _ _ 28 9 rfl w.heap.size 5 i0 underlying28 underlying9 hi hz0 hz1 hz2 v2 (bcs (zp t (l.take i)++[32])) rfl O3.out ⟨(Am x).toArray⟩ rfl ?q7 ?q8 ?q9 ?_))
    case q7=>have:=hTl.out;have:=hTx.out;rw[jT];unfold maxLen;simp;omega
    case q8=>have:=hTl.out;have:=hTx.out;rw[jT];simp;omega
    case q9=>exact B3.out.size
    intro v4 w4 hown4 hg4
    have B4:Hid (Below w.heap.size w w4):=B3.out.grown hg4 B3.out.size (λk hk=>(O3.out.lt k hk).1)
    have O4:Hid (OwnT w4 w.heap.size 5 v4 (bcs (zp t (l.take (i+1))))):=by
     rw[zcT]at hown4
     refine cast (congrArg (OwnT w4 w.heap.size 5 v4) ?_) hown4
     simp[bcs,zbK t HX.out]
    clear hown4 hg4 O3 B3 hb3 O2 B2 CD
    go_wp2_with fail
    go_roundw
    case rel=>exact⟨i+1,by go_num,by omega,O4.out,B4.out⟩
    case measure=>simp[intOf];omega
   ·obtain rfl:i=l.length:=by omega
    have e5:Hid (OwnT wr w.heap.size 5 u5 (bcs (zp t l))):=by have:=q5.out;rw[Zn]at this;exact this
    have hrt:=zfa (P:=prog) wr 28 9 5 underlying28 underlying5 underlying9 _ u5 (zp t l) e5.out
    go_wp2_with fail
    go_ret
    exact⟨rfl,qb.out⟩
theorem xp(t:List UInt8)(l:List Int)(v:Value)(w:World)(hp:Pow w)(ht:t.length<=100000000)(hl:l.length<=100000)(hr:∀x∈l,0<=x/\x<=9223372036854775807)(hv:qG w v .i64 l):
  Calls prog 73 #[sv t,v] w λe w'=>e=.returned (sv (zp t l))/\Below w.heap.size w w':=vd (.inl ⟨rfl,rfl,rfl⟩) (by omega) (λx W h0 h1 hp=>zbH x h0 h1 W hp) t l v w hp ht hl hr hv
theorem zfc(t:List UInt8)(l:List Int)(v:Value)(w:World)(hp:Pow w)(ht:t.length<=100000000)(hl:l.length<=100000)(hr:∀x∈l,0<=x/\x<=9223372036854775807)(hv:qG w v .i64 l):
  Calls prog 74 #[sv t,v] w λe w'=>e=.returned (sv (zp t l))/\Below w.heap.size w w':=vd (.inr (.inl ⟨rfl,rfl,rfl⟩)) (by omega) (λx W h0 h1 hp=>zgm x h0 h1 W hp) t l v w hp ht hl hr hv
theorem zas(t:List UInt8)(l:List Int)(v:Value)(w:World)(hp:Pow w)(ht:t.length<=100000000)(hl:l.length<=100000)(hr:∀x∈l,0<=x/\x<=4294967295)(hv:qG w v .u32 l):
  Calls prog 75 #[sv t,v] w λe w'=>e=.returned (sv (zp t l))/\Below w.heap.size w w':=vd (.inr (.inr ⟨rfl,rfl,rfl⟩)) (by omega) (λx W h0 h1 hp=>zgn x h0 h1 W hp) t l v w hp ht hl hr hv
theorem patR(p:Ps)(M C:Value){i:Nat}(h:i<32):patD p M C i=.int .u32 (p.R i):=if_pos h
theorem PW.fro{T:TypeId}{N:Nat}{w:World}{b:Nat}{p:Ps}{M C:Value}(h:PW T N w b p M C)(i:Nat):w.frozen? ⟨b,i,none⟩=false:=AB _ _ _ _ _ h.row
theorem ziQ{N b:Nat}{p:Ps}{M C:Value}(w:World)(h:PW 82 N w b p M C)(r x:Nat)(h1:1<=r)(h2:r<=31)(hx:x<4294967296):
  Calls prog 43 #[.pointer (some ⟨b,0,none⟩),.int .u32 (r:Int),.int .u32 (x:Int)] w λe w'=>e=.returned (sv tOk)/\PTo 82 N b w M C w' {p with R:=λi=>if i=r then(x:Int)else p.R i}:=by
 have HH:Hid (PW 82 N w b p M C):=h
 have hc:w.cell? ⟨b,r,none⟩=some (.int .u32 (p.R r)):=by rw[h.cell r (by omega),patR p M C (by omega)]
 have hf:w.frozen? ⟨b,r,none⟩=false:=h.fro r
 clear h
 go_enter func43,ntmps43
 go_wp2_with fail
 go_ret
 refine⟨rfl,PTo.put (w':=w) HH.out (by decide) (by decide) r _ _ rfl rfl λj hj=>?_⟩
 unfold patD
 by_cases e:j=r
 ·subst e
  have h32:j<32:=by omega
  simp[h32]
 ·simp[e]
theorem zlh{N b:Nat}{p:Ps}{M C:Value}(w:World)(h:PW 82 N w b p M C)(r x:Nat)(h1:¬(1<=r/\r<=31))(hr:r<4294967296)(hx:x<4294967296):
  Calls prog 43 #[.pointer (some ⟨b,0,none⟩),.int .u32 (r:Int),.int .u32 (x:Int)] w λe w'=>e=.returned (sv qW)/\PTo 82 N b w M C w' p:=by
 have HH:Hid (PW 82 N w b p M C):=h
 clear h
 by_cases h0:r<1
 ·go_enter func43,ntmps43
  go_wp2_with fail
  go_ret
  exact⟨rfl,PTo.same HH.out (Aa _ _)⟩
 ·have h3:32<=r:=by omega
  go_enter func43,ntmps43
  go_wp2_with fail
  go_ret
  exact⟨rfl,PTo.same HH.out (Aa _ _)⟩
theorem zcU{N b:Nat}{p:Ps}{M C:Value}(w:World)(h:PW 82 N w b p M C)(x y z:Int)(CM:∀W,Calls prog 16 #[.agg #[.int .i64 x,.int .i64 y,.int .i64 z]] W λe w'=>e=.returned (.bool true)/\Below W.heap.size W w'):
  Calls prog 44 #[.pointer (some ⟨b,0,none⟩),.agg #[.int .i64 x,.int .i64 y,.int .i64 z]] w λe w'=>e=.returned (sv tOk)/\PTo 82 N b w M C w' {p with wi:=x,ph:=y,wd:=z}:=by
 have HH:Hid (PW 82 N w b p M C):=h
 have hlt:b<w.heap.size:=h.lt
 clear h
 go_enter func44,ntmps44
 go_upto_region 3 with(go_at_call 16;refine(CM _).mono ?_;rintro e w1 ⟨rfl,hb1⟩)
 have B1:Hid (Below w.heap.size w w1):=((Aa _ _).alloc (WZ _) _).trans (hb1.mono (by simp))
 have P1:Hid (PW 82 N w1 b p M C):=HH.out.below B1.out
 have q0:w1.cell? ⟨w.heap.size,0,none⟩=some (.int .i64 x):=(hb1.cell (p:=⟨w.heap.size,0,none⟩) (by simp)).trans (by rw[Ae _ _ _ _ _ _ (heap_alloc_new w _)];rfl)
 have q1:w1.cell? ⟨w.heap.size,1,none⟩=some (.int .i64 y):=(hb1.cell (p:=⟨w.heap.size,1,none⟩) (by simp)).trans (by rw[Ae _ _ _ _ _ _ (heap_alloc_new w _)];rfl)
 have q2:w1.cell? ⟨w.heap.size,2,none⟩=some (.int .i64 z):=(hb1.cell (p:=⟨w.heap.size,2,none⟩) (by simp)).trans (by rw[Ae _ _ _ _ _ _ (heap_alloc_new w _)];rfl)
 have k0:w1.cell? ⟨b,36,none⟩=some (.int .i64 p.wi):=P1.out.cell 36 (by omega)
 have k1:w1.cell? ⟨b,37,none⟩=some (.int .i64 p.ph):=P1.out.cell 37 (by omega)
 have k2:w1.cell? ⟨b,38,none⟩=some (.int .i64 p.wd):=P1.out.cell 38 (by omega)
 have f0:w1.frozen? ⟨b,36,none⟩=false:=P1.out.fro 36
 have f1:w1.frozen? ⟨b,37,none⟩=false:=P1.out.fro 37
 have f2:w1.frozen? ⟨b,38,none⟩=false:=P1.out.fro 38
 clear hb1
 go_wp2_with fail
 go_ret
 refine⟨rfl,PTo.ahead B1.out ?_⟩
 have p1:=P1.out.put (by decide) (by decide) 36 (.int .i64 x) {p with wi:=x} rfl rfl λj hj=>by unfold patD;by_cases e:j=36<;>simp[e]
 have p2:=p1.put (by decide) (by decide) 37 (.int .i64 y) {p with wi:=x,ph:=y} rfl rfl λj hj=>by unfold patD;by_cases e:j=37<;>simp[e]
 have p3:=p2.put (by decide) (by decide) 38 (.int .i64 z) {p with wi:=x,ph:=y,wd:=z} rfl rfl λj hj=>by unfold patD;by_cases e:j=38<;>simp[e]
 exact⟨M,C,p3,(((Frm.set w1 b 36 _).trans (Frm.set _ b 37 _) λi hi=>.inl hi).trans (Frm.set _ b 38 _) λi hi=>.inl hi).mono λk hk=>.inl hk,λk hk=>.inl hk,λk hk=>.inl hk⟩
theorem zfd{N b:Nat}{p:Ps}{M C:Value}(w:World)(h:PW 82 N w b p M C)(x y z:Int)(CM:∀W,Calls prog 16 #[.agg #[.int .i64 x,.int .i64 y,.int .i64 z]] W λe w'=>e=.returned (.bool false)/\Below W.heap.size W w'):
  Calls prog 44 #[.pointer (some ⟨b,0,none⟩),.agg #[.int .i64 x,.int .i64 y,.int .i64 z]] w λe w'=>e=.returned (sv qW)/\PTo 82 N b w M C w' p:=by
 have HH:Hid (PW 82 N w b p M C):=h
 clear h
 go_enter func44,ntmps44
 go_wp2_with(go_at_call 16;refine(CM _).mono ?_;rintro e w1 ⟨rfl,hb1⟩)
 go_ret
 exact⟨rfl,PTo.same HH.out (((Aa _ _).alloc (WZ _) _).trans (hb1.mono (by simp)))⟩
theorem zgt{N b:Nat}{p:Ps}{M C:Value}(w:World)(h:PW 82 N w b p M C)(v:Value)(ns:List Nat)(hm:p.mem.length<=4096)(hv:∃a c,v=.slice a ns.length c)(hn:4096<p.mem.length+4*ns.length)(hl:ns.length<=3000000):
  Calls prog 42 #[.pointer (some ⟨b,0,none⟩),v] w λe w'=>e=.returned (sv qW)/\PTo 82 N b w M C w' p:=by
 have HH:Hid (PW 82 N w b p M C):=h
 obtain⟨a,c,rfl⟩:=hv
 obtain⟨mp,mc,rfl⟩:=zU h.mem
 have k:w.cell? ⟨b,35,none⟩=some (.slice mp p.mem.length mc):=h.cell 35 (by omega)
 clear h
 obtain⟨n,hN⟩:∃n,n=p.mem.length:=⟨_,rfl⟩
 have HN:Hid (n=p.mem.length):=hN
 rw[<-hN]at k hm hn
 obtain⟨m,hM⟩:∃m,m=ns.length:=⟨_,rfl⟩
 rw[<-hM]at hn hl⊢
 clear hN hM
 have hq:Int.tdiv (4096-(n:Int)) 4=(4096-(n:Int))/4:=AH (by omega)
 go_enter func42,ntmps42
 go_wp2_with fail
 go_ret
 exact⟨rfl,PTo.same HH.out (Aa _ _)⟩
theorem ve{w:World}{B e e' size size':Nat}{v v':Value}{n n':Nat}{xs xs':List Value}(h:w.ownsRow B e size v n xs)(h':w.ownsRow B e' size' v' n' xs')(hne:e≠e'){k:Nat}(hk:v.ownBlock=some k):v'.ownBlock≠some k:=λhk'=>by
 obtain⟨c,hc⟩:=zaU h hk
 exact zQ h' hc hne hk'
theorem PW.setM{T:TypeId}{N:Nat}{w w1:World}{b:Nat}{p:Ps}{M C:Value}(h:PW T N w b p M C)(h5:T≠5)(h3:T≠3)(hf:Frm (λk=>M.ownBlock=some k) w w1)(v':Value)(m':List Int)(ho:w1.ownsRow N 5 1 v' m'.length (ucb m')):PW T N (w1.setCell ⟨b,35,none⟩ v') b {p with mem:=m'} v' C:=by
 have hr1:w1.heap[b]?=some (.cells (rowD (patD p M C) 40) T (0,0)):=(hf.block b h.lt λe=>zQ h.mem h.row h5 e).trans h.row
 refine⟨h.base,?_,?_,?_⟩
 ·rw[xQ hr1,zaT]
  rw[kS λj hj=>?_]
  unfold patD
  by_cases e:j=35<;>simp[e]
 ·exact qq ho λg hg=>(Frm.set w1 b 35 v').block g (ho.lt g hg).2 λe=>zQ ho hr1 h5 (by rw[hg,e])
 ·refine qq h.ch λg hg=>((Frm.set w1 b 35 v').block g (Ap (h.ch.lt g hg).2 hf.size) λe=>zQ h.ch h.row h3 (by rw[hg,e])).trans (hf.block g (h.ch.lt g hg).2 λe=>ve h.mem h.ch (by decide) e hg)
theorem PW.setC{T:TypeId}{N:Nat}{w w1:World}{b:Nat}{p:Ps}{M C:Value}(h:PW T N w b p M C)(h5:T≠5)(h3:T≠3)(hf:Frm (λk=>C.ownBlock=some k) w w1)(v':Value)(m':List Int)(ho:w1.ownsRow N 3 1 v' m'.length (ici m')):PW T N (w1.setCell ⟨b,39,none⟩ v') b {p with ch:=m'} M v':=by
 have hr1:w1.heap[b]?=some (.cells (rowD (patD p M C) 40) T (0,0)):=(hf.block b h.lt λe=>zQ h.ch h.row h3 e).trans h.row
 refine⟨h.base,?_,?_,?_⟩
 ·rw[xQ hr1,zaT]
  rw[kS λj hj=>?_]
  unfold patD
  by_cases e:j=39
  ·simp[e]
  ·have h1:¬(¬j<32/\¬j=32/\¬j<35/\¬j=35/\¬j=36/\¬j=37/\¬j=38):=by omega
   simp only[e,if_false]
   split
   ·rfl
   split
   ·rfl
   split
   ·rfl
   split
   ·rfl
   split
   ·rfl
   split
   ·rfl
   split
   ·rfl
   ·omega
 ·exact qq h.mem λg hg=>((Frm.set w1 b 39 v').block g (Ap (h.mem.lt g hg).2 hf.size) λe=>zQ h.mem h.row h5 (by rw[hg,e])).trans (hf.block g (h.mem.lt g hg).2 λe=>ve h.ch h.mem (by decide) e hg)
 ·exact qq ho λg hg=>(Frm.set w1 b 39 v').block g (ho.lt g hg).2 λe=>zQ ho hr1 h3 (by rw[hg,e])
theorem PTo.setM{T:TypeId}{N b:Nat}{w w0 w1:World}{p:Ps}{M C M' C':Value}(h:PW T N w b p M' C')(hf0:Frm (Mine b M C) w0 w)(hM:∀k,M'.ownBlock=some k->M.ownBlock=some k\/w0.heap.size<=k)(hC:∀k,C'.ownBlock=some k->C.ownBlock=some k\/w0.heap.size<=k)(h5:T≠5)(h3:T≠3)(hf:Frm (λk=>M'.ownBlock=some k) w w1)(v':Value)(m':List Int)(ho:w1.ownsRow N 5 1 v' m'.length (ucb m'))(hv:∀k,v'.ownBlock=some k->M'.ownBlock=some k\/w.heap.size<=k):PTo T N b w0 M C (w1.setCell ⟨b,35,none⟩ v') {p with mem:=m'}:=by
 refine⟨v',C',h.setM h5 h3 hf v' m' ho,(hf0.trans hf ?_).trans (Frm.set w1 b 35 v') ?_,?_,hC⟩
 ·exact λi hi=>(hM i hi).imp (λh=>.inr (.inl h)) id
 ·exact λi hi=>.inl (.inl hi)
 ·exact λk hk=>(hv k hk).elim (hM k) λh=>.inr (AJ hf0.size h)
theorem PTo.setC{T:TypeId}{N b:Nat}{w w0 w1:World}{p:Ps}{M C M' C':Value}(h:PW T N w b p M' C')(hf0:Frm (Mine b M C) w0 w)(hM:∀k,M'.ownBlock=some k->M.ownBlock=some k\/w0.heap.size<=k)(hC:∀k,C'.ownBlock=some k->C.ownBlock=some k\/w0.heap.size<=k)(h5:T≠5)(h3:T≠3)(hf:Frm (λk=>C'.ownBlock=some k) w w1)(v':Value)(m':List Int)(ho:w1.ownsRow N 3 1 v' m'.length (ici m'))(hv:∀k,v'.ownBlock=some k->C'.ownBlock=some k\/w.heap.size<=k):PTo T N b w0 M C (w1.setCell ⟨b,39,none⟩ v') {p with ch:=m'}:=by
 refine⟨M',v',h.setC h5 h3 hf v' m' ho,(hf0.trans hf ?_).trans (Frm.set w1 b 39 v') ?_,hM,?_⟩
 ·exact λi hi=>(hC i hi).imp (λh=>.inr (.inr h)) id
 ·exact λi hi=>.inl (.inl hi)
 ·exact λk hk=>(hv k hk).elim (hC k) λh=>.inr (AJ hf0.size h)
def Args(w:World)(b:Nat)(M C:Value)(v:Value)(ns:List Nat):Prop:=
 ∃(a:Option Addr) (c:Nat),v=.slice a ns.length c/\(0<ns.length->∃g o,a=some ⟨g,o,none⟩/\g<w.heap.size/\¬Mine b M C g/\∀(j x:Nat),ns[j]?=some x->w.cell? ⟨g,o+j,none⟩=some (.int .u32 (x:Int)))
theorem zR{w w':World}{g i:Nat}(h:w'.heap[g]?=w.heap[g]?):w'.cell? ⟨g,i,none⟩=w.cell? ⟨g,i,none⟩:=by
 unfold World.cell?
 rw[h]
theorem Args.at{w W:World}{b:Nat}{M C:Value}{a:Option Addr}{c:Nat}{ns:List Nat}(h:Args w b M C (.slice a ns.length c) ns)(hf:Frm (Mine b M C) w W)(h0:0<ns.length):
  ∃g o,a=some ⟨g,o,none⟩/\g<w.heap.size/\∀(j x:Nat),ns[j]?=some x->W.cell? ⟨g,o+j,none⟩=some (.int .u32 (x:Int)):=by
 obtain⟨a',c',e,h⟩:=h
 injection e with e1 e2 e3
 subst e1
 obtain⟨g,o,ha,hg,hm,hc⟩:=h h0
 exact⟨g,o,ha,hg,λj x hx=>(zR (hf.block g hg hm)).trans (hc j x hx)⟩
theorem Frm.alloc_grown{w w':World}{o:Obj}{row:Option Nat}(h:(w.alloc o).grownBy w' row):Frm (λk=>row=some k) w w':=
 ⟨h.os,h.tape,h.output,by have:=h.size;simp at this;omega,λk hk hn=>(h.block k (by simp;omega) λe=>hn e.symm).trans (heap_alloc_old w o hk)⟩
theorem zeb(m:List Int){ns:List Nat}{i x:Nat}(hx:ns[i]?=some x):addL m (ns.take (i+1))=addL m (ns.take i)++jz x:=by
 rw[Ax,hx]
 exact zlf m (ns.take i) x
theorem zfe{N b:Nat}{p:Ps}{M C:Value}(w:World)(h:PW 82 N w b p M C)(v:Value)(ns:List Nat)(hm:p.mem.length<=4096)(hn:p.mem.length+4*ns.length<=4096)(hr:∀x∈ns,x<4294967296)(hp:∀W,Below N w W->Pow W)
  (hv:Args w b M C v ns):
  Calls prog 42 #[.pointer (some ⟨b,0,none⟩),v] w λe w'=>e=.returned (sv (zp tOk [((p.mem.length+4*ns.length:Nat):Int)]))/\PTo 82 N b w M C w' {p with mem:=addL p.mem ns}:=by
 have HH:Hid (PW 82 N w b p M C):=h
 have HV:=hv
 obtain⟨a,c,rfl,_⟩:=hv
 have HV:Hid (Args w b M C (.slice a ns.length c) ns):=HV
 have HR:Hid (∀x∈ns,x<4294967296):=hr
 have HP:Hid (∀W,Below N w W->Pow W):=hp
 obtain⟨mp,mc,rfl⟩:=zU h.mem
 have k:w.cell? ⟨b,35,none⟩=some (.slice mp p.mem.length mc):=h.cell 35 (by omega)
 obtain⟨i0,hi,hz0,hz1,hz2⟩:=AO zbL
 clear h hr hp
 have hq:Int.tdiv (4096-(p.mem.length:Int)) 4=(4096-(p.mem.length:Int))/4:=AH (by omega)
 go_enter func42,ntmps42
 go_wp2_with fail
 clear hq k
 go_loopw [19] (λct wr=>∃i:Nat,ct=.int .i64 (i:Int)/\i<=ns.length/\Hid (PTo 82 N b w (.slice mp p.mem.length mc) C wr {p with mem:=addL p.mem (ns.take i)})) (λct _=>ns.length-(intOf ct).toNat)
 case atStart=>exact⟨0,rfl,AA _,by have e:addL p.mem (ns.take 0)=p.mem:=(by simp[addL]);show PTo _ _ _ _ _ _ _ _;rw[e];exact PTo.same HH.out (Aa _ _)⟩
 case round=>
  obtain⟨i,rfl,hil,hrel⟩:=hrel
  obtain⟨M',C',P',F',m',c'⟩:=hrel.out
  have P1:Hid (PW 82 N wr b {p with mem:=addL p.mem (ns.take i)} M' C'):=P'
  have F1:Hid (Frm (Mine b (.slice mp p.mem.length mc) C) w wr):=F'
  have HM1:Hid ((∀k,M'.ownBlock=some k->(Qh mp p.mem.length mc).ownBlock=some k\/w.heap.size<=k)/\(∀k,C'.ownBlock=some k->C.ownBlock=some k\/w.heap.size<=k)):=⟨m',c'⟩
  have hlen:(addL p.mem (ns.take i)).length=p.mem.length+4*i:=by rw[vb,AW];omega
  clear P' F' m' c' hrel
  by_cases hlt:i<ns.length
  ·obtain⟨g,o,rfl,hgw,hcl⟩:=HV.out.at F1.out (by omega)
   obtain⟨x,hx⟩:∃x,ns[i]?=some x:=⟨_,Ak hlt⟩
   have hxr:=HR.out x (AG hx)
   have hcx:wr.cell? ⟨g,o+i,none⟩=some (.int .u32 (x:Int)):=hcl i x hx
   have HX:Hid (ns[i]?=some x):=hx
   have k35:wr.cell? ⟨b,35,none⟩=some M':=P1.out.cell 35 (by omega)
   have f35:wr.frozen? ⟨b,35,none⟩=false:=P1.out.fro 35
   clear hcl hx
   go_upto_region 6 with fail
   have hO:Hid (wr.ownsRow N 5 1 M' (addL p.mem (ns.take i)).length (ucb (addL p.mem (ns.take i)))):=P1.out.mem
   have hN:Hid (N<=wr.heap.size):=by have:=P1.out.lt;have:=P1.out.base;show _<=_;omega
   go_wp2_with(at_builtin;refine xc _ rfl _ _ 28 rfl N 5 i0 _ 1 1 underlying28 hi hz0 hz1 hz2 rfl (by decide) M' (addL p.mem (ns.take i)).length (ucb (addL p.mem (ns.take i))) rfl ?q1 ⟨wr.heap.size,0,none⟩ 4 4 (ucb (jz x)) rfl ?q2 ?q3 ?q4 ?q5 ?q6 ?q7 ?_)
   case q1=>exact qE hO.out ((Aa _ _).alloc (WZ _) _)
   case q2=>rfl
   case q3=>
    intro j v hv
    have hadd:(⟨wr.heap.size,0,none⟩:Addr).add j=⟨wr.heap.size,j,none⟩:=by unfold AM;split<;>simp_all
    rw[hadd,Ae _ wr.heap.size j _ _ (0,0) (heap_alloc_new wr _)]
    have hx0:(x:Int)/16777216=((x/16777216%256:Nat):Int):=by omega
    rw[hx0]
    simpa[jz,ucb]using hv
   case q4=>intro v hv;obtain⟨y,_,rfl⟩:=Qe.1 hv;rfl
   case q5=>unfold maxLen;omega
   case q6=>omega
   case q7=>have:=hN.out;simp;omega
   intro v' w5 hown5 hgrow5 hst5
   have HG5:Hid (Frm (λk=>M'.ownBlock=some k) wr w5):=Frm.alloc_grown hgrow5
   have HV5:Hid (∀k,v'.ownBlock=some k->M'.ownBlock=some k\/wr.heap.size<=k):=λk hk=>(hst5 k hk).imp id λe=>by rw[e];simp
   have HO5:Hid (w5.ownsRow N 5 1 v' (addL p.mem (ns.take (i+1))).length (ucb (addL p.mem (ns.take (i+1))))):=by
    show Au _ _ _ _ _ _ _
    rw[zeb p.mem HX.out,WY,hlen]
    have e:ucb (addL p.mem (ns.take i)++jz x)=ucb (addL p.mem (ns.take i))++ucb (jz x):=by simp[ucb]
    rw[e]
    exact hown5
   have k35':w5.cell? ⟨b,35,none⟩=some M':=(zR (HG5.out.block b P1.out.lt λe=>zQ P1.out.mem P1.out.row (by decide) e)).trans k35
   have f35':w5.frozen? ⟨b,35,none⟩=false:=AB _ _ _ _ _ ((HG5.out.block b P1.out.lt λe=>zQ P1.out.mem P1.out.row (by decide) e).trans P1.out.row)
   obtain⟨vp,vc,rfl⟩:=zU hown5
   clear hown5 hgrow5 hst5 k35 f35 hcx
   go_wp2_with fail
   go_roundw
   case rel=>exact⟨i+1,by go_num,by omega,PTo.setM P1.out F1.out HM1.out.1 HM1.out.2 (by decide) (by decide) HG5.out _ _ HO5.out HV5.out⟩
   case measure=>simp[intOf];omega
  ·obtain rfl:i=ns.length:=by omega
   have PE:Hid (PW 82 N wr b {p with mem:=addL p.mem ns} M' C'):=by have:=P1.out;rw[Zn]at this;exact this
   have hle:(addL p.mem ns).length=p.mem.length+4*ns.length:=vb _ _
   obtain⟨mp',mc',rfl⟩:=zU PE.out.mem
   have k35:wr.cell? ⟨b,35,none⟩=some (.slice mp' (addL p.mem ns).length mc'):=PE.out.cell 35 (by omega)
   have BN:Hid (Below N w wr):=F1.out.below (by have:=HH.out.lt;have:=HH.out.base;omega) λk hk=>(HH.out.mine k hk).1
   have CT:=λv hv=>xp tOk [((p.mem.length+4*ns.length:Nat):Int)] v (wr.alloc (.cells #[.int .i64 ((p.mem.length+4*ns.length:Nat):Int)] 3)) ((HP.out wr BN.out).below ((Aa _ _).alloc (WZ _) _)) (by decide) (by simp) (λx hx=>by simp at hx;subst hx;omega) hv
   have CT:=CT (.slice (some ⟨wr.heap.size,0,none⟩) 1 1) ⟨_,_,rfl,λ_=>⟨_,_,rfl,by simp,λj x hx=>by
    have hj:j=0:=by have:=(Ad.1 hx).1;simp at this;omega
    subst hj
    rw[Ae _ wr.heap.size _ _ _ (0,0) (heap_alloc_new wr _)]
    simp at hx
    simp[hx]⟩⟩
   rw[hle]at k35
   clear hle P1
   go_wp2_with(go_at_call 73;refine CT.mono ?_;rintro e w3 ⟨rfl,hb3⟩)
   go_ret
   exact⟨rfl,PTo.behind ⟨_,C',PE.out,F1.out,HM1.out.1,HM1.out.2⟩ (((Aa _ _).alloc (WZ _) _).trans (hb3.mono (by simp)))⟩
theorem zli{w:World}{B e:Nat}{g n c:Nat}{xs:List Value}(h:w.ownsRow B e 1 (.slice (some ⟨g,0,none⟩) n c) n xs){i:Nat}(hi:i<n)(u:Value):(w.setCell ⟨g,i,none⟩ u).ownsRow B e 1 (.slice (some ⟨g,0,none⟩) n c) n (xs.set i u):=by
 obtain⟨h1,h2⟩:=h
 refine⟨by rw[ZV];exact h1,?_⟩
 rcases h2 with⟨h2,_⟩|⟨g',cap,cur,hv,hg,hh,hnc,hm,hs,ht⟩
 ·cases h2
 ·injection hv with e1 e2 e3
  injection e1 with e1
  injection e1 with e1 _ _
  subst e1
  refine .inr ⟨g,cap,_,by rw[e3],hg,xQ hh,hnc,hm,by simpa using hs,?_⟩
  rw[Zg,List.take_set,ht]
theorem PW.putC{T:TypeId}{N:Nat}{w:World}{b:Nat}{p:Ps}{M:Value}{g c:Nat}(h:PW T N w b p M (.slice (some ⟨g,0,none⟩) p.ch.length c))(h3:T≠3){i:Nat}(hi:i<p.ch.length)(x:Int):PW T N (w.setCell ⟨g,i,none⟩ (.int .i64 x)) b {p with ch:=p.ch.set i x} M (.slice (some ⟨g,0,none⟩) p.ch.length c):=by
 have hb:b≠g:=λe=>zQ h.ch h.row h3 (by rw[e];rfl)
 refine⟨h.base,((Frm.set w g i _).block b h.lt hb).trans h.row,qq h.mem λk hk=>(Frm.set w g i _).block k (h.mem.lt k hk).2 λe=>ve h.mem h.ch (by decide) hk (by rw[e];rfl),?_⟩
 have:=zli h.ch hi (.int .i64 x)
 show Au _ _ _ _ _ _ _
 rw[ZV]
 have e:ici (p.ch.set i x)=(ici p.ch).set i (.int .i64 x):=by simp[ici,List.map_set]
 rw[e]
 exact this
def chI(ns:List Nat)(i:Nat):List Int:=(ns.take i).map (λ(n:Nat)=>(n:Int))++List.replicate (ns.length-i) 0
theorem zcV(ns:List Nat){i:Nat}(hi:i<=ns.length):(chI ns i).length=ns.length:=by simp[chI];omega
theorem zlj(ns:List Nat):chI ns ns.length=ns.map λ(n:Nat)=>(n:Int):=by simp[chI]
theorem zlk(ns:List Nat){i x:Nat}(hi:i<ns.length)(hx:ns[i]?=some x):(chI ns i).set i (x:Int)=chI ns (i+1):=by
 unfold chI
 have h1:((ns.take i).map λ(n:Nat)=>(n:Int)).length=i:=by simp;omega
 rw[List.set_append_right _ _ (by omega),h1,Nat.sub_self,Ax,hx]
 obtain⟨k,hk⟩:∃k,ns.length-i=k+1:=⟨ns.length-i-1,by omega⟩
 rw[hk,show ns.length-(i+1)=k by omega,List.replicate_succ]
 simp
theorem zkE:(prog.info? 3).map (λi=>(i.zero,i.size,i.bytes))=some (some (.int .i64 0),1,8):=by kernel_rfl
theorem zcW{N b:Nat}{p:Ps}{M C:Value}(w:World)(h:PW 82 N w b p M C)(v:Value)(ns:List Nat)(hl:ns.length<=3000000)(hr:∀x∈ns,x<4294967296)(hp:∀W,Below N w W->Pow W)(hv:Args w b M C v ns):
  Calls prog 45 #[.pointer (some ⟨b,0,none⟩),v] w λe w'=>e=.returned (sv (zp tOk [(ns.length:Int)]))/\PTo 82 N b w M C w' {p with ch:=ns.map λ(n:Nat)=>(n:Int)}:=by
 have HH:Hid (PW 82 N w b p M C):=h
 have HV:=hv
 obtain⟨a,c,rfl,_⟩:=hv
 have HV:Hid (Args w b M C (.slice a ns.length c) ns):=HV
 have HR:Hid (∀x∈ns,x<4294967296):=hr
 have HP:Hid (∀W,Below N w W->Pow W):=hp
 have HN:Hid (N<=w.heap.size):=by have:=h.lt;have:=h.base;show _<=_;omega
 obtain⟨cp,cc,rfl⟩:=zU h.ch
 have k:w.cell? ⟨b,39,none⟩=some (.slice cp p.ch.length cc):=h.cell 39 (by omega)
 obtain⟨i0,hi,hz0,hz1,hz2⟩:=AO zkE
 clear h hr hp
 go_enter func45,ntmps45
 go_upto_region 2 with(at_make;refine wpList_make_full _ rfl _ _ 29 rfl N 3 i0 (.int .i64 0) 1 underlying29 hi hz0 hz1 .i64 .i64 _ _ ns.length rfl rfl rfl rfl ?q1 ?q2 ?q3 ?_)
 case q1=>rw[hz2];omega
 case q2=>unfold maxLen;omega
 case q3=>exact HN.out
 intro w1 ho1 hg1
 have F1:Hid (Frm (λk=>(Qh cp p.ch.length cc).ownBlock=some k) w w1):=(Frm.grown hg1).mono λk hk=>by cases hk
 have O1:Hid (w1.ownsRow N 3 1 (.slice (some ⟨w.heap.size,0,none⟩) ns.length ns.length) (chI ns 0).length (ici (chI ns 0))):=by
  have e:(madeCells #[Ag .i64 0] ns.length).toList=ici (chI ns 0):=by
   apply List.ext_getElem?
   intro j
   by_cases hj:j<ns.length
   ·simp[madeCells,chI,ici,hj,Nat.mod_one]
   ·rw[Zx (by simp[madeCells];omega),Zx (by simp[chI,ici];omega)]
  rw[e]at ho1
  have e2:=zcV ns (AA ns.length)
  show Au _ _ _ _ _ _ _
  rw[e2]
  exact ho1
 have k1:w1.cell? ⟨b,39,none⟩=some (.slice cp p.ch.length cc):=(zR (F1.out.block b HH.out.lt λe=>zQ HH.out.ch HH.out.row (by decide) e)).trans k
 have f1:w1.frozen? ⟨b,39,none⟩=false:=AB _ _ _ _ _ ((F1.out.block b HH.out.lt λe=>zQ HH.out.ch HH.out.row (by decide) e).trans HH.out.row)
 clear ho1 hg1 k
 go_wp2_with fail
 have P1:Hid (PW 82 N (w1.setCell ⟨b,39,none⟩ (.slice (some ⟨w.heap.size,0,none⟩) ns.length ns.length)) b {p with ch:=chI ns 0} M (.slice (some ⟨w.heap.size,0,none⟩) ns.length ns.length)):=HH.out.setC (by decide) (by decide) F1.out _ _ O1.out
 have G1:Hid (Frm (Mine b M (.slice cp p.ch.length cc)) w (w1.setCell ⟨b,39,none⟩ (.slice (some ⟨w.heap.size,0,none⟩) ns.length ns.length))):=(F1.out.mono λk hk=>.inr (.inr hk)).trans (Frm.set _ _ _ _) λi hi=>.inl (.inl hi)
 clear k1 f1 O1 F1
 go_loopw [15] (λct wr=>∃i:Nat,ct=.int .i64 (i:Int)/\i<=ns.length/\Hid (PW 82 N wr b {p with ch:=chI ns i} M (.slice (some ⟨w.heap.size,0,none⟩) ns.length ns.length)/\Frm (Mine b M (.slice cp p.ch.length cc)) w wr)) (λct _=>ns.length-(intOf ct).toNat)
 case atStart=>exact⟨0,rfl,AA _,P1.out,G1.out⟩
 case round=>
  obtain⟨i,rfl,hil,hrel⟩:=hrel
  have P2:Hid (PW 82 N wr b {p with ch:=chI ns i} M (.slice (some ⟨w.heap.size,0,none⟩) ns.length ns.length)):=hrel.out.1
  have F2:Hid (Frm (Mine b M (.slice cp p.ch.length cc)) w wr):=hrel.out.2
  clear hrel P1 G1
  have k39:wr.cell? ⟨b,39,none⟩=some (.slice (some ⟨w.heap.size,0,none⟩) ns.length ns.length):=P2.out.cell 39 (by omega)
  by_cases hlt:i<ns.length
  ·obtain⟨g,o,rfl,hgw,hcl⟩:=HV.out.at F2.out (by omega)
   obtain⟨x,hx⟩:∃x,ns[i]?=some x:=⟨_,Ak hlt⟩
   have hxr:=HR.out x (AG hx)
   have hcx:wr.cell? ⟨g,o+i,none⟩=some (.int .u32 (x:Int)):=hcl i x hx
   have HX:Hid (ns[i]?=some x):=hx
   have hq:=zcV ns hil
   obtain⟨y,hy⟩:∃y,wr.cell? ⟨w.heap.size,i,none⟩=some (.int .i64 y):=by
    have h1:=P2.out.ch.cells (g:=w.heap.size) rfl i
    have hadd:(⟨w.heap.size,0,none⟩:Addr).add i=⟨w.heap.size,i,none⟩:=by unfold AM;split<;>simp_all
    rw[hadd]at h1
    exact⟨_,h1 _ (by show(ici (chI ns i))[i]?=_;unfold ici;rw[List.getElem?_map,Ak (by rw[hq];exact hlt)];rfl)⟩
   have fy:wr.frozen? ⟨w.heap.size,i,none⟩=false:=by
    obtain⟨c1,hc1⟩:=zaU P2.out.ch (g:=w.heap.size) rfl
    exact AB _ _ _ _ _ hc1
   clear hcl hx hq
   go_wp2_with fail
   go_roundw
   case rel=>
    refine⟨i+1,by go_num,by omega,?_,?_⟩
    ·have e:=zcV ns hil
     have P3:PW 82 N wr b {p with ch:=chI ns i} M (.slice (some ⟨w.heap.size,0,none⟩) (chI ns i).length ns.length):=by rw[e];exact P2.out
     have P4:=P3.putC (by decide) (i:=i) (by show i<(chI ns i).length;omega) (x:Int)
     have e2:({p with ch:=(chI ns i).set i (x:Int)}:Ps)={p with ch:=chI ns (i+1)}:=by rw[zlk ns hlt HX.out]
     have P5:PW 82 N (wr.setCell ⟨w.heap.size,i,none⟩ (.int .i64 (x:Int))) b {p with ch:=(chI ns i).set i (x:Int)} M (.slice (some ⟨w.heap.size,0,none⟩) (chI ns i).length ns.length):=P4
     rw[e2,e]at P5
     exact P5
    ·exact F2.out.trans (Frm.set _ _ _ _) λk hk=>.inr (by rw[hk];exact WZ _)
   case measure=>simp[intOf];omega
  ·obtain rfl:i=ns.length:=by omega
   have PE:Hid (PW 82 N wr b {p with ch:=ns.map λ(n:Nat)=>(n:Int)} M (.slice (some ⟨w.heap.size,0,none⟩) ns.length ns.length)):=by have:=P2.out;rw[zlj]at this;exact this
   have BN:Hid (Below N w wr):=F2.out.below (by have:=HH.out.lt;have:=HH.out.base;omega) λk hk=>(HH.out.mine k hk).1
   have CT:=λv hv=>xp tOk [(ns.length:Int)] v (wr.alloc (.cells #[.int .i64 (ns.length:Int)] 3)) ((HP.out wr BN.out).below ((Aa _ _).alloc (WZ _) _)) (by decide) (by simp) (λx hx=>by simp at hx;subst hx;omega) hv
   have CT:=CT (.slice (some ⟨wr.heap.size,0,none⟩) 1 1) ⟨_,_,rfl,λ_=>⟨_,_,rfl,by simp,λj x hx=>by
    have hj:j=0:=by have:=(Ad.1 hx).1;simp at this;omega
    subst hj
    rw[Ae _ wr.heap.size _ _ _ (0,0) (heap_alloc_new wr _)]
    simp at hx
    simp[hx]⟩⟩
   clear P2
   go_wp2_with(go_at_call 73;refine CT.mono ?_;rintro e w3 ⟨rfl,hb3⟩)
   go_ret
   exact⟨rfl,PTo.behind ⟨_,_,PE.out,F2.out,λk hk=>.inl hk,λk hk=>.inr (by simp[Ai]at hk;omega)⟩ (((Aa _ _).alloc (WZ _) _).trans (hb3.mono (by simp)))⟩
section
variable {P:Program} {md:Region.Mode} {ops:Array Oper} {Q:Exit->Act->World->Prop} {S:World->Prop}
theorem tH(i:Nat)(v:Value){oi:Oper}{fuel:Nat}{listed:Array Bool}{a:Act}{w:World}(hi:ops[i]?=some oi)(hy:YieldsIf P ops S oi v a)(hS:S w)(h:wpAnyH P md ops Q S fuel (listed.setIfInBounds i true) (a.put oi.dst v) w)
  (hs:ZW ops=true:=by kernel_rfl) (hf:Qi md ops listed i=true:=by kernel_rfl) (hr:(Qf md ops listed).contains i=true:=by kernel_rfl)
  (hQ:∀c a w,Q (.panic c) (a.put oi.dst v) w->Q (.panic c) a w:=by exact λ_ _ _ h=>h):wpAnyH P md ops Q S (fuel+1) listed a w:=wpAnyH_take hi hs hf hr hQ hy hS h
theorem tI(i:Nat)(v:Value){oi:Oper}{fuel:Nat}{listed:Array Bool}{a:Act}{w:World}(h:wpAnyH P md ops Q S fuel (listed.setIfInBounds i true) (a.put oi.dst v) w)
  (hi:ops[i]?=some oi:=by exact rfl) (hS:S w:=by exact hH) (hy:YieldsIf P ops S oi v a:=by exact Or.inl ⟨by rfl,by intro wz hSw;go_simp⟩) (hs:ZW ops=true:=by kernel_rfl) (hf:Qi md ops listed i=true:=by kernel_rfl) (hr:(Qf md ops listed).contains i=true:=by kernel_rfl)
  (hQ:∀c a w,Q (.panic c) (a.put oi.dst v) w->Q (.panic c) a w:=by exact λ_ _ _ h=>h):wpAnyH P md ops Q S (fuel+1) listed a w:=wpAnyH_take hi hs hf hr hQ hy hS h
end
theorem zh{w:World}{cs:Array Value}{t:TypeId}{Φ:World->Prop}(h:∀V,V.heap[w.heap.size]?=some (.cells cs t (0,0))->Below w.heap.size w V->Φ V):Φ (w.alloc (.cells cs t)):=
 h _ (heap_alloc_new w _) ((Aa _ _).alloc (WZ _) _)
theorem qd(W:World)(k:IntKind)(l:List Int)(t:TypeId):qG (W.alloc (.cells (l.map λx=>Ag k x).toArray t)) (.slice (some ⟨W.heap.size,0,none⟩) l.length l.length) k l:=
 ⟨_,_,rfl,λ_=>⟨_,_,rfl,by simp,λj x hx=>by
  rw[Ae _ W.heap.size _ _ _ (0,0) (heap_alloc_new W _)]
  simp[hx]⟩⟩
abbrev uci(l:List Int):List Value:=l.map λx=>.int .u32 x
theorem za:(prog.info? 68).map (·.size)=some 11:=by kernel_rfl
theorem zq:(prog.info? 27).map (·.size)=some 35:=by kernel_rfl
theorem ziR{w:World}{B e:Nat}{v:Value}{n:Nat}{l:List Int}{k:IntKind}(h:w.ownsRow B e 1 v n (l.map λx=>.int k x)):qG w v k l:=by
 have hl:n=l.length:=by have:=h.1;simp at this;omega
 subst hl
 obtain⟨p,c,rfl⟩:=zU h
 refine⟨p,c,rfl,λh0=>?_⟩
 have hh:=h
 rcases h.2 with⟨_,hz⟩|⟨g,cap,cur,hv,_,hg,_⟩
 ·omega
 ·injection hv with e1 e2 e3
  subst e1
  refine⟨g,0,rfl,(Af.1 hg).1,λj x hx=>?_⟩
  have h1:=hh.cells (g:=g) rfl j (.int k x) (by simp[hx])
  have hadd:(⟨g,0,none⟩:Addr).add j=⟨g,j,none⟩:=by unfold AM;split<;>simp_all
  rw[hadd]at h1
  rw[Zp]
  exact h1
theorem ziS(v:Value)(H:Array Value)(er:Int)(hH:Hid (H.size=35))(he:(er != 0)=true)(e0:0<=er)(e1:er<=3)(w:World)(hp:Pow w):
  Calls prog 46 #[v,.agg H,.int .i64 er] w λe w'=>e=.returned (sv (zp [98,97,100] [er]))/\Below w.heap.size w w':=by
 have HP:Hid (Pow w):=hp
 clear hp
 go_enter func46,ntmps46
 go_upto_region 2 with fail
 refine zh (Φ:=λW=>ZQ _ _ _ _ W) ?_
 intro V eV hb
 have HB:Hid (Below w.heap.size w V):=hb
 have CT:=zfc [98,97,100] [er] _ (V.alloc (.cells (([er]:List Int).map λx=>Ag .i64 x).toArray 33)) ((HP.out.below hb).below ((Aa _ _).alloc (WZ _) _)) (by decide) (by simp) (λx hx=>by simp at hx;subst hx;omega) (qd V .i64 [er] 33)
 clear eV hb
 go_wp2_with(go_at_call 74;refine CT.mono ?_;rintro e w3 ⟨rfl,hb3⟩)
 go_ret
 exact⟨rfl,HB.out.trans ((((Aa _ _).alloc (WZ _) _).trans (hb3.mono (by simp))).mono HB.out.size)⟩
theorem ziT(v:Value)(H:Array Value)(pc st ca:Int)(n:Nat)(ot:Nat->Bool)(tl:Nat->Int)(hH:Hid (H.size=35))(h32:H[32]?=some (.int .u32 pc))(h33:H[33]?=some (.int .i64 st))(h34:H[34]?=some (.int .i64 ca))(hn:n<=24000)
  (p0:0<=pc/\pc<=4294967295) (s0:0<=st/\st<=6) (c0:0<=ca/\ca<=6) (ht:∀x∈zA ot tl n,0<=x/\x<=4294967295) (w:World) (hp:Pow w) (hv:ComP w v n ot tl):
  Calls prog 46 #[v,.agg H,.int .i64 0] w λe w'=>e=.returned (sv (zp (zp (Am n) [st,ca]) (pc::zA ot tl n)))/\Below w.heap.size w w':=by
 have HP:Hid (Pow w):=hp
 have HT:Hid (∀x∈zA ot tl n,0<=x/\x<=4294967295):=ht
 have HV:Hid (ComP w v n ot tl):=hv
 obtain⟨a,c,g,rfl,hnc,_⟩:=hv
 obtain⟨i0,hi,hz0,hz1,hz2⟩:=AO zgk
 clear hp ht
 go_enter func46,ntmps46
 go_upto_region 3 with fail
 refine zh (Φ:=λW=>ZQ _ _ _ _ W) ?_
 intro V eV hb
 have HB:Hid (Below w.heap.size w V):=hb
 have k32:V.cell? ⟨w.heap.size,32,none⟩=some (.int .u32 pc):=by rw[Ae _ _ _ _ _ _ eV];exact h32
 have k33:V.cell? ⟨w.heap.size,33,none⟩=some (.int .i64 st):=by rw[Ae _ _ _ _ _ _ eV];exact h33
 have k34:V.cell? ⟨w.heap.size,34,none⟩=some (.int .i64 ca):=by rw[Ae _ _ _ _ _ _ eV];exact h34
 have hqV:w.heap.size<V.heap.size:=(Af.1 eV).1
 obtain⟨q,hq⟩:∃q,q=w.heap.size:=⟨_,rfl⟩
 rw[<-hq]at k32 k33 k34 hqV⊢
 have HC:Hid (ComP V (.slice a n c) n ot tl):=HV.out.below hb
 clear eV hb hq HV
 go_wp2_with fail
 have O1:Hid ((V.alloc (.cells #[.int .u32 pc] 24)).ownsRow V.heap.size 24 1 (.slice (some ⟨V.heap.size,0,none⟩) 1 1) (1+(zA ot tl 0).length) (uci (pc::zA ot tl 0))):=⟨rfl,.inr ⟨_,_,_,rfl,WZ _,heap_alloc_new V _,WZ _,by unfold maxLen;omega,rfl,rfl⟩⟩
 go_loopw [7,20] (λtv ct wr=>∃i:Nat,ct=.int .i64 (i:Int)/\i<=n/\Hid (wr.ownsRow V.heap.size 24 1 tv (1+(zA ot tl i).length) (uci (pc::zA ot tl i))/\Below V.heap.size V wr)) (λ_ ct _=>n-(intOf ct).toNat)
 case atStart=>exact⟨0,rfl,AA _,O1.out,(Aa _ _).alloc (WZ _) _⟩
 case round=>
  clear O1
  obtain⟨i,rfl,hil,hrel⟩:=hrel
  have q7:Hid (wr.ownsRow V.heap.size 24 1 u7 (1+(zA ot tl i).length) (uci (pc::zA ot tl i))):=hrel.out.1
  have qb:Hid (Below V.heap.size V wr):=hrel.out.2
  clear hrel
  by_cases hlt:i<n
  ·obtain⟨a',c',g,e,_,hp,hg,h1⟩:=HC.out
   injection e with e1 e2 e3
   subst e1
   subst e3
   obtain⟨b,o,rfl,hbV,hcell⟩:=hp (by omega)
   have HR:Hid (wr.rangeAt b (o+i*11) ((Zj 11).map (g i))):=λj u hu=>by
    have hj:j<11:=by have:=(Ad.1 hu).1;simpa using this
    simp[hj]at hu
    subst hu
    rw[ZY]
    exact(qb.out.cell (p:=⟨b,o+(i*11+j),none⟩) hbV).trans (hcell i j hlt hj)
   obtain⟨D,hD⟩:∃D,D=((Zj 11).map (g i)).toArray:=⟨_,rfl⟩
   have HDS:Hid ((prog.info? 68).map (·.size)=some D.size/\11=D.size/\D.all (·.oneCell')=true):=by
    rw[hD]
    refine⟨za,rfl,?_⟩
    rw[Array.all_eq_true_iff_forall_mem]
    intro x hx
    simp at hx
    obtain⟨j,hj,rfl⟩:=hx
    exact h1 i j hlt hj
   have HL:Hid ((prog.info? 68).map (·.size)=some ((Zj 11).map (g i)).length):=za
   have d9:D[9]?=some (.bool (ot i)):=by rw[hD,<-(hg i hlt).1];rfl
   have d10:D[10]?=some (.int .u32 (tl i)):=by rw[hD,<-(hg i hlt).2];rfl
   have HD:Hid (D=((Zj 11).map (g i)).toArray):=hD
   clear hD hcell h1 hg hp
   go_upto_region 7 with(first|(refine ZX rfl 68 _ rfl b (o+i*11) rfl ((Zj 11).map (g i)) _ HR.out underlying68 rfl HL.out ?_;rw[<-HD.out])|(refine ZS rfl 68 _ _ rfl _ _ rfl rfl 68 _ (heap_alloc_new _ _) HDS.out.1 HDS.out.2.1 HDS.out.2.2 ?_;rw[Zr]))
   refine zh (Φ:=λW=>ZQ _ _ _ _ W) ?_
   intro V2 eV2 hb2
   have B2:Hid (Below V.heap.size V V2):=qb.out.trans (hb2.mono qb.out.size)
   have O2:Hid (V2.ownsRow V.heap.size 24 1 u7 (1+(zA ot tl i).length) (uci (pc::zA ot tl i))):=qE q7.out hb2
   have k9:V2.cell? ⟨wr.heap.size,9,none⟩=some (.bool (ot i)):=by rw[Ae _ _ _ _ _ _ eV2];exact d9
   have k10:V2.cell? ⟨wr.heap.size,10,none⟩=some (.int .u32 (tl i)):=by rw[Ae _ _ _ _ _ _ eV2];exact d10
   obtain⟨z,hz⟩:∃z,z=wr.heap.size:=⟨_,rfl⟩
   have hlen:=xo ot tl i
   rw[<-hz]at k9 k10⊢
   clear eV2 hb2 hz d9 d10 HDS HL HR HD q7 qb
   cases hot:ot i with
   |false=>
    rw[hot]at k9
    have e:zA ot tl (i+1)=zA ot tl i:=by show zA ot tl i++(if ot i then[tl i]else[])=_;rw[hot];simp
    have HE:Hid (zA ot tl (i+1)=zA ot tl i):=e
    clear e hot
    go_wp2_with fail
    go_roundw
    case rel=>exact⟨i+1,by go_num,by omega,by show Au _ _ _ _ _ _ _/\Below _ _ _;rw[HE.out];exact⟨O2.out,B2.out⟩⟩
    case measure=>simp[intOf];omega
   |true=>
    rw[hot]at k9
    have e:zA ot tl (i+1)=zA ot tl i++[tl i]:=by show zA ot tl i++(if ot i then[tl i]else[])=_;rw[hot];simp
    have HE:Hid (zA ot tl (i+1)=zA ot tl i++[tl i]):=e
    clear e hot
    go_wp2_with(at_builtin;refine ZH _ rfl _ _ 69 rfl V.heap.size 24 i0 _ 1 4 underlying69 hi hz0 hz1 hz2 rfl (by decide) u7 (1+(zA ot tl i).length) (uci (pc::zA ot tl i)) rfl ?r1 ⟨V2.heap.size,0,none⟩ 1 1 [.int .u32 (tl i)] rfl ?r2 ?r3 ?r4 ?r5 ?r6 ?r7 ?_)
    case r1=>exact qE O2.out ((Aa _ _).alloc (WZ _) _)
    case r4=>rfl
    case r5=>unfold maxLen;omega
    case r6=>omega
    case r7=>have:=B2.out.size;simp;omega
    intro v' w5 hown5 hgrow5 _
    have B5:Hid (Below V.heap.size V w5):=(B2.out.alloc B2.out.size _).grown hgrow5 (by have:=B2.out.size;simp;omega) (λk hk=>(O2.out.lt k hk).1)
    have O5:Hid (w5.ownsRow V.heap.size 24 1 v' (1+(zA ot tl (i+1)).length) (uci (pc::zA ot tl (i+1)))):=by
     show Au _ _ _ _ _ _ _
     rw[HE.out,show 1+(zA ot tl i++[tl i]).length=1+(zA ot tl i).length+1 by simp;omega,show uci (pc::(zA ot tl i++[tl i]))=uci (pc::zA ot tl i)++[.int .u32 (tl i)] by simp[uci]]
     exact hown5
    clear hown5 hgrow5
    go_wp2_with fail
    go_roundw
    case rel=>exact⟨i+1,by go_num,by omega,O5.out,B5.out⟩
    case measure=>simp[intOf];omega
  ·obtain rfl:i=n:=by omega
   have hlen:=xo ot tl i
   have CD:Hid (∀W,Below wr.heap.size wr W->Calls prog 76 #[.int .i64 (i:Int)] W λe w'=>e=.returned (sv (Am i))/\Below W.heap.size W w'):=λW hW=>zbH i (by omega) (by omega) W (((HP.out.below HB.out).below qb.out).below hW)
   have CT:Hid (∀W v,Below wr.heap.size wr W->qG W v .i64 [st,ca]->Calls prog 73 #[sv (Am i),v] W λe w'=>e=.returned (sv (zp (Am i) [st,ca]))/\Below W.heap.size W w'):=λW v hW hv=>xp (Am i) [st,ca] v W (((HP.out.below HB.out).below qb.out).below hW) (by have:=Ar (i:Int) (by omega) (by omega);omega) (by simp) (λx hx=>by simp at hx;omega) hv
   have CU:Hid (∀W,Below wr.heap.size wr W->Calls prog 75 #[sv (zp (Am i) [st,ca]),u7] W λe w'=>e=.returned (sv (zp (zp (Am i) [st,ca]) (pc::zA ot tl i)))/\Below W.heap.size W w'):=λW hW=>zas (zp (Am i) [st,ca]) (pc::zA ot tl i) u7 W (((HP.out.below HB.out).below qb.out).below hW) (by
     have h1:=Ar (i:Int) (by omega) (by omega)
     have h2:=qF (Am i) [st,ca] (λx hx=>by simp at hx;omega)
     simp at h2
     omega) (by simp;omega) (λx hx=>by
     rcases Za.1 hx with rfl|hx
     ·exact p0
     ·exact HT.out x hx) ((ziR q7.out).below hW)
   have j33:wr.cell? ⟨q,33,none⟩=some (.int .i64 st):=(qb.out.cell (p:=⟨q,33,none⟩) hqV).trans k33
   have j34:wr.cell? ⟨q,34,none⟩=some (.int .i64 ca):=(qb.out.cell (p:=⟨q,34,none⟩) hqV).trans k34
   have hqw:q<wr.heap.size:=Ap hqV qb.out.size
   have BB:Hid (Below w.heap.size w wr):=HB.out.trans (qb.out.mono HB.out.size)
   clear k33 k34 hqV q7 qb HT HP HB
   obtain⟨tn,htn⟩:∃tn,tn=Am (i:Int):=⟨_,rfl⟩
   rw[<-htn]at CD CT CU
   obtain⟨t2,ht2⟩:∃t2,t2=zp tn [st,ca]:=⟨_,rfl⟩
   rw[<-ht2]at CT CU
   have HE:Hid (t2=zp (Am (i:Int)) [st,ca]):=by rw[<-htn];exact ht2
   clear htn ht2
   go_upto_region 10 with fail
   refine WX (S:=λw'=>Below wr.heap.size wr w') (by kernel_rfl) ((Aa _ _).drew) (λhH=>?_)
   refine tI 0 (.slice a i c) ?_;go_simp
   refine tI 1 (.int .i64 (i:Int)) ?_;go_simp
   refine tI 3 (.pointer (some ⟨q,33,none⟩)) ?_;go_simp
   refine tH 4 (.int .i64 st) rfl (Or.inl ⟨by rfl,by intro wz hSw;have hc:=(hSw.cell (p:=⟨q,33,none⟩) hqw).trans j33;go_simp⟩) hH ?_;go_simp
   refine tI 5 (.pointer (some ⟨q,34,none⟩)) ?_;go_simp
   refine tH 6 (.int .i64 ca) rfl (Or.inl ⟨by rfl,by intro wz hSw;have hc:=(hSw.cell (p:=⟨q,34,none⟩) hqw).trans j34;go_simp⟩) hH ?_;go_simp
   refine tI 9 (u7) ?_;go_simp
   refine Aj (rs:=[2,7]) (by kernel_rfl) (by simp) ?_
   refine(Ab rfl (λK hK=>?_) (Ab rfl (λK hK=>?_) Ah))
   case' _=>
    go_simp
    refine(CD.out _ hH).mono ?_
    rintro e W1 ⟨rfl,hk⟩
    go_wp2_with fail
    refine hK.out _ _ (hH.trans (hk.mono hH.size)) (λhH=>?_)
    clear hK K
    try go_simp
    refine Aj (rs:=[7]) (by kernel_rfl) (by simp) ?_
    refine(Ab rfl (λK hK=>?_) Ah)
    go_simp
    refine hK.out _ _ (hH.alloc hH.size _) (λhH2=>?_)
    have hN:=qd W1 .i64 [st,ca] 3
    clear hK K hH
    have hH:=hH2
    clear hH2
   rotate_left
   case' _=>
    go_simp
    refine hK.out _ _ (hH.alloc hH.size _) (λhH2=>?_)
    have hN:=qd wr.drew .i64 [st,ca] 3
    clear hK K hH
    have hH:=hH2
    clear hH2
    try go_simp
    refine Aj (rs:=[2]) (by kernel_rfl) (by simp) ?_
    refine(Ab rfl (λK hK=>?_) Ah)
    go_simp
    refine(CD.out _ hH).mono ?_
    rintro e W1 ⟨rfl,hk⟩
    have hN:=hN.below hk
    go_wp2_with fail
    refine hK.out _ _ (hH.trans (hk.mono hH.size)) (λhH=>?_)
    clear hK K
   rotate_left
   all_goals
    try go_simp
    refine Aj (rs:=[8]) (by kernel_rfl) (by simp) ?_
    refine(Ab rfl (λK hK=>?_) Ah)
    go_simp
    refine(CT.out _ _ hH hN).mono ?_
    rintro e W4 ⟨rfl,hk⟩
    go_wp2_with fail
    refine hK.out _ _ (hH.trans (hk.mono hH.size)) (λhH=>?_)
    clear hK K
    try go_simp
    refine Aj (rs:=[10]) (by kernel_rfl) (by simp) ?_
    refine(Ab rfl (λK hK=>?_) Ah)
    go_simp
    refine(CU.out _ hH).mono ?_
    rintro e W5 ⟨rfl,hk⟩
    go_wp2_with fail
    refine hK.out _ _ (hH.trans (hk.mono hH.size)) (λhH=>?_)
    clear hK K
    try go_simp
    refine tI 11 (sv (zp t2 (pc::zA ot tl i))) ?_;go_simp
    refine AQ (by kernel_rfl) ?_ _
    try go_simp
    go_wp2_with fail
    go_ret
    exact⟨by rw[<-HE.out];rfl,BB.out.trans (hH.mono BB.out.size)⟩
theorem ziU(x:Int)(w:World)(CD:Calls prog 19 #[.int .u32 x] w λe w'=>e=.returned (.tuple #[.agg #[.int .i64 0,.int .i64 0,.int .i64 0,.int .i64 0,.int .i32 0],.bool false])/\Below w.heap.size w w'):
  Calls prog 47 #[.int .u32 x] w λe w'=>e=.returned (sv [110,111])/\Below w.heap.size w w':=by
 go_enter func47,ntmps47
 go_wp2_with(go_at_call 19;refine CD.mono ?_;rintro e w1 ⟨rfl,hb1⟩)
 go_ret
 exact⟨rfl,hb1.alloc hb1.size _⟩
theorem zgu(x o r a b m:Int)(w:World)(hp:Pow w)(o0:0<=o/\o<=4294967295)(r0:0<=r/\r<=4294967295)(a0:0<=a/\a<=4294967295)(b0:0<=b/\b<=4294967295)(m0:-2147483648<=m)(m1:m<=2147483647)
  (CD:Calls prog 19 #[.int .u32 x] w λe w'=>e=.returned (.tuple #[.agg #[.int .i64 o,.int .i64 r,.int .i64 a,.int .i64 b,.int .i32 m],.bool true])/\Below w.heap.size w w'):
  Calls prog 47 #[.int .u32 x] w λe w'=>e=.returned (sv (zp (zp [105,115] [o,r,a,b]) [m%4294967296]))/\Below w.heap.size w w':=by
 have HP:Hid (Pow w):=hp
 have HR:Hid ((0<=o/\o<=4294967295)/\(0<=r/\r<=4294967295)/\(0<=a/\a<=4294967295)/\(0<=b/\b<=4294967295)):=⟨o0,r0,a0,b0⟩
 have HW:IntKind.u32.wrap m=m%4294967296:=by simp[Zb,Zc,AS]
 clear hp o0 r0 a0 b0
 go_enter func47,ntmps47
 go_upto_region 4 with(go_at_call 19;refine CD.mono ?_;rintro e w1 ⟨rfl,hb1⟩)
 refine zh (Φ:=λW=>ZQ _ _ _ _ W) ?_
 intro V eV hb
 have HB:Hid (Below w.heap.size w V):=hb1.trans (hb.mono hb1.size)
 have k0:V.cell? ⟨w1.heap.size,0,none⟩=some (.int .i64 o):=by rw[Ae _ _ _ _ _ _ eV];rfl
 have k1:V.cell? ⟨w1.heap.size,1,none⟩=some (.int .i64 r):=by rw[Ae _ _ _ _ _ _ eV];rfl
 have k2:V.cell? ⟨w1.heap.size,2,none⟩=some (.int .i64 a):=by rw[Ae _ _ _ _ _ _ eV];rfl
 have k3:V.cell? ⟨w1.heap.size,3,none⟩=some (.int .i64 b):=by rw[Ae _ _ _ _ _ _ eV];rfl
 have k4:V.cell? ⟨w1.heap.size,4,none⟩=some (.int .i32 m):=by rw[Ae _ _ _ _ _ _ eV];rfl
 have hqV:w1.heap.size<V.heap.size:=(Af.1 eV).1
 obtain⟨q,hq⟩:∃q,q=w1.heap.size:=⟨_,rfl⟩
 rw[<-hq]at k0 k1 k2 k3 k4 hqV⊢
 clear eV hb hb1 hq CD
 obtain⟨u,hu⟩:∃u,u=m%4294967296:=⟨_,rfl⟩
 have CT:Hid (∀W v,Below V.heap.size V W->qG W v .i64 [o,r,a,b]->Calls prog 73 #[sv [105,115],v] W λe w'=>e=.returned (sv (zp [105,115] [o,r,a,b]))/\Below W.heap.size W w'):=λW v hW hv=>xp [105,115] [o,r,a,b] v W ((HP.out.below HB.out).below hW) (by decide) (by simp) (λx hx=>by have:=HR.out;simp at hx;omega) hv
 have CU:Hid (∀W v,Below V.heap.size V W->qG W v .u32 [u]->Calls prog 75 #[sv (zp [105,115] [o,r,a,b]),v] W λe w'=>e=.returned (sv (zp (zp [105,115] [o,r,a,b]) [u]))/\Below W.heap.size W w'):=λW v hW hv=>zas (zp [105,115] [o,r,a,b]) [u] v W ((HP.out.below HB.out).below hW) (by
   have h2:=qF [105,115] [o,r,a,b] (λx hx=>by have:=HR.out;simp at hx;omega)
   simp at h2
   omega) (by simp) (λx hx=>by simp at hx;omega) hv
 obtain⟨t2,ht2⟩:∃t2,t2=zp [105,115] [o,r,a,b]:=⟨_,rfl⟩
 rw[<-ht2]at CT CU
 have HE:Hid (t2=zp [105,115] [o,r,a,b]/\u=m%4294967296):=⟨ht2,hu⟩
 rw[<-hu]at HW
 clear ht2 hu
 refine WX (S:=λw'=>Below V.heap.size V w') (by kernel_rfl) ((Aa _ _).drew) (λhH=>?_)
 generalize V.drew=W0 at hH⊢
 refine tI 0 (.pointer (some ⟨q,0,none⟩)) ?_;go_simp
 refine tH 1 (.int .i64 o) rfl (Or.inl ⟨by rfl,by intro wz hSw;have hc:=(hSw.cell (p:=⟨q,0,none⟩) hqV).trans k0;go_simp⟩) hH ?_;go_simp
 refine tI 2 (.pointer (some ⟨q,1,none⟩)) ?_;go_simp
 refine tH 3 (.int .i64 r) rfl (Or.inl ⟨by rfl,by intro wz hSw;have hc:=(hSw.cell (p:=⟨q,1,none⟩) hqV).trans k1;go_simp⟩) hH ?_;go_simp
 refine tI 4 (.pointer (some ⟨q,2,none⟩)) ?_;go_simp
 refine tH 5 (.int .i64 a) rfl (Or.inl ⟨by rfl,by intro wz hSw;have hc:=(hSw.cell (p:=⟨q,2,none⟩) hqV).trans k2;go_simp⟩) hH ?_;go_simp
 refine tI 6 (.pointer (some ⟨q,3,none⟩)) ?_;go_simp
 refine tH 7 (.int .i64 b) rfl (Or.inl ⟨by rfl,by intro wz hSw;have hc:=(hSw.cell (p:=⟨q,3,none⟩) hqV).trans k3;go_simp⟩) hH ?_;go_simp
 refine tI 10 (.pointer (some ⟨q,4,none⟩)) ?_;go_simp
 refine tH 11 (.int .i32 m) rfl (Or.inl ⟨by rfl,by intro wz hSw;have hc:=(hSw.cell (p:=⟨q,4,none⟩) hqV).trans k4;go_simp⟩) hH ?_;go_simp
 refine tI 12 (.int .u32 u) ?_;go_simp
 refine Aj (rs:=[8,13]) (by kernel_rfl) (by simp) ?_
 refine(Ab rfl (λK hK=>?_) (Ab rfl (λK hK=>?_) Ah))
 ·go_simp
  refine hK.out _ _ (hH.alloc hH.size _) (λhH2=>?_)
  have hI:qG (W0.alloc (.cells #[Ag .i64 o,Ag .i64 r,Ag .i64 a,Ag .i64 b] 3)) (.slice (some ⟨W0.heap.size,0,none⟩) 4 4) .i64 [o,r,a,b]:=qd W0 .i64 [o,r,a,b] 3
  have hg:Below W0.heap.size W0 (W0.alloc (.cells #[Ag .i64 o,Ag .i64 r,Ag .i64 a,Ag .i64 b] 3)):=(Aa _ _).alloc (WZ _) _
  clear hK K hH
  have hH:=hH2
  clear hH2
  try go_simp
  generalize (W0.alloc (.cells #[Ag .i64 o,Ag .i64 r,Ag .i64 a,Ag .i64 b] 3))=A1 at hI hg hH⊢
  clear hg
  refine Aj (rs:=[9,13]) (by kernel_rfl) (by simp) ?_
  refine(Ab rfl (λK hK=>?_) (Ab rfl (λK hK=>?_) Ah))
  case' _=>
   go_simp
   refine(CT.out _ _ hH hI).mono ?_
   rintro e W2 ⟨rfl,hk⟩
   go_wp2_with fail
   refine hK.out _ _ (hH.trans (hk.mono hH.size)) (λhH=>?_)
   clear hK K
   try go_simp
   refine Aj (rs:=[13]) (by kernel_rfl) (by simp) ?_
   refine(Ab rfl (λK hK=>?_) Ah)
   go_simp
   refine hK.out _ _ (hH.alloc hH.size _) (λhH2=>?_)
   have hU:qG (W2.alloc (.cells #[Ag .u32 u] 24)) (.slice (some ⟨W2.heap.size,0,none⟩) 1 1) .u32 [u]:=qd W2 .u32 [u] 24
   have hg:Below W2.heap.size W2 (W2.alloc (.cells #[Ag .u32 u] 24)):=(Aa _ _).alloc (WZ _) _
   clear hK K hH
   have hH:=hH2
   clear hH2
   try go_simp
   generalize (W2.alloc (.cells #[Ag .u32 u] 24))=A3 at hU hg hH⊢
   clear hg
  rotate_left
  case' _=>
   go_simp
   refine hK.out _ _ (hH.alloc hH.size _) (λhH2=>?_)
   have hU:qG (A1.alloc (.cells #[Ag .u32 u] 24)) (.slice (some ⟨A1.heap.size,0,none⟩) 1 1) .u32 [u]:=qd A1 .u32 [u] 24
   have hg:Below A1.heap.size A1 (A1.alloc (.cells #[Ag .u32 u] 24)):=(Aa _ _).alloc (WZ _) _
   clear hK K hH
   have hH:=hH2
   clear hH2
   try go_simp
   generalize (A1.alloc (.cells #[Ag .u32 u] 24))=A2 at hU hg hH⊢
   have hI:=hI.below hg
   clear hg
   refine Aj (rs:=[9]) (by kernel_rfl) (by simp) ?_
   refine(Ab rfl (λK hK=>?_) Ah)
   go_simp
   refine(CT.out _ _ hH hI).mono ?_
   rintro e W3 ⟨rfl,hk⟩
   have hU:=hU.below hk
   go_wp2_with fail
   refine hK.out _ _ (hH.trans (hk.mono hH.size)) (λhH=>?_)
   clear hK K
   try go_simp
  rotate_left
  all_goals
   refine Aj (rs:=[14]) (by kernel_rfl) (by simp) ?_
   refine(Ab rfl (λK hK=>?_) Ah)
   go_simp
   refine(CU.out _ _ hH hU).mono ?_
   rintro e W4 ⟨rfl,hk⟩
   go_wp2_with fail
   refine hK.out _ _ (hH.trans (hk.mono hH.size)) (λhH=>?_)
   clear hK K
   try go_simp
   refine tI 15 (sv (zp t2 [u])) ?_;go_simp
   refine AQ (by kernel_rfl) ?_ _
   try go_simp
   go_wp2_with fail
   go_ret
   exact⟨by rw[<-HE.out.1,<-HE.out.2];rfl,HB.out.trans (hH.mono HB.out.size)⟩
 ·go_simp
  refine hK.out _ _ (hH.alloc hH.size _) (λhH2=>?_)
  have hU:qG (W0.alloc (.cells #[Ag .u32 u] 24)) (.slice (some ⟨W0.heap.size,0,none⟩) 1 1) .u32 [u]:=qd W0 .u32 [u] 24
  have hg:Below W0.heap.size W0 (W0.alloc (.cells #[Ag .u32 u] 24)):=(Aa _ _).alloc (WZ _) _
  clear hK K hH
  have hH:=hH2
  clear hH2
  try go_simp
  generalize (W0.alloc (.cells #[Ag .u32 u] 24))=A1 at hU hg hH⊢
  clear hg
  refine Aj (rs:=[8]) (by kernel_rfl) (by simp) ?_
  refine(Ab rfl (λK hK=>?_) Ah)
  go_simp
  refine hK.out _ _ (hH.alloc hH.size _) (λhH2=>?_)
  have hI:qG (A1.alloc (.cells #[Ag .i64 o,Ag .i64 r,Ag .i64 a,Ag .i64 b] 3)) (.slice (some ⟨A1.heap.size,0,none⟩) 4 4) .i64 [o,r,a,b]:=qd A1 .i64 [o,r,a,b] 3
  have hg:Below A1.heap.size A1 (A1.alloc (.cells #[Ag .i64 o,Ag .i64 r,Ag .i64 a,Ag .i64 b] 3)):=(Aa _ _).alloc (WZ _) _
  clear hK K hH
  have hH:=hH2
  clear hH2
  try go_simp
  generalize (A1.alloc (.cells #[Ag .i64 o,Ag .i64 r,Ag .i64 a,Ag .i64 b] 3))=A2 at hI hg hH⊢
  have hU:=hU.below hg
  clear hg
  refine Aj (rs:=[9]) (by kernel_rfl) (by simp) ?_
  refine(Ab rfl (λK hK=>?_) Ah)
  go_simp
  refine(CT.out _ _ hH hI).mono ?_
  rintro e W3 ⟨rfl,hk⟩
  have hU:=hU.below hk
  go_wp2_with fail
  refine hK.out _ _ (hH.trans (hk.mono hH.size)) (λhH=>?_)
  clear hK K
  try go_simp
  refine Aj (rs:=[14]) (by kernel_rfl) (by simp) ?_
  refine(Ab rfl (λK hK=>?_) Ah)
  go_simp
  refine(CU.out _ _ hH hU).mono ?_
  rintro e W4 ⟨rfl,hk⟩
  go_wp2_with fail
  refine hK.out _ _ (hH.trans (hk.mono hH.size)) (λhH=>?_)
  clear hK K
  try go_simp
  refine tI 15 (sv (zp t2 [u])) ?_;go_simp
  refine AQ (by kernel_rfl) ?_ _
  try go_simp
  go_wp2_with fail
  go_ret
  exact⟨by rw[<-HE.out.1,<-HE.out.2];rfl,HB.out.trans (hH.mono HB.out.size)⟩
theorem PTo.frm{T:TypeId}{N b:Nat}{w w':World}{p':Ps}{M C:Value}(h:PTo T N b w M C w' p'):Frm (Mine b M C) w w':=by
 obtain⟨_,_,_,hf,_⟩:=h
 exact hf
theorem vf{n:Nat}(h:n<4294967296):IntKind.i64.wrap (n:Int)=(n:Int):=by
 simp[Zb,Zc,AS]
 omega
def Cu(w:World)(l x y:List UInt8)(d:Bool):Prop:=∀W,Below w.heap.size w W->Calls prog 20 #[sv l,.string ⟨#[32]⟩] W λe w'=>e=.returned (.tuple #[sv x,sv y,.bool d])/\Below W.heap.size W w'
def Nu(w:World)(b:Nat)(M C:Value)(y:List UInt8)(d:Bool)(ns:List Nat):Prop:=∀W,Below w.heap.size w W->Calls prog 41 #[sv y,.bool d] W λe w'=>(∃v,e=.returned (.tuple #[v,.bool true])/\Args w' b M C v ns)/\Below W.heap.size W w'
abbrev zal(N b:Nat)(w:World)(M C:Value)(l t:List UInt8)(q:Ps):Prop:=Calls prog 22 #[.pointer (some ⟨b,0,none⟩),sv l] w λe w'=>e=.returned (sv t)/\PTo 82 N b w M C w' q
def NoW(x:List UInt8)(ns:List Nat):Prop:=(x=[112,99]/\((ns.length:Int)==1)=false)\/(x=[115,101,116]/\((ns.length:Int)==2)=false)\/(x=[99,111,114,101]/\((ns.length:Int)==3)=false)\/(x=[109,111,100,101,108]/\((ns.length:Int)==1)=false)\/(x=[114,117,110]/\((ns.length:Int)==1)=false)\/(x=[119,104,97,116]/\((ns.length:Int)==1)=false)\/((x==[119,111,114,100,115])=false/\(x==[112,99])=false/\(x==[115,101,116])=false/\(x==[99,111,114,101])=false/\(x==[99,104,111,111,115,101])=false/\(x==[109,111,100,101,108])=false/\(x==[114,117,110])=false/\(x==[119,104,97,116])=false)
theorem zno{N b:Nat}{p:Ps}{M C:Value}(w:World)(h:PW 82 N w b p M C)(l x y:List UInt8)(d:Bool)(ns:List Nat)(hx:NoW x ns)(C1:Hid (Cu w l x y d))(C2:Hid (Nu w b M C y d ns)):zal N b w M C l (qW) (p):=by
 have HH:Hid (PW 82 N w b p M C):=h
 clear h
 rcases hx with⟨rfl,hf⟩|⟨rfl,hf⟩|⟨rfl,hf⟩|⟨rfl,hf⟩|⟨rfl,hf⟩|⟨rfl,hf⟩|⟨e0,e1,e2,e3,e4,e5,e6,e7⟩
 all_goals
  go_enter func22,ntmps22
  go_upto_region 5 with(first|(go_at_call 20;refine(C1.out _ (Aa _ _)).mono ?_;rintro e w1 ⟨rfl,hb1⟩)|(go_at_call 41;refine(C2.out _ hb1).mono ?_;rintro e w2 ⟨⟨v,rfl,ha⟩,hb2⟩))
  have B2:Hid (Below w.heap.size w w2):=hb1.trans (hb2.mono hb1.size)
  have P2:Hid (PW 82 N w2 b p M C):=HH.out.below B2.out
  have A2:Hid (Args w2 b M C v ns):=ha
  clear hb1 hb2 ha C1 C2 HH
  obtain⟨a,c,rfl,hcell⟩:=A2.out
  clear hcell
  go_wp2_with fail
  go_ret
  exact⟨rfl,PTo.ahead B2.out (PTo.same P2.out (Aa _ _))⟩
theorem zat{N b:Nat}{p:Ps}{M C:Value}(w:World)(h:PW 82 N w b p M C)(l y:List UInt8)(d:Bool)(ns:List Nat)(t:List UInt8)(q:Ps)(CW:Hid (∀W v,Below w.heap.size w W->Args W b M C v ns->Calls prog 42 #[.pointer (some ⟨b,0,none⟩),v] W λe w'=>e=.returned (sv t)/\PTo 82 N b W M C w' q))(C1:Hid (Cu w l [119,111,114,100,115] y d))(C2:Hid (Nu w b M C y d ns)):zal N b w M C l (t) (q):=by
 have HH:Hid (PW 82 N w b p M C):=h
 clear h
 go_enter func22,ntmps22
 go_upto_region 5 with(first|(go_at_call 20;refine(C1.out _ (Aa _ _)).mono ?_;rintro e w1 ⟨rfl,hb1⟩)|(go_at_call 41;refine(C2.out _ hb1).mono ?_;rintro e w2 ⟨⟨v,rfl,ha⟩,hb2⟩))
 have B2:Hid (Below w.heap.size w w2):=hb1.trans (hb2.mono hb1.size)
 have P2:Hid (PW 82 N w2 b p M C):=HH.out.below B2.out
 have A2:Hid (Args w2 b M C v ns):=ha
 clear hb1 hb2 ha C1 C2 HH
 have CW:=CW.out w2 v B2.out A2.out
 obtain⟨a,c,rfl,hcell⟩:=A2.out
 clear hcell
 go_wp2_with(go_at_call 42;refine CW.mono ?_;rintro e w3 ⟨rfl,ht⟩)
 go_ret
 exact⟨rfl,PTo.ahead B2.out ht⟩
theorem zcX{N b:Nat}{p:Ps}{M C:Value}(w:World)(h:PW 82 N w b p M C)(l y:List UInt8)(d:Bool)(ns:List Nat)(t:List UInt8)(q:Ps)(CW:Hid (∀W v,Below w.heap.size w W->Args W b M C v ns->Calls prog 45 #[.pointer (some ⟨b,0,none⟩),v] W λe w'=>e=.returned (sv t)/\PTo 82 N b W M C w' q))(C1:Hid (Cu w l [99,104,111,111,115,101] y d))(C2:Hid (Nu w b M C y d ns)):zal N b w M C l (t) (q):=by
 have HH:Hid (PW 82 N w b p M C):=h
 clear h
 go_enter func22,ntmps22
 go_upto_region 5 with(first|(go_at_call 20;refine(C1.out _ (Aa _ _)).mono ?_;rintro e w1 ⟨rfl,hb1⟩)|(go_at_call 41;refine(C2.out _ hb1).mono ?_;rintro e w2 ⟨⟨v,rfl,ha⟩,hb2⟩))
 have B2:Hid (Below w.heap.size w w2):=hb1.trans (hb2.mono hb1.size)
 have P2:Hid (PW 82 N w2 b p M C):=HH.out.below B2.out
 have A2:Hid (Args w2 b M C v ns):=ha
 clear hb1 hb2 ha C1 C2 HH
 have CW:=CW.out w2 v B2.out A2.out
 obtain⟨a,c,rfl,hcell⟩:=A2.out
 clear hcell
 go_wp2_with(go_at_call 45;refine CW.mono ?_;rintro e w3 ⟨rfl,ht⟩)
 go_ret
 exact⟨rfl,PTo.ahead B2.out ht⟩
theorem zll{N b:Nat}{p:Ps}{M C:Value}(w:World)(h:PW 82 N w b p M C)(l y:List UInt8)(d:Bool)(n:Nat)(hn:n<4294967296)(C1:Hid (Cu w l [112,99] y d))(C2:Hid (Nu w b M C y d [n])):zal N b w M C l (tOk) ({p with pc:=n}):=by
 have HH:Hid (PW 82 N w b p M C):=h
 clear h
 go_enter func22,ntmps22
 go_upto_region 5 with(first|(go_at_call 20;refine(C1.out _ (Aa _ _)).mono ?_;rintro e w1 ⟨rfl,hb1⟩)|(go_at_call 41;refine(C2.out _ hb1).mono ?_;rintro e w2 ⟨⟨v,rfl,ha⟩,hb2⟩))
 have B2:Hid (Below w.heap.size w w2):=hb1.trans (hb2.mono hb1.size)
 have P2:Hid (PW 82 N w2 b p M C):=HH.out.below B2.out
 have A2:Hid (Args w2 b M C v [n]):=ha
 clear hb1 hb2 ha C1 C2 HH
 obtain⟨a,c,rfl,hcell⟩:=A2.out
 obtain⟨g,o,rfl,hgw,hgm,hcl⟩:=hcell (by simp)
 have c0:w2.cell? ⟨g,o,none⟩=some (.int .u32 (n:Int)):=hcl 0 n rfl
 clear hcl hcell
 have k32:w2.cell? ⟨b,32,none⟩=some (.int .u32 p.pc):=P2.out.cell 32 (by omega)
 have f32:w2.frozen? ⟨b,32,none⟩=false:=P2.out.fro 32
 go_wp2_with fail
 go_ret
 refine⟨rfl,PTo.ahead B2.out (PTo.put (w':=w2) P2.out (by decide) (by decide) 32 _ _ rfl rfl λj hj=>?_)⟩
 unfold patD
 by_cases e:j=32<;>simp[e]
theorem zgv{N b:Nat}{p:Ps}{M C:Value}(w:World)(h:PW 82 N w b p M C)(l y:List UInt8)(d:Bool)(n:Nat)(hn:n<4294967296)(t:List UInt8)(CD:∀W,Below w.heap.size w W->Calls prog 47 #[.int .u32 (n:Int)] W λe w'=>e=.returned (sv t)/\Below W.heap.size W w')(C1:Hid (Cu w l [119,104,97,116] y d))(C2:Hid (Nu w b M C y d [n])):zal N b w M C l (t) (p):=by
 have HH:Hid (PW 82 N w b p M C):=h
 clear h
 go_enter func22,ntmps22
 go_upto_region 5 with(first|(go_at_call 20;refine(C1.out _ (Aa _ _)).mono ?_;rintro e w1 ⟨rfl,hb1⟩)|(go_at_call 41;refine(C2.out _ hb1).mono ?_;rintro e w2 ⟨⟨v,rfl,ha⟩,hb2⟩))
 have B2:Hid (Below w.heap.size w w2):=hb1.trans (hb2.mono hb1.size)
 have P2:Hid (PW 82 N w2 b p M C):=HH.out.below B2.out
 have A2:Hid (Args w2 b M C v [n]):=ha
 clear hb1 hb2 ha C1 C2 HH
 obtain⟨a,c,rfl,hcell⟩:=A2.out
 obtain⟨g,o,rfl,hgw,hgm,hcl⟩:=hcell (by simp)
 have c0:w2.cell? ⟨g,o,none⟩=some (.int .u32 (n:Int)):=hcl 0 n rfl
 clear hcl hcell
 have CW:=CD w2 B2.out
 clear CD
 go_wp2_with(go_at_call 47;refine CW.mono ?_;rintro e w3 ⟨rfl,hb3⟩)
 go_ret
 exact⟨rfl,PTo.ahead B2.out (PTo.same P2.out hb3)⟩
theorem zec{N b:Nat}{p:Ps}{M C:Value}(w:World)(h:PW 82 N w b p M C)(l y:List UInt8)(d:Bool)(r n:Nat)(h0:r<4294967296)(h1:n<4294967296)(t:List UInt8)(q:Ps)(CW:Hid (∀W,Below w.heap.size w W->Calls prog 43 #[.pointer (some ⟨b,0,none⟩),.int .u32 (r:Int),.int .u32 (n:Int)] W λe w'=>e=.returned (sv t)/\PTo 82 N b W M C w' q))(C1:Hid (Cu w l [115,101,116] y d))(C2:Hid (Nu w b M C y d [r,n])):zal N b w M C l (t) (q):=by
 have HH:Hid (PW 82 N w b p M C):=h
 clear h
 go_enter func22,ntmps22
 go_upto_region 5 with(first|(go_at_call 20;refine(C1.out _ (Aa _ _)).mono ?_;rintro e w1 ⟨rfl,hb1⟩)|(go_at_call 41;refine(C2.out _ hb1).mono ?_;rintro e w2 ⟨⟨v,rfl,ha⟩,hb2⟩))
 have B2:Hid (Below w.heap.size w w2):=hb1.trans (hb2.mono hb1.size)
 have P2:Hid (PW 82 N w2 b p M C):=HH.out.below B2.out
 have A2:Hid (Args w2 b M C v [r,n]):=ha
 clear hb1 hb2 ha C1 C2 HH
 obtain⟨a,c,rfl,hcell⟩:=A2.out
 obtain⟨g,o,rfl,hgw,hgm,hcl⟩:=hcell (by simp)
 have c0:w2.cell? ⟨g,o,none⟩=some (.int .u32 (r:Int)):=hcl 0 r rfl
 have c1:w2.cell? ⟨g,o+1,none⟩=some (.int .u32 (n:Int)):=hcl 1 n rfl
 have x0:=vf h0
 have x1:=vf h1
 clear hcl hcell A2
 go_upto_region 11 with fail
 refine WX (S:=λw'=>Frm (Mine b M C) w2 w') (by kernel_rfl) (Frm.of ((Aa _ _).drew)) (λhH=>?_)
 have hB0:Below w2.heap.size w2 w2.drew:=(Aa _ _).drew
 generalize w2.drew=W0 at hH hB0⊢
 refine tI 0 (.pointer (some ⟨b,0,none⟩)) ?_;go_simp
 refine tI 1 (.slice (some ⟨g,o,none⟩) 2 c) ?_;go_simp
 refine tI 2 (.pointer (some ⟨g,o,none⟩)) ?_;go_simp
 refine tH 3 (.int .u32 (r:Int)) rfl (Or.inl ⟨by rfl,by intro wz hSw;have hc:=(zR (i:=o) (hSw.block g hgw hgm)).trans c0;go_simp⟩) hH ?_;go_simp
 refine tI 4 (.slice (some ⟨g,o,none⟩) 2 c) ?_;go_simp
 refine tI 5 (.pointer (some ⟨g,o+1,none⟩)) ?_;go_simp
 refine tH 6 (.int .u32 (n:Int)) rfl (Or.inl ⟨by rfl,by intro wz hSw;have hc:=(zR (i:=o+1) (hSw.block g hgw hgm)).trans c1;go_simp⟩) hH ?_;go_simp
 refine Aj (rs:=[7]) (by kernel_rfl) (by simp) ?_
 refine(Ab rfl (λK hK=>?_) Ah)
 go_simp
 refine(CW.out _ (B2.out.trans (hB0.mono B2.out.size))).mono ?_
 rintro e w3 ⟨rfl,ht⟩
 have ht:Hid (PTo 82 N b W0 M C w3 _):=ht
 go_wp2_with fail
 refine hK.out _ _ (hH.trans ht.out.frm λi hi=>.inl hi) (λhH=>?_)
 clear hK K
 try go_simp
 refine tI 8 (sv t) ?_;go_simp
 refine AQ (by kernel_rfl) ?_ _
 try go_simp
 go_wp2_with fail
 go_ret
 exact⟨rfl,PTo.ahead (B2.out.trans (hB0.mono B2.out.size)) ht.out⟩
theorem zbM{N b:Nat}{p:Ps}{M C:Value}(w:World)(h:PW 82 N w b p M C)(l y:List UInt8)(d:Bool)(x z u:Nat)(h0:x<4294967296)(h1:z<4294967296)(h2:u<4294967296)(t:List UInt8)(q:Ps)(CW:Hid (∀W,Below w.heap.size w W->Calls prog 44 #[.pointer (some ⟨b,0,none⟩),.agg #[.int .i64 (x:Int),.int .i64 (z:Int),.int .i64 (u:Int)]] W λe w'=>e=.returned (sv t)/\PTo 82 N b W M C w' q))(C1:Hid (Cu w l [99,111,114,101] y d))(C2:Hid (Nu w b M C y d [x,z,u])):zal N b w M C l (t) (q):=by
 have HH:Hid (PW 82 N w b p M C):=h
 clear h
 go_enter func22,ntmps22
 go_upto_region 5 with(first|(go_at_call 20;refine(C1.out _ (Aa _ _)).mono ?_;rintro e w1 ⟨rfl,hb1⟩)|(go_at_call 41;refine(C2.out _ hb1).mono ?_;rintro e w2 ⟨⟨v,rfl,ha⟩,hb2⟩))
 have B2:Hid (Below w.heap.size w w2):=hb1.trans (hb2.mono hb1.size)
 have P2:Hid (PW 82 N w2 b p M C):=HH.out.below B2.out
 have A2:Hid (Args w2 b M C v [x,z,u]):=ha
 clear hb1 hb2 ha C1 C2 HH
 obtain⟨a,c,rfl,hcell⟩:=A2.out
 obtain⟨g,o,rfl,hgw,hgm,hcl⟩:=hcell (by simp)
 have c0:w2.cell? ⟨g,o,none⟩=some (.int .u32 (x:Int)):=hcl 0 x rfl
 have c1:w2.cell? ⟨g,o+1,none⟩=some (.int .u32 (z:Int)):=hcl 1 z rfl
 have c2:w2.cell? ⟨g,o+2,none⟩=some (.int .u32 (u:Int)):=hcl 2 u rfl
 have x0:=vf h0
 have x1:=vf h1
 have x2:=vf h2
 clear hcl hcell A2
 go_upto_region 13 with fail
 refine WX (S:=λw'=>Frm (Mine b M C) w2 w') (by kernel_rfl) (Frm.of ((Aa _ _).drew)) (λhH=>?_)
 have hB0:Below w2.heap.size w2 w2.drew:=(Aa _ _).drew
 generalize w2.drew=W0 at hH hB0⊢
 refine tI 0 (.pointer (some ⟨b,0,none⟩)) ?_;go_simp
 refine tI 1 (.slice (some ⟨g,o,none⟩) 3 c) ?_;go_simp
 refine tI 2 (.pointer (some ⟨g,o,none⟩)) ?_;go_simp
 refine tH 3 (.int .u32 (x:Int)) rfl (Or.inl ⟨by rfl,by intro wz hSw;have hc:=(zR (i:=o) (hSw.block g hgw hgm)).trans c0;go_simp⟩) hH ?_;go_simp
 refine tI 4 (.int .i64 (x:Int)) ?_;go_simp
 refine tI 5 (.slice (some ⟨g,o,none⟩) 3 c) ?_;go_simp
 refine tI 6 (.pointer (some ⟨g,o+1,none⟩)) ?_;go_simp
 refine tH 7 (.int .u32 (z:Int)) rfl (Or.inl ⟨by rfl,by intro wz hSw;have hc:=(zR (i:=o+1) (hSw.block g hgw hgm)).trans c1;go_simp⟩) hH ?_;go_simp
 refine tI 8 (.int .i64 (z:Int)) ?_;go_simp
 refine tI 9 (.slice (some ⟨g,o,none⟩) 3 c) ?_;go_simp
 refine tI 10 (.pointer (some ⟨g,o+2,none⟩)) ?_;go_simp
 refine tH 11 (.int .u32 (u:Int)) rfl (Or.inl ⟨by rfl,by intro wz hSw;have hc:=(zR (i:=o+2) (hSw.block g hgw hgm)).trans c2;go_simp⟩) hH ?_;go_simp
 refine tI 12 (.int .i64 (u:Int)) ?_;go_simp
 refine tI 13 (.agg #[.int .i64 (x:Int),.int .i64 (z:Int),.int .i64 (u:Int)]) ?_;go_simp
 refine Aj (rs:=[14]) (by kernel_rfl) (by simp) ?_
 refine(Ab rfl (λK hK=>?_) Ah)
 go_simp
 refine(CW.out _ (B2.out.trans (hB0.mono B2.out.size))).mono ?_
 rintro e w3 ⟨rfl,ht⟩
 have ht:Hid (PTo 82 N b W0 M C w3 _):=ht
 go_wp2_with fail
 refine hK.out _ _ (hH.trans ht.out.frm λi hi=>.inl hi) (λhH=>?_)
 clear hK K
 try go_simp
 refine tI 15 (sv t) ?_;go_simp
 refine AQ (by kernel_rfl) ?_ _
 try go_simp
 go_wp2_with fail
 go_ret
 exact⟨rfl,PTo.ahead (B2.out.trans (hB0.mono B2.out.size)) ht.out⟩
theorem zgw{N b:Nat}{p:Ps}{M C:Value}(w:World)(h:PW 82 N w b p M C)(l x y:List UInt8)(d:Bool)(C1:Hid (Cu w l x y d))
  (C2:Hid (∀W,Below w.heap.size w W->Calls prog 41 #[sv y,.bool d] W λe w'=>e=.returned (.tuple #[.slice none 0 0,.bool false])/\Below W.heap.size W w')):zal N b w M C l qW p:=by
 have HH:Hid (PW 82 N w b p M C):=h
 clear h
 go_enter func22,ntmps22
 go_wp2_with(first|(go_at_call 20;refine(C1.out _ (Aa _ _)).mono ?_;rintro e w1 ⟨rfl,hb1⟩)|(go_at_call 41;refine(C2.out _ hb1).mono ?_;rintro e w2 ⟨rfl,hb2⟩))
 go_ret
 exact⟨rfl,PTo.same HH.out (hb1.trans (hb2.mono hb1.size))⟩
theorem zc{N:Nat}{w w':World}(h:Below N w w'){b:Nat}(hb:N<=b)(cs:Array Value):Below N w (w'.setRow b cs):=
 ⟨h.os,h.tape,h.output,by simpa using h.size,λk hk=>(ZN w' b k cs (by omega)).trans (h.block k hk)⟩
theorem zed{o:Ou}(ho:OuOk o)(v:Value)(H:Array Value)(w:World)(hp:Pow w)(ht:Tells w v H o):
  Calls prog 46 #[v,.agg H,.int .i64 o.er] w λe w'=>e=.returned (sv (ranL o))/\Below w.heap.size w w':=by
 obtain⟨er,many,st,ca,pc,told⟩:=o
 obtain⟨h1,h2,h3,h4,h5,h6,h7⟩:=ho
 by_cases h0:er=0
 ·subst h0
  obtain⟨ot,tl,hc,ht2,a,b,c⟩:=ht.yes rfl
  have ht2:told=zA ot tl many:=ht2
  subst ht2
  exact ziT v H pc st ca many ot tl ht.size a b c h2 h5 h3 h4 h6 w hp hc
 ·have e:ranL ⟨er,many,st,ca,pc,told⟩=zp [98,97,100] [er]:=if_neg h0
  rw[e]
  exact ziS v H er ht.size (by simpa using h0) h1.1 h1.2 w hp
theorem Tells.set{w:World}{v:Value}{H:Array Value}{o:Ou}(h:Tells w v H o){z:Nat}{cs:Array Value}{T:TypeId}{fr:Nat×Nat}(hz:w.heap[z]?=some (.cells cs T fr))(hk:∀(i:Nat) (bb:Bool),cs[i]?≠some (Value.bool bb))(X:Array Value):Tells (w.setRow z X) v H o:=
 ⟨h.size,h.one,h.sl,λh0=>by
  obtain⟨ot,tl,⟨a,c,g,hv,hc,hp,hg,h1⟩,r⟩:=h.yes h0
  refine⟨ot,tl,⟨a,c,g,hv,hc,λhn=>?_,hg,h1⟩,r⟩
  obtain⟨b,o,ha,hlt,hcell⟩:=hp hn
  have hne:b≠z:=λe=>by
   subst e
   have h9:=hcell 0 9 hn (by omega)
   rw[Ae _ _ _ _ _ _ hz,(hg 0 hn).1]at h9
   exact hk _ _ h9
  exact⟨b,o,ha,by simpa using hlt,λk j hk hj=>(zR (ZN w z b X hne)).trans (hcell k j hk hj)⟩⟩
theorem qt:(prog.info? 32).map (·.size)=some 40:=by kernel_rfl
theorem zaW(p:Ps):(rowD (hatD p) 35).toList.length=35:=by rw[AL,jI]
theorem PW.hart{T:TypeId}{N:Nat}{w:World}{b:Nat}{p:Ps}{M C:Value}(h:PW T N w b p M C):w.rangeAt b 0 (rowD (hatD p) 35).toList:=znn h.row (by omega) λj hj=>by
 rw[Zp]
 unfold patD hatD
 by_cases h1:j<32
 ·simp[h1]
 ·by_cases h2:j=32
  ·simp[h2]
  ·simp[h1,h2,hj]
theorem zff{N b:Nat}{p:Ps}{M C:Value}(w:World)(h:PW 82 N w b p M C)(l y:List UInt8)(d:Bool)(n:Nat)(hn:n<4294967296)(O:Ou)(CR:Hid (∀W,Below w.heap.size w W->Calls prog 17 #[hvD p,M,.int .i64 (n:Int)] W λe w'=>RanM w' e O/\Below W.heap.size W w'))(CA:Hid (∀W v H,Below w.heap.size w W->Tells W v H O->Calls prog 46 #[v,.agg H,.int .i64 O.er] W λe w'=>e=.returned (sv (ranL O))/\Below W.heap.size W w'))(C1:Hid (Cu w l [109,111,100,101,108] y d))(C2:Hid (Nu w b M C y d [n])):zal N b w M C l (ranL O) (p):=by
 have HH:Hid (PW 82 N w b p M C):=h
 clear h
 go_enter func22,ntmps22
 go_upto_region 5 with(first|(go_at_call 20;refine(C1.out _ (Aa _ _)).mono ?_;rintro e w1 ⟨rfl,hb1⟩)|(go_at_call 41;refine(C2.out _ hb1).mono ?_;rintro e w2 ⟨⟨v,rfl,ha⟩,hb2⟩))
 have B2:Hid (Below w.heap.size w w2):=hb1.trans (hb2.mono hb1.size)
 have P2:Hid (PW 82 N w2 b p M C):=HH.out.below B2.out
 have A2:Hid (Args w2 b M C v [n]):=ha
 clear hb1 hb2 ha C1 C2 HH
 obtain⟨a,c,rfl,hcell⟩:=A2.out
 obtain⟨g,o,rfl,hgw,_,hcl⟩:=hcell (by simp)
 have c0:w2.cell? ⟨g,o,none⟩=some (.int .u32 (n:Int)):=hcl 0 n rfl
 clear hcl hcell
 have wn:=vf hn
 have HR:Hid (∀W,Below w2.heap.size w2 W->W.rangeAt b 0 (rowD (hatD p) 35).toList):=λW hW=>(P2.out.below hW).hart
 obtain⟨L,hL⟩:∃L,L=(rowD (hatD p) 35).toList:=⟨_,rfl⟩
 have HL:Hid ((prog.info? 27).map (·.size)=some L.length):=by rw[hL,zaW];exact zq
 have CR:Hid (∀W,Below w2.heap.size w2 W->Calls prog 17 #[.agg L.toArray,M,.int .i64 (n:Int)] W λe w'=>RanM w' e O/\Below W.heap.size W w'):=λW hW=>by rw[hL,AD];exact CR.out W (B2.out.trans (hW.mono B2.out.size))
 have CA:Hid (∀W v H,Below w2.heap.size w2 W->Tells W v H O->Calls prog 46 #[v,.agg H,.int .i64 O.er] W λe w'=>e=.returned (sv (ranL O))/\Below W.heap.size W w'):=λW v H hW ht=>CA.out W v H (B2.out.trans (hW.mono B2.out.size)) ht
 rw[<-hL]at HR
 have k35:w2.cell? ⟨b,35,none⟩=some M:=P2.out.cell 35 (by omega)
 have hbw:b<w2.heap.size:=P2.out.lt
 have BB:Hid (Below w.heap.size w w2/\PW 82 N w2 b p M C):=⟨B2.out,P2.out⟩
 clear hL A2 P2 B2 hn
 obtain⟨er,her⟩:∃er,er=O.er:=⟨_,rfl⟩
 have HE:Hid (er=O.er):=her
 clear her
 go_upto_region 17 with fail
 refine WX (S:=λw'=>Below w2.heap.size w2 w') (by kernel_rfl) ((Aa _ _).drew) (λhH=>?_)
 generalize w2.drew=W0 at hH⊢
 refine tI 0 (.pointer (some ⟨b,0,none⟩)) ?_;go_simp
 refine tI 1 (.pointer (some ⟨b,0,none⟩)) ?_;go_simp
 refine tI 2 (.pointer (some ⟨b,0,none⟩)) ?_;go_simp
 refine tH 3 (.agg (L).toArray) rfl (ZR (by rfl) 27 _ rfl b 0 rfl (L) _ (λwz hSw=>HR.out wz hSw) underlying27 rfl HL.out) hH ?_;go_simp
 refine tI 4 (.pointer (some ⟨b,0,none⟩)) ?_;go_simp
 refine tI 5 (.pointer (some ⟨b,0,none⟩)) ?_;go_simp
 refine tI 6 (.pointer (some ⟨b,35,none⟩)) ?_;go_simp
 refine tH 7 (M) rfl (Or.inl ⟨by rfl,by intro wz hSw;have hc:=(hSw.cell (p:=⟨b,35,none⟩) hbw).trans k35;go_simp⟩) hH ?_;go_simp
 refine tI 8 (.slice (some ⟨g,o,none⟩) 1 c) ?_;go_simp
 refine tI 9 (.pointer (some ⟨g,o,none⟩)) ?_;go_simp
 refine tH 10 (.int .u32 (n:Int)) rfl (Or.inl ⟨by rfl,by intro wz hSw;have hc:=(hSw.cell (p:=⟨g,o,none⟩) hgw).trans c0;go_simp⟩) hH ?_;go_simp
 refine tI 11 (.int .i64 (n:Int)) ?_;go_simp
 refine Aj (rs:=[12,18]) (by kernel_rfl) (by simp) ?_
 refine(Ab rfl (λK hK=>?_) (Ab rfl (λK hK=>?_) Ah))
 case' _=>
  go_simp
  refine(CR.out _ hH).mono ?_
  rintro e W3 ⟨⟨v,H,m,rfl,ht⟩,hk⟩
  rw[<-HE.out]
  go_wp2_with fail
  refine hK.out _ _ (hH.trans (hk.mono hH.size)) (λhH=>?_)
  clear hK K
  try go_simp
  refine tI 13 (.tuple #[v,.agg H,m,.int .i64 er]) ?_;go_simp
  refine tI 14 (v) ?_;go_simp
  refine tI 15 (.agg H) ?_;go_simp
  refine tI 16 (m) ?_;go_simp
  refine tI 17 (.int .i64 er) ?_;go_simp
  refine Aj (rs:=[18]) (by kernel_rfl) (by simp) ?_
  refine(Ab rfl (λK hK=>?_) Ah)
  have hzs:w2.heap.size<=W3.heap.size:=hH.size
  go_simp
  refine hK.out _ _ (hH.alloc hH.size _) (λhH2=>?_)
  clear hK K hH
  try go_simp
  revert hH2
  refine zh (Φ:=λW=>Below _ _ W->wpAnyH _ _ _ _ _ _ _ _ W) ?_
  intro V3 eZ hz hH
  have HT:Hid (Tells V3 v H O):=ht.below hz
  clear hz ht hk
  generalize W3.heap.size=z at eZ hzs⊢
 rotate_left
 case' _=>
  have hzs:w2.heap.size<=W0.heap.size:=hH.size
  go_simp
  refine hK.out _ _ (hH.alloc hH.size _) (λhH2=>?_)
  clear hK K hH
  try go_simp
  revert hH2
  refine zh (Φ:=λW=>Below _ _ W->wpAnyH _ _ _ _ _ _ _ _ W) ?_
  intro W1 eZ hz hH
  clear hz
  refine Aj (rs:=[12]) (by kernel_rfl) (by simp) ?_
  refine(Ab rfl (λK hK=>?_) Ah)
  go_simp
  refine(CR.out _ hH).mono ?_
  rintro e V3 ⟨⟨v,H,m,rfl,ht⟩,hk⟩
  rw[<-HE.out]
  go_wp2_with fail
  refine hK.out _ _ (hH.trans (hk.mono hH.size)) (λhH=>?_)
  clear hK K
  try go_simp
  have HT:Hid (Tells V3 v H O):=ht
  refine tI 13 (.tuple #[v,.agg H,m,.int .i64 er]) ?_;go_simp
  refine tI 14 (v) ?_;go_simp
  refine tI 15 (.agg H) ?_;go_simp
  refine tI 16 (m) ?_;go_simp
  refine tI 17 (.int .i64 er) ?_;go_simp
  have eZ:=(hk.block W0.heap.size (Af.1 eZ).1).trans eZ
  clear ht hk
  generalize W0.heap.size=z at eZ hzs⊢
 rotate_left
 all_goals
  refine tI 19 (v) ?_;go_simp
  have HZ:Hid (w2.heap.size<=z):=hzs
  have HH:Hid (H.size=35/\H.all (·.oneCell')=true):=⟨HT.out.size,HT.out.one⟩
  refine Aj (rs:=[20]) (by kernel_rfl) (by simp) ?_
  refine(Ab rfl (λK hK=>?_) Ah)
  rw[if_pos (by rfl)]
  refine wp_store_row 27 _ _ rfl _ _ rfl rfl 27 _ eZ (by rw[HH.out.1];exact zq) (by rw[HH.out.1];rfl) HH.out.2 ?_
  refine hK.out _ _ (zc hH HZ.out _) (λhH=>?_)
  clear hK K
  try go_simp
  have RZ:Hid ((V3.setRow z H).heap[z]?=some (.cells H 27 (0,0))):=Zz _ _ _ _ _ _ eZ
  have TZ:Hid (Tells (V3.setRow z H) v H O):=HT.out.set eZ (λi bb h=>by have:=Zy h;simp at this) H
  refine tI 21 (m) ?_;go_simp
  refine tI 22 (.int .i64 er) ?_;go_simp
  refine AQ (by kernel_rfl) ?_ _
  try go_simp
  generalize V3.setRow z H=V at hH RZ TZ⊢
  have CE:=CA.out V v H hH TZ.out
  rw[<-HE.out]at CE
  have HI:Hid ((prog.info? 27).map (·.size)=some H.size):=by show _=_;rw[HH.out.1];exact zq
  clear eZ HT
  go_upto_region 18 with fail
  go_wp2_with(first|(go_at_call 46;refine CE.mono ?_;rintro e w5 ⟨rfl,hb5⟩)|(refine wpList_load_row rfl 27 _ rfl _ rfl 27 _ (0,0) _ RZ.out underlying27 rfl HI.out ?_))
  go_ret
  exact⟨rfl,PTo.ahead BB.out.1 (PTo.same BB.out.2 (hH.trans (hb5.mono hH.size)))⟩
theorem ziV{N b:Nat}{p:Ps}{M C:Value}(w:World)(h:PW 82 N w b p M C)(l y:List UInt8)(d:Bool)(n:Nat)(hn:n<4294967296)(O:Ou)(CR:Hid (∀W,Below w.heap.size w W->Calls prog 6 #[cfD p,hvD p,M,C,.int .i64 (n:Int)] W λe w'=>RanC w' e O/\Below W.heap.size W w'))(CA:Hid (∀W v H,Below w.heap.size w W->Tells W v H O->Calls prog 46 #[v,.agg H,.int .i64 O.er] W λe w'=>e=.returned (sv (ranL O))/\Below W.heap.size W w'))(C1:Hid (Cu w l [114,117,110] y d))(C2:Hid (Nu w b M C y d [n])):zal N b w M C l (ranL O) (p):=by
 have HH:Hid (PW 82 N w b p M C):=h
 clear h
 go_enter func22,ntmps22
 go_upto_region 5 with(first|(go_at_call 20;refine(C1.out _ (Aa _ _)).mono ?_;rintro e w1 ⟨rfl,hb1⟩)|(go_at_call 41;refine(C2.out _ hb1).mono ?_;rintro e w2 ⟨⟨v,rfl,ha⟩,hb2⟩))
 have B2:Hid (Below w.heap.size w w2):=hb1.trans (hb2.mono hb1.size)
 have P2:Hid (PW 82 N w2 b p M C):=HH.out.below B2.out
 have A2:Hid (Args w2 b M C v [n]):=ha
 clear hb1 hb2 ha C1 C2 HH
 obtain⟨a,c,rfl,hcell⟩:=A2.out
 obtain⟨g,o,rfl,hgw,_,hcl⟩:=hcell (by simp)
 have c0:w2.cell? ⟨g,o,none⟩=some (.int .u32 (n:Int)):=hcl 0 n rfl
 clear hcl hcell
 have wn:=vf hn
 have HR:Hid (∀W,Below w2.heap.size w2 W->W.rangeAt b 0 (rowD (hatD p) 35).toList):=λW hW=>(P2.out.below hW).hart
 obtain⟨L,hL⟩:∃L,L=(rowD (hatD p) 35).toList:=⟨_,rfl⟩
 have HL:Hid ((prog.info? 27).map (·.size)=some L.length):=by rw[hL,zaW];exact zq
 have CR:Hid (∀W,Below w2.heap.size w2 W->Calls prog 6 #[cfD p,.agg L.toArray,M,C,.int .i64 (n:Int)] W λe w'=>RanC w' e O/\Below W.heap.size W w'):=λW hW=>by rw[hL,AD];exact CR.out W (B2.out.trans (hW.mono B2.out.size))
 have CA:Hid (∀W v H,Below w2.heap.size w2 W->Tells W v H O->Calls prog 46 #[v,.agg H,.int .i64 O.er] W λe w'=>e=.returned (sv (ranL O))/\Below W.heap.size W w'):=λW v H hW ht=>CA.out W v H (B2.out.trans (hW.mono B2.out.size)) ht
 rw[<-hL]at HR
 have k35:w2.cell? ⟨b,35,none⟩=some M:=P2.out.cell 35 (by omega)
 have k39:w2.cell? ⟨b,39,none⟩=some C:=P2.out.cell 39 (by omega)
 have k36:w2.cell? ⟨b,36,none⟩=some (.int .i64 p.wi):=P2.out.cell 36 (by omega)
 have k37:w2.cell? ⟨b,37,none⟩=some (.int .i64 p.ph):=P2.out.cell 37 (by omega)
 have k38:w2.cell? ⟨b,38,none⟩=some (.int .i64 p.wd):=P2.out.cell 38 (by omega)
 have hbw:b<w2.heap.size:=P2.out.lt
 have BB:Hid (Below w.heap.size w w2/\PW 82 N w2 b p M C):=⟨B2.out,P2.out⟩
 clear hL A2 P2 B2 hn
 obtain⟨er,her⟩:∃er,er=O.er:=⟨_,rfl⟩
 have HE:Hid (er=O.er):=her
 clear her
 go_upto_region 20 with fail
 refine WX (S:=λw'=>Below w2.heap.size w2 w') (by kernel_rfl) ((Aa _ _).drew) (λhH=>?_)
 generalize w2.drew=W0 at hH⊢
 refine tI 0 (.pointer (some ⟨b,0,none⟩)) ?_;go_simp
 refine tI 1 (.pointer (some ⟨b,0,none⟩)) ?_;go_simp
 refine tI 2 (.pointer (some ⟨b,36,none⟩)) ?_;go_simp
 refine tH 3 (.agg #[.int .i64 p.wi,.int .i64 p.ph,.int .i64 p.wd]) rfl (Or.inl ⟨by rfl,by intro wz hSw;have hc0:=(hSw.cell (p:=⟨b,36,none⟩) hbw).trans k36;have hc1:=(hSw.cell (p:=⟨b,37,none⟩) hbw).trans k37;have hc2:=(hSw.cell (p:=⟨b,38,none⟩) hbw).trans k38;go_simp⟩) hH ?_;go_simp
 refine tI 4 (.pointer (some ⟨b,0,none⟩)) ?_;go_simp
 refine tI 5 (.pointer (some ⟨b,0,none⟩)) ?_;go_simp
 refine tI 6 (.pointer (some ⟨b,0,none⟩)) ?_;go_simp
 refine tH 7 (.agg (L).toArray) rfl (ZR (by rfl) 27 _ rfl b 0 rfl (L) _ (λwz hSw=>HR.out wz hSw) underlying27 rfl HL.out) hH ?_;go_simp
 refine tI 8 (.pointer (some ⟨b,0,none⟩)) ?_;go_simp
 refine tI 9 (.pointer (some ⟨b,0,none⟩)) ?_;go_simp
 refine tI 10 (.pointer (some ⟨b,35,none⟩)) ?_;go_simp
 refine tH 11 (M) rfl (Or.inl ⟨by rfl,by intro wz hSw;have hc:=(hSw.cell (p:=⟨b,35,none⟩) hbw).trans k35;go_simp⟩) hH ?_;go_simp
 refine tI 12 (.pointer (some ⟨b,0,none⟩)) ?_;go_simp
 refine tI 13 (.pointer (some ⟨b,0,none⟩)) ?_;go_simp
 refine tI 14 (.pointer (some ⟨b,39,none⟩)) ?_;go_simp
 refine tH 15 (C) rfl (Or.inl ⟨by rfl,by intro wz hSw;have hc:=(hSw.cell (p:=⟨b,39,none⟩) hbw).trans k39;go_simp⟩) hH ?_;go_simp
 refine tI 16 (.slice (some ⟨g,o,none⟩) 1 c) ?_;go_simp
 refine tI 17 (.pointer (some ⟨g,o,none⟩)) ?_;go_simp
 refine tH 18 (.int .u32 (n:Int)) rfl (Or.inl ⟨by rfl,by intro wz hSw;have hc:=(hSw.cell (p:=⟨g,o,none⟩) hgw).trans c0;go_simp⟩) hH ?_;go_simp
 refine tI 19 (.int .i64 (n:Int)) ?_;go_simp
 refine Aj (rs:=[20,24]) (by kernel_rfl) (by simp) ?_
 refine(Ab rfl (λK hK=>?_) (Ab rfl (λK hK=>?_) Ah))
 case' _=>
  go_simp
  refine(CR.out _ hH).mono ?_
  rintro e W3 ⟨⟨Y,v,H,rfl,hY1,hY2,hY3,hY4,ht⟩,hk⟩
  rw[<-HE.out]
  go_wp2_with fail
  refine hK.out _ _ (hH.trans (hk.mono hH.size)) (λhH=>?_)
  clear hK K
  try go_simp
  have HY:Hid (Y.size=40/\Y.all (·.oneCell')=true/\Y[0]?=some v/\∀j,j<35->Y[1+j]?=H[j]?):=⟨hY1,hY2,hY3,hY4⟩
  clear hY1 hY2 hY3 hY4
  refine tI 21 (.tuple #[.agg Y,.int .i64 er]) ?_;go_simp
  refine tI 22 (.agg Y) ?_;go_simp
  refine tI 23 (.int .i64 er) ?_;go_simp
  refine Aj (rs:=[24]) (by kernel_rfl) (by simp) ?_
  refine(Ab rfl (λK hK=>?_) Ah)
  have hzs:w2.heap.size<=W3.heap.size:=hH.size
  go_simp
  refine hK.out _ _ (hH.alloc hH.size _) (λhH2=>?_)
  clear hK K hH
  try go_simp
  revert hH2
  refine zh (Φ:=λW=>Below _ _ W->wpAnyH _ _ _ _ _ _ _ _ W) ?_
  intro V3 eZ hz hH
  have HT:Hid (Tells V3 v H O):=ht.below hz
  clear hz ht hk
  generalize W3.heap.size=z at eZ hzs⊢
 rotate_left
 case' _=>
  have hzs:w2.heap.size<=W0.heap.size:=hH.size
  go_simp
  refine hK.out _ _ (hH.alloc hH.size _) (λhH2=>?_)
  clear hK K hH
  try go_simp
  revert hH2
  refine zh (Φ:=λW=>Below _ _ W->wpAnyH _ _ _ _ _ _ _ _ W) ?_
  intro W1 eZ hz hH
  clear hz
  refine Aj (rs:=[20]) (by kernel_rfl) (by simp) ?_
  refine(Ab rfl (λK hK=>?_) Ah)
  go_simp
  refine(CR.out _ hH).mono ?_
  rintro e V3 ⟨⟨Y,v,H,rfl,hY1,hY2,hY3,hY4,ht⟩,hk⟩
  rw[<-HE.out]
  go_wp2_with fail
  refine hK.out _ _ (hH.trans (hk.mono hH.size)) (λhH=>?_)
  clear hK K
  try go_simp
  have HT:Hid (Tells V3 v H O):=ht
  have HY:Hid (Y.size=40/\Y.all (·.oneCell')=true/\Y[0]?=some v/\∀j,j<35->Y[1+j]?=H[j]?):=⟨hY1,hY2,hY3,hY4⟩
  clear hY1 hY2 hY3 hY4
  refine tI 21 (.tuple #[.agg Y,.int .i64 er]) ?_;go_simp
  refine tI 22 (.agg Y) ?_;go_simp
  refine tI 23 (.int .i64 er) ?_;go_simp
  have eZ:=(hk.block W0.heap.size (Af.1 eZ).1).trans eZ
  clear ht hk
  generalize W0.heap.size=z at eZ hzs⊢
 rotate_left
 all_goals
  have HZ:Hid (w2.heap.size<=z):=hzs
  refine Aj (rs:=[25]) (by kernel_rfl) (by simp) ?_
  refine(Ab rfl (λK hK=>?_) Ah)
  rw[if_pos (by rfl)]
  refine wp_store_row 32 _ _ rfl _ _ rfl rfl 32 _ eZ (by rw[HY.out.1];exact qt) (by rw[HY.out.1];rfl) HY.out.2.1 ?_
  refine hK.out _ _ (zc hH HZ.out _) (λhH=>?_)
  clear hK K
  try go_simp
  have RZ:Hid ((V3.setRow z Y).heap[z]?=some (.cells Y 32 (0,0))):=Zz _ _ _ _ _ _ eZ
  have TZ:Hid (Tells (V3.setRow z Y) v H O):=HT.out.set eZ (λi bb h=>by have:=Zy h;simp at this) Y
  refine tI 26 (.int .i64 er) ?_;go_simp
  refine AQ (by kernel_rfl) ?_ _
  try go_simp
  generalize V3.setRow z Y=V at hH RZ TZ⊢
  have CE:Calls prog 46 #[v,.agg H.toList.toArray,.int .i64 er] V λe w'=>e=.returned (sv (ranL O))/\Below V.heap.size V w':=by rw[HE.out,AD];exact CA.out V v H hH TZ.out
  have HI:Hid ((prog.info? 27).map (·.size)=some H.toList.length):=by show _=_;rw[AL,TZ.out.size];exact zq
  have HG:Hid (V.rangeAt z 1 H.toList):=λj u hu=>by
   have hj:j<35:=by have:=(Ad.1 hu).1;rw[AL,TZ.out.size]at this;exact this
   rw[Ae _ _ _ _ _ _ RZ.out,HY.out.2.2.2 j hj]
   simpa using hu
  have kz:V.cell? ⟨z,0,none⟩=some v:=by rw[Ae _ _ _ _ _ _ RZ.out];exact HY.out.2.2.1
  clear eZ HT
  go_upto_region 21 with fail
  go_wp2_with(first|(go_at_call 46;refine CE.mono ?_;rintro e w5 ⟨rfl,hb5⟩)|(refine ZX rfl 27 _ rfl z 1 rfl H.toList _ HG.out underlying27 rfl HI.out ?_))
  go_ret
  exact⟨rfl,PTo.ahead BB.out.1 (PTo.same BB.out.2 (hH.trans (hb5.mono hH.size)))⟩
end Go.Proofs.YtpiohehijkpghacGreatDoor.Dr
namespace Go.Proofs.YtpiohehijkpghacGreatDoor.Dr
open Go.RowKit
def zcY{S:Type}(f:S->List UInt8->S×List UInt8):Nat->S->List (List UInt8)->List UInt8
 |0,_,_=>[]
 |k+1,_,[]=>[]
 |k+1,p,x::l=>(f p x).2++10::zcY f k (f p x).1 l
def qQ(l:List (List UInt8)):List (List UInt8):=if l.getLast?=some []then l.dropLast else l
theorem zgx(c:UInt8):∀l,(cutL c l).2.2=false->(cutL c l).1=l/\(cutL c l).2.1=[]
 |[],_=>⟨rfl,rfl⟩
 |x::l,h=>by
  unfold cutL at h⊢
  split at h
  ·cases h
  ·rename_i e
   rw[if_neg e]
   obtain⟨h1,h2⟩:=zgx c l h
   exact⟨by rw[h1],h2⟩
theorem zee{S:Type}(f:S->List UInt8->S×List UInt8):∀(k:Nat) (p:S) (s:List UInt8),goL f k p s=zcY f k p (qQ (zr 10 s))
 |0,p,s=>rfl
 |k+1,p,s=>by
  by_cases h0:s=[]
  ·subst h0
   rfl
  ·have e1:goL f (k+1) p s=(f p (cutL 10 s).1).2++10::goL f k (f p (cutL 10 s).1).1 (cutL 10 s).2.1:=if_neg h0
   rw[e1,zee f k,kd 10 s]
   cases hb:(cutL 10 s).2.2 with
   |false=>
    obtain⟨h1,h2⟩:=zgx 10 s hb
    rw[h2]
    have e2:qQ ((cutL 10 s).1::if false=true then zr 10 []else[])=[(cutL 10 s).1]:=by
     show qQ [(cutL 10 s).1]=_
     unfold qQ
     rw[if_neg (by rw[h1];simpa using h0)]
    rw[e2]
    show _=(f p (cutL 10 s).1).2++10::zcY f k _ []
    have e3:qQ (zr 10 [])=[]:=rfl
    rw[e3]
   |true=>
    have hne:=yF 10 (cutL 10 s).2.1
    have e2:qQ ((cutL 10 s).1::if true=true then zr 10 (cutL 10 s).2.1 else[])=(cutL 10 s).1::qQ (zr 10 (cutL 10 s).2.1):=by
     show qQ ((cutL 10 s).1::zr 10 (cutL 10 s).2.1)=_
     cases hs:zr 10 (cutL 10 s).2.1 with
     |nil=>exact absurd hs hne
     |cons y m=>
      unfold qQ
      rw[AP]
      split
      ·rfl
      ·rfl
    rw[e2]
    rfl
def jp:List (List UInt8)->Option (List Nat)
 |[]=>some []
 |t::l=>match numK t with
  |none=>none
  |some n=>(jp l).map (n::·)
theorem zau:∀(k:Nat) (t:List UInt8) (b:Bool),t.length+2<=k->numsL k t b=jp (if b then zr 32 t else[])
 |0,t,b,h=>absurd h (by omega)
 |k+1,t,b,h=>by
  cases b with
  |false=>rfl
  |true=>
   have e1:numsL (k+1) t true=match xI (cutL 32 t).1 with|none=>none|some n=>(numsL k (cutL 32 t).2.1 (cutL 32 t).2.2).map (n::·):=rfl
   rw[e1,if_pos rfl,kd 32 t]
   show _=match numK (cutL 32 t).1 with|none=>none|some n=>(jp (if(cutL 32 t).2.2=true then zr 32 (cutL 32 t).2.1 else[])).map (n::·)
   rw[zcS]
   by_cases ht:t=[]
   ·subst ht
    have:xI (cutL 32 []).1=none:=by decide
    rw[this]
   ·have:=zd4 32 t ht
    cases xI (cutL 32 t).1 with
    |none=>rfl
    |some n=>simp only[];rw[zau k _ _ (by omega)]
end Go.Proofs.YtpiohehijkpghacGreatDoor.Dr
namespace Go.Proofs.YtpiohehijkpghacGreatDoor.Dr
open Go.RowKit
structure Lay(w0:World)(mo co:Ps->Nat->Ou)(dec:Nat->Option In5)(may:Int->Int->Int->Bool):Prop where
 errs:Errs w0
 pow:Pow w0
 may0:may 8 64 2=true
 moOk:∀p x,POk may p->x<4294967296->OuOk (mo p x)
 coOk:∀p x,POk may p->x<4294967296->OuOk (co p x)
 lmo:∀W,Below w0.heap.size w0 W->∀(N:Nat) (p:Ps) (M:Value) (x:Nat),POk may p->x<4294967296->W.ownsRow N 5 1 M p.mem.length (ucb p.mem)->Calls prog 17 #[hvD p,M,.int .i64 (x:Int)] W λe w'=>RanM w' e (mo p x)/\Below W.heap.size W w'
 lco:∀W,Below w0.heap.size w0 W->∀(N:Nat) (p:Ps) (M C:Value) (x:Nat),POk may p->x<4294967296->W.ownsRow N 5 1 M p.mem.length (ucb p.mem)->W.ownsRow N 3 1 C p.ch.length (ici p.ch)->Calls prog 6 #[cfD p,hvD p,M,C,.int .i64 (x:Int)] W λe w'=>RanC w' e (co p x)/\Below W.heap.size W w'
 lde:∀W,Below w0.heap.size w0 W->∀(x:Nat),x<4294967296->Calls prog 19 #[.int .u32 (x:Int)] W λe w'=>DecP e (dec x)/\Below W.heap.size W w'
 decOk:∀(x:Nat) i,x<4294967296->dec x=some i->(0<=i.op/\i.op<=4294967295)/\(0<=i.rd/\i.rd<=4294967295)/\(0<=i.r1/\i.r1<=4294967295)/\(0<=i.r2/\i.r2<=4294967295)/\-2147483648<=i.im/\i.im<=2147483647
 lma:∀W a b c,Calls prog 16 #[.agg #[.int .i64 a,.int .i64 b,.int .i64 c]] W λe w'=>e=.returned (.bool (may a b c))/\Below W.heap.size W w'
theorem Args.of{w w2:World}{b B:Nat}{p:Ps}{M C v:Value}{T:TypeId}{N:Nat}{ns:List Nat}(h:PW T N w b p M C)(hB:w.heap.size<=B)(ho:w2.ownsRow B 24 1 v ns.length (ucs ns)):Args w2 b M C v ns:=by
 obtain⟨pp,c,rfl⟩:=zU ho
 refine⟨pp,c,rfl,λh0=>?_⟩
 have hh:=ho
 rcases ho.2 with⟨_,hz⟩|⟨g,cap,cur,hv,hBg,hg,_⟩
 ·omega
 ·injection hv with e1 e2 e3
  subst e1
  refine⟨g,0,rfl,(Af.1 hg).1,λhm=>?_,λj x hx=>?_⟩
  ·have:=(h.mine g hm).2
   omega
  ·have h1:=hh.cells (g:=g) rfl j (.int .u32 (x:Int)) (by simp[hx])
   have hadd:(⟨g,0,none⟩:Addr).add j=⟨g,j,none⟩:=by unfold AM;split<;>simp_all
   rw[hadd]at h1
   rw[Zp]
   exact h1
theorem zaX{ns:List Nat}(h:one? ns=none):((ns.length:Int)==1)=false:=by
 rcases ns with _|⟨x,_|⟨y,r⟩⟩
 ·rfl
 ·cases h
 ·rw[beq_eq_false_iff_ne];simp;omega
theorem zlm{ns:List Nat}(h:two? ns=none):((ns.length:Int)==2)=false:=by
 rcases ns with _|⟨x,_|⟨y,_|⟨z,r⟩⟩⟩
 ·rfl
 ·rfl
 ·cases h
 ·rw[beq_eq_false_iff_ne];simp;omega
theorem zln{ns:List Nat}(h:tri? ns=none):((ns.length:Int)==3)=false:=by
 rcases ns with _|⟨x,_|⟨y,_|⟨z,_|⟨u,r⟩⟩⟩⟩
 ·rfl
 ·rfl
 ·rfl
 ·cases h
 ·rw[beq_eq_false_iff_ne];simp;omega
theorem vg{ns:List Nat}{x:Nat}(h:one? ns=some x):ns=[x]:=by
 rcases ns with _|⟨x,_|⟨y,r⟩⟩
 ·cases h
 ·cases h;rfl
 ·cases h
theorem zkF{ns:List Nat}{x y:Nat}(h:two? ns=some (x,y)):ns=[x,y]:=by
 rcases ns with _|⟨x,_|⟨y,_|⟨z,r⟩⟩⟩
 ·cases h
 ·cases h
 ·cases h;rfl
 ·cases h
theorem zkG{ns:List Nat}{x y z:Nat}(h:tri? ns=some (x,y,z)):ns=[x,y,z]:=by
 rcases ns with _|⟨x,_|⟨y,_|⟨z,_|⟨u,r⟩⟩⟩⟩
 ·cases h
 ·cases h
 ·cases h
 ·cases h;rfl
 ·cases h
theorem zbN(mo co:Ps->Nat->Ou)(wh:Nat->List UInt8)(may:Int->Int->Int->Bool)(p:Ps)(x:List UInt8)(ns:List Nat){r:Ps×List UInt8}(hr:r=cmdL mo co wh may p x ns):
  (NoW x ns/\r=(p,qW))\/(x=[119,111,114,100,115]/\4096<p.mem.length+4*ns.length/\r=(p,qW))\/(x=[119,111,114,100,115]/\p.mem.length+4*ns.length<=4096/\r=({p with mem:=addL p.mem ns},zp tOk [((p.mem.length+4*ns.length:Nat):Int)]))\/
  (∃n,x=[112,99]/\ns=[n]/\r=({p with pc:=n},tOk))\/(∃q n,x=[115,101,116]/\ns=[q,n]/\¬(1<=q/\q<=31)/\r=(p,qW))\/(∃q n,x=[115,101,116]/\ns=[q,n]/\1<=q/\q<=31/\r=({p with R:=λi=>if i=q then(n:Int)else p.R i},tOk))\/
  (∃a b c:Nat,x=[99,111,114,101]/\ns=[a,b,c]/\((may a b c=false/\r=(p,qW))\/(may a b c=true/\r=({p with wi:=a,ph:=b,wd:=c},tOk))))\/
  (x=[99,104,111,111,115,101]/\r=({p with ch:=ns.map λ(n:Nat)=>(n:Int)},zp tOk [(ns.length:Int)]))\/(∃n,x=[109,111,100,101,108]/\ns=[n]/\r=(p,ranL (mo p n)))\/(∃n,x=[114,117,110]/\ns=[n]/\r=(p,ranL (co p n)))\/(∃n,x=[119,104,97,116]/\ns=[n]/\r=(p,wh n)):=by
 subst hr
 unfold cmdL
 by_cases h0:x=[119,111,114,100,115]
 ·rw[if_pos h0]
  by_cases hm:4096<p.mem.length+4*ns.length
  ·rw[if_pos hm];exact .inr (.inl ⟨h0,hm,rfl⟩)
  ·rw[if_neg hm];exact .inr (.inr (.inl ⟨h0,by omega,rfl⟩))
 rw[if_neg h0]
 by_cases h1:x=[112,99]
 ·rw[if_pos h1]
  cases ho:one? ns with
  |none=>exact .inl ⟨.inl ⟨h1,zaX ho⟩,rfl⟩
  |some n=>exact .inr (.inr (.inr (.inl ⟨n,h1,vg ho,rfl⟩)))
 rw[if_neg h1]
 by_cases h2:x=[115,101,116]
 ·rw[if_pos h2]
  cases ho:two? ns with
  |none=>exact .inl ⟨.inr (.inl ⟨h2,zlm ho⟩),rfl⟩
  |some q=>
   obtain⟨q,n⟩:=q
   by_cases hrr:1<=q/\q<=31
   ·exact .inr (.inr (.inr (.inr (.inr (.inl ⟨q,n,h2,zkF ho,hrr.1,hrr.2,if_pos hrr⟩)))))
   ·exact .inr (.inr (.inr (.inr (.inl ⟨q,n,h2,zkF ho,hrr,if_neg hrr⟩))))
 rw[if_neg h2]
 by_cases h3:x=[99,111,114,101]
 ·rw[if_pos h3]
  cases ho:tri? ns with
  |none=>exact .inl ⟨.inr (.inr (.inl ⟨h3,zln ho⟩)),rfl⟩
  |some q=>
   obtain⟨a,b,c⟩:=q
   cases hmy:may a b c with
   |true=>exact .inr (.inr (.inr (.inr (.inr (.inr (.inl ⟨a,b,c,h3,zkG ho,.inr ⟨hmy,if_pos hmy⟩⟩))))))
   |false=>exact .inr (.inr (.inr (.inr (.inr (.inr (.inl ⟨a,b,c,h3,zkG ho,.inl ⟨hmy,if_neg (by rw[hmy];decide)⟩⟩))))))
 rw[if_neg h3]
 by_cases h4:x=[99,104,111,111,115,101]
 ·rw[if_pos h4];exact .inr (.inr (.inr (.inr (.inr (.inr (.inr (.inl ⟨h4,rfl⟩)))))))
 rw[if_neg h4]
 by_cases h5:x=[109,111,100,101,108]
 ·rw[if_pos h5]
  cases ho:one? ns with
  |none=>exact .inl ⟨.inr (.inr (.inr (.inl ⟨h5,zaX ho⟩))),rfl⟩
  |some n=>exact .inr (.inr (.inr (.inr (.inr (.inr (.inr (.inr (.inl ⟨n,h5,vg ho,rfl⟩))))))))
 rw[if_neg h5]
 by_cases h6:x=[114,117,110]
 ·rw[if_pos h6]
  cases ho:one? ns with
  |none=>exact .inl ⟨.inr (.inr (.inr (.inr (.inl ⟨h6,zaX ho⟩)))),rfl⟩
  |some n=>exact .inr (.inr (.inr (.inr (.inr (.inr (.inr (.inr (.inr (.inl ⟨n,h6,vg ho,rfl⟩)))))))))
 rw[if_neg h6]
 by_cases h7:x=[119,104,97,116]
 ·rw[if_pos h7]
  cases ho:one? ns with
  |none=>exact .inl ⟨.inr (.inr (.inr (.inr (.inr (.inl ⟨h7,zaX ho⟩))))),rfl⟩
  |some n=>exact .inr (.inr (.inr (.inr (.inr (.inr (.inr (.inr (.inr (.inr ⟨n,h7,vg ho,rfl⟩)))))))))
 rw[if_neg h7]
 exact .inl ⟨.inr (.inr (.inr (.inr (.inr (.inr ⟨by simpa using h0,by simpa using h1,by simpa using h2,by simpa using h3,by simpa using h4,by simpa using h5,by simpa using h6,by simpa using h7⟩))))),rfl⟩
theorem zgy{w0:World}{mo co:Ps->Nat->Ou}{dec:Nat->Option In5}{may:Int->Int->Int->Bool}(L:Lay w0 mo co dec may)(W:World)(hW:Below w0.heap.size w0 W)(x:Nat)(hx:x<4294967296):
  Calls prog 47 #[.int .u32 (x:Int)] W λe w'=>e=.returned (sv (whL dec x))/\Below W.heap.size W w':=by
 have CD:=L.lde W hW x hx
 unfold whL
 cases hd:dec x with
 |none=>
  rw[hd]at CD
  exact ziU x W CD
 |some i=>
  rw[hd]at CD
  simp only[DecP]at CD
  obtain⟨a,b,c,d,e,f⟩:=L.decOk x i hx hd
  have h:=zgu x i.op i.rd i.r1 i.r2 i.im W (L.pow.below hW) a b c d e f (CD.mono λe w' ⟨⟨h1,_⟩,h2⟩=>⟨h1,h2⟩)
  rw[ke]at h
  exact h
theorem ziW{w0:World}{mo co:Ps->Nat->Ou}{dec:Nat->Option In5}{may:Int->Int->Int->Bool}(L:Lay w0 mo co dec may){b:Nat}{p:Ps}{M C:Value}(w:World)(hB:Below w0.heap.size w0 w)(h:PW 82 w0.heap.size w b p M C)(hp:POk may p)(l:List UInt8)(hl:l.length<=2999000):
  Calls prog 22 #[.pointer (some ⟨b,0,none⟩),sv l] w λe w'=>e=.returned (sv (qy mo co (whL dec) may p l).2)/\PTo 82 w0.heap.size b w M C w' (qy mo co (whL dec) may p l).1:=by
 have up:∀W,Below w.heap.size w W->Below w0.heap.size w0 W:=λW hW=>hB.trans (hW.mono hB.size)
 have upN:∀W,Below w.heap.size w W->∀V,Below w0.heap.size W V->Pow V:=λW hW V hV=>L.pow.below ((up W hW).trans hV)
 obtain⟨x,y,d,hc⟩:∃x y d,cutL 32 l=(x,y,d):=⟨_,_,_,rfl⟩
 have hy:y.length<=l.length:=by have:=xO 32 l;rw[hc]at this;exact this
 have C1:Hid (Cu w l x y d):=λW _=>(zaQ l 32 (by omega) W).mono λe w' ⟨h1,k,h2⟩=>⟨by rw[h1,hc],by rw[h2];exact xP _ _⟩
 have CN:=λW (hW:Below w.heap.size w W)=>zbG y d (by omega) W (L.errs.below (up W hW))
 unfold qy
 rw[hc]
 simp only[]
 cases hn:numsL (y.length+2) y d with
 |none=>
  rw[hn]at CN
  exact zgw w h l x y d C1 (λW hW=>CN W hW)
 |some ns=>
  rw[hn]at CN
  have C2:Hid (Nu w b M C y d ns):=λW hW=>(CN W hW).mono λe w' ⟨⟨v,he,ho⟩,hb⟩=>⟨⟨v,he,Args.of h hW.size ho⟩,hb⟩
  have hr:=yG _ _ _ ns hn
  have hnl:ns.length<=3000000:=by have:=yH _ _ _ ns hn;omega
  clear CN hn hc
  show Calls prog 22 _ w λe w'=>e=.returned (sv (cmdL mo co (whL dec) may p x ns).2)/\PTo 82 w0.heap.size b w M C w' (cmdL mo co (whL dec) may p x ns).1
  obtain⟨r,hr'⟩:∃r,r=cmdL mo co (whL dec) may p x ns:=⟨_,rfl⟩
  rw[<-hr']
  rcases zbN mo co (whL dec) may p x ns hr' with⟨hq,rfl⟩|⟨rfl,hm,rfl⟩|⟨rfl,hm,rfl⟩|⟨n,rfl,rfl,rfl⟩|⟨q,n,rfl,rfl,hq,rfl⟩|⟨q,n,rfl,rfl,h1,h2,rfl⟩|⟨q1,q2,q3,rfl,rfl,hco⟩|⟨rfl,rfl⟩|⟨n,rfl,rfl,rfl⟩|⟨n,rfl,rfl,rfl⟩|⟨n,rfl,rfl,rfl⟩
  ·exact zno w h l x y d ns hq C1 C2
  ·exact zat w h l y d ns _ _ (λW v hW ha=>zgt W (h.below hW) v ns hp.hm (by obtain⟨a,c,rfl,_⟩:=ha;exact⟨a,c,rfl⟩) hm hnl) C1 C2
  ·exact zat w h l y d ns _ _ (λW v hW ha=>zfe W (h.below hW) v ns hp.hm hm hr (upN W hW) ha) C1 C2
  ·exact zll w h l y d n (hr n (by simp)) C1 C2
  ·exact zec w h l y d q n (hr q (by simp)) (hr n (by simp)) _ _ (λW hW=>zlh W (h.below hW) q n hq (hr q (by simp)) (hr n (by simp))) C1 C2
  ·exact zec w h l y d q n (hr q (by simp)) (hr n (by simp)) _ _ (λW hW=>ziQ W (h.below hW) q n h1 h2 (hr n (by simp))) C1 C2
  ·have CM:=λW=>L.lma W q1 q2 q3
   rcases hco with⟨hmy,rfl⟩|⟨hmy,rfl⟩<;>rw[hmy]at CM
   ·exact zbM w h l y d q1 q2 q3 (hr q1 (by simp)) (hr q2 (by simp)) (hr q3 (by simp)) _ _ (λW hW=>zfd W (h.below hW) q1 q2 q3 CM) C1 C2
   ·exact zbM w h l y d q1 q2 q3 (hr q1 (by simp)) (hr q2 (by simp)) (hr q3 (by simp)) _ _ (λW hW=>zcU W (h.below hW) q1 q2 q3 CM) C1 C2
  ·exact zcX w h l y d ns _ _ (λW v hW ha=>zcW W (h.below hW) v ns hnl hr (upN W hW) ha) C1 C2
  ·have hn:=hr n (by simp)
   exact zff w h l y d n hn (mo p n) (λW hW=>L.lmo W (up W hW) w0.heap.size p M n hp hn (h.below hW).mem) (λW v H hW ht=>zed (L.moOk p n hp hn) v H W (L.pow.below (up W hW)) ht) C1 C2
  ·have hn:=hr n (by simp)
   exact ziV w h l y d n hn (co p n) (λW hW=>L.lco W (up W hW) w0.heap.size p M C n hp hn (h.below hW).mem (h.below hW).ch) (λW v H hW ht=>zed (L.coOk p n hp hn) v H W (L.pow.below (up W hW)) ht) C1 C2
  ·have hn:=hr n (by simp)
   exact zgv w h l y d n hn (whL dec n) (λW hW=>zgy L W (up W hW) n hn) C1 C2
theorem yu:(prog.info? 85).map (·.size)=some 2:=by kernel_rfl
theorem zbO:liesAt prog prog.depth 85 (2/prog.cellsOf 85) 0 85 1=true:=by kernel_rfl
theorem zam(b:Nat)(w:World)(h0:w.cell? ⟨b,0,none⟩=some (.pointer (some ⟨b,0,none⟩))):
  Calls prog 40 #[.pointer (some ⟨b,0,none⟩)] w λe w'=>e=.returned (.tuple #[])/\w'=w:=by
 obtain⟨j,hj,_⟩:=Zs.1 yu
 go_enter func40,ntmps40
 go_wp2
 rw[Lib.run_neq_ptr_same w _ underlying83 hj]
 go_wp2
 go_end0
 exact⟨rfl,rfl⟩
theorem vh(b:Nat)(w:World)(h0:w.cell? ⟨b,0,none⟩=some (.pointer none))(hsh:w.shape? b=some (85,2))(hfz:w.frozen? ⟨b,0,none⟩=false):
  Calls prog 40 #[.pointer (some ⟨b,0,none⟩)] w λe w'=>e=.returned (.tuple #[])/\w'=w.setCell ⟨b,0,none⟩ (.pointer (some ⟨b,0,none⟩)):=by
 obtain⟨j,hj,hjs⟩:=Zs.1 yu
 go_enter func40,ntmps40
 go_wp2
 rw[Lib.run_to_unsafe w ⟨b,0,none⟩ underlying83 underlying152 hj (by rw[hjs];decide) hsh (Nat.zero_lt_succ 1)]
 simp only[ZC]
 rw[Zw]
 go_wp2
 rw[run_callFunc_extern func71 (by kernel_rfl) (by kernel_rfl) (by kernel_rfl) (e:=Extern.AbiNoEscape.same) (by kernel_rfl)]
 rw[Lib.run_noEscape]
 simp only[ZC]
 rw[Zw]
 go_wp2
 rw[Lib.run_from_unsafe w ⟨b,0,none⟩ underlying152 underlying83 hj hsh zbO]
 simp only[ZC]
 rw[Zw]
 go_wp2
 go_end0
 exact⟨rfl,rfl⟩
section
variable {P:Program} (w:World)
theorem zan(base:Nat)(t u ty e:TypeId)(i:TypeInfo)(ht:P.underlying t=some (.slice e))(hu:P.underlying u=some .string)(hi:P.info? e=some i)(hz:i.zero=some (.int .u8 0))
  (hsize:i.size=1) (hby:i.bytes=1) (v:Value) (n:Nat) (xs:List Value) (hown:w.ownsRow base e 1 v n xs) (s:ByteArray)
  (h63:n+s.size<=maxLen) (hbytes:n+s.size<=140737488355328) {v':Value} {w':World} (hrun:(Ao #[t,u] ty #[v,.string s]).run P w=.ok v' w'):
  ∀k,v'.ownBlock=some k->v.ownBlock=some k\/k=w.heap.size:=by
 have hsmall:n+s.size<=9223372036854775807:=by simp only[maxLen]at h63;omega
 have hxl:xs.length=n:=by simpa using hown.1
 rcases hown.2 with⟨rfl,rfl⟩|⟨g,cap,cur,rfl,hbg,hg,hnc,hcm,hcs,htake⟩
 ·by_cases hm:s.size=0
  ·have hf:=Zk (P:=P) w 1 s
   rw[hm]at hf
   simp[Ao,AE ht,AE hu,sizeOf,typeInfo,hi,hsize,Zl,hm,hf]at hrun
   obtain⟨rfl,_⟩:=hrun
   intro k hk
   simp[Ai]at hk
  ·have hr:=run_append_nil_string (P:=P) w t u ty e i (.int .u8 0) ht hu hi hz s (by omega) (by omega) (by rw[hby];omega)
   rw[hr]at hrun
   injection hrun with h1 _
   subst h1
   intro k hk
   simp[Ai]at hk
   exact .inr hk.symm
 ·by_cases hroom:n+s.size<=cap
  ·have hcs':cur.size=cap:=by simpa using hcs
   have hr:=Lib.run_append_room_string (P:=P) w t u ty e i ht hu hi hsize g n cap cur hg s hroom (by omega)
   rw[hr]at hrun
   injection hrun with h1 _
   subst h1
   intro k hk
   simp[Ai]at hk
   exact .inl (by simp[Ai,hk])
  ·have holds:∀j u,xs[j]?=some u->w.cell? ((⟨g,0,none⟩:Addr).add j)=some u:=hown.cells (g:=g) rfl
   have hr:=Zi (P:=P) w t u ty e i (.int .u8 0) ht hu hi hz ⟨g,0,none⟩ n cap xs (by rw[hsize];simpa using hxl) holds s (by omega) (by omega) (by rw[hby];exact Zh (by omega) (by omega))
   rw[hr]at hrun
   injection hrun with h1 _
   subst h1
   intro k hk
   simp[Ai]at hk
   exact .inr hk.symm
theorem kU{ops:Array Oper}{rest:List Oper}{o:Oper}{a:Act}{Q:Exit->Act->World->Prop}(hgd:o.guard=none)(sl x:Operand)(t u:TypeId)
  (ho:o.op=.call {callee:=.builtin .append,args:=#[sl,x],argTypes:=#[t,u]})
  (base:Nat) (e:TypeId) (i:TypeInfo) (ht:P.underlying t=some (.slice e)) (hu:P.underlying u=some .string) (hi:P.info? e=some i) (hz:i.zero=some (.int .u8 0)) (hsize:i.size=1) (hby:i.bytes=1)
  (v:Value) (n:Nat) (xs:List Value) (hs:a.eval sl=v) (hown:w.ownsRow base e 1 v n xs) (s:ByteArray) (hx:a.eval x=.string s)
  (h63:n+s.size<=maxLen) (hbytes:n+s.size<=140737488355328) (hbase:base<=w.heap.size)
  (h:∀v' w',w'.ownsRow base e 1 v' (n+s.size) (xs++Aq s)->w.grownBy w' v.ownBlock->(∀k,v'.ownBlock=some k->v.ownBlock=some k\/k=w.heap.size)->wpList P ops Q rest (a.put o.dst v') w'):wpList P ops Q (o::rest) a w:=by
 refine Zd hgd λK hK=>?_
 obtain⟨v',w',hr,h2,h3,_⟩:=Lib.run_append_own_string (P:=P) w base t u o.type e i ht hu hi hz hsize hby v n xs hown s h63 hbytes hbase
 have h4:=zan (P:=P) w base t u o.type e i ht hu hi hz hsize hby v n xs hown s h63 hbytes hr
 unfold ZO execOp
 simp only[ho,resolve,invoke,builtin,AU,Ze,Aw,AI,AZ,Zf,hs,hx,hr]
 exact hK _ _ (h v' w' h2 h3 h4)
end
structure BW(N:Nat)(w:World)(b:Nat)(l:List UInt8)(v:Value):Prop where
 base:N<=b
 row:∃p,(p=.pointer none\/p=.pointer (some ⟨b,0,none⟩))/\w.heap[b]?=some (.cells #[p,v] 85 (0,0))
 own:w.ownsRow N 5 1 v l.length (bcs l)
def kV(b:Nat)(v:Value)(k:Nat):Prop:=k=b\/v.ownBlock=some k
theorem BW.lt{N:Nat}{w:World}{b:Nat}{l:List UInt8}{v:Value}(h:BW N w b l v):b<w.heap.size:=by
 obtain⟨p,_,hr⟩:=h.row
 exact(Af.1 hr).1
theorem BW.mine{N:Nat}{w:World}{b:Nat}{l:List UInt8}{v:Value}(h:BW N w b l v):∀k,kV b v k->N<=k/\k<w.heap.size:=λk hk=>by
 rcases hk with rfl|hk
 ·exact⟨h.base,h.lt⟩
 ·exact h.own.lt k hk
theorem BW.keeps{N:Nat}{w w':World}{b:Nat}{l:List UInt8}{v:Value}(h:BW N w b l v){S:Nat->Prop}(hf:Frm S w w')(hS:∀k,kV b v k->¬S k):BW N w' b l v:=by
 obtain⟨p,hp,hr⟩:=h.row
 exact⟨h.base,⟨p,hp,(hf.block b h.lt (hS b (.inl rfl))).trans hr⟩,qq h.own λg hg=>hf.block g (h.own.lt g hg).2 (hS g (.inr hg))⟩
theorem ki{N:Nat}{b:Nat}{l:List UInt8}{v:Value}(w:World)(h:BW N w b l v):
  Calls prog 40 #[.pointer (some ⟨b,0,none⟩)] w λe w'=>e=.returned (.tuple #[])/\(BW N w' b l v/\w'.heap[b]?=some (.cells #[.pointer (some ⟨b,0,none⟩),v] 85 (0,0)))/\Frm (λk=>k=b) w w':=by
 obtain⟨p,hp,hr⟩:=h.row
 have hc:w.cell? ⟨b,0,none⟩=some p:=by rw[Ae _ _ _ _ _ _ hr];rfl
 rcases hp with rfl|rfl
 ·refine(vh b w hc (by simp[World.shape?,hr]) (AB _ _ _ _ _ hr)).mono λe w' ⟨he,hw⟩=>⟨he,?_,by rw[hw];exact Frm.set _ _ _ _⟩
  rw[hw]
  have hr2:(w.setCell ⟨b,0,none⟩ (.pointer (some ⟨b,0,none⟩))).heap[b]?=some (.cells #[.pointer (some ⟨b,0,none⟩),v] 85 (0,0)):=xQ hr
  exact⟨⟨h.base,⟨_,.inr rfl,hr2⟩,qq h.own λg hg=>(Frm.set w b 0 _).block g (h.own.lt g hg).2 λe=>zQ h.own hr (by decide) (by rw[hg,e])⟩,hr2⟩
 ·refine(zam b w hc).mono λe w' ⟨he,hw⟩=>⟨he,?_,by rw[hw];exact Frm.of (Aa _ _)⟩
  rw[hw]
  exact⟨h,hr⟩
def BTo(N b:Nat)(w:World)(v:Value)(w':World)(l':List UInt8):Prop:=
 ∃v',BW N w' b l' v'/\Frm (kV b v) w w'/\∀k,v'.ownBlock=some k->v.ownBlock=some k\/w.heap.size<=k
theorem vi{N:Nat}{b:Nat}{l:List UInt8}{v:Value}(w:World)(h:BW N w b l v)(t:List UInt8)(hl:l.length<=100000000)(ht:t.length<=100000000):
  Calls prog 21 #[.pointer (some ⟨b,0,none⟩),sv t] w λe w'=>(∃x,e=.returned x)/\BTo N b w v w' (l++t):=by
 have CC:=ki w h
 have HH:Hid (BW N w b l v):=h
 obtain⟨i0,hi,hz0,hz1,hz2⟩:=AO zbL
 have hsz:=jT t
 clear h
 go_enter func21,ntmps21
 go_upto_region 2 with(go_at_call 40;refine CC.mono ?_;rintro e w1 ⟨rfl,⟨hb1,hr1⟩,hf1⟩)
 have B1:Hid (BW N w1 b l v):=hb1
 have F1:Hid (Frm (λk=>k=b) w w1):=hf1
 have k1:w1.cell? ⟨b,1,none⟩=some v:=by rw[Ae _ _ _ _ _ _ hr1];rfl
 have R1:Hid (w1.heap[b]?=some (.cells #[.pointer (some ⟨b,0,none⟩),v] 85 (0,0))):=hr1
 have hN:Hid (N<=w1.heap.size):=by have:=hb1.lt;have:=hb1.base;show _<=_;omega
 clear hb1 hr1 hf1 CC
 go_wp2_with(at_builtin;refine kU _ rfl _ _ 28 9 rfl N 5 i0 underlying28 underlying9 hi hz0 hz1 hz2 v l.length (bcs l) rfl B1.out.own ⟨t.toArray⟩ rfl ?q1 ?q2 hN.out ?_)
 case q1=>rw[hsz];unfold maxLen;omega
 case q2=>rw[hsz];omega
 intro v2 w2 ho2 hg2 hv2
 have F2:Hid (Frm (λk=>v.ownBlock=some k) w1 w2):=Frm.grown hg2
 have R2:Hid (w2.heap[b]?=some (.cells #[.pointer (some ⟨b,0,none⟩),v] 85 (0,0))):=(F2.out.block b B1.out.lt λe=>zQ B1.out.own R1.out (by decide) e).trans R1.out
 have O2:Hid (w2.ownsRow N 5 1 v2 (l++t).length (bcs (l++t))):=by
  rw[zcT]at ho2
  show Au _ _ _ _ _ _ _
  rw[WY,show bcs (l++t)=bcs l++bcs t by simp[bcs]]
  exact ho2
 have HV:Hid (∀k,v2.ownBlock=some k->v.ownBlock=some k\/w.heap.size<=k):=λk hk=>(hv2 k hk).imp id λe=>by rw[e];exact F1.out.size
 have k2:w2.cell? ⟨b,1,none⟩=some v:=by rw[Ae _ _ _ _ _ _ R2.out];rfl
 have f2:w2.frozen? ⟨b,1,none⟩=false:=AB _ _ _ _ _ R2.out
 obtain⟨vp,vc,rfl⟩:=zU ho2
 clear ho2 hg2 hv2 k1
 go_wp2_with fail
 go_ret2
 refine⟨⟨_,rfl⟩,_,⟨B1.out.base,⟨_,.inr rfl,xQ R2.out⟩,qq O2.out λg hg=>(Frm.set w2 b 1 _).block g (O2.out.lt g hg).2 λe=>zQ O2.out R2.out (by decide) (by rw[hg,e])⟩,?_,HV.out⟩
 exact(((F1.out.mono λk hk=>.inl hk).trans F2.out λi hi=>.inl (.inr hi)).trans (Frm.set w2 b 1 _) λi hi=>.inl (.inl hi))
theorem zaY{N:Nat}{b:Nat}{l:List UInt8}{v:Value}(w:World)(h:BW N w b l v)(hl:l.length<=100000000):
  Calls prog 23 #[.pointer (some ⟨b,0,none⟩),.int .u8 10] w λe w'=>(∃x,e=.returned x)/\BTo N b w v w' (l++[10]):=by
 have CC:=ki w h
 have HH:Hid (BW N w b l v):=h
 obtain⟨i0,hi,hz0,hz1,hz2⟩:=AO zbL
 clear h
 go_enter func23,ntmps23
 go_upto_region 2 with(go_at_call 40;refine CC.mono ?_;rintro e w1 ⟨rfl,⟨hb1,hr1⟩,hf1⟩)
 have B1:Hid (BW N w1 b l v):=hb1
 have F1:Hid (Frm (λk=>k=b) w w1):=hf1
 have k1:w1.cell? ⟨b,1,none⟩=some v:=by rw[Ae _ _ _ _ _ _ hr1];rfl
 have R1:Hid (w1.heap[b]?=some (.cells #[.pointer (some ⟨b,0,none⟩),v] 85 (0,0))):=hr1
 have hN:Hid (N<=w1.heap.size):=by have:=hb1.lt;have:=hb1.base;show _<=_;omega
 clear hb1 hr1 hf1 CC
 go_wp2_with(at_builtin;refine xc _ rfl _ _ 28 rfl N 5 i0 _ 1 1 underlying28 hi hz0 hz1 hz2 rfl (by decide) v l.length (bcs l) rfl ?q1 ⟨w1.heap.size,0,none⟩ 1 1 [.int .u8 10] rfl rfl ?q3 ?q4 ?q5 ?q6 ?q7 ?_)
 case q1=>exact qE B1.out.own ((Aa _ _).alloc (WZ _) _)
 case q3=>
  intro j u hu
  have hj:j=0:=by have:=(Ad.1 hu).1;simp at this;omega
  subst hj
  have hadd:(⟨w1.heap.size,0,none⟩:Addr).add 0=⟨w1.heap.size,0,none⟩:=by unfold AM;split<;>simp_all
  rw[hadd,Ae _ w1.heap.size 0 _ _ (0,0) (heap_alloc_new w1 _)]
  simpa using hu
 case q4=>intro u hu;simp at hu;subst hu;rfl
 case q5=>unfold maxLen;omega
 case q6=>omega
 case q7=>have:=hN.out;simp;omega
 intro v2 w2 ho2 hg2 hv2
 have F2:Hid (Frm (λk=>v.ownBlock=some k) w1 w2):=Frm.alloc_grown hg2
 have R2:Hid (w2.heap[b]?=some (.cells #[.pointer (some ⟨b,0,none⟩),v] 85 (0,0))):=(F2.out.block b B1.out.lt λe=>zQ B1.out.own R1.out (by decide) e).trans R1.out
 have O2:Hid (w2.ownsRow N 5 1 v2 (l++[10]).length (bcs (l++[10]))):=by
  show Au _ _ _ _ _ _ _
  rw[WY,show bcs (l++[10])=bcs l++[.int .u8 10] by simp[bcs]]
  exact ho2
 have HV:Hid (∀k,v2.ownBlock=some k->v.ownBlock=some k\/w.heap.size<=k):=λk hk=>(hv2 k hk).imp id λe=>by rw[e];have:=F1.out.size;simp;omega
 have k2:w2.cell? ⟨b,1,none⟩=some v:=by rw[Ae _ _ _ _ _ _ R2.out];rfl
 have f2:w2.frozen? ⟨b,1,none⟩=false:=AB _ _ _ _ _ R2.out
 obtain⟨vp,vc,rfl⟩:=zU ho2
 clear ho2 hg2 hv2 k1
 go_wp2_with fail
 go_ret
 refine⟨⟨_,rfl⟩,_,⟨B1.out.base,⟨_,.inr rfl,xQ R2.out⟩,qq O2.out λg hg=>(Frm.set w2 b 1 _).block g (O2.out.lt g hg).2 λe=>zQ O2.out R2.out (by decide) (by rw[hg,e])⟩,?_,HV.out⟩
 exact(((F1.out.mono λk hk=>.inl hk).trans F2.out λi hi=>.inl (.inr hi)).trans (Frm.set w2 b 1 _) λi hi=>.inl (.inl hi))
theorem qH{P:Program}{ops:Array Oper}{rest:List Oper}{o:Oper}{a:Act}{w:World}{Q:Exit->Act->World->Prop}(hg:o.guard=none)(t:TypeId)(parts:Array (Nat×Operand))(ho:o.op=.build t parts)(cells:Array Value)
  (hb:P.built t (parts.map λ(i,x)=>(i,a.eval x)).toList=some cells)
  (h:wpList P ops Q rest (a.put o.dst (.agg cells)) w):wpList P ops Q (o::rest) a w:=
 wpList_build hg t parts ho (by rw[hb];rfl) (by rw[hb];exact h)
theorem kj{P:Program}{ops:Array Oper}{rest:List Oper}{o:Oper}{a:Act}{w:World}{Q:Exit->Act->World->Prop}(hg:o.guard=none)(t:TypeId)(i0:Nat)(x0:Operand)(ho:o.op=.build t #[(i0,x0)])
  (v0:Value) (e0:a.eval x0=v0) (cells:Array Value) (hb:P.built t [(i0,v0)]=some cells)
  (h:wpList P ops Q rest (a.put o.dst (.agg cells)) w):wpList P ops Q (o::rest) a w:=
 qH hg t _ ho cells (by simp[e0,hb]) h
theorem zbP:prog.built 82 [(2,.agg #[.int .i64 8,.int .i64 64,.int .i64 2])]=some (rowD (patD ps0 (.slice none 0 0) (.slice none 0 0)) 40):=by kernel_rfl
theorem znp{w:World}{mo co:Ps->Nat->Ou}{dec:Nat->Option In5}{may:Int->Int->Int->Bool}(L:Lay w mo co dec may){x:Nat}(hx:x<4294967296):(whL dec x).length<=1000000:=by
 unfold whL
 cases hd:dec x with
 |none=>simp
 |some i=>
  obtain⟨a,b,c,d,e,f⟩:=L.decOk x i hx hd
  have h:=qF [105,115] [i.op,i.rd,i.r1,i.r2,i.im%4294967296] (λn hn=>by simp at hn;omega)
  simp at h
  show(zp [105,115] [i.op,i.rd,i.r1,i.r2,i.im%4294967296]).length<=1000000
  omega
theorem zkH{n:Nat}(h:n<=4294967296):(zp tOk [(n:Int)]).length<=1000000:=by
 have h:=qF tOk [(n:Int)] (λm hm=>by simp at hm;omega)
 simp[tOk]at h
 simp only[tOk]
 omega
theorem zef{w:World}{mo co:Ps->Nat->Ou}{dec:Nat->Option In5}{may:Int->Int->Int->Bool}(L:Lay w mo co dec may){p:Ps}(hp:POk may p)(l:List UInt8)(hl:l.length<=2999000):(qy mo co (whL dec) may p l).2.length<=1000000:=by
 have hy:=xO 32 l
 have hno:qW.length<=1000000:=by decide
 have hok:tOk.length<=1000000:=by decide
 have hm:=hp.hm
 unfold qy
 split
 ·exact hno
 ·rename_i ns hns
  have hr:=yG _ _ _ ns hns
  have hnl:=yH _ _ _ ns hns
  unfold cmdL
  split
  ·split
   ·exact hno
   ·exact zkH (by omega)
  split
  ·split
   ·exact hok
   ·exact hno
  split
  ·split
   ·split
    ·exact hok
    ·exact hno
   ·exact hno
  split
  ·split
   ·split
    ·exact hok
    ·exact hno
   ·exact hno
  split
  ·exact zkH (by omega)
  split
  ·split
   ·rename_i x hx
    obtain rfl:=vg hx
    exact zgs (L.moOk p x hp (hr x (by simp)))
   ·exact hno
  split
  ·split
   ·rename_i x hx
    obtain rfl:=vg hx
    exact zgs (L.coOk p x hp (hr x (by simp)))
   ·exact hno
  split
  ·split
   ·rename_i x hx
    obtain rfl:=vg hx
    exact znp L (hr x (by simp))
   ·exact hno
  ·exact hno
theorem pok0{w:World}{mo co:Ps->Nat->Ou}{dec:Nat->Option In5}{may:Int->Int->Int->Bool}(L:Lay w mo co dec may):POk may ps0:=
 ⟨rfl,λi=>by show(0:Int)<=0/\(0:Int)<=_;omega,by show(0:Int)<=0/\(0:Int)<=_;omega,by show([]:List Int).length<=_;simp,(λb hb=>by cases hb),L.may0,(λb hb=>by cases hb),by show([]:List Int).length<=_;simp⟩
structure At(may:Int->Int->Int->Bool)(w0:World)(w:World)(b:Nat)(p:Ps)(bb:Nat)(acc:List UInt8):Prop where
 ex:∃M C V,PW 82 w0.heap.size w b p M C/\BW w0.heap.size w bb acc V/\∀k,Mine b M C k->¬kV bb V k
 ok:POk may p
 below:Below w0.heap.size w0 w
theorem zlo{b q:Nat}{M C M' C' V:Value}{n:Nat}(hap:∀k,Mine b M C k->¬kV q V k)(hlt:∀k,kV q V k->k<n)(hM:∀k,M'.ownBlock=some k->M.ownBlock=some k\/n<=k)(hC:∀k,C'.ownBlock=some k->C.ownBlock=some k\/n<=k):∀k,Mine b M' C' k->¬kV q V k:=λk hk hv=>by
 have h1:=hlt k hv
 rcases hk with rfl|hk|hk
 ·exact hap _ (.inl rfl) hv
 ·rcases hM k hk with h|h
  ·exact hap k (.inr (.inl h)) hv
  ·omega
 ·rcases hC k hk with h|h
  ·exact hap k (.inr (.inr h)) hv
  ·omega
theorem zeg{b q:Nat}{M C V V':Value}{n:Nat}(hap:∀k,Mine b M C k->¬kV q V k)(hlt:∀k,Mine b M C k->k<n)(hV:∀k,V'.ownBlock=some k->V.ownBlock=some k\/n<=k):∀k,Mine b M C k->¬kV q V' k:=λk hk hv=>by
 have h1:=hlt k hk
 rcases hv with rfl|hv
 ·exact hap _ hk (.inl rfl)
 ·rcases hV k hv with h|h
  ·exact hap k hk (.inr h)
  ·omega
theorem zcZ:(prog.info? 82).map (·.size)=some 40:=by kernel_rfl
theorem ziX:(rowD (patD ps0 (.slice none 0 0) (.slice none 0 0)) 40).all (·.oneCell')=true:=by kernel_rfl
theorem ziY{mo co:Ps->Nat->Ou}{dec:Nat->Option In5}{may:Int->Int->Int->Bool}(w:World)(L:Lay w mo co dec may)(s:List UInt8)(hl:s.length<=2999000):
  Calls prog 10 #[sv s] w λe w'=>e=.returned (sv (goL (qy mo co (whL dec) may) 40 ps0 s))/\Below w.heap.size w w':=by
 have LL:Hid (Lay w mo co dec may):=L
 clear L
 go_enter func10,ntmps10
 obtain⟨Y,hY⟩:∃Y,Y=rowD (patD ps0 (.slice none 0 0) (.slice none 0 0)) 40:=⟨_,rfl⟩
 have HB:Hid (prog.built 82 [(2,.agg #[.int .i64 8,.int .i64 64,.int .i64 2])]=some Y):=by rw[hY];exact zbP
 have HI:Hid ((prog.info? 82).map (·.size)=some Y.size/\40=Y.size/\Y.all (·.oneCell')=true):=by rw[hY,jI];exact⟨zcZ,rfl,ziX⟩
 have HY:Hid (Y=rowD (patD ps0 (.slice none 0 0) (.slice none 0 0)) 40):=hY
 clear hY
 go_upto_region 2 with(first|(refine kj rfl 82 2 _ rfl _ rfl Y HB.out ?_)|(refine ZS rfl 82 _ _ rfl _ _ rfl rfl 82 _ (heap_alloc_new _ _) HI.out.1 HI.out.2.1 HI.out.2.2 ?_;rw[Zr]))
 refine zh (Φ:=λW=>ZQ _ _ _ _ W) ?_
 intro V1 eV1 hb1
 have P1:Hid (PW 82 w.heap.size V1 w.heap.size ps0 (.slice none 0 0) (.slice none 0 0)):=⟨WZ _,by rw[eV1,HY.out],AC _ _ _ _,AC _ _ _ _⟩
 have B1:Hid (Below w.heap.size w V1):=hb1
 have hlt:w.heap.size<V1.heap.size:=(Af.1 eV1).1
 obtain⟨b,hbb⟩:∃b,b=w.heap.size:=⟨_,rfl⟩
 have HBB:Hid (b=w.heap.size):=hbb
 rw[<-hbb]
 rw[<-hbb]at hlt
 clear eV1 hb1 HB HI HY hbb
 go_upto_region 3 with fail
 refine zh (Φ:=λW=>ZQ _ _ _ _ W) ?_
 intro V2 eV2 hb2
 have A0:Hid (At may w V2 b ps0 V1.heap.size []):=by
  refine⟨⟨.slice none 0 0,.slice none 0 0,.slice none 0 0,?_,?_,?_⟩,pok0 LL.out,B1.out.trans (hb2.mono B1.out.size)⟩
  ·rw[HBB.out]
   exact P1.out.below hb2
  ·exact⟨B1.out.size,⟨_,.inl rfl,eV2⟩,AC _ _ _ _⟩
  ·intro k hk hk2
   rcases hk with rfl|hk|hk
   ·rcases hk2 with h|h
    ·omega
    ·simp[Ai]at h
   ·simp[Ai]at hk
   ·simp[Ai]at hk
 obtain⟨q,hq⟩:∃q,q=V1.heap.size:=⟨_,rfl⟩
 rw[<-hq]at A0⊢
 clear eV2 hb2 P1 B1 hlt hq HBB
 go_wp2_with fail
 go_loopw [0,8] (λst ct wr=>∃(k:Nat) (t acc:List UInt8) (p:Ps),ct=.int .i64 (k:Int)/\st=sv t/\k<=40/\t.length<=s.length/\acc.length<=1000001*k/\Hid (At may w wr b p q acc/\goL (qy mo co (whL dec) may) 40 ps0 s=acc++goL (qy mo co (whL dec) may) (40-k) p t)) (λ_ ct _=>40-(intOf ct).toNat)
 case atStart=>exact⟨0,s,[],ps0,rfl,rfl,AA _,WZ _,AA _,A0.out,rfl⟩
 case round=>
  clear A0
  obtain⟨k,t,acc,p,rfl,rfl,hk,ht,hacc,hrel⟩:=hrel
  obtain⟨⟨M,C,V,hP,hW,hap⟩,hok,hbe⟩:=hrel.out.1
  have HP:Hid (PW 82 w.heap.size wr b p M C):=hP
  have HW:Hid (BW w.heap.size wr q acc V):=hW
  have HA:Hid (∀k,Mine b M C k->¬kV q V k):=hap
  have HO:Hid (POk may p):=hok
  have HB:Hid (Below w.heap.size w wr):=hbe
  have HE:Hid (goL (qy mo co (whL dec) may) 40 ps0 s=acc++goL (qy mo co (whL dec) may) (40-k) p t):=hrel.out.2
  clear hP hW hap hok hbe hrel
  have CE:goL (qy mo co (whL dec) may) 40 ps0 s=acc->Calls prog 24 #[.pointer (some ⟨q,0,none⟩)] wr λe w'=>e=.returned (sv (goL (qy mo co (whL dec) may) 40 ps0 s))/\Below w.heap.size w w':=λhe=>by
   obtain⟨pp,hpp,hr⟩:=HW.out.row
   have hib:Lib.IsBuilder 85 5 w.heap.size q (AY acc) wr:=by
    have hl:(AY acc).length=acc.length:=by simp[AY]
    have hat:Lib.BuilderAt 85 5 w.heap.size q pp (AY acc) wr:=⟨HW.out.base,V,hr,by rw[hl];exact HW.out.own,λe=>zQ HW.out.own hr (by decide) e⟩
    rcases hpp with rfl|rfl
    ·exact .inl hat
    ·exact .inr hat
   exact(Builder_String_any w.heap.size q acc wr hib HB.out.size).mono λe w' ⟨h1,h2⟩=>⟨by rw[he];exact h1,HB.out.trans h2⟩
  by_cases h40:k<40
  ·by_cases hte:t=[]
   ·subst hte
    have he:goL (qy mo co (whL dec) may) 40 ps0 s=acc:=by
     rw[HE.out]
     obtain⟨j,hj⟩:∃j,40-k=j+1:=⟨40-k-1,by omega⟩
     rw[hj,show goL (qy mo co (whL dec) may) (j+1) p []=[]from if_pos rfl,Zu]
    have CE:=CE he
    clear he
    go_wp2_with(go_at_call 24;refine CE.mono ?_;rintro e w5 ⟨rfl,hb5⟩)
    go_ret
    exact⟨rfl,hb5⟩
   ·clear CE
    have hte':(t==[])=false:=by simpa using hte
    obtain⟨x,y,d,hc⟩:∃x y d,cutL 10 t=(x,y,d):=⟨_,_,_,rfl⟩
    have hy:y.length<=t.length:=by have:=xO 10 t;rw[hc]at this;exact this
    have hx:x.length<=t.length:=by have:=zaR 10 t;rw[hc]at this;exact this
    have C1:=(zaQ t 10 (by omega) wr).mono (R':=λe w'=>e=.returned (.tuple #[sv x,sv y,.bool d])/\Below wr.heap.size wr w') λe w' ⟨h1,k,h2⟩=>⟨by rw[h1,hc],by rw[h2];exact xP _ _⟩
    obtain⟨r,hr⟩:∃r,r=qy mo co (whL dec) may p x:=⟨_,rfl⟩
    have hE2:Hid (goL (qy mo co (whL dec) may) 40 ps0 s=acc++r.2++[10]++goL (qy mo co (whL dec) may) (40-(k+1)) r.1 y):=by
     show _=_
     rw[HE.out]
     obtain⟨j,hj⟩:∃j,40-k=j+1:=⟨40-k-1,by omega⟩
     rw[hj,show 40-(k+1)=j by omega,hr]
     have e:goL (qy mo co (whL dec) may) (j+1) p t=(qy mo co (whL dec) may p (cutL 10 t).1).2++10::goL (qy mo co (whL dec) may) j (qy mo co (whL dec) may p (cutL 10 t).1).1 (cutL 10 t).2.1:=if_neg hte
     rw[e,hc]
     simp
    have hrl:r.2.length<=1000000:=by rw[hr];exact zef LL.out HO.out x (by omega)
    have HR:Hid (POk may r.1):=by rw[hr];exact zgr HO.out x (by omega)
    have CP:Hid (∀W,Below wr.heap.size wr W->Calls prog 22 #[.pointer (some ⟨b,0,none⟩),sv x] W λe w'=>e=.returned (sv r.2)/\PTo 82 w.heap.size b W M C w' r.1):=λW hW=>by
     rw[hr]
     exact ziW LL.out W (HB.out.trans (hW.mono HB.out.size)) (HP.out.below hW) HO.out x (by omega)
    obtain⟨p',a'⟩:=r
    simp only at hrl hE2 HR CP
    clear hr hc hte HE
    go_upto_region 8 with(go_at_call 20;refine C1.mono ?_;rintro e w1 ⟨rfl,hb1⟩)
    have HB1:Hid (Below wr.heap.size wr w1):=hb1
    have CP1:=CP.out w1 hb1
    clear CP C1 hb1
    go_upto_region 9 with(first|(go_at_call 22;refine CP1.mono ?_;rintro e w2 ⟨rfl,hp2⟩;have HP2:Hid (PTo 82 w.heap.size b w1 M C w2 p'):=hp2;have HW2:Hid (BW w.heap.size w2 q acc V):=(HW.out.keeps (Frm.of (S:=λ_=>False) HB1.out) (λ_ _ h=>h)).keeps hp2.frm (λk hk h=>HA.out k h hk);have CW:=vi w2 HW2.out a' (by omega) (by omega))|(go_at_call 21;refine CW.mono ?_;rintro e w3 ⟨⟨z,rfl⟩,hw3⟩))
    obtain⟨M2,C2,hP2,hF2,hM2,hC2⟩:=HP2.out
    obtain⟨V3,hB3,hF3,hV3⟩:=hw3
    have apA:∀k,Mine b M2 C2 k->¬kV q V k:=zlo HA.out (λk hk=>Ap (HW.out.mine k hk).2 HB1.out.size) hM2 hC2
    have hP3:PW 82 w.heap.size w3 b p' M2 C2:=hP2.keeps hF3 λk hk h=>apA k hk h
    have apB:∀k,Mine b M2 C2 k->¬kV q V3 k:=zeg apA (λk hk=>(hP2.mine k hk).2) hV3
    have HP3:Hid (PW 82 w.heap.size w3 b p' M2 C2):=hP3
    have HB3:Hid (BW w.heap.size w3 q (acc++a') V3):=hB3
    have HA3:Hid (∀k,Mine b M2 C2 k->¬kV q V3 k):=apB
    have B3:Hid (Below w.heap.size w w3):=by
     have h1:Below w.heap.size w w1:=HB.out.trans (HB1.out.mono HB.out.size)
     have h2:Below w.heap.size w1 w2:=PTo.lower (HP.out.below HB1.out) HP2.out
     have h3:Below w.heap.size w2 w3:=hF3.below (h1.trans h2).size λk hk=>(HW2.out.mine k hk).1
     exact(h1.trans h2).trans h3
    have CB:=zaY w3 hB3 (by simp;omega)
    clear hP2 hF2 hM2 hC2 hB3 hF3 hV3 apA apB hP3 HP2 HW2 CW CP1 hp2 HB1 HB HA HW HP HO
    go_upto_region 10 with(go_at_call 23;refine CB.mono ?_;rintro e w4 ⟨⟨z4,rfl⟩,hw4⟩)
    have A4:Hid (At may w w4 b p' q (acc++a'++[10])):=by
     obtain⟨V4,hB4,hF4,hV4⟩:=hw4
     exact⟨⟨M2,C2,V4,HP3.out.keeps hF4 λk hk h=>HA3.out k hk h,hB4,zeg HA3.out (λk hk=>(HP3.out.mine k hk).2) hV4⟩,HR.out,B3.out.trans (hF4.below B3.out.size λk hk=>(HB3.out.mine k hk).1)⟩
    clear hw4 CB HP3 HB3 HA3 B3
    go_wp2_with fail
    go_roundw
    case rel=>exact⟨k+1,y,acc++a'++[10],p',by go_num,rfl,by omega,by omega,by simp;omega,A4.out,hE2.out⟩
    case measure=>simp[intOf];omega
  ·obtain rfl:k=40:=by omega
   have CE:=CE (by rw[HE.out];exact Zu _)
   go_wp2_with(go_at_call 24;refine CE.mono ?_;rintro e w5 ⟨rfl,hb5⟩)
   go_ret
   exact⟨rfl,hb5⟩
theorem Lay.below{w W:World}{mo co:Ps->Nat->Ou}{dec:Nat->Option In5}{may:Int->Int->Int->Bool}(L:Lay w mo co dec may)(h:Below w.heap.size w W):Lay W mo co dec may:=
 ⟨L.errs.below h,L.pow.below h,L.may0,L.moOk,L.coOk,λW' hW=>L.lmo W' (h.trans (hW.mono h.size)),λW' hW=>L.lco W' (h.trans (hW.mono h.size)),λW' hW=>L.lde W' (h.trans (hW.mono h.size)),L.decOk,L.lma⟩
abbrev svs(l:List (List UInt8)):List Value:=l.map λx=>sv x
theorem znq:(prog.info? 9).map (λi=>(i.zero,i.size,i.bytes))=some (some (.string ⟨#[]⟩),1,16):=by kernel_rfl
theorem zlp(l:List UInt8)(a b:Nat):(⟨l.toArray⟩:ByteArray).extract a b=⟨((l.take b).drop a).toArray⟩:=by
 apply ZF
 rw[AR]
 simp[List.drop_take]
theorem zgz{P:Program}{o:Oper}{a:Act}{K:Act->World->Prop}{Q:Exit->Act->World->Prop}(w:World)(u:Value)(s x:Operand)(t:TypeId)
  (ho:o.op=.call {callee:=.builtin .append,args:=#[s,x],argTypes:=#[t,t]})
  (B:Nat) (e:TypeId) (i:TypeInfo) (z:Value) (bytes:Nat) (ht:P.underlying t=some (.slice e)) (hi:P.info? e=some i) (hz:i.zero=some z) (hsize:i.size=1) (hby:i.bytes=bytes) (hzs:z.cells.size=1)
  (v:Value) (n:Nat) (xs:List Value) (hs:a.eval s=v) (hown:w.ownsRow B e 1 v n xs) (hx:a.eval x=.slice (some ⟨w.heap.size,0,none⟩) 1 1) (h1:u.oneCell'=true) (hn:n<=100000000) (hb:bytes<=100) (hB:B<=w.heap.size)
  (h:∀v' w',w'.ownsRow B e 1 v' (n+1) (xs++[u])->Frm (λk=>v.ownBlock=some k) w w'->(∀k,v'.ownBlock=some k->v.ownBlock=some k\/w.heap.size<=k)->K (a.put o.dst v') w'):ZO P o a (w.alloc (.cells #[u] e)) K Q:=by
 have hnews:∀j y,[u][j]?=some y->(w.alloc (.cells #[u] e)).cell? ((⟨w.heap.size,0,none⟩:Addr).add j)=some y:=λj y hy=>by
  have hj:j=0:=by have:=(Ad.1 hy).1;simp at this;omega
  subst hj
  have hadd:(⟨w.heap.size,0,none⟩:Addr).add 0=⟨w.heap.size,0,none⟩:=by unfold AM;split<;>simp_all
  rw[hadd,Ae _ w.heap.size 0 _ _ (0,0) (heap_alloc_new w _)]
  simpa using hy
 have h1':∀y∈[u],y.oneCell'=true:=λy hy=>by simp at hy;subst hy;exact h1
 have hO:=qE hown ((Aa _ _).alloc (WZ _) (.cells #[u] e))
 have h63:n+1<=maxLen:=by unfold maxLen;omega
 have hbs:(n+1)*bytes<=140737488355328:=by have:=Nat.mul_le_mul (show n+1<=100000001 by omega) hb;omega
 obtain⟨v',w',hr,g1,g2,_⟩:=run_append_own (P:=P) (w.alloc (.cells #[u] e)) B t o.type e i z 1 bytes ht hi hz hsize hby hzs (by decide) v n xs hO ⟨w.heap.size,0,none⟩ 1 1 [u] rfl hnews h1' h63 hbs (by simp;omega)
 have g3:=yt (P:=P) (w.alloc (.cells #[u] e)) B t o.type e i z 1 bytes ht hi hz hsize hby (by decide) v n xs hO ⟨w.heap.size,0,none⟩ 1 1 [u] rfl hnews h1' h63 hbs hr
 unfold ZO execOp
 simp only[ho,resolve,invoke,builtin,AU,Ze,Aw,AI,AZ,Zf,hs,hx,hr]
 exact h v' w' g1 (Frm.alloc_grown g2) λk hk=>(g3 k hk).imp id λe=>by rw[e];simp
theorem xR{P:Program}{ops:Array Oper}{rest:List Oper}{o:Oper}{a:Act}{Q:Exit->Act->World->Prop}(w:World)(u:Value)(hgd:o.guard=none)(s x:Operand)(t:TypeId)
  (ho:o.op=.call {callee:=.builtin .append,args:=#[s,x],argTypes:=#[t,t]})
  (B:Nat) (e:TypeId) (i:TypeInfo) (z:Value) (bytes:Nat) (ht:P.underlying t=some (.slice e)) (hi:P.info? e=some i) (hz:i.zero=some z) (hsize:i.size=1) (hby:i.bytes=bytes) (hzs:z.cells.size=1)
  (v:Value) (n:Nat) (xs:List Value) (hs:a.eval s=v) (hown:w.ownsRow B e 1 v n xs) (hx:a.eval x=.slice (some ⟨w.heap.size,0,none⟩) 1 1) (h1:u.oneCell'=true) (hn:n<=100000000) (hb:bytes<=100) (hB:B<=w.heap.size)
  (h:∀v' w',w'.ownsRow B e 1 v' (n+1) (xs++[u])->Frm (λk=>v.ownBlock=some k) w w'->(∀k,v'.ownBlock=some k->v.ownBlock=some k\/w.heap.size<=k)->wpList P ops Q rest (a.put o.dst v') w'):wpList P ops Q (o::rest) a (w.alloc (.cells #[u] e)):=
 Zd hgd λK hK=>zgz w u s x t ho B e i z bytes ht hi hz hsize hby hzs v n xs hs hown hx h1 hn hb hB λv' w' a b c=>hK _ _ (h v' w' a b c)
def SpI(c:UInt8)(l:List UInt8)(i:Nat)(done:List (List UInt8))(fr:Nat):Prop:=zr c (l.take i)=done++[(l.take i).drop fr]
theorem znr{c:UInt8}{l:List UInt8}{i:Nat}{done:List (List UInt8)}{fr:Nat}(h:SpI c l i done fr)(hx:l[i]?=some c):SpI c l (i+1) (done++[(l.take i).drop fr]) (i+1):=by
 have hi:=(Ad.1 hx).1
 unfold SpI at h⊢
 have e:l.take (i+1)=l.take i++[c]:=by rw[Ax,hx];rfl
 rw[e,yZ,if_pos rfl,h,show(l.take i++[c]).drop (i+1)=[]from List.drop_eq_nil_of_le (by simp;omega)]
theorem zlq{c x:UInt8}{l:List UInt8}{i:Nat}{done:List (List UInt8)}{fr:Nat}(h:SpI c l i done fr)(hf:fr<=i)(hx:l[i]?=some x)(hc:x≠c):SpI c l (i+1) done fr:=by
 have hi:=(Ad.1 hx).1
 unfold SpI at h⊢
 have e:l.take (i+1)=l.take i++[x]:=by rw[Ax,hx];rfl
 rw[e,yZ,if_neg hc,h,List.drop_append_of_le_length (by simp;omega)]
 simp
theorem zbQ(l:List UInt8)(c:UInt8)(hl:l.length<=3000000)(w:World):
  Calls prog 8 #[sv l,.int .u8 (c.toNat:Int)] w λe w'=>(∃v,e=.returned v/\w'.ownsRow w.heap.size 9 1 v (zr c l).length (svs (zr c l)))/\Below w.heap.size w w':=by
 obtain⟨i0,hi,hz0,hz1,hz2⟩:=AO znq
 have hsz:=jT l
 go_enter func8,ntmps8
 go_wp2_with fail
 go_loopw [5,6,7] (λlv fv ct wr=>∃(i fr:Nat) (done:List (List UInt8)),ct=.int .i64 (i:Int)/\fv=.int .i64 (fr:Int)/\i<=l.length+1/\fr<=i/\done.length<=i/\Hid ((i<=l.length->SpI c l i done fr)/\(i=l.length+1->done=zr c l)/\wr.ownsRow w.heap.size 9 1 lv done.length (svs done)/\Below w.heap.size w wr)) (λ_ _ ct _=>l.length+2-(intOf ct).toNat)
 case atStart=>exact⟨0,0,[],rfl,rfl,AA _,WZ _,WZ _,λ_=>by simp[SpI,zr],λh=>by omega,AC _ _ _ _,Aa _ _⟩
 case round=>
  obtain⟨i,fr,done,rfl,rfl,hil,hfi,hdl,hrel⟩:=hrel
  have q3:Hid (wr.ownsRow w.heap.size 9 1 u5 done.length (svs done)):=hrel.out.2.2.1
  have qb:Hid (Below w.heap.size w wr):=hrel.out.2.2.2
  have HS:Hid (i<=l.length->SpI c l i done fr):=hrel.out.1
  have HE:Hid (i=l.length+1->done=zr c l):=hrel.out.2.1
  have hszw:Hid (w.heap.size<=wr.heap.size):=qb.out.size
  clear hrel
  by_cases hle:i<=l.length
  ·by_cases hmiss:∃x,l[i]?=some x/\x≠c
   ·obtain⟨x,hx,hxc⟩:=hmiss
    have HN:Hid (SpI c l (i+1) done fr):=zlq (HS.out hle) hfi hx hxc
    have hlt:=(Ad.1 hx).1
    have hxi:(⟨l.toArray⟩:ByteArray)[i]'(by omega)=x:=(Ad.1 hx).2
    have hne:((i:Int)==(l.length:Int))=false:=by rw[beq_eq_false_iff_ne];omega
    have hcc:((x.toNat:Int)==(c.toNat:Int))=false:=by rw[beq_eq_false_iff_ne];intro h;exact hxc (Zt.1 (by omega))
    clear hx hxc hle
    go_wp2_with fail
    go_roundw
    case rel=>exact⟨i+1,fr,done,by go_num,rfl,by omega,by omega,by omega,λ_=>HN.out,λh=>by omega,q3.out,qb.out⟩
    case measure=>simp[intOf];omega
   ·have HN:Hid ((i+1<=l.length->SpI c l (i+1) (done++[(l.take i).drop fr]) (i+1))/\(i+1=l.length+1->done++[(l.take i).drop fr]=zr c l)):=⟨λh=>znr (HS.out hle) (AK λhn=>hmiss ⟨l[i]'(by omega),Ak (by omega),λe=>hn (by rw[Ak (by omega),e])⟩),λh=>by have:=HS.out hle;unfold SpI at this;rw[<-this,Zo (by omega)]⟩
    have hcc:Hid (i<l.length->l[i]?=some c):=λh=>AK λhn=>hmiss ⟨l[i]'h,Ak h,λe=>hn (by rw[Ak h,e])⟩
    clear hmiss
    by_cases hlt:i<l.length
    case' pos=>
     have hxi:(⟨l.toArray⟩:ByteArray)[i]'(by omega)=c:=(Ad.1 (hcc.out hlt)).2
     have hne:((i:Int)==(l.length:Int))=false:=by rw[beq_eq_false_iff_ne];omega
    case' neg=>have hne:((i:Int)==(l.length:Int))=true:=by rw[beq_iff_eq];omega
    all_goals
     have he:=zlp l fr i
     go_upto_region 8 with(at_builtin;refine xR wr (sv ((l.take i).drop fr)) rfl _ _ 38 rfl w.heap.size 9 i0 _ 16 underlying38 hi hz0 hz1 hz2 rfl u5 done.length (svs done) rfl q3.out rfl rfl (by omega) (by omega) hszw.out ?_)
     intro v' w5 hown5 hf5 _
     have B5:Hid (Below w.heap.size w w5):=qb.out.trans (hf5.below hszw.out λk hk=>(q3.out.lt k hk).1)
     have O5:Hid (w5.ownsRow w.heap.size 9 1 v' (done++[(l.take i).drop fr]).length (svs (done++[(l.take i).drop fr]))):=by
      show Au _ _ _ _ _ _ _
      rw[WY,show svs (done++[(l.take i).drop fr])=svs done++[sv ((l.take i).drop fr)] by simp[svs]]
      exact hown5
     clear hown5 hf5 he
     go_wp2_with fail
     go_roundw
     case rel=>exact⟨i+1,i+1,done++[(l.take i).drop fr],by go_num,by go_num,by omega,by omega,by simp;omega,HN.out.1,HN.out.2,O5.out,B5.out⟩
     case measure=>simp[intOf];omega
  ·have e:=HE.out (by omega)
   subst e
   go_wp2_with fail
   go_ret
   exact⟨⟨_,rfl,q3.out⟩,qb.out⟩
theorem zgA(w:World)(d:Nat)(x:UInt8)(hx:(x.toNat:Int)=48+(d:Int)):(convert 28 9 (.slice (some ⟨w.heap.size,0,none⟩) 1 1)).run prog (w.alloc (.cells #[.int .u8 (48+(d:Int))] 5))=.ok (sv [x]) (w.alloc (.cells #[.int .u8 (48+(d:Int))] 5)):=by
 refine Zq (P:=prog) _ 28 9 5 ⟨w.heap.size,0,none⟩ 1 [x] underlying28 underlying5 underlying9 λj hj=>?_
 have hj:j=0:=by simp at hj;omega
 subst hj
 have hadd:(⟨w.heap.size,0,none⟩:Addr).add 0=⟨w.heap.size,0,none⟩:=by unfold AM;split<;>simp_all
 rw[hadd,Ae _ w.heap.size 0 _ _ (0,0) (heap_alloc_new w _)]
 simp[hx]
theorem zlr{n:Nat}(h:¬n<10):Ay n=Ay (n/10)++[UInt8.ofNat (48+n%10)]:=by rw[Ay,dif_neg h]
theorem zeh(n:Nat):Am (n:Int)=Ay n:=by
 unfold Am
 rw[if_neg (by omega)]
 rfl
theorem ziZ(n:Nat):n<=9223372036854775807->∀w,Calls prog 33 #[.int .i64 (n:Int)] w λe w'=>e=.returned (sv (Ay n))/\Below w.heap.size w w':=by
 induction n using Nat.strongRecOn with
 |ind n ih=>
  intro hn w
  have hr:Int.tmod (n:Int) 10=((n%10:Nat):Int):=by rw[Int.tmod_eq_emod_of_nonneg (by omega)];omega
  have hq:Int.tdiv (n:Int) 10=((n/10:Nat):Int):=by rw[AH (by omega)];omega
  obtain⟨d,hd⟩:∃d,d=n%10:=⟨_,rfl⟩
  have hd0:d<10:=by omega
  obtain⟨x,hx⟩:∃x,x=UInt8.ofNat (48+d):=⟨_,rfl⟩
  have hc:=zgA w d x (by rw[hx,UInt8.toNat_ofNat'];omega)
  have B1:Hid (Below w.heap.size w (w.alloc (.cells #[.int .u8 (48+(d:Int))] 5))):=(Aa _ _).alloc (WZ _) _
  rw[<-hd]at hr
  by_cases h:n<10
  ·have e:Ay n=[x]:=by rw[Lib.decDigits_one h,hx,hd,Nat.mod_eq_of_lt h]
   rw[e]
   clear e hd ih hq hx
   go_enter func33,ntmps33
   go_wp2_with fail
   go_ret
   exact⟨rfl,B1.out⟩
  ·obtain⟨m,hm⟩:∃m,m=n/10:=⟨_,rfl⟩
   have hml:m<=922337203685477580:=by omega
   have C:=ih m (by omega) (by omega) (w.alloc (.cells #[.int .u8 (48+(d:Int))] 5))
   obtain⟨y,hy⟩:∃y,y=Ay m:=⟨_,rfl⟩
   have e:Ay n=y++[x]:=by rw[zlr h,<-hd,<-hm,hx,hy]
   have e2:(⟨y.toArray⟩:ByteArray)++⟨#[x]⟩=⟨(y++[x]).toArray⟩:=AV _ _
   rw[e]
   have hyl:y.length<=21:=by rw[hy,<-zeh];exact Ar _ (by omega) (by omega)
   rw[<-hy]at C
   rw[<-hm]at hq
   clear e hd ih hm hx hy
   obtain⟨z,hz⟩:∃z,z=y++[x]:=⟨_,rfl⟩
   rw[<-hz]at e2⊢
   clear hz
   go_enter func33,ntmps33
   go_wp2_with(go_at_call 33;refine C.mono ?_;rintro e w2 ⟨rfl,hb2⟩)
   go_ret
   exact⟨rfl,B1.out.trans (hb2.mono B1.out.size)⟩
theorem zbR(x:Int)(h0:0<=x)(h1:x<=9223372036854775807)(w:World):Calls prog 33 #[.int .i64 x] w λe w'=>e=.returned (sv (Am x))/\Below w.heap.size w w':=by
 obtain⟨n,rfl⟩:=Zm h0
 rw[zeh]
 exact ziZ n (by omega) w
theorem xq(t:List UInt8)(l:List Int)(v:Value)(w:World)(ht:t.length<=100000000)(hl:l.length<=100000)(hr:∀x∈l,0<=x/\x<=9223372036854775807)(hv:qG w v .i64 l):
  Calls prog 15 #[sv t,v] w λe w'=>e=.returned (sv (zp t l))/\Below w.heap.size w w':=by
 obtain⟨a,c,rfl,hcell⟩:=hv
 have HC:Hid (0<l.length->∃b o,a=some ⟨b,o,none⟩/\b<w.heap.size/\∀j x,l[j]?=some x->w.cell? ⟨b,o+j,none⟩=some (.int .i64 x)):=hcell
 have HR:Hid (∀x∈l,0<=x/\x<=9223372036854775807):=hr
 clear hcell hr
 go_enter func15,ntmps15
 go_wp2_with fail
 go_loopw [0,5] (λtv ct wr=>∃(i:Nat) (y:List UInt8),ct=.int .i64 (i:Int)/\i<=l.length/\tv=sv y/\Hid (y=zp t (l.take i)/\Below w.heap.size w wr)) (λ_ ct _=>l.length-(intOf ct).toNat)
 case atStart=>exact⟨0,t,rfl,AA _,rfl,by simp[zp],Aa _ _⟩
 case round=>
  obtain⟨i,y,rfl,hil,rfl,hrel⟩:=hrel
  by_cases hlt:i<l.length
  ·obtain⟨b,o,rfl,hbw,hcl⟩:=HC.out (by omega)
   obtain⟨x,hx⟩:∃x,l[i]?=some x:=⟨_,Ak hlt⟩
   have hxr:=HR.out x (AG hx)
   have hcx:wr.cell? ⟨b,o+i,none⟩=some (.int _ x):=(hrel.out.2.cell (p:=⟨b,o+i,none⟩) hbw).trans (hcl i x hx)
   have CD:=zbR x hxr.1 hxr.2 wr
   obtain⟨z,hz⟩:∃z,z=Am x:=⟨_,rfl⟩
   obtain⟨y1,hy1⟩:∃y1,y1=y++[32]:=⟨_,rfl⟩
   obtain⟨y2,hy2⟩:∃y2,y2=y1++z:=⟨_,rfl⟩
   have e1:(⟨y.toArray⟩:ByteArray)++⟨#[32]⟩=⟨y1.toArray⟩:=by rw[hy1];exact AV y [32]
   have e2:(⟨y1.toArray⟩:ByteArray)++⟨z.toArray⟩=⟨y2.toArray⟩:=by rw[hy2];exact AV y1 z
   have HY:Hid (y2=zp t (l.take (i+1))):=by show _=_;rw[zbK t hx,<-hrel.out.1,<-hz,hy2,hy1]
   have hzl:z.length<=21:=by rw[hz];exact Ar x (by omega) hxr.2
   have hyl:y.length<=110000000:=by
    have h1:=qF t (l.take i) (λn hn=>HR.out n (ZB hn))
    rw[<-hrel.out.1,AW]at h1
    omega
   have hy1l:y1.length=y.length+1:=by rw[hy1];simp
   have qb:Hid (Below w.heap.size w wr):=hrel.out.2
   rw[<-hz]at CD
   clear hcl hx hrel hz hy1 hy2
   go_wp2_with(go_at_call 33;refine CD.mono ?_;rintro e w3 ⟨rfl,hb3⟩)
   go_roundw
   case rel=>exact⟨i+1,y2,by go_num,by omega,rfl,HY.out,qb.out.trans (hb3.mono qb.out.size)⟩
   case measure=>simp[intOf];omega
  ·obtain rfl:i=l.length:=by omega
   have e:=hrel.out.1
   rw[Zn]at e
   subst e
   go_wp2_with fail
   go_ret
   exact⟨rfl,hrel.out.2⟩
theorem zls{x:UInt8}{l:List UInt8}(h:l.head?=some x):∃hl,(⟨l.toArray⟩:ByteArray)[0]'hl=x:=by
 rcases l with _|⟨y,r⟩
 ·cases h
 ·cases h
  exact⟨by simp[Az],rfl⟩
theorem zgB(l:List UInt8)(hl:l.length<=3000000)(h:l.length<1\/10<l.length\/(1<l.length/\l.head?=some 48))(w:World):
  Calls prog 14 #[sv l] w λe w'=>e=.returned (.tuple #[.int .u32 0,.bool false])/\w'=w:=by
 have hsz:=jT l
 rcases h with h|h|⟨h,h2⟩
 case' _=>skip
 rotate_left
 case' _=>skip
 rotate_left
 case' _=>
  obtain⟨hl0,hx⟩:=zls h2
  by_cases h10:10<l.length
 all_goals
  go_enter func14,ntmps14
  go_wp2_with fail
  go_ret2
  exact⟨rfl,rfl⟩
theorem zi0{l:List UInt8}{i:Nat}{x:UInt8}(hx:l[i]?=some x):valL 0 (l.take (i+1))=(valL 0 (l.take i)).bind λu=>if 48<=x.toNat/\x.toNat<=57 then some (u*10+(x.toNat-48))else none:=by
 rw[Ax,hx]
 exact zgq _ _ _
theorem zgC:∀(l:List UInt8) (a i:Nat),valL a (l.take i)=none->valL a l=none
 |[],a,i,h=>by simp[valL]at h
 |c::r,a,0,h=>by cases h
 |c::r,a,i+1,h=>by
  show(if 48<=c.toNat/\c.toNat<=57 then valL (a*10+(c.toNat-48)) r else none)=none
  have h:(if 48<=c.toNat/\c.toNat<=57 then valL (a*10+(c.toNat-48)) (r.take i)else none)=none:=h
  split
  ·rename_i hd
   rw[if_pos hd]at h
   exact zgC r _ i h
  ·rfl
end Go.Proofs.YtpiohehijkpghacGreatDoor.Dr
