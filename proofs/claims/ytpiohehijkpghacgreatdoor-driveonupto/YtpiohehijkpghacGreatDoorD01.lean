/- Bytes of the call's own out of a text: a row whose frozen stretch lies behind its last cell; appends onto it. -/
import Derived.Shelf.Strings.BuilderK
import Derived.Shelf.Strconv.Itoa4
import Derived.Shelf.Pu.ErrVarParseUint
import Derived.Shelf.Strings.Shaped
import Derived.Test.YtpiohehijkpghacGreatDoorProg
import Derived.WalkSpells
import Derived.WalkLawsBesides
import Derived.OpenShut
import Derived.ProofKit
import Derived.Deep.RegionHeld
import Derived.Deep.Cut
import Derived.Deep.WholeRow
import Derived.BigQuiet
open Array renaming getElem?_eq_some_iff->Ah,size_append->Ay
open Bool renaming false_eq_true->Ai
open ByteArray renaming size->Aj
open Go renaming run_underlying->Am,growslice_fits->Ar,grownCap_le_maxLen->At,wpList_plain->AA
open Go.Addr renaming add_lit->AE,add->AF
open Go.Builtin renaming append_->Ac,zeroCells->Ax
open Go.IntKind renaming signed->Aq,wrap->Au,bits->Av
open Go.Lib renaming indexByte->Aa,strCells->Ad,parseUintB->Ae,itoa->Al
open Go.Oper renaming wp->AG
open Go.Result renaming andThen_ok->Ak
open Go.RowKit.Below renaming refl->Ao
open Go.Sem renaming run_bind->Ap,run_pure->AB
open Go.Value renaming ownBlock->Ab,int->AD
open List renaming length_append->Af,map_toArray->An,map_cons->As,append_assoc->Az,map_nil->AC
open Nat renaming le_refl->Ag,add_zero->Aw
set_option maxHeartbeats 2000000
set_option maxRecDepth 20000
set_option linter.unusedSimpArgs false
set_option linter.unusedVariables false
open Go.Proofs.Tryz
namespace Go.Proofs.YtpiohehijkpghacGreatDoor.Dr
open Go.RowKit
def cutL(c:UInt8):List UInt8->List UInt8×List UInt8×Bool
 |[]=>([],[],false)
 |x::l=>if x=c then([],l,true)else(x::(cutL c l).1,(cutL c l).2.1,(cutL c l).2.2)
theorem xJ(c:UInt8):∀l,(cutL c l).2.1.length<=l.length
 |[]=>Ag _
 |x::l=>by
  unfold cutL
  split
  ·simp
  ·have:=xJ c l
   simp
   omega
theorem zdL(c:UInt8):∀l,l≠[]->(cutL c l).2.1.length<l.length
 |[],h=>absurd rfl h
 |x::l,_=>by
  unfold cutL
  split
  ·simp
  ·have:=xJ c l
   simp
   omega
theorem zfR(c:UInt8)(b:List UInt8):∀l,c∈l->cutL c (l++b)=((cutL c l).1,(cutL c l).2.1++b,true)/\(cutL c l).2.2=true
 |[],h=>by simp at h
 |x::l,h=>by
  by_cases e:x=c
  ·subst e
   simp[cutL]
  ·have hm:c∈l:=by
    rcases List.mem_cons.1 h with h|h
    ·exact absurd h.symm e
    ·exact h
   obtain⟨h1,h2⟩:=zfR c b l hm
   refine⟨?_,?_⟩
   ·show cutL c (x::(l++b))=_
    unfold cutL
    rw[if_neg e,if_neg e,h1]
   ·unfold cutL
    rw[if_neg e]
    exact h2
theorem zfS(c:UInt8):∀l,(l++[c])≠[]->(cutL c (l++[c])).2.1=[]\/∃m,(cutL c (l++[c])).2.1=m++[c]
 |[],_=>by left;simp[cutL]
 |x::l,_=>by
  show(cutL c (x::(l++[c]))).2.1=[]\/_
  by_cases e:x=c
  ·right
   refine⟨l,?_⟩
   show(cutL c (x::(l++[c]))).2.1=_
   unfold cutL
   rw[if_pos e]
  ·have h:=zfS c l (by simp)
   have e2:(cutL c (x::(l++[c]))).2.1=(cutL c (l++[c])).2.1:=by
    show(cutL c (x::(l++[c]))).2.1=_
    rw[cutL,if_neg e]
   rw[show x::l++[c]=x::(l++[c])from rfl,e2]
   exact h
def goL{S:Type}(f:S->List UInt8->S×List UInt8):Nat->S->List UInt8->List UInt8
 |0,_,_=>[]
 |k+1,p,s=>if s=[]then[]else(f p (cutL 10 s).1).2++10::goL f k (f p (cutL 10 s).1).1 (cutL 10 s).2.1
theorem zj6{S:Type}(f:S->List UInt8->S×List UInt8)(b:List UInt8):∀(k:Nat) (p:S) (s:List UInt8),(s=[]\/∃m,s=m++[10])->∃t,goL f k p (s++b)=goL f k p s++t
 |0,p,s,_=>⟨[],rfl⟩
 |k+1,p,s,h=>by
  rcases h with rfl|⟨m,rfl⟩
  ·exact⟨_,by rw[show goL f (k+1) p []=[]from if_pos rfl];rfl⟩
  ·have hm:(10:UInt8)∈m++[10]:=by simp
   obtain⟨h1,_⟩:=zfR 10 b (m++[10]) hm
   obtain⟨t,ht⟩:=zj6 f b k (f p (cutL 10 (m++[10])).1).1 (cutL 10 (m++[10])).2.1 (zfS 10 m (by simp))
   refine⟨t,?_⟩
   have e1:goL f (k+1) p (m++[10]++b)=(f p (cutL 10 (m++[10]++b)).1).2++10::goL f k (f p (cutL 10 (m++[10]++b)).1).1 (cutL 10 (m++[10]++b)).2.1:=if_neg (by simp)
   have e2:goL f (k+1) p (m++[10])=(f p (cutL 10 (m++[10])).1).2++10::goL f k (f p (cutL 10 (m++[10])).1).1 (cutL 10 (m++[10])).2.1:=if_neg (by simp)
   rw[e1,e2,h1,ht]
   simp
def xD(t:List UInt8):Option Nat:=if 1<t.length/\t.head?=some 48 then none else match Ae 32 t with
 |.ok u=>some u
 |_=>none
def numsL:Nat->List UInt8->Bool->Option (List Nat)
 |0,_,_=>none
 |k+1,t,b=>if b=false then some []else match xD (cutL 32 t).1 with
  |none=>none
  |some n=>(numsL k (cutL 32 t).2.1 (cutL 32 t).2.2).map (n::·)
def zx(t:List UInt8)(l:List Int):List UInt8:=t++l.flatMap fun n=>32::Al n
end Go.Proofs.YtpiohehijkpghacGreatDoor.Dr
namespace Go.Proofs
open Go.Shelf
def lays169_ren:Go.Shelf.Ren:=⟨fun|169=>24|n=>n,fun|70=>83|9=>9|0=>0|72=>85|37=>28|127=>123|3=>3|5=>5|n=>n,fun|n=>n⟩
theorem lays169:Go.Proofs.Lays.n169 prog lays169_ren:={mixed:=by kernel_rfl,f169:=func24.trans (congrArg some (by kernel_rfl)),t0:=underlying0,a0:=isAgg0,z0:=sizeOf0,v0:=zeroValue0,t3:=underlying3,a3:=isAgg3,z3:=sizeOf3,v3:=zeroValue3,t9:=underlying9,a9:=isAgg9,z9:=sizeOf9,v9:=zeroValue9,t37:=underlying28,a37:=isAgg28,z37:=sizeOf28,v37:=zeroValue28,t70:=underlying83,a70:=isAgg83,z70:=sizeOf83,v70:=zeroValue83,t72:=underlying85,a72:=isAgg85,z72:=sizeOf85,v72:=zeroValue85,t127:=underlying123,a127:=isAgg123,z127:=sizeOf123,v127:=zeroValue123}
theorem Builder_Extra_169:Builder.Extra prog lays169_ren:={sizeBuilder:=by kernel_rfl,liesBuilder:=by kernel_rfl,t5:=underlying5,a5:=isAgg5,z5:=sizeOf5,v5:=zeroValue5,infoByte:=by kernel_rfl,cellsByte:=by kernel_rfl,sizeByte:=by kernel_rfl,neB5:=by decide}
open Go.RowKit in
theorem Builder_String_any(B b:Nat)(l:List UInt8)(w:World)(h:Lib.IsBuilder 85 5 B b (Lib.byteCells l) w)(hBw:B<=w.heap.size):
  Calls prog 24 #[.pointer (some ⟨b,0,none⟩)] w fun e w'=>e=.returned (.string ⟨l.toArray⟩)/\Below B w w':=Any.Builder_String_any lays169 Builder_Extra_169 B b l w h hBw
def laysM246_ren:Go.Shelf.Ren:=⟨fun|246=>146|283=>180|284=>181|285=>182|286=>183|129=>202|317=>201|318=>203|319=>204|320=>205|337=>207|338=>208|n=>n,fun|2=>2|3=>3|9=>9|4=>4|171=>257|0=>0|53=>190|37=>28|5=>5|173=>260|212=>272|51=>24|20=>20|213=>273|46=>142|232=>279|233=>280|n=>n,fun|17=>5|18=>6|19=>7|n=>n⟩
theorem laysM246:Go.Proofs.LaysM.n246 prog laysM246_ren:={mixed:=by kernel_rfl,f129:=func202.trans (congrArg some (by kernel_rfl)),f246:=func146.trans (congrArg some (by kernel_rfl)),f283:=func180.trans (congrArg some (by kernel_rfl)),f284:=func181.trans (congrArg some (by kernel_rfl)),f285:=func182.trans (congrArg some (by kernel_rfl)),f286:=func183.trans (congrArg some (by kernel_rfl)),f317:=func201.trans (congrArg some (by kernel_rfl)),f318:=func203.trans (congrArg some (by kernel_rfl)),f319:=func204.trans (congrArg some (by kernel_rfl)),f320:=func205.trans (congrArg some (by kernel_rfl)),f337:=func207.trans (congrArg some (by kernel_rfl)),f338:=func208.trans (congrArg some (by kernel_rfl)),t0:=underlying0,a0:=isAgg0,z0:=sizeOf0,v0:=zeroValue0,t2:=underlying2,a2:=isAgg2,z2:=sizeOf2,v2:=zeroValue2,t3:=underlying3,a3:=isAgg3,z3:=sizeOf3,v3:=zeroValue3,t4:=underlying4,a4:=isAgg4,z4:=sizeOf4,v4:=zeroValue4,t5:=underlying5,a5:=isAgg5,z5:=sizeOf5,v5:=zeroValue5,t9:=underlying9,a9:=isAgg9,z9:=sizeOf9,v9:=zeroValue9,t20:=underlying20,a20:=isAgg20,z20:=sizeOf20,v20:=zeroValue20,t37:=underlying28,a37:=isAgg28,z37:=sizeOf28,v37:=zeroValue28,t46:=underlying142,a46:=isAgg142,z46:=sizeOf142,v46:=zeroValue142,t51:=underlying24,a51:=isAgg24,z51:=sizeOf24,v51:=zeroValue24,t53:=underlying190,a53:=isAgg190,z53:=sizeOf190,v53:=zeroValue190,t171:=underlying257,a171:=isAgg257,z171:=sizeOf257,v171:=zeroValue257,t173:=underlying260,a173:=isAgg260,z173:=sizeOf260,v173:=zeroValue260,t212:=underlying272,a212:=isAgg272,z212:=sizeOf272,v212:=zeroValue272,t213:=underlying273,a213:=isAgg273,z213:=sizeOf273,t232:=underlying279,a232:=isAgg279,z232:=sizeOf279,v232:=zeroValue279,t233:=underlying280,a233:=isAgg280,z233:=sizeOf280,v233:=zeroValue280,g17:=by kernel_rfl,g18:=by kernel_rfl,g19:=by kernel_rfl,i0:=by kernel_rfl,i2:=by kernel_rfl,i3:=by kernel_rfl,i4:=by kernel_rfl,i5:=by kernel_rfl,i9:=by kernel_rfl,i20:=by kernel_rfl,i37:=by kernel_rfl,i46:=by kernel_rfl,i51:=by kernel_rfl,i53:=by kernel_rfl,i171:=by kernel_rfl,i173:=by kernel_rfl,i212:=by kernel_rfl,i232:=by kernel_rfl,i233:=by kernel_rfl,m17:=by kernel_rfl,m18:=by kernel_rfl,m19:=by kernel_rfl}
def laysM173_ren:Go.Shelf.Ren:=⟨fun|173=>109|246=>146|283=>180|284=>181|285=>182|286=>183|129=>202|317=>201|318=>203|319=>204|320=>205|337=>207|338=>208|n=>n,fun|2=>2|3=>3|9=>9|4=>4|171=>257|0=>0|53=>190|37=>28|5=>5|173=>260|212=>272|51=>24|20=>20|213=>273|46=>142|232=>279|233=>280|n=>n,fun|17=>5|18=>6|19=>7|n=>n⟩
theorem laysM173:Go.Proofs.LaysM.n173 prog laysM173_ren:={mixed:=by kernel_rfl,f129:=func202.trans (congrArg some (by kernel_rfl)),f173:=func109.trans (congrArg some (by kernel_rfl)),f246:=func146.trans (congrArg some (by kernel_rfl)),f283:=func180.trans (congrArg some (by kernel_rfl)),f284:=func181.trans (congrArg some (by kernel_rfl)),f285:=func182.trans (congrArg some (by kernel_rfl)),f286:=func183.trans (congrArg some (by kernel_rfl)),f317:=func201.trans (congrArg some (by kernel_rfl)),f318:=func203.trans (congrArg some (by kernel_rfl)),f319:=func204.trans (congrArg some (by kernel_rfl)),f320:=func205.trans (congrArg some (by kernel_rfl)),f337:=func207.trans (congrArg some (by kernel_rfl)),f338:=func208.trans (congrArg some (by kernel_rfl)),t0:=underlying0,a0:=isAgg0,z0:=sizeOf0,v0:=zeroValue0,t2:=underlying2,a2:=isAgg2,z2:=sizeOf2,v2:=zeroValue2,t3:=underlying3,a3:=isAgg3,z3:=sizeOf3,v3:=zeroValue3,t4:=underlying4,a4:=isAgg4,z4:=sizeOf4,v4:=zeroValue4,t5:=underlying5,a5:=isAgg5,z5:=sizeOf5,v5:=zeroValue5,t9:=underlying9,a9:=isAgg9,z9:=sizeOf9,v9:=zeroValue9,t20:=underlying20,a20:=isAgg20,z20:=sizeOf20,v20:=zeroValue20,t37:=underlying28,a37:=isAgg28,z37:=sizeOf28,v37:=zeroValue28,t46:=underlying142,a46:=isAgg142,z46:=sizeOf142,v46:=zeroValue142,t51:=underlying24,a51:=isAgg24,z51:=sizeOf24,v51:=zeroValue24,t53:=underlying190,a53:=isAgg190,z53:=sizeOf190,v53:=zeroValue190,t171:=underlying257,a171:=isAgg257,z171:=sizeOf257,v171:=zeroValue257,t173:=underlying260,a173:=isAgg260,z173:=sizeOf260,v173:=zeroValue260,t212:=underlying272,a212:=isAgg272,z212:=sizeOf272,v212:=zeroValue272,t213:=underlying273,a213:=isAgg273,z213:=sizeOf273,t232:=underlying279,a232:=isAgg279,z232:=sizeOf279,v232:=zeroValue279,t233:=underlying280,a233:=isAgg280,z233:=sizeOf280,v233:=zeroValue280,g17:=by kernel_rfl,g18:=by kernel_rfl,g19:=by kernel_rfl,i0:=by kernel_rfl,i2:=by kernel_rfl,i3:=by kernel_rfl,i4:=by kernel_rfl,i5:=by kernel_rfl,i9:=by kernel_rfl,i20:=by kernel_rfl,i37:=by kernel_rfl,i46:=by kernel_rfl,i51:=by kernel_rfl,i53:=by kernel_rfl,i171:=by kernel_rfl,i173:=by kernel_rfl,i212:=by kernel_rfl,i232:=by kernel_rfl,i233:=by kernel_rfl,m17:=by kernel_rfl,m18:=by kernel_rfl,m19:=by kernel_rfl}
open Go.RowKit Go.Sort Go.Lib in
theorem strconv_FormatInt_10(n:Int)(h0:-9223372036854775808<=n)(h1:n<=9223372036854775807)(w:World)(htab:Lib.TabIs prog w "internal/strconv.uint64pow10" .u64 Lib.pow10Tab):
  Calls prog 109 #[.int .i64 n,.int .i64 10] w fun e w'=>e=.returned (.string ⟨(Al n).toArray⟩)/\∃k os,w'=grow (w.drewN k) os:=Any.strconv_FormatInt_10 laysM173 n h0 h1 w htab
def laysPu14_ren:Go.Shelf.Ren:=⟨fun|14=>106|16=>144|17=>145|19=>174|20=>175|21=>176|22=>177|23=>178|24=>179|25=>198|27=>200|26=>199|28=>206|29=>146|30=>180|31=>181|32=>182|33=>183|35=>202|34=>201|36=>203|37=>204|38=>205|39=>207|40=>208|n=>n,fun|9=>9|3=>3|22=>190|24=>89|25=>191|4=>4|34=>252|5=>5|36=>142|37=>28|0=>0|39=>254|21=>21|44=>269|47=>123|50=>277|48=>275|2=>2|52=>257|55=>260|59=>272|60=>24|20=>20|61=>273|65=>279|66=>280|67=>93|n=>n,fun|0=>3|1=>4|2=>5|3=>6|4=>7|n=>n⟩
theorem laysPu14:Go.Proofs.LaysPu.n14 prog laysPu14_ren:={mixed:=by kernel_rfl,f14:=func106.trans (congrArg some (by kernel_rfl)),f16:=func144.trans (congrArg some (by kernel_rfl)),f17:=func145.trans (congrArg some (by kernel_rfl)),f19:=func174.trans (congrArg some (by kernel_rfl)),f20:=func175.trans (congrArg some (by kernel_rfl)),f21:=func176.trans (congrArg some (by kernel_rfl)),f22:=func177.trans (congrArg some (by kernel_rfl)),f23:=func178.trans (congrArg some (by kernel_rfl)),f24:=func179.trans (congrArg some (by kernel_rfl)),f25:=func198.trans (congrArg some (by kernel_rfl)),f26:=func199.trans (congrArg some (by kernel_rfl)),f27:=func200.trans (congrArg some (by kernel_rfl)),f28:=func206.trans (congrArg some (by kernel_rfl)),f29:=func146.trans (congrArg some (by kernel_rfl)),f30:=func180.trans (congrArg some (by kernel_rfl)),f31:=func181.trans (congrArg some (by kernel_rfl)),f32:=func182.trans (congrArg some (by kernel_rfl)),f33:=func183.trans (congrArg some (by kernel_rfl)),f34:=func201.trans (congrArg some (by kernel_rfl)),f35:=func202.trans (congrArg some (by kernel_rfl)),f36:=func203.trans (congrArg some (by kernel_rfl)),f37:=func204.trans (congrArg some (by kernel_rfl)),f38:=func205.trans (congrArg some (by kernel_rfl)),f39:=func207.trans (congrArg some (by kernel_rfl)),f40:=func208.trans (congrArg some (by kernel_rfl)),t0:=underlying0,a0:=isAgg0,z0:=sizeOf0,v0:=zeroValue0,i0:=by kernel_rfl,t2:=underlying2,a2:=isAgg2,z2:=sizeOf2,v2:=zeroValue2,i2:=by kernel_rfl,t3:=underlying3,a3:=isAgg3,z3:=sizeOf3,v3:=zeroValue3,i3:=by kernel_rfl,t4:=underlying4,a4:=isAgg4,z4:=sizeOf4,v4:=zeroValue4,i4:=by kernel_rfl,t5:=underlying5,a5:=isAgg5,z5:=sizeOf5,v5:=zeroValue5,i5:=by kernel_rfl,t9:=underlying9,a9:=isAgg9,z9:=sizeOf9,v9:=zeroValue9,i9:=by kernel_rfl,t20:=underlying20,a20:=isAgg20,z20:=sizeOf20,v20:=zeroValue20,i20:=by kernel_rfl,t21:=underlying21,a21:=isAgg21,z21:=sizeOf21,v21:=zeroValue21,i21:=by kernel_rfl,t22:=underlying190,a22:=isAgg190,z22:=sizeOf190,v22:=zeroValue190,i22:=by kernel_rfl,t24:=underlying89,a24:=isAgg89,z24:=sizeOf89,v24:=zeroValue89,i24:=by kernel_rfl,t25:=underlying191,a25:=isAgg191,z25:=sizeOf191,v25:=zeroValue191,i25:=by kernel_rfl,t34:=underlying252,a34:=isAgg252,z34:=sizeOf252,v34:=zeroValue252,i34:=by kernel_rfl,c34:=by kernel_rfl,t36:=underlying142,a36:=isAgg142,z36:=sizeOf142,v36:=zeroValue142,i36:=by kernel_rfl,t37:=underlying28,a37:=isAgg28,z37:=sizeOf28,v37:=zeroValue28,i37:=by kernel_rfl,t39:=underlying254,a39:=isAgg254,z39:=sizeOf254,v39:=zeroValue254,i39:=by kernel_rfl,t44:=underlying269,a44:=isAgg269,z44:=sizeOf269,v44:=zeroValue269,i44:=by kernel_rfl,t47:=underlying123,a47:=isAgg123,z47:=sizeOf123,v47:=zeroValue123,i47:=by kernel_rfl,t48:=underlying275,a48:=isAgg275,z48:=sizeOf275,v48:=zeroValue275,i48:=by kernel_rfl,t50:=underlying277,a50:=isAgg277,z50:=sizeOf277,v50:=zeroValue277,i50:=by kernel_rfl,t52:=underlying257,a52:=isAgg257,z52:=sizeOf257,v52:=zeroValue257,i52:=by kernel_rfl,t55:=underlying260,a55:=isAgg260,z55:=sizeOf260,v55:=zeroValue260,i55:=by kernel_rfl,t59:=underlying272,a59:=isAgg272,z59:=sizeOf272,v59:=zeroValue272,i59:=by kernel_rfl,t60:=underlying24,a60:=isAgg24,z60:=sizeOf24,v60:=zeroValue24,i60:=by kernel_rfl,t61:=underlying273,a61:=isAgg273,z61:=sizeOf273,t65:=underlying279,a65:=isAgg279,z65:=sizeOf279,v65:=zeroValue279,i65:=by kernel_rfl,t66:=underlying280,a66:=isAgg280,z66:=sizeOf280,v66:=zeroValue280,i66:=by kernel_rfl,t67:=underlying93,a67:=isAgg93,z67:=sizeOf93,v67:=zeroValue93,i67:=by kernel_rfl,g0:=by kernel_rfl,m0:=by kernel_rfl,g1:=by kernel_rfl,m1:=by kernel_rfl,g2:=by kernel_rfl,m2:=by kernel_rfl,g3:=by kernel_rfl,m3:=by kernel_rfl,g4:=by kernel_rfl,m4:=by kernel_rfl}
open Go.RowKit in
open Go.RowKit in
open Go.RowKit in
theorem strconv_ParseUint_10_at32_ok(s:ByteArray)(hmax:s.size<=9223372036854775806)(u:Nat)(h:Ae 32 s.data.toList=.ok u)(w:World):
  Calls prog 106 #[.string s,.int .i64 10,.int .i64 32] w fun e w'=>e=.returned (.tuple #[.int .u64 u,.nilIface])/\(w'=w\/w'=Lib.bytesWorld w 5 s):=Any.strconv_ParseUint_10_at32_ok laysPu14 s hmax u h w
open Go.RowKit in
open Go.RowKit in
open Go.RowKit in
theorem strconv_ParseUint_10_at32_syntax_var(s:ByteArray)(hlim:s.size<=281474976710656)(r:_)(h:Ae 32 s.data.toList=r)(h1:∀u,r≠.ok u)(h2:r≠.range)(tp:TypeId)(p:Value)(w:World)(hvar:w.var? prog "strconv.ErrSyntax" =some #[.iface tp p]):
  Calls prog 106 #[.string s,.int .i64 10,.int .i64 32] w fun e w'=>∃N,e=.returned (.tuple #[.int .u64 0,.iface 254 (.pointer (some ⟨N,0,none⟩))])/\w.heap.size<=N/\w'.heap[N]?=some (.cells #[.string ⟨#[80,97,114,115,101,85,105,110,116]⟩,.string s,.iface tp p] 269 (0,0))/\Below w.heap.size w w':=by
 cases r
 ·exact absurd rfl (h1 _)
 ·exact Any.strconv_ParseUint_10_at32_syntax_var laysPu14 s hlim h tp p w hvar
 ·exact absurd rfl h2
open Go.RowKit in
theorem strconv_ParseUint_10_at32_range_var(s:ByteArray)(hlim:s.size<=281474976710656)(h:Ae 32 s.data.toList=.range)(tp:TypeId)(p:Value)(w:World)(hvar:w.var? prog "strconv.ErrRange" =some #[.iface tp p]):
  Calls prog 106 #[.string s,.int .i64 10,.int .i64 32] w fun e w'=>∃N,e=.returned (.tuple #[.int .u64 4294967295,.iface 254 (.pointer (some ⟨N,0,none⟩))])/\w.heap.size<=N/\w'.heap[N]?=some (.cells #[.string ⟨#[80,97,114,115,101,85,105,110,116]⟩,.string s,.iface tp p] 269 (0,0))/\Below w.heap.size w w':=Any.strconv_ParseUint_10_at32_range_var laysPu14 s hlim h tp p w hvar
def lays219_ren:Go.Shelf.Ren:=⟨fun|219=>70|217=>102|225=>103|224=>104|267=>105|266=>142|314=>143|n=>n,fun|9=>9|3=>3|4=>4|5=>5|46=>142|146=>228|51=>24|n=>n,fun|1=>1|n=>n⟩
theorem lays219:Go.Proofs.Lays.n219 prog lays219_ren:={mixed:=by kernel_rfl,f217:=func102.trans (congrArg some (by kernel_rfl)),f219:=func70.trans (congrArg some (by kernel_rfl)),f224:=func104.trans (congrArg some (by kernel_rfl)),f225:=func103.trans (congrArg some (by kernel_rfl)),f266:=func142.trans (congrArg some (by kernel_rfl)),f267:=func105.trans (congrArg some (by kernel_rfl)),f314:=func143.trans (congrArg some (by kernel_rfl)),t3:=underlying3,a3:=isAgg3,z3:=sizeOf3,v3:=zeroValue3,t4:=underlying4,a4:=isAgg4,z4:=sizeOf4,v4:=zeroValue4,t5:=underlying5,a5:=isAgg5,z5:=sizeOf5,v5:=zeroValue5,t9:=underlying9,a9:=isAgg9,z9:=sizeOf9,v9:=zeroValue9,t46:=underlying142,a46:=isAgg142,z46:=sizeOf142,v46:=zeroValue142,t51:=underlying24,a51:=isAgg24,z51:=sizeOf24,v51:=zeroValue24,t146:=underlying228,a146:=isAgg228,z146:=sizeOf228,v146:=zeroValue228,g1:=by kernel_rfl}
open Go.RowKit Go.Lib in
theorem stringslite_Index_one(s:ByteArray)(c:UInt8)(w:World):
  Calls prog 70 #[.string s,.string ⟨#[c]⟩] w fun e w'=>e=.returned (.int .i64 (Aa s.data.toList c))/\w'=w:=Any.stringslite_Index_one lays219 s c w
end Go.Proofs
namespace Go.Proofs.YtpiohehijkpghacGreatDoor.Dr
open Go.RowKit
abbrev sv(l:List UInt8):Value:=.string ⟨l.toArray⟩
theorem zdM(c:UInt8):∀l,0<=Aa l c\/Aa l c=-1
 |[]=>.inr rfl
 |x::l=>by
  unfold Aa
  split
  ·exact .inl (Int.le_refl 0)
  ·split
   ·exact .inr rfl
   ·rename_i h
    rcases zdM c l with h1|h1
    ·left;omega
    ·rw[h1]at h
     simp at h
theorem zj7(c:UInt8):∀l,Aa l c=-1->cutL c l=(l,[],false)
 |[],_=>rfl
 |x::l,h=>by
  unfold Aa at h
  by_cases e:x=c
  ·subst e
   simp at h
  ·have e':(x==c)=false:=by simpa using e
   rw[e']at h
   simp only[Ai,if_false]at h
   by_cases h1:Aa l c=-1
   ·unfold cutL
    rw[if_neg e,zj7 c l h1]
   ·exfalso
    have hb:(Aa l c==-1)=false:=by simpa using h1
    rw[hb]at h
    simp only[Ai,if_false]at h
    have:=zdM c l
    omega
theorem zfT(c:UInt8):∀(l:List UInt8) (i:Nat),Aa l c=(i:Int)->i<l.length/\cutL c l=(l.take i,l.drop (i+1),true)
 |[],i,h=>by unfold Aa at h;omega
 |x::l,i,h=>by
  unfold Aa at h
  by_cases e:x=c
  ·subst e
   simp at h
   obtain rfl:i=0:=by omega
   simp[cutL]
  ·have e':(x==c)=false:=by simpa using e
   rw[e']at h
   simp only[Ai,if_false]at h
   by_cases h1:Aa l c=-1
   ·have hb:(Aa l c==-1)=true:=by simpa using h1
    rw[hb]at h
    simp at h
   ·have hb:(Aa l c==-1)=false:=by simpa using h1
    rw[hb]at h
    simp only[Ai,if_false]at h
    obtain⟨j,rfl⟩:∃j,i=j+1:=⟨i-1,by have:=zdM c l;omega⟩
    obtain⟨h2,h3⟩:=zfT c l j (by omega)
    refine⟨by simp;omega,?_⟩
    unfold cutL
    rw[if_neg e,h3]
    simp
theorem zdN(l:List UInt8)(i:Nat):(⟨l.toArray⟩:ByteArray).extract 0 i=⟨(l.take i).toArray⟩:=by
 apply ByteArray.ext
 rw[ByteArray.data_extract]
 simp
theorem zik(l:List UInt8)(i:Nat):(⟨l.toArray⟩:ByteArray).extract i l.length=⟨(l.drop i).toArray⟩:=by
 apply ByteArray.ext
 rw[ByteArray.data_extract]
 simp[List.take_of_length_le]
theorem zfU(l:List UInt8)(c:UInt8)(hl:l.length<=4294967295)(w:World):
  Calls prog 39 #[sv l,.string ⟨#[c]⟩] w fun e w'=>e=.returned (.tuple #[sv (cutL c l).1,sv (cutL c l).2.1,.bool (cutL c l).2.2])/\∃k,w'=w.drewN k:=by
 have CI:=stringslite_Index_one ⟨l.toArray⟩ c
 rcases zdM c l with h|h
 ·obtain⟨i,hi⟩:=Int.eq_ofNat_of_zero_le h
  obtain⟨hlt,hc⟩:=zfT c l i hi
  have HC:Hid (cutL c l=(l.take i,l.drop (i+1),true)):=hc
  have CI:∀w,Calls prog 70 #[sv l,.string ⟨#[c]⟩] w fun e w'=>e=.returned (.int .i64 (i:Int))/\w'=w:=fun w=>by have h:=CI w;rw[show Aa (⟨l.toArray⟩:ByteArray).data.toList c=(i:Int) by simpa using hi]at h;exact h
  clear hi hc h
  have hsz:(⟨l.toArray⟩:ByteArray).size=l.length:=by simp[Aj]
  go_enter func39,ntmps39
  go_wp2_with(go_at_call 70;refine(CI _).mono ?_;rintro e w' ⟨rfl,rfl⟩)
  go_region
  go_wp2_with fail
  go_ret3
  refine⟨?_,1,rfl⟩
  rw[HC.out]
  show Ending.returned (.tuple #[.string ((⟨l.toArray⟩:ByteArray).extract 0 i),.string ((⟨l.toArray⟩:ByteArray).extract (i+1) l.length),.bool true])=_
  rw[zdN,zik]
 ·rw[zj7 c l h]
  have CI:∀w,Calls prog 70 #[sv l,.string ⟨#[c]⟩] w fun e w'=>e=.returned (.int .i64 (-1))/\w'=w:=fun w=>by have h2:=CI w;rw[show Aa (⟨l.toArray⟩:ByteArray).data.toList c=-1 by simpa using h]at h2;exact h2
  go_enter func39,ntmps39
  go_wp2_with(go_at_call 70;refine(CI _).mono ?_;rintro e w' ⟨rfl,rfl⟩)
  go_ret3
  exact⟨rfl,0,by simp[World.drewN]⟩
theorem zaD(l:List UInt8)(c:UInt8)(hl:l.length<=4294967295)(w:World):
  Calls prog 20 #[sv l,.string ⟨#[c]⟩] w fun e w'=>e=.returned (.tuple #[sv (cutL c l).1,sv (cutL c l).2.1,.bool (cutL c l).2.2])/\∃k,w'=w.drewN k:=by
 have C:=zfU l c hl
 obtain⟨a,ha⟩:∃a,a=(cutL c l).1:=⟨_,rfl⟩
 obtain⟨b,hb⟩:∃b,b=(cutL c l).2.1:=⟨_,rfl⟩
 obtain⟨d,hd⟩:∃d,d=(cutL c l).2.2:=⟨_,rfl⟩
 rw[<-ha,<-hb,<-hd]at C⊢
 clear ha hb hd
 go_enter func20,ntmps20
 go_wp2_with(go_at_call 39;refine(C _).mono ?_;rintro e w' ⟨rfl,k,rfl⟩)
 go_ret3
 exact⟨rfl,k,rfl⟩
def Errs(w:World):Prop:=(∃tp p,World.var? prog w "strconv.ErrSyntax" =some #[.iface tp p])/\∃tp p,World.var? prog w "strconv.ErrRange" =some #[.iface tp p]
theorem zfV{l:List UInt8}(h:¬(1<l.length/\l.head?=some 48)):xD l=match Ae 32 l with
  |.ok u=>some u
  |_=>none:=if_neg h
def lead(l:List UInt8):Bool:=match l with
 |x::_::_=>x==48
 |_=>false
theorem zeN(x y:UInt8)(r:List UInt8)(hx:x=48)(hl:r.length<=4294967290)(w:World):
  Calls prog 72 #[sv (x::y::r)] w fun e w'=>e=.returned (.tuple #[.int .u32 0,.bool false])/\w'=w:=by
 subst hx
 go_enter func72,ntmps72
 go_wp2_with fail
 go_ret2
 exact⟨rfl,rfl⟩
theorem zfW{x y:UInt8}{r:List UInt8}(h0:lead (x::y::r)=false):((((⟨(x::y::r).toArray⟩:ByteArray)[0]'(by simp[Aj])).toNat:Int)==48)=false:=by
 have:(x==48)=false:=h0
 show((x.toNat:Int)==48)=false
 rw[beq_eq_false_iff_ne]at this⊢
 intro h
 exact this (UInt8.toNat_inj.1 (show x.toNat=48 by omega))
theorem zil(l:List UInt8)(hl:l.length<=4294967290)(h0:lead l=false)(N:Int)(n0:0<=N)(n1:N<=4294967295)(w:World)
  (CP:Calls prog 106 #[sv l,.int .i64 10,.int .i64 32] w fun e w'=>e=.returned (.tuple #[.int .u64 N,.nilIface])/\Below w.heap.size w w'):
  Calls prog 72 #[sv l] w fun e w'=>e=.returned (.tuple #[.int .u32 N,.bool true])/\Below w.heap.size w w':=by
 have hw:IntKind.u32.wrap N=N:=by simp[Au,Av,Aq];omega
 rcases l with _|⟨x,_|⟨y,r⟩⟩
 rotate_right
 have hx:=zfW h0
 all_goals
  go_enter func72,ntmps72
  go_wp2_with(go_at_call 106;refine CP.mono ?_;rintro e w' ⟨rfl,hb⟩)
  go_region
  go_wp2_with fail
  go_ret2
  exact⟨by simp,hb.drew⟩
theorem zdO(l:List UInt8)(hl:l.length<=4294967290)(h0:lead l=false)(N:Int)(n0:0<=N)(n1:N<=4294967295)(w:World)
  (tp:TypeId) (CP:Calls prog 106 #[sv l,.int .i64 10,.int .i64 32] w fun e w'=>(∃q,e=.returned (.tuple #[.int .u64 N,.iface tp (.pointer q)]))/\Below w.heap.size w w'):
  Calls prog 72 #[sv l] w fun e w'=>e=.returned (.tuple #[.int .u32 N,.bool false])/\Below w.heap.size w w':=by
 have hw:IntKind.u32.wrap N=N:=by simp[Au,Av,Aq];omega
 rcases l with _|⟨x,_|⟨y,r⟩⟩
 rotate_right
 have hx:=zfW h0
 all_goals
  go_enter func72,ntmps72
  go_wp2_with(go_at_call 106;refine CP.mono ?_;rintro e w' ⟨⟨q,rfl⟩,hb⟩)
  go_region
  go_wp2_with fail
  go_ret2
  exact⟨by simp,hb.drew⟩
theorem zdP(l:List UInt8):lead l=true↔1<l.length/\l.head?=some 48:=by
 rcases l with _|⟨x,_|⟨y,r⟩⟩<;>simp[lead]
theorem zfX(l:List UInt8)(hl:l.length<=4294967290)(w:World)(he:Errs w):
  Calls prog 72 #[sv l] w fun e w'=>(∃n:Int,e=.returned (.tuple #[.int .u32 n,.bool (xD l).isSome])/\∀u,xD l=some u->n=(u:Int))/\Below w.heap.size w w':=by
 have hsz:(⟨l.toArray⟩:ByteArray).size=l.length:=by simp[Aj]
 cases hz:lead l with
 |true=>
  have hr:xD l=none:=if_pos ((zdP l).1 hz)
  rw[hr]
  rcases l with _|⟨x,_|⟨y,r⟩⟩
  ·cases hz
  ·cases hz
  ·refine(zeN x y r (by simpa[lead]using hz) (by simp at hl;omega) w).mono fun e w' ⟨he,hw⟩=>⟨⟨0,he,fun u hu=>by cases hu⟩,by rw[hw];exact Ao _ _⟩
 |false=>
  have hr:=zfV (l:=l) (fun h=>by rw[(zdP l).2 h]at hz;cases hz)
  cases hp:Ae 32 l
  ·rename_i u
   rw[hp]at hr
   have hu:=Lib.parseUintB_le hp
   rw[hr]
   refine(zil l hl hz (u:Int) (by omega) (by omega) w ((strconv_ParseUint_10_at32_ok ⟨l.toArray⟩ (by omega) u (by simpa using hp) w).mono fun e w' ⟨he,hw⟩=>⟨he,?_⟩)).mono fun e w' ⟨he,hb⟩=>⟨⟨u,he,fun v hv=>by cases hv;rfl⟩,hb⟩
   rcases hw with rfl|rfl
   ·exact Ao _ _
   ·exact Lib.bytesWorld_below _ _ _
  ·rw[hp]at hr
   rw[hr]
   obtain⟨tp,p,hv⟩:=he.1
   exact(zdO l hl hz 0 (by omega) (by omega) w _ ((strconv_ParseUint_10_at32_syntax_var ⟨l.toArray⟩ (by omega) (Ae 32 l) (by simp) (fun u h=>by rw[hp]at h;cases h) (fun h=>by rw[hp]at h;cases h) tp p w hv).mono fun e w' ⟨N,he,_,_,hb⟩=>⟨⟨_,he⟩,hb⟩)).mono fun e w' ⟨he,hb⟩=>⟨⟨0,he,fun u hu=>by cases hu⟩,hb⟩
  ·rw[hp]at hr
   rw[hr]
   obtain⟨tp,p,hv⟩:=he.2
   exact(zdO l hl hz 4294967295 (by omega) (by omega) w _ ((strconv_ParseUint_10_at32_range_var ⟨l.toArray⟩ (by omega) (by simpa using hp) tp p w hv).mono fun e w' ⟨N,he,_,_,hb⟩=>⟨⟨_,he⟩,hb⟩)).mono fun e w' ⟨he,hb⟩=>⟨⟨_,he,fun u hu=>by cases hu⟩,hb⟩
abbrev ucs(l:List Nat):List Value:=l.map fun(n:Nat)=>.int .u32 (n:Int)
theorem zj8:(prog.info? 24).map (fun i=>(i.zero,i.size,i.bytes))=some (some (.int .u32 0),1,4):=by kernel_rfl
theorem yJ{P:Program}{w w':World}{n:String}{cs:Array Value}(h:w.var? P n=some cs)(hb:Below w.heap.size w w'):w'.var? P n=some cs:=by
 unfold World.var? at h⊢
 cases hg:P.globalNamed n with
 |none=>rw[hg]at h;cases h
 |some g=>
  rw[hg]at h
  simp only[Option.bind_some]at h⊢
  have hlt:g<w.heap.size:=Classical.byContradiction fun hn=>by
   rw[Array.getElem?_eq_none (by omega)]at h
   cases h
  rw[hb.block g hlt]
  exact h
theorem Errs.below{w w':World}(h:Errs w)(hb:Below w.heap.size w w'):Errs w':=by
 obtain⟨⟨a,p,h1⟩,c,q,h2⟩:=h
 exact⟨⟨a,p,yJ h1 hb⟩,c,q,yJ h2 hb⟩
theorem xK(w:World)(k:Nat):Below w.heap.size w (w.drewN k):=⟨rfl,rfl,rfl,Ag _,fun _ _=>rfl⟩
theorem zdQ:xD []=none:=by
 unfold xD
 rw[if_neg (by simp)]
 rfl
theorem zbq:∀(k:Nat) (t:List UInt8) (b:Bool),t.length+2<=k->numsL (k+1) t b=numsL k t b
 |0,t,b,h=>absurd h (by omega)
 |k+1,t,b,h=>by
  show(if b=false then some []else _)=(if b=false then some []else _)
  by_cases hb:b=false
  ·rw[if_pos hb,if_pos hb]
  ·rw[if_neg hb,if_neg hb]
   cases hr:xD (cutL 32 t).1 with
   |none=>rfl
   |some n=>
    simp only[]
    have ht:t≠[]:=fun e=>by
     subst e
     rw[show(cutL 32 []).1=[]from rfl,zdQ]at hr
     cases hr
    have:=zdL 32 t ht
    rw[zbq k (cutL 32 t).2.1 (cutL 32 t).2.2 (by omega)]
theorem zbr(t:List UInt8)(b:Bool):∀j,numsL (t.length+2+j) t b=numsL (t.length+2) t b
 |0=>rfl
 |j+1=>by
  rw[show t.length+2+(j+1)=(t.length+2+j)+1 by omega,zbq _ t b (by omega)]
  exact zbr t b j
theorem ji{w w':World}{B e size:Nat}{v:Value}{n:Nat}{xs:List Value}(h:w.ownsRow B e size v n xs)(hb:Below w.heap.size w w'):w'.ownsRow B e size v n xs:=by
 obtain⟨h1,h2⟩:=h
 refine⟨h1,?_⟩
 rcases h2 with h2|⟨g,cap,cur,hv,hg,hh,r⟩
 ·exact .inl h2
 ·exact .inr ⟨g,cap,cur,hv,hg,(hb.block g (Ah.1 hh).1).trans hh,r⟩
def NumP(B:Nat)(w':World)(e:Ending)(R:Option (List Nat)):Prop:=match R with
 |none=>e=.returned (.tuple #[.slice none 0 0,.bool false])
 |some ns=>∃v,e=.returned (.tuple #[v,.bool true])/\w'.ownsRow B 24 1 v ns.length (ucs ns)
def msr(tx th:Value):Nat:=match tx,th with
 |.string s,.bool true=>s.size+1
 |_,_=>0
theorem zoG(t:List UInt8):msr (sv t) (.bool true)=t.length+1:=by simp[msr,Aj]
theorem zmN(t:List UInt8)(b:Bool):msr (sv t) (.bool b)<=t.length+1:=by cases b<;>simp[msr,Aj]
theorem zpP(t:List UInt8):msr (sv t) (.bool false)=0:=by simp[msr]
theorem zfY(c:UInt8):∀l,(cutL c l).2.2=false->(cutL c l).2.1=[]
 |[],_=>rfl
 |x::l,h=>by
  unfold cutL at h⊢
  split at h
  ·cases h
  ·rename_i e
   rw[if_neg e]
   exact zfY c l h
theorem zcx(c:UInt8):∀l,(cutL c l).1.length<=l.length
 |[]=>Ag _
 |x::l=>by
  have:=zcx c l
  unfold cutL
  split<;>simp<;>omega
theorem zbs(l:List UInt8)(b:Bool)(hl:l.length<=3000000)(w:World)(he:Errs w):
  Calls prog 41 #[sv l,.bool b] w fun e w'=>NumP w.heap.size w' e (numsL (l.length+2) l b)/\Below w.heap.size w w':=by
 obtain⟨R,hR⟩:∃R,Hid (R=numsL (l.length+2) l b):=⟨_,rfl⟩
 rw[<-hR.out]
 go_enter func41,ntmps41
 go_wp2_with fail
 go_loopw [0,1,6] (fun tx th lv wr=>∃(t:List UInt8) (bb:Bool) (ns:List Nat),tx=sv t/\th=.bool bb/\t.length<=l.length/\ns.length+t.length<=l.length+1/\Hid (R=(numsL (t.length+2) t bb).map (ns++·)/\wr.ownsRow w.heap.size 24 1 lv ns.length (ucs ns)/\Below w.heap.size w wr)) (fun tx th _ _=>msr tx th)
 case atStart=>exact⟨l,b,[],rfl,rfl,Ag _,by simp,by rw[hR.out];simp,World.ownsRow_nil _ _ _ _,Ao _ _⟩
 case round=>
  obtain⟨t,bb,ns,rfl,rfl,ht,hns,hrel⟩:=hrel
  cases bb with
  |false=>
   have hRs:Hid (R=some ns):=by
    have:=hrel.out.1
    rw[show numsL (t.length+2) t false=some []from if_pos rfl]at this
    have e:R=some ns:=by simpa using this
    exact e
   have q5:Hid (wr.ownsRow w.heap.size 24 1 u6 ns.length (ucs ns)):=hrel.out.2.1
   have qb:Hid (Below w.heap.size w wr):=hrel.out.2.2
   clear hrel
   go_wp2_with fail
   go_ret2
   rw[hRs.out]
   exact⟨⟨u6,rfl,q5.out⟩,qb.out⟩
  |true=>
   have C1:=fun W=>zaD t 32 (by omega) W
   have hlen1:=zcx 32 t
   have hlen2:=xJ 32 t
   have hnil:=zfY 32 t
   have hlt:=zdL 32 t
   have hstep:Hid (R=(match xD (cutL 32 t).1 with|none=>none|some n=>(numsL (t.length+1) (cutL 32 t).2.1 (cutL 32 t).2.2).map (n::·)).map (ns++·)):=hrel.out.1
   obtain⟨x,hx⟩:∃x,x=(cutL 32 t).1:=⟨_,rfl⟩
   obtain⟨y,hy⟩:∃y,y=(cutL 32 t).2.1:=⟨_,rfl⟩
   obtain⟨d,hd⟩:∃d,d=(cutL 32 t).2.2:=⟨_,rfl⟩
   rw[<-hx,<-hy,<-hd]at C1
   rw[<-hx]at hlen1
   rw[<-hy]at hlen2 hlt
   rw[<-hy,<-hd]at hnil
   rw[<-hx,<-hy,<-hd]at hstep
   have q5:Hid (wr.ownsRow w.heap.size 24 1 u6 ns.length (ucs ns)):=hrel.out.2.1
   have qb:Hid (Below w.heap.size w wr):=hrel.out.2.2
   have hx0:t=[]->x=[]:=fun h=>by rw[hx,h];rfl
   clear hx hy hd hrel
   go_wp2_with(go_at_call 20;refine(C1 _).mono ?_;rintro e w1 ⟨rfl,hw1⟩)
   have b1:Hid (Below wr.heap.size wr w1):=by obtain⟨k1,rfl⟩:=hw1;exact xK _ _
   have B1:Hid (Below w.heap.size w w1):=qb.out.trans (b1.out.mono qb.out.size)
   have q6:Hid (w1.ownsRow w.heap.size 24 1 u6 ns.length (ucs ns)):=ji q5.out b1.out
   have C2:=zfX x (by omega) w1 (he.below B1.out)
   clear hw1 C1 q5 qb b1
   cases hr:xD x with
   |none=>
    rw[hr]at C2 hstep
    go_wp2_with(go_at_call 72;refine C2.mono ?_;rintro e w2 ⟨⟨n,rfl,_⟩,hb2⟩)
    go_ret2
    have hRn:R=none:=by simpa using hstep.out
    rw[hRn]
    exact⟨rfl,B1.out.trans (hb2.mono B1.out.size)⟩
   |some u=>
    rw[hr]at C2 hstep
    have hlt:y.length<t.length:=hlt fun h=>by rw[hx0 h,zdQ]at hr;cases hr
    obtain⟨i0,hi,hz0,hz1,hz2⟩:=info_parts zj8
    have C2:Calls prog 72 #[sv x] w1 fun e w'=>e=.returned (.tuple #[.int .u32 (u:Int),.bool true])/\Below w1.heap.size w1 w':=C2.mono fun e w' ⟨⟨n,h1,h2⟩,h3⟩=>⟨by rw[h1,h2 u rfl];rfl,h3⟩
    have hu0:Hid (w.heap.size<=w1.heap.size):=B1.out.size
    go_upto_region 8 with(go_at_call 72;refine C2.mono ?_;rintro e w2 ⟨rfl,hb2⟩)
    have B2:Hid (Below w.heap.size w w2):=B1.out.trans (hb2.mono B1.out.size)
    have q7:Hid (w2.ownsRow w.heap.size 24 1 u6 ns.length (ucs ns)):=ji q6.out hb2
    clear hb2 q6 B1 C2
    go_wp2_with(at_builtin;refine wpList_append_own _ rfl _ _ 69 rfl w.heap.size 24 i0 _ 1 4 underlying69 hi hz0 hz1 hz2 rfl (by decide) u6 ns.length (ucs ns) rfl ?q1 ⟨w2.heap.size,0,none⟩ 1 1 [.int .u32 (u:Int)] rfl ?q2 ?q3 ?q4 ?q5 ?q6 ?q7 ?_)
    case q1=>exact ji q7.out ((Ao _ _).alloc (Ag _) _)
    case q2=>rfl
    case q3=>
     intro j v hv
     have hj:j=0:=by have:=(List.getElem?_eq_some_iff.1 hv).1;simp at this;omega
     subst hj
     have hadd:(⟨w2.heap.size,0,none⟩:Addr).add 0=⟨w2.heap.size,0,none⟩:=by unfold AF;split<;>simp_all
     rw[hadd,cell_of_row _ w2.heap.size 0 _ _ (0,0) (heap_alloc_new w2 _)]
     simpa using hv
    case q4=>intro v hv;simp at hv;subst hv;rfl
    case q5=>unfold maxLen;omega
    case q6=>omega
    case q7=>have:=B2.out.size;simp;omega
    intro v' w5 hown5 hgrow5 _
    have B5:Hid (Below w.heap.size w w5):=(B2.out.alloc B2.out.size _).grown hgrow5 (by have:=B2.out.size;simp;omega) (fun k hk=>(q7.out.lt k hk).1)
    have own5:Hid (w5.ownsRow w.heap.size 24 1 v' (ns++[u]).length (ucs (ns++[u]))):=by
     have h:=hown5
     show World.ownsRow _ _ _ _ _ _ _
     rw[show(ns++[u]).length=ns.length+1 by simp,show ucs (ns++[u])=ucs ns++[.int .u32 (u:Int)] by simp[ucs]]
     exact h
    have hRR:Hid (R=(numsL (y.length+2) y d).map ((ns++[u])++·)):=by
     show _=_
     rw[hstep.out]
     have e:=zbr y d (t.length+1-(y.length+2))
     rw[show y.length+2+(t.length+1-(y.length+2))=t.length+1 by omega]at e
     simp only[e]
     cases numsL (y.length+2) y d<;>simp
    clear hown5 hgrow5 hi hz0 hz1 hz2
    go_wp2_with fail
    go_roundw
    case rel=>exact⟨y,d,ns++[u],rfl,rfl,by omega,by simp;omega,hRR.out,own5.out,B5.out⟩
    case measure=>
     rw[zoG]
     have:=zmN y d
     omega
def Pow(w:World):Prop:=Lib.TabIs prog w "internal/strconv.uint64pow10" .u64 Lib.pow10Tab
theorem kH(w:World)(k:Nat)(os:Array Obj):Below w.heap.size w (Sort.grow (w.drewN k) os):=
 ⟨rfl,rfl,rfl,by show w.heap.size<=(w.heap++os).size;simp,fun j hj=>by show(w.heap++os)[j]?=w.heap[j]?;exact Array.getElem?_append_left hj⟩
theorem zbt(n:Int)(n0:0<=n)(n1:n<=9223372036854775807)(w:World)(hp:Pow w):
  Calls prog 76 #[.int .i64 n] w fun e w'=>e=.returned (sv (Al n))/\Below w.heap.size w w':=by
 have C:=strconv_FormatInt_10 n (by omega) n1 w hp
 have C:Calls prog 109 #[.int .i64 n,.int .i64 10] w fun e w'=>e=.returned (sv (Al n))/\Below w.heap.size w w':=C.mono fun e w' ⟨h1,k,os,h2⟩=>⟨h1,by rw[h2];exact kH _ _ _⟩
 go_enter func76,ntmps76
 go_wp2_with(go_at_call 109;refine C.mono ?_;rintro e w' ⟨rfl,hb⟩)
 go_ret
 exact⟨rfl,hb⟩
theorem zfZ(n:Int)(n0:0<=n)(n1:n<=9223372036854775807)(w:World)(hp:Pow w):
  Calls prog 107 #[.int .i64 n] w fun e w'=>e=.returned (sv (Al n))/\Below w.heap.size w w':=by
 have C:=strconv_FormatInt_10 n (by omega) n1 w hp
 have C:Calls prog 109 #[.int .i64 n,.int .i64 10] w fun e w'=>e=.returned (sv (Al n))/\Below w.heap.size w w':=C.mono fun e w' ⟨h1,k,os,h2⟩=>⟨h1,by rw[h2];exact kH _ _ _⟩
 go_enter func107,ntmps107
 go_wp2_with(go_at_call 109;refine C.mono ?_;rintro e w' ⟨rfl,hb⟩)
 go_ret
 exact⟨rfl,hb⟩
theorem zf0(n:Int)(n0:0<=n)(n1:n<=4294967295)(w:World)(hp:Pow w):
  Calls prog 108 #[.int .u32 n] w fun e w'=>e=.returned (sv (Al n))/\Below w.heap.size w w':=by
 have C:=strconv_FormatInt_10 n (by omega) (by omega) w hp
 have C:Calls prog 109 #[.int .i64 n,.int .i64 10] w fun e w'=>e=.returned (sv (Al n))/\Below w.heap.size w w':=C.mono fun e w' ⟨h1,k,os,h2⟩=>⟨h1,by rw[h2];exact kH _ _ _⟩
 have hw:IntKind.i64.wrap n=n:=by simp[Au,Av,Aq];omega
 go_enter func108,ntmps108
 go_wp2_with(go_at_call 109;refine C.mono ?_;rintro e w' ⟨rfl,hb⟩)
 go_ret
 exact⟨rfl,hb⟩
def OwnT(w:World)(B:Nat)(e:TypeId)(v:Value)(xs:List Value):Prop:=
 ∃g cap cur fz,v=.slice (some ⟨g,0,none⟩) xs.length cap/\B<=g/\w.heap[g]?=some (.cells cur e fz)/\(fz.2<=0\/cap<=fz.1)/\xs.length<=cap/\cap<=maxLen/\cur.size=cap/\cur.toList.take xs.length=xs
theorem OwnT.lt{w:World}{B:Nat}{e:TypeId}{v:Value}{xs:List Value}(h:OwnT w B e v xs):∀k,v.ownBlock=some k->B<=k/\k<w.heap.size:=by
 obtain⟨g,cap,cur,fz,rfl,hB,hg,_⟩:=h
 intro k hk
 simp[Ab]at hk
 subst hk
 exact⟨hB,(Ah.1 hg).1⟩
theorem OwnT.stays{w w':World}{B:Nat}{e:TypeId}{v:Value}{xs:List Value}(h:OwnT w B e v xs)(hb:Below w.heap.size w w'):OwnT w' B e v xs:=by
 obtain⟨g,cap,cur,fz,hv,hB,hg,r⟩:=h
 exact⟨g,cap,cur,fz,hv,hB,(hb.block g (Ah.1 hg).1).trans hg,r⟩
theorem OwnT.cells{w:World}{B:Nat}{e:TypeId}{v:Value}{xs:List Value}(h:OwnT w B e v xs){g:Nat}(hg:v.ownBlock=some g):∀j u,xs[j]?=some u->w.cell? ((⟨g,0,none⟩:Addr).add j)=some u:=by
 intro j u hu
 obtain⟨g',cap,cur,fz,rfl,hB,hgg,_,_,_,_,htake⟩:=h
 simp[Ab]at hg
 subst hg
 have hadd:(⟨g',0,none⟩:Addr).add j=⟨g',j,none⟩:=by unfold AF;split<;>simp_all
 rw[hadd,cell_of_row w g' j cur e fz hgg]
 rw[<-htake,List.getElem?_take]at hu
 split at hu
 ·simpa using hu
 ·cases hu
theorem qR(P:Program)(g o:Nat)(t:TypeId)(fz:Nat×Nat):∀(vs:List Value) (i:Nat) (cur:Array Value) (w:World),w.heap[g]?=some (.cells cur t fz)->(fz.2<=0\/cur.size<=fz.1)->o+i+vs.length<=cur.size->(∀v∈vs,v.oneCell'=true)->
  (storeCells ⟨g,o,none⟩ vs i).run P w=.ok () (w.setRow g (cur.toList.take (o+i)++vs++cur.toList.drop (o+i+vs.length)).toArray)
 |[],i,cur,w,hg,_,_,_=>by
  simp only[storeCells,List.append_nil,List.length_nil,Aw,List.take_append_drop,Array.toArray_toList]
  rw[setRow_self w g cur t fz hg]
  rfl
 |v::rest,i,cur,w,hg,hfz,hl,h1=>by
  have hi:o+i<cur.size:=by simp at hl;omega
  have hadd:(⟨g,o,none⟩:Addr).add i=⟨g,o+i,none⟩:=by unfold AF;split<;>simp_all
  have hcell:w.cell? ⟨g,o+i,none⟩=some cur[o+i]:=by simp[World.cell?,hg,hi]
  have hfro:w.frozen? ⟨g,o+i,none⟩=false:=by
   obtain⟨lo,hi'⟩:=fz
   simp only[World.frozen?,hg,Bool.and_eq_false_iff,decide_eq_false_iff_not]
   simp only at hfz
   omega
  have hst:(store ((⟨g,o,none⟩:Addr).add i) v).run P w=.ok () (w.setRow g (cur.setIfInBounds (o+i) v)):=by
   rw[hadd,run_store P w _ v _ (h1 v (by simp)),hcell]
   simp[hfro,setCell_eq_setRow w g (o+i) cur t fz v hg]
  have ih:=qR P g o t fz rest (i+1) (cur.setIfInBounds (o+i) v) (w.setRow g (cur.setIfInBounds (o+i) v)) (setRow_heap w g cur _ t _ hg) (by simpa using hfz) (by simp at hl⊢;omega) (fun x hx=>h1 x (by simp[hx]))
  simp only[storeCells,Ap,hst,Ak,ih,setRow_setRow]
  congr 3
  have e:=list_seg_step cur.toList (o+i) v rest (by simp at hl⊢;omega)
  simpa[Array.toList_setIfInBounds,Nat.add_assoc]using e
section
variable {P:Program} (w:World)
theorem zdR(B:Nat)(e:TypeId)(xs ys:List Value)(old:Nat)(h63:xs.length+ys.length<=maxLen)(hB:B<=w.heap.size)(row:Option Nat):
  OwnT (w.drew.alloc (.cells (xs.toArray++ys.toArray++Ax (AD .u8 0).cells (grownCap w (xs.length+ys.length) old e-(xs.length+ys.length))) e)) B e (.slice (some ⟨w.heap.size,0,none⟩) (xs.length+ys.length) (grownCap w (xs.length+ys.length) old e)) (xs++ys)/\
  w.grownBy (w.drew.alloc (.cells (xs.toArray++ys.toArray++Ax (AD .u8 0).cells (grownCap w (xs.length+ys.length) old e-(xs.length+ys.length))) e)) row:=by
 have hge:=grownCap_ge w (xs.length+ys.length) old e
 have hcm:grownCap w (xs.length+ys.length) old e<=maxLen:=At w (xs.length+ys.length) old e h63
 refine⟨⟨w.heap.size,_,_,(0,0),by rw[Af],hB,heap_alloc_new w.drew _,.inl (Ag _),by rw[Af];exact hge,hcm,?_,?_⟩,⟨rfl,rfl,rfl,by simp,fun k hk _=>Below.heap_alloc w.drew _ k hk⟩⟩
 ·have hz1:(AD IntKind.u8 0).cells.size=1:=rfl
  simp only[Ay,List.size_toArray,size_zeroCells,hz1]
  omega
 ·simp only[Array.toList_append,Az]
  rw[<-Az]
  exact List.take_left
theorem zf1(B:Nat)(e:TypeId)(g cap:Nat)(cur:Array Value)(fz:Nat×Nat)(xs ys:List Value)(hB:B<=g)(hg:w.heap[g]?=some (.cells cur e fz))(hfz:fz.2<=0\/cap<=fz.1)(hroom:xs.length+ys.length<=cap)(hcm:cap<=maxLen)(hcs:cur.size=cap)(ht:cur.toList.take xs.length=xs):
  OwnT (w.setRow g (cur.toList.take xs.length++ys++cur.toList.drop (xs.length+ys.length)).toArray) B e (.slice (some ⟨g,0,none⟩) (xs.length+ys.length) cap) (xs++ys)/\
  w.grownBy (w.setRow g (cur.toList.take xs.length++ys++cur.toList.drop (xs.length+ys.length)).toArray) (some g):=by
 refine⟨⟨g,cap,_,fz,by rw[Af],hB,setRow_heap w g cur _ e _ hg,hfz,by rw[Af];exact hroom,hcm,?_,?_⟩,⟨rfl,rfl,rfl,by simp,fun k _ hk=>setRow_other w g k _ (fun e=>hk (by simp[e]))⟩⟩
 ·simp only[List.size_toArray,Af,List.length_take,List.length_drop,Array.length_toList]
  omega
 ·rw[ht]
  exact List.take_left
theorem zbu(B:Nat)(t ty e:TypeId)(i:TypeInfo)(ht:P.underlying t=some (.slice e))(hi:P.info? e=some i)(hz:i.zero=some (.int .u8 0))
  (hsize:i.size=1) (hby:i.bytes=1) (v:Value) (xs:List Value) (hown:OwnT w B e v xs)
  (a:Addr) (m c:Nat) (news:List Value) (hl:news.length=m) (hnews:∀j u,news[j]?=some u->w.cell? (a.add j)=some u) (h1:∀u∈news,u.oneCell'=true)
  (h63:xs.length+m<=maxLen) (hbytes:xs.length+m<=140737488355328) (hbase:B<=w.heap.size):
  ∃v' w',(Ac #[t,t] ty #[v,.slice (some a) m c]).run P w=.ok v' w'/\OwnT w' B e v' (xs++news)/\w.grownBy w' v.ownBlock:=by
 subst hl
 have hsmall:xs.length+news.length<=9223372036854775807:=by simp only[maxLen]at h63;omega
 have hO:=hown
 obtain⟨g,cap,cur,fz,rfl,hB,hg,hfz,hnc,hcm,hcs,htake⟩:=hown
 by_cases hroom:xs.length+news.length<=cap
 ·have hf:=run_firstCells_some (P:=P) w i.size news.length a news.length c news (by rw[hsize];simp) hnews
  have hst:=qR P g (xs.length*i.size) e fz news 0 cur w hg (by rw[hcs];exact hfz) (by rw[hsize];omega) h1
  simp only[Aw,hsize,Nat.mul_one]at hst
  have hr:(Ac #[t,t] ty #[.slice (some ⟨g,0,none⟩) xs.length cap,.slice (some a) news.length c]).run P w=.ok (.slice (some ⟨g,0,none⟩) (xs.length+news.length) cap) (w.setRow g (cur.toList.take xs.length++news++cur.toList.drop (xs.length+news.length)).toArray):=by
   rw[hsize]at hf
   simp[Ac,Am ht,sizeOf,typeInfo,hi,hsize,Builtin.lenOf,hroom,hf,AE,hst]
  obtain⟨r1,r2⟩:=zf1 w B e g cap cur fz xs news hB hg hfz hroom hcm hcs htake
  exact⟨_,_,hr,r1,r2⟩
 ·have holds:=hO.cells (g:=g) rfl
  have hr:=run_append_grow (P:=P) w t ty e i (.int .u8 0) ht hi hz ⟨g,0,none⟩ xs.length cap xs (by rw[hsize];simp) holds a news.length c news (by rw[hsize];simp) hnews (by omega) (by omega) (by rw[hby];exact Ar (by omega) (by omega))
  obtain⟨r1,r2⟩:=zdR w B e xs news cap h63 hbase (Ab (.slice (some ⟨g,0,none⟩) xs.length cap))
  exact⟨_,_,hr,r1,r2⟩
theorem zaE(B:Nat)(t u ty e:TypeId)(i:TypeInfo)(ht:P.underlying t=some (.slice e))(hu:P.underlying u=some .string)(hi:P.info? e=some i)(hz:i.zero=some (.int .u8 0))
  (hsize:i.size=1) (hby:i.bytes=1) (v:Value) (xs:List Value) (hown:OwnT w B e v xs) (s:ByteArray)
  (h63:xs.length+s.size<=maxLen) (hbytes:xs.length+s.size<=140737488355328) (hbase:B<=w.heap.size):
  ∃v' w',(Ac #[t,u] ty #[v,.string s]).run P w=.ok v' w'/\OwnT w' B e v' (xs++Ad s)/\w.grownBy w' v.ownBlock:=by
 have hsmall:xs.length+s.size<=9223372036854775807:=by simp only[maxLen]at h63;omega
 have hO:=hown
 have hsl:=Lib.strCells_length s
 obtain⟨g,cap,cur,fz,rfl,hB,hg,hfz,hnc,hcm,hcs,htake⟩:=hown
 by_cases hroom:xs.length+s.size<=cap
 ·have hf:=Lib.run_firstCells_string (P:=P) w 1 s
  have hst:=qR P g xs.length e fz (Ad s) 0 cur w hg (by rw[hcs];exact hfz) (by rw[hsl];omega) (Lib.strCells_oneCell s)
  simp only[Aw,hsl]at hst
  have hr:(Ac #[t,u] ty #[.slice (some ⟨g,0,none⟩) xs.length cap,.string s]).run P w=.ok (.slice (some ⟨g,0,none⟩) (xs.length+s.size) cap) (w.setRow g (cur.toList.take xs.length++Ad s++cur.toList.drop (xs.length+s.size)).toArray):=by
   simp[Ac,Am ht,Am hu,sizeOf,typeInfo,hi,hsize,Builtin.lenOf,hroom,hf,AE,hst]
  obtain⟨r1,r2⟩:=zf1 w B e g cap cur fz xs (Ad s) hB hg hfz (by rw[hsl];exact hroom) hcm hcs htake
  rw[hsl]at r1 r2
  exact⟨_,_,hr,r1,r2⟩
 ·have holds:=hO.cells (g:=g) rfl
  have hr:=Lib.run_append_grow_string (P:=P) w t u ty e i (.int .u8 0) ht hu hi hz ⟨g,0,none⟩ xs.length cap xs (by rw[hsize];simp) holds s (by omega) (by omega) (by rw[hby];exact Ar (by omega) (by omega))
  obtain⟨r1,r2⟩:=zdR w B e xs (Ad s) cap (by rw[hsl];exact h63) hbase (Ab (.slice (some ⟨g,0,none⟩) xs.length cap))
  rw[hsl]at r1 r2
  exact⟨_,_,hr,r1,r2⟩
theorem yK{ops:Array Oper}{rest:List Oper}{o:Oper}{a:Act}{Q:Exit->Act->World->Prop}(hgd:o.guard=none)(s x:Operand)(t:TypeId)
  (ho:o.op=.call {callee:=.builtin .append,args:=#[s,x],argTypes:=#[t,t]})
  (B:Nat) (e:TypeId) (i:TypeInfo) (ht:P.underlying t=some (.slice e)) (hi:P.info? e=some i) (hz:i.zero=some (.int .u8 0)) (hsize:i.size=1) (hby:i.bytes=1)
  (v:Value) (xs:List Value) (hs:a.eval s=v) (hown:OwnT w B e v xs)
  (ad:Addr) (m c:Nat) (news:List Value) (hx:a.eval x=.slice (some ad) m c) (hl:news.length=m) (hnews:∀j u,news[j]?=some u->w.cell? (ad.add j)=some u) (h1:∀u∈news,u.oneCell'=true)
  (h63:xs.length+m<=maxLen) (hbytes:xs.length+m<=140737488355328) (hbase:B<=w.heap.size)
  (h:∀v' w',OwnT w' B e v' (xs++news)->w.grownBy w' v.ownBlock->wpList P ops Q rest (a.put o.dst v') w'):wpList P ops Q (o::rest) a w:=by
 refine AA hgd fun K hK=>?_
 obtain⟨v',w',hr,h2,h3⟩:=zbu (P:=P) w B t o.type e i ht hi hz hsize hby v xs hown ad m c news hl hnews h1 h63 hbytes hbase
 unfold AG execOp
 simp only[ho,resolve,invoke,builtin,Ap,AB,Ak,An,As,AC,hs,hx,hr]
 exact hK _ _ (h v' w' h2 h3)
theorem yn{ops:Array Oper}{rest:List Oper}{o:Oper}{a:Act}{Q:Exit->Act->World->Prop}(hgd:o.guard=none)(sl x:Operand)(t u:TypeId)
  (ho:o.op=.call {callee:=.builtin .append,args:=#[sl,x],argTypes:=#[t,u]})
  (B:Nat) (e:TypeId) (i:TypeInfo) (ht:P.underlying t=some (.slice e)) (hu:P.underlying u=some .string) (hi:P.info? e=some i) (hz:i.zero=some (.int .u8 0)) (hsize:i.size=1) (hby:i.bytes=1)
  (v:Value) (xs:List Value) (hs:a.eval sl=v) (hown:OwnT w B e v xs) (s:ByteArray) (hx:a.eval x=.string s)
  (h63:xs.length+s.size<=maxLen) (hbytes:xs.length+s.size<=140737488355328) (hbase:B<=w.heap.size)
  (h:∀v' w',OwnT w' B e v' (xs++Ad s)->w.grownBy w' v.ownBlock->wpList P ops Q rest (a.put o.dst v') w'):wpList P ops Q (o::rest) a w:=by
 refine AA hgd fun K hK=>?_
 obtain⟨v',w',hr,h2,h3⟩:=zaE (P:=P) w B t u o.type e i ht hu hi hz hsize hby v xs hown s h63 hbytes hbase
 unfold AG execOp
 simp only[ho,resolve,invoke,builtin,Ap,AB,Ak,An,As,AC,hs,hx,hr]
 exact hK _ _ (h v' w' h2 h3)
end
section
variable {P:Program} (w:World)
theorem zbv(base:Nat)(t ty e:TypeId)(i:TypeInfo)(z:Value)(size bytes:Nat)(ht:P.underlying t=some (.slice e))(hi:P.info? e=some i)(hz:i.zero=some z)
  (hsize:i.size=size) (hby:i.bytes=bytes) (hsz:0<size)
  (v:Value) (n:Nat) (xs:List Value) (hown:w.ownsRow base e size v n xs)
  (a:Addr) (m c:Nat) (news:List Value) (hl:news.length=m*size) (hnews:∀j u,news[j]?=some u->w.cell? (a.add j)=some u) (h1:∀u∈news,u.oneCell'=true)
  (h63:n+m<=maxLen) (hbytes:(n+m)*bytes<=140737488355328) {v':Value} {w':World} (hrun:(Ac #[t,t] ty #[v,.slice (some a) m c]).run P w=.ok v' w'):
  ∀k,v'.ownBlock=some k->v.ownBlock=some k\/k=w.heap.size:=by
 subst hsize
 subst hby
 have hsmall:n+m<=9223372036854775807:=by simp only[maxLen]at h63;omega
 rcases hown.2 with⟨rfl,rfl⟩|⟨g,cap,cur,rfl,hbg,hg,hnc,hcm,hcs,htake⟩
 ·by_cases hm:m=0
  ·subst hm
   simp[Ac,Am ht,sizeOf,typeInfo,hi,Builtin.lenOf,Builtin.firstCells,loadCells,loadCellsFrom]at hrun
   obtain⟨rfl,_⟩:=hrun
   intro k hk
   simp[Ab]at hk
  ·have hr:=run_append_nil (P:=P) w t ty e i z ht hi hz a m c news hl hnews (by omega) (by omega) (by have hb:=hbytes;simp only[Nat.zero_add]at hb;omega)
   rw[hr]at hrun
   injection hrun with h1 _
   subst h1
   intro k hk
   simp[Ab]at hk
   exact .inr hk.symm
 ·by_cases hroom:n+m<=cap
  ·have hfit:n*i.size+news.length<=cur.size:=by rw[hl,hcs,<-Nat.add_mul];exact Nat.mul_le_mul_right _ hroom
   have hr:=run_append_room (P:=P) w t ty e i ht hi g n cap cur hg a m c news hl hnews h1 hroom hfit
   rw[hr]at hrun
   injection hrun with h1 _
   subst h1
   intro k hk
   simp[Ab]at hk
   exact .inl (by simp[Ab,hk])
  ·have holds:∀j u,xs[j]?=some u->w.cell? ((⟨g,0,none⟩:Addr).add j)=some u:=hown.cells (g:=g) rfl
   have hr:=run_append_grow (P:=P) w t ty e i z ht hi hz ⟨g,0,none⟩ n cap xs hown.1 holds a m c news hl hnews (by omega) (by omega) (Ar (by omega) hbytes)
   rw[hr]at hrun
   injection hrun with h1 _
   subst h1
   intro k hk
   simp[Ab]at hk
   exact .inr hk.symm
theorem jY{ops:Array Oper}{rest:List Oper}{o:Oper}{a:Act}{Q:Exit->Act->World->Prop}(hgd:o.guard=none)(s x:Operand)(t:TypeId)
  (ho:o.op=.call {callee:=.builtin .append,args:=#[s,x],argTypes:=#[t,t]})
  (base:Nat) (e:TypeId) (i:TypeInfo) (z:Value) (size bytes:Nat) (ht:P.underlying t=some (.slice e)) (hi:P.info? e=some i) (hz:i.zero=some z)
  (hsize:i.size=size) (hby:i.bytes=bytes) (hzs:z.cells.size=size) (hsz:0<size)
  (v:Value) (n:Nat) (xs:List Value) (hs:a.eval s=v) (hown:w.ownsRow base e size v n xs)
  (ad:Addr) (m c:Nat) (news:List Value) (hx:a.eval x=.slice (some ad) m c) (hl:news.length=m*size) (hnews:∀j u,news[j]?=some u->w.cell? (ad.add j)=some u) (h1:∀u∈news,u.oneCell'=true)
  (h63:n+m<=maxLen) (hbytes:(n+m)*bytes<=140737488355328) (hbase:base<=w.heap.size)
  (h:∀v' w',w'.ownsRow base e size v' (n+m) (xs++news)->w.grownBy w' v.ownBlock->(∀k,v'.ownBlock=some k->v.ownBlock=some k\/k=w.heap.size)->wpList P ops Q rest (a.put o.dst v') w'):wpList P ops Q (o::rest) a w:=by
 refine AA hgd fun K hK=>?_
 obtain⟨v',w',hr,h2,h3,_⟩:=run_append_own (P:=P) w base t o.type e i z size bytes ht hi hz hsize hby hzs hsz v n xs hown ad m c news hl hnews h1 h63 hbytes hbase
 have h4:=zbv (P:=P) w base t o.type e i z size bytes ht hi hz hsize hby hsz v n xs hown ad m c news hl hnews h1 h63 hbytes hr
 unfold AG execOp
 simp only[ho,resolve,invoke,builtin,Ap,AB,Ak,An,As,AC,hs,hx,hr]
 exact hK _ _ (h v' w' h2 h3 h4)
end
theorem zcy{P:Program}(w:World)(src dst e:TypeId)(hs:P.underlying src=some .string)(hd:P.underlying dst=some (.slice e))(he:P.underlying e=some (.int .u8))(s:ByteArray)(hl:s.size<=maxLen):
  ∃v' w',(convert src dst (.string s)).run P w=.ok v' w'/\OwnT w' w.heap.size e v' (Ad s)/\Below w.heap.size w w':=by
 have hr:=run_bytes_of_string (P:=P) w src dst e s hs hd he
 refine⟨_,_,hr,?_,(Ao _ _).drew.alloc (Ag _) _⟩
 have hge:=grownCap_ge w s.size 0 e
 have hcm:grownCap w s.size 0 e<=maxLen:=At w s.size 0 e hl
 have hsl:=Lib.strCells_length s
 have hz:(bytesRow s (grownCap w s.size 0 e)).size=grownCap w s.size 0 e:=by
  unfold bytesRow
  simp only[Ay,Array.size_map,Array.size_replicate]
  show s.size+_=_
  omega
 refine⟨w.heap.size,_,_,_,by rw[hsl],Ag _,heap_alloc_new w.drew _,.inr ?_,by rw[hsl];exact hge,hcm,hz,?_⟩
 ·show _<=(bytesRow s (grownCap w s.size 0 e)).size
  omega
 ·unfold bytesRow
  rw[Array.toList_append,show(s.data.map fun b=>AD .u8 b.toNat).toList=Ad s by simp[Ad]]
  exact List.take_left
theorem zeO{P:Program}(w:World)(src dst e:TypeId)(hs:P.underlying src=some (.slice e))(he:P.underlying e=some (.int .u8))(hd:P.underlying dst=some .string)(B:Nat)(v:Value)(l:List UInt8)(hown:OwnT w B e v (l.map fun b=>.int .u8 (b.toNat:Int))):
  (convert src dst v).run P w=.ok (.string ⟨l.toArray⟩) w:=by
 have hO:=hown
 obtain⟨g,cap,cur,fz,rfl,hB,hg,hfz,hnc,hcm,hcs,htake⟩:=hown
 rw[List.length_map]
 exact run_convert_bytes_back (P:=P) w src dst e ⟨g,0,none⟩ cap l hs he hd (fun j hj=>hO.cells (g:=g) rfl j _ (by simp[List.getElem?_eq_getElem hj]))
end Go.Proofs.YtpiohehijkpghacGreatDoor.Dr
