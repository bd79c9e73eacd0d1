/- A hart is the same as itself. -/
import Derived.Test.YtpiohehijkpghabGreatDoorS11
set_option maxRecDepth 20000
set_option maxHeartbeats 1000000
set_option linter.unusedVariables false
open Go.Proofs.Tryz
namespace Go.Proofs.YtpiohehijkpghabGreatDoor
open Go.RowKit
open Hy
abbrev hqR(R:Nat->Int):Array Value:=#[.int .u32 (R 0),.int .u32 (R 1),.int .u32 (R 2),.int .u32 (R 3),.int .u32 (R 4),.int .u32 (R 5),.int .u32 (R 6),.int .u32 (R 7),.int .u32 (R 8),.int .u32 (R 9),.int .u32 (R 10),.int .u32 (R 11),.int .u32 (R 12),.int .u32 (R 13),.int .u32 (R 14),.int .u32 (R 15),.int .u32 (R 16),.int .u32 (R 17),.int .u32 (R 18),.int .u32 (R 19),.int .u32 (R 20),.int .u32 (R 21),.int .u32 (R 22),.int .u32 (R 23),.int .u32 (R 24),.int .u32 (R 25),.int .u32 (R 26),.int .u32 (R 27),.int .u32 (R 28),.int .u32 (R 29),.int .u32 (R 30),.int .u32 (R 31)]
theorem zm3(R:Nat->Int)(w:World)(i:Nat)(hi:i<32):(part 24 (hqR R) (i*1)).run prog w=.ok (.int .u32 (R i)) w:=
 match i,hi with
 |0,_=>by kernel_rfl
 |1,_=>by kernel_rfl
 |2,_=>by kernel_rfl
 |3,_=>by kernel_rfl
 |4,_=>by kernel_rfl
 |5,_=>by kernel_rfl
 |6,_=>by kernel_rfl
 |7,_=>by kernel_rfl
 |8,_=>by kernel_rfl
 |9,_=>by kernel_rfl
 |10,_=>by kernel_rfl
 |11,_=>by kernel_rfl
 |12,_=>by kernel_rfl
 |13,_=>by kernel_rfl
 |14,_=>by kernel_rfl
 |15,_=>by kernel_rfl
 |16,_=>by kernel_rfl
 |17,_=>by kernel_rfl
 |18,_=>by kernel_rfl
 |19,_=>by kernel_rfl
 |20,_=>by kernel_rfl
 |21,_=>by kernel_rfl
 |22,_=>by kernel_rfl
 |23,_=>by kernel_rfl
 |24,_=>by kernel_rfl
 |25,_=>by kernel_rfl
 |26,_=>by kernel_rfl
 |27,_=>by kernel_rfl
 |28,_=>by kernel_rfl
 |29,_=>by kernel_rfl
 |30,_=>by kernel_rfl
 |31,_=>by kernel_rfl
 |n+32,h=>absurd h (by omega)
theorem zeT(R:Nat->Int)(w:World):∀is:List Nat,(∀i∈is,i<32)->(Op.eqItems 9998 24 1 (hqR R) (hqR R) is).run prog w=.ok true w
 |[],_=>by simp[Op.eqItems]
 |i::is,h=>by
  have hp:=zm3 R w i (h i (by simp))
  have ih:=zeT R w is (fun j hj=>h j (by simp[hj]))
  have he:(Op.equalIn 9998 24 (.int .u32 (R i)) (.int .u32 (R i))).run prog w=.ok true w:=by
   rw[show(9998:Nat)=9997+1 from rfl,run_equalIn_int w 9997 24 .u32 .u32 (R i) (R i) underlying24]
   simp
  simp only[Op.eqItems,Sem.run_bind,hp,he,Result.andThen_ok]
  simpa using ih
theorem zm4(R:Nat->Int):∀w,(Op.equalIn 9999 25 (.agg (hqR R)) (.agg (hqR R))).run prog w=.ok true w:=by
 intro w
 obtain⟨i,hi⟩:∃i,prog.info? 24=some i:=Option.isSome_iff_exists.1 (by kernel_rfl)
 rw[show(9999:Nat)=9998+1 from rfl,run_equalIn_array w 9998 (hqR R) (hqR R) underlying25 hi,k22]
 exact zeT R w _ (fun i hi=>by simpa using hi)
theorem eqlH(R:Nat->Int)(pc st ca:Int):∀w,(binOp .eql 27 (hv R pc st ca) (hv R pc st ca)).run prog w=.ok (.bool true) w:=by
 intro w
 have h:=zm4 R
 go_simp
end Go.Proofs.YtpiohehijkpghabGreatDoor
