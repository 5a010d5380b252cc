import Derived.Test.YtbkolnpplhbdmaaGreatDoorHPl01
set_option linter.all false
namespace Go.Proofs.YtbkolnpplhbdmaaGreatDoor
open Go.RowKit
def KA:Array Value:=⟨[26,1,2,10,2,3,73,3,4,74,3,4,75,3,4,76,3,4,77,3,4,78,3,4,72,4,4,68,5,6,69,6,7,67,7,8,70,8,9,71,8,9,61,9,10,62,9,10,63,10,11,64,10,11,65,10,11,66,10,11].map (Value.int .i64)⟩
def Ik:List Int:=[26,10,73,74,75,76,77,78,72,68,69,67,70,71,61,62,63,64,65,66]
def aj8(k:Nat):Int:=match KA.getD k (.int .i64 0) with| .int _ a=>a|_=>0
def aso(k:Nat)(a:k<20)(w:World):(Instr.index 187 (.agg KA) (.int .i64 (k:Int))).run Tryz.prog w= .ok (.agg #[.int .i64 (Ik.getD k 0),.int .i64 (aj8 (3*k+1)),.int .i64 (aj8 (3*k+2))]) w:=by
 iterate 20 (obtain _|k:=k;· kernel_rfl)
 omega
