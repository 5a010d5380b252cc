import Derived.Test.YthkcmkmkapijkaaGreatDoorh04
set_option linter.all false
namespace Go.Proofs.YthkcmkmkapijkaaGreatDoor
open Go
set_option maxRecDepth 100000
def ayJ:Tryz.pinned.checked.prog.headLifts.contains "ownunsafe" =false:=J
def ayK:Rows.fnTopRow.laidByTextAt .later Tryz.pinned Rows.fnTopCard.laidKinds true:=OpenClaim.laidByTextAt_later R R awE ayJ
def aAJ:Tryz.prog.funcNamed Rows.fnTopRow.func=some 3:=J
def aAK:([22].all λu=>!Tryz.prog.wantsStandIn u)=true:=J
def awt:Tryz.pinned.checked.prog.mainIs=some (Rows.fnTopCard.stood.harness.1,Rows.fnTopCard.stood.harness.2.toList):=J
def aAL:Rows.fnTopRow.wfByText (OpenSpec.ofChange Rows.fnTopSpec)=true:=J
def asr:true=Tryz.pinned.checked.prog.looks []:=J
