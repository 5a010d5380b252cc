import Derived.Test.YthkcmkmkapijkaaGreatDoorh01
import Derived.Test.YthkcmkmkapijkaaGreatDoorCards
import Derived.SevenTiedAt
import Derived.LaidSub
import Derived.LaidOnce
set_option linter.all false
namespace Go.Proofs.YthkcmkmkapijkaaGreatDoor
open Go
set_option maxRecDepth 100000
def tpA(a b):doorLeaves Tryz.prog 400 8 257 Rows.fnTopRow.laid a b=some (Rows.fnTopRow.laid.filter λx=>x.2.handleName?.isNone,(funcsListed Rows.fnTopRow.laid).map (·.2.funcsOut)):=J
def awE:Tryz.prog.laidByTextLater Rows.fnTopRow.laid Rows.fnTopCard.laidKinds true:=
 Program.laidByTextLater_by_one 400 8 257 J J J J J J tpA
