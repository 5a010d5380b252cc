import Derived.Test.YthjpdjibdnecoaaGreatDoorCards
import Derived.SevenTiedAt
import Derived.LaidSub
import Derived.LaidOnce
set_option linter.all false
namespace Go.Proofs.YthjpdjibdnecoaaGreatDoor
open Go
set_option maxRecDepth 100000
theorem at1(os:Os)(a:Tape):doorLeaves Tryz.prog 400 8 257 Rows.fnExactAnswerRow.laid os a=some (Rows.fnExactAnswerRow.laid.filter fun x=>x.2.handleName?.isNone,(funcsListed Rows.fnExactAnswerRow.laid).map (·.2.funcsOut)):=by kernel_rfl
theorem amw:Tryz.prog.laidByTextLater Rows.fnExactAnswerRow.laid Rows.fnExactAnswerCard.laidKinds true:=
 Program.laidByTextLater_by_one 400 8 257 (by kernel_rfl) (by kernel_rfl) (by kernel_rfl) (by kernel_rfl) (by kernel_rfl) (by kernel_rfl) at1
