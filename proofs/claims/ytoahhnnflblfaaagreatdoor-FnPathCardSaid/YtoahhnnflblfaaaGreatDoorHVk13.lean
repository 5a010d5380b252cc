import Derived.Test.YtoahhnnflblfaaaGreatDoorHVk01
import Derived.RangeFuncNested
import Derived.RangeFuncBound
import Derived.OwnWalkIn
import Derived.TacticsInMore
import Derived.LoopNIn
import Derived.LoopIn
set_option linter.all false
namespace Go.Proofs.YtoahhnnflblfaaaGreatDoor
open Go.RowKit
