import Derived.Test.YtiaechpcebhcdaaGreatDoorHYk01
import Derived.RangeFuncNested
import Derived.RangeFuncBound
import Derived.OwnWalkIn
import Derived.TacticsInMore
import Derived.LoopNIn
import Derived.LoopIn
set_option linter.all false
namespace Go.Proofs.YtiaechpcebhcdaaGreatDoor
open Go.RowKit
