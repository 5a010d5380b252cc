import Derived.Test.YthkcmkmkapijkaaGreatDoorh01
import Derived.RangeFuncNested
import Derived.RangeFuncBound
import Derived.OwnWalkIn
import Derived.TacticsInMore
import Derived.LoopNIn
import Derived.LoopIn
set_option linter.all false
namespace Go.Proofs.YthkcmkmkapijkaaGreatDoor
open Go.RowKit
