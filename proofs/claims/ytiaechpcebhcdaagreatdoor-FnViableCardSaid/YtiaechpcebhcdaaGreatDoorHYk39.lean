import Derived.Test.YtiaechpcebhcdaaGreatDoorHYk37
import Derived.Test.YtiaechpcebhcdaaGreatDoorHYk38
set_option linter.all false
namespace Go.Proofs.YtiaechpcebhcdaaGreatDoor
open Go.ChangeMaps (open_string shut_string)
open Go.ChangeShapes Go.WideShapes Go.ChangeAt Go.WideMaps Go.WideElems Go.RowKit
def Kt:Rows.FnViableSaid:=
 OpenClaim.holds_of_wide 3 Tryz.f3 rfl rfl rfl rfl rfl rfl rfl ⟨rfl,rfl,rfl,rfl,rfl⟩ rfl rfl rfl rfl rfl J Tryz.func3 atd
  (be J) (by unfold Func.isWrapper;first|(rw[ab (by decide+kernel)];kernel_rfl)|(rw[aa (by decide+kernel)];exact rr))
  (λc d a b _=>agL c d a b)
