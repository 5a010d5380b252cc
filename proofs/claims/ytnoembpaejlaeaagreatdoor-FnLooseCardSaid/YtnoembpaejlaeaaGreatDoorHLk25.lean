import Derived.Test.YtnoembpaejlaeaaGreatDoorHLk23
import Derived.Test.YtnoembpaejlaeaaGreatDoorHLk24
set_option linter.all false
namespace Go.Proofs.YtnoembpaejlaeaaGreatDoor
open Go.ChangeMaps (open_string shut_string)
open Go.ChangeShapes Go.WideShapes Go.ChangeAt Go.WideMaps Go.WideElems Go.RowKit
def Lu:Rows.FnLooseSaid:=
 OpenClaim.holds_of_wide 3 Tryz.f3 rfl rfl rfl rfl rfl rfl rfl ⟨rfl,rfl,rfl,rfl,rfl⟩ rfl rfl rfl rfl rfl (by kernel_rfl) Tryz.func3 aqv
  (aE (by kernel_rfl)) (by unfold Func.isWrapper;first|(rw[ab (by decide+kernel)];kernel_rfl)|(rw[aa (by decide+kernel)];exact⟨rfl,rfl⟩))
  (λc d a b _=>aeJ c d a b)
