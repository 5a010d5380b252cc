import Derived.Test.YtbkolnpplhbdmaaGreatDoorHPl30
import Derived.Test.YtbkolnpplhbdmaaGreatDoorHPl31
set_option linter.all false
namespace Go.Proofs.YtbkolnpplhbdmaaGreatDoor
open Go.ChangeMaps (open_string shut_string)
open Go.ChangeShapes Go.WideShapes Go.ChangeAt Go.WideMaps Go.WideElems Go.RowKit
def JA:Rows.FnPlacesSaid:=
 OpenClaim.holds_of_wide 3 Tryz.f3 rfl rfl rfl rfl rfl rfl rfl ⟨rfl,rfl,rfl,rfl,rfl⟩ rfl rfl rfl rfl rfl (by kernel_rfl) Tryz.func3 asa
  (aB (by kernel_rfl)) (by unfold Func.isWrapper;first|(rw[ab (by decide+kernel)];kernel_rfl)|(rw[aa (by decide+kernel)];exact⟨rfl,rfl⟩))
  (λc d a b _=>afB c d a b)
