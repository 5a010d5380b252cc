import Derived.Test.YtkfgnpcanadjhaaGreatDoorHSk33
import Derived.Test.YtkfgnpcanadjhaaGreatDoorHSk34
set_option linter.all false
namespace Go.Proofs.YtkfgnpcanadjhaaGreatDoor
open Go.ChangeMaps (open_string shut_string)
open Go.ChangeShapes Go.WideShapes Go.ChangeAt Go.WideMaps Go.WideElems Go.RowKit
theorem Du:Rows.FnSpoiltSaid:=
 OpenClaim.holds_of_wide 3 Tryz.f3 rfl rfl rfl rfl rfl rfl rfl ⟨rfl,rfl,rfl,rfl,rfl⟩ rfl rfl rfl rfl rfl (by kernel_rfl) Tryz.func3 ajp
  (bi (by kernel_rfl)) (by unfold Func.isWrapper;first|(rw[ab (by decide+kernel)];kernel_rfl)|(rw[aa (by decide+kernel)];exact⟨rfl,rfl⟩))
  (fun c d a b _=>Lh c d a b)
