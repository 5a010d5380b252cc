import Derived.Test.YtnlhhmlcjbohbaaGreatDoorHNk33
import Derived.Test.YtnlhhmlcjbohbaaGreatDoorHNk34
set_option linter.all false
namespace Go.Proofs.YtnlhhmlcjbohbaaGreatDoor
open Go.ChangeMaps (open_string shut_string)
open Go.ChangeShapes Go.WideShapes Go.ChangeAt Go.WideMaps Go.WideElems Go.RowKit
theorem abL:Rows.FnNextSaid:=
 OpenClaim.holds_of_wide 3 Tryz.f3 rfl rfl rfl rfl rfl rfl rfl ⟨rfl,rfl,rfl,rfl,rfl⟩ rfl rfl rfl rfl rfl (by kernel_rfl) Tryz.func3 arh
  (aG (by kernel_rfl)) (by unfold Func.isWrapper;first|(rw[ab (by decide+kernel)];kernel_rfl)|(rw[aa (by decide+kernel)];exact⟨rfl,rfl⟩))
  (fun c d a b _=>afc c d a b)
