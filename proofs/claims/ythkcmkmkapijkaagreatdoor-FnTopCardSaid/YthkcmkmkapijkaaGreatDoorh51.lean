import Derived.Test.YthkcmkmkapijkaaGreatDoorh49
import Derived.Test.YthkcmkmkapijkaaGreatDoorh50
set_option linter.all false
namespace Go.Proofs.YthkcmkmkapijkaaGreatDoor
open Go.ChangeMaps (open_string shut_string)
open Go.ChangeShapes Go.WideShapes Go.ChangeAt Go.WideMaps Go.WideElems Go.RowKit
def akt:Rows.FnTopSaid:=
 OpenClaim.holds_of_wide 3 Tryz.f3 R R R R R R R ⟨R,R,R,R,R⟩ R R R R R J Tryz.func3 ayI
  (aL J) (by unfold Func.isWrapper;first|(rw[ae (by decide+kernel)];kernel_rfl)|(rw[aa (by decide+kernel)];exact rr))
  (λc d a b _=>aks c d a b)
