import Derived.Test.YthkcmkmkapijkaaGreatDoorh51
import Derived.Test.YthkcmkmkapijkaaGreatDoorh52
import Derived.Test.YthkcmkmkapijkaaGreatDoorh53
set_option linter.all false
namespace Go.Proofs.YthkcmkmkapijkaaGreatDoor
open Go.ChangeMaps (open_string shut_string)
open Go.ChangeShapes Go.WideShapes Go.ChangeAt Go.WideMaps Go.WideElems Go.RowKit
theorem fnTop_holds:Rows.FnTopCardSaid:=
 Claim7.holds_tied_plain_at .later [] Rows.fnTopCard.laidKinds true Rows.fnTopCard.stood.harness true
  akt (λ_ a=>by cases a) aAL (λ_ a=>by cases a) ayK R ⟨R,R⟩ awt R
  (λd e f g=>by
   obtain rfl:d=3:=de (aAJ.symm.trans f) |>.symm;obtain rfl:e=Tryz.f3:=(de<|Tryz.func3.symm.trans g).symm;exact⟨asr,λ_ b c=>by
    rw[Tryz.params3]at c;have h:b∈[22]:=by simpa using agn c
    exact(show Tryz.prog.wantsStandIn b=false by simpa using fH.1 aAK b h)⟩)
  aA1
#print axioms fnTop_holds
