import Derived.Test.YtiaechpcebhcdaaGreatDoorHYk39
set_option linter.all false
namespace Go.Proofs.YtiaechpcebhcdaaGreatDoor
open Go.ChangeMaps (open_string shut_string)
open Go.ChangeShapes Go.WideShapes Go.ChangeAt Go.WideMaps Go.WideElems Go.RowKit
theorem fnViable_holds:Rows.FnViableCardSaid:=
 Claim7.holds_tied_plain_at .later [] Rows.fnViableCard.laidKinds true Rows.fnViableCard.stood.harness true
  Kt (λ_ a=>by cases a) J (λ_ a=>by cases a) fnViable_row_tie rfl ⟨rfl,rfl⟩ J rfl
  (λd e g h=>by
   obtain rfl:d=3:=cC ((J:Tryz.prog.funcNamed Rows.fnViableRow.func=some 3).symm.trans g) |>.symm;obtain rfl:e=Tryz.f3:=(cC (Tryz.func3.symm.trans h)).symm;exact⟨J,λk b c=>by
    rw[Tryz.params3]at c;have i:b∈[22,22]:=by simpa using Array.mem_of_getElem? c
    have f:([22,22].all λj=>!Tryz.prog.wantsStandIn j)=true:=J;exact(show Tryz.prog.wantsStandIn b=false by simpa using List.all_eq_true.1 f b i)⟩)
  J
#print axioms fnViable_holds
