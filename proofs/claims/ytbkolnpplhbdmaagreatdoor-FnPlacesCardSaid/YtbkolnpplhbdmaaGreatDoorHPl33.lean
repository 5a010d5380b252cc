import Derived.Test.YtbkolnpplhbdmaaGreatDoorHPl32
set_option linter.all false
namespace Go.Proofs.YtbkolnpplhbdmaaGreatDoor
open Go.ChangeMaps (open_string shut_string)
open Go.ChangeShapes Go.WideShapes Go.ChangeAt Go.WideMaps Go.WideElems Go.RowKit
theorem fnPlaces_holds:Rows.FnPlacesCardSaid:=
 Claim7.holds_tied_plain_at .later [] Rows.fnPlacesCard.laidKinds true Rows.fnPlacesCard.stood.harness true
  JA (λ_ a=>by cases a) (by kernel_rfl) (λ_ a=>by cases a) fnPlaces_row_tie rfl ⟨rfl,rfl⟩ (by kernel_rfl) rfl
  (λd e g h=>by
   obtain rfl:d=3:=aJ ((show Tryz.prog.funcNamed Rows.fnPlacesRow.func=some 3 by kernel_rfl).symm.trans g) |>.symm;obtain rfl:e=Tryz.f3:=(aJ (Tryz.func3.symm.trans h)).symm;exact⟨by kernel_rfl,λk b c=>by
    rw[Tryz.params3]at c;have i:b∈[22]:=by simpa using Array.mem_of_getElem? c
    have f:([22].all λj=>!Tryz.prog.wantsStandIn j)=true:=by kernel_rfl
    exact(show Tryz.prog.wantsStandIn b=false by simpa using List.all_eq_true.1 f b i)⟩)
  (by kernel_rfl)
#print axioms fnPlaces_holds
