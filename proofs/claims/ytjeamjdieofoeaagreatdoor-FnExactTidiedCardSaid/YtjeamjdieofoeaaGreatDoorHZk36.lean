import Derived.Test.YtjeamjdieofoeaaGreatDoorHZk35
set_option linter.all false
namespace Go.Proofs.YtjeamjdieofoeaaGreatDoor
open Go.ChangeMaps (open_string shut_string)
open Go.ChangeShapes Go.WideShapes Go.ChangeAt Go.WideMaps Go.WideElems Go.RowKit
theorem fnExactTidied_holds:Rows.FnExactTidiedCardSaid:=
 Claim7.holds_tied_plain_at .later [] Rows.fnExactTidiedCard.laidKinds true Rows.fnExactTidiedCard.stood.harness true
  yC (fun _ a=>by cases a) (by kernel_rfl) (fun _ a=>by cases a) fnExactTidied_row_tie rfl ⟨rfl,rfl⟩ (by kernel_rfl) rfl
  (fun d e g h=>by
   obtain rfl:d=3:=bp ((show Tryz.prog.funcNamed Rows.fnExactTidiedRow.func=some 3 by kernel_rfl).symm.trans g) |>.symm;obtain rfl:e=Tryz.f3:=(bp (Tryz.func3.symm.trans h)).symm;exact⟨by kernel_rfl,fun k b c=>by
    rw[Tryz.params3]at c;have i:b∈[9]:=by simpa using Array.mem_of_getElem? c
    have f:([9].all fun j=>!Tryz.prog.wantsStandIn j)=true:=by kernel_rfl
    exact(show Tryz.prog.wantsStandIn b=false by simpa using List.all_eq_true.1 f b i)⟩)
  (by kernel_rfl)
#print axioms fnExactTidied_holds
