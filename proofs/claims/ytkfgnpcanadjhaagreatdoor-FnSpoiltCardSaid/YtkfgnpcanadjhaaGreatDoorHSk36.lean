import Derived.Test.YtkfgnpcanadjhaaGreatDoorHSk35
set_option linter.all false
namespace Go.Proofs.YtkfgnpcanadjhaaGreatDoor
open Go.ChangeMaps (open_string shut_string)
open Go.ChangeShapes Go.WideShapes Go.ChangeAt Go.WideMaps Go.WideElems Go.RowKit
theorem fnSpoilt_holds:Rows.FnSpoiltCardSaid:=
 Claim7.holds_tied_plain_at .later [] Rows.fnSpoiltCard.laidKinds true Rows.fnSpoiltCard.stood.harness true
  Du (fun _ a=>by cases a) (by kernel_rfl) (fun _ a=>by cases a) fnSpoilt_row_tie rfl ⟨rfl,rfl⟩ (by kernel_rfl) rfl
  (fun d e g h=>by
   obtain rfl:d=3:=bh ((show Tryz.prog.funcNamed Rows.fnSpoiltRow.func=some 3 by kernel_rfl).symm.trans g) |>.symm
   obtain rfl:e=Tryz.f3:=(bh (Tryz.func3.symm.trans h)).symm
   exact⟨by kernel_rfl,fun k b c=>by
    rw[Tryz.params3]at c
    have i:b∈[22]:=by simpa using Array.mem_of_getElem? c
    have f:([22].all fun j=>!Tryz.prog.wantsStandIn j)=true:=by kernel_rfl
    exact(show Tryz.prog.wantsStandIn b=false by simpa using List.all_eq_true.1 f b i)⟩)
  (by kernel_rfl)
#print axioms fnSpoilt_holds
