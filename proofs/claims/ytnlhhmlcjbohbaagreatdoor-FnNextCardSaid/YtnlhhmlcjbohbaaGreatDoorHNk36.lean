import Derived.Test.YtnlhhmlcjbohbaaGreatDoorHNk35
set_option linter.all false
namespace Go.Proofs.YtnlhhmlcjbohbaaGreatDoor
open Go.ChangeMaps (open_string shut_string)
open Go.ChangeShapes Go.WideShapes Go.ChangeAt Go.WideMaps Go.WideElems Go.RowKit
theorem fnNext_holds:Rows.FnNextCardSaid:=
 Claim7.holds_tied_plain_at .later [] Rows.fnNextCard.laidKinds true Rows.fnNextCard.stood.harness true
  abL (fun _ a=>by cases a) (by kernel_rfl) (fun _ a=>by cases a) fnNext_row_tie rfl ⟨rfl,rfl⟩ (by kernel_rfl) rfl
  (fun d e g h=>by
   obtain rfl:d=3:=bu ((show Tryz.prog.funcNamed Rows.fnNextRow.func=some 3 by kernel_rfl).symm.trans g) |>.symm;obtain rfl:e=Tryz.f3:=(bu (Tryz.func3.symm.trans h)).symm;exact⟨by kernel_rfl,fun k b c=>by
    rw[Tryz.params3]at c;have i:b∈[22]:=by simpa using Array.mem_of_getElem? c
    have f:([22].all fun j=>!Tryz.prog.wantsStandIn j)=true:=by kernel_rfl
    exact(show Tryz.prog.wantsStandIn b=false by simpa using List.all_eq_true.1 f b i)⟩)
  (by kernel_rfl)
#print axioms fnNext_holds
