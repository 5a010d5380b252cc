import Derived.Test.YthboboahkkhopaaGreatDoorHRo31
set_option linter.all false
namespace Go.Proofs.YthboboahkkhopaaGreatDoor
open Go.ChangeMaps (open_string shut_string)
open Go.ChangeShapes Go.WideShapes Go.ChangeAt Go.WideMaps Go.WideElems Go.RowKit
theorem fnRound_holds:Rows.FnRoundCardSaid:=
 Claim7.holds_tied_plain_at .later [] Rows.fnRoundCard.laidKinds true Rows.fnRoundCard.stood.harness true
  aa4 (λ_ a=>by cases a) (by kernel_rfl) (λ_ a=>by cases a) fnRound_row_tie rfl ⟨rfl,rfl⟩ (by kernel_rfl) rfl
  (λd e g h=>by
   obtain rfl:d=3:=bz ((show Tryz.prog.funcNamed Rows.fnRoundRow.func=some 3 by kernel_rfl).symm.trans g) |>.symm;obtain rfl:e=Tryz.f3:=(bz (Tryz.func3.symm.trans h)).symm;exact⟨by kernel_rfl,λk b c=>by
    rw[Tryz.params3]at c;have i:b∈[22]:=by simpa using Array.mem_of_getElem? c
    have f:([22].all λj=>!Tryz.prog.wantsStandIn j)=true:=by kernel_rfl
    exact(show Tryz.prog.wantsStandIn b=false by simpa using List.all_eq_true.1 f b i)⟩)
  (by kernel_rfl)
#print axioms fnRound_holds
