import Derived.Test.YthkcmkmkapijkaaGreatDoorh04
set_option linter.all false
namespace Go.Proofs.YthkcmkmkapijkaaGreatDoor
open Go
set_option maxRecDepth 100000
def ass(P:Program)(h:P.funcs.any Func.goes=false)(s):P.goesAt .entering s=false:=by
 have g:∀b,P.goes b=false:=λb=>by
  unfold Program.goes;rw[h,FD,Lg];have d:∀a:FuncId,(P.funcs[a]?).any Func.goes=false:=λa=>by
   cases e:P.funcs[a]? with
   |none=>rfl|some c=>
    have f:c∈P.funcs:=agn e;have:=Array.any_eq_false'.1 h c f;simpa using this
  simp[d]
 unfold Program.goesAt Program.goesFrom;cases P.funcNamed s<;>simp[g]
def aA0:Tryz.pinned.checked.prog.funcs.any Func.goes=false:=J
def aA1:false=Rows.fnTopRow.goesBy Tryz.pinned.checked.prog:=(ass _ aA0 _).symm
