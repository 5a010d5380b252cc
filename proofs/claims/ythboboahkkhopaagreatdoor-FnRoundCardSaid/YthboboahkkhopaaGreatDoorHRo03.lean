import Derived.Test.YthboboahkkhopaaGreatDoorTie
import Derived.Test.YthboboahkkhopaaGreatDoorCards
import Derived.LaidMore
set_option linter.all false
namespace Go.Proofs.YthboboahkkhopaaGreatDoor
open Go
set_option maxRecDepth 100000
def aj0{P:Program}{l:List (String×DataW Unit)}{n f M:Nat}{os:Os}(args:Array Value)(h:doorLeaves P n f M l os (λ_ _=>0)=some (l.filter λx=>x.2.handleName?.isNone,(funcsListed l).map (·.2.funcsOut))):laidMetH P l ((World.doorLaid P n os).forCall (λ_ _=>0) ⟨#[],args,[]⟩).memory:=by
 unfold doorLeaves at h;split at h
 .rename_i k j e;simp only[Option.bind_eq_some_iff]at h;obtain⟨x,g,a⟩:=h;split at a
  .rename_i b;simp only[Bool.and_eq_true]at b;simp only[Option.map_eq_some_iff,Prod.mk.injEq]at a;obtain⟨m,i,c,d⟩:=a;refine laidMetH.of_heap ?_ (laidMetH_of_parts3 (fuel:=f) (laidMet_of_run (ps:=x.2) f (by rw[g,<-c]) (decide_eq_true (nodupBits_sound b.1.1).1) b.1.2) b.2 (by rw[i,d]));show j.heap=(varsWorld P n (varsId P) os (λ_ _=>0)).heap;unfold varsWorld;rw[e]
  .cases a
 .cases h
def atN(os:Os)(a:Tape):doorLeaves Tryz.prog 126 8 257 Rows.fnRoundRow.laid os a=some (Rows.fnRoundRow.laid.filter λx=>x.2.handleName?.isNone,(funcsListed Rows.fnRoundRow.laid).map (·.2.funcsOut)):=by kernel_rfl
def Kt(os:Os)(args:Array Value):laidMetH Tryz.prog Rows.fnRoundRow.laid ((World.doorLaid Tryz.prog 126 os).forCall (λ_ _=>0) ⟨#[],args,[]⟩).memory:=aj0 args (atN os _)
