import Derived.Test.YtiaechpcebhcdaaGreatDoorHYk01
import Derived.Test.YtiaechpcebhcdaaGreatDoorTie
import Derived.Test.YtiaechpcebhcdaaGreatDoorCards
import Derived.LaidMore
set_option linter.all false
namespace Go.Proofs.YtiaechpcebhcdaaGreatDoor
open Go
set_option maxRecDepth 100000
def alx{P:Program}{l:List (String×DataW Unit)}{n f c:Nat}{os:Os}(args:Array Value)(h:doorLeaves P n f c l os (λ_ _=>0)=some (l.filter λx=>x.2.handleName?.isNone,(funcsListed l).map (·.2.funcsOut))):laidMetH P l ((World.doorLaid P n os).forCall (λ_ _=>0) ⟨#[],args,[]⟩).memory:=by
 unfold doorLeaves at h;split at h
 .rename_i m k g;simp only[Option.bind_eq_some_iff]at h;obtain⟨x,i,a⟩:=h;split at a
  .rename_i b;simp only[cH]at b;simp only[Option.map_eq_some_iff,pA]at a;obtain⟨o,j,d,e⟩:=a;refine laidMetH.of_heap ?_ (laidMetH_of_parts3 (fuel:=f) (laidMet_of_run (ps:=x.2) f (by rw[i,<-d]) (dB (nodupBits_sound b.1.1).1) b.1.2) b.2 (by rw[j,e]));show k.heap=(varsWorld P n (varsId P) os (λ_ _=>0)).heap;unfold varsWorld;rw[g]
  .cases a
 .cases h
def atN(os:Os)(a:Tape):doorLeaves Tryz.prog 126 8 257 Rows.fnViableRow.laid os a=some (Rows.fnViableRow.laid.filter λx=>x.2.handleName?.isNone,(funcsListed Rows.fnViableRow.laid).map (·.2.funcsOut)):=J
def Lt(os:Os)(args:Array Value):laidMetH Tryz.prog Rows.fnViableRow.laid ((World.doorLaid Tryz.prog 126 os).forCall (λ_ _=>0) ⟨#[],args,[]⟩).memory:=alx args (atN os _)
