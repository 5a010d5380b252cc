import Derived.Test.YthkcmkmkapijkaaGreatDoorh04
import Derived.LaidMore
set_option linter.all false
namespace Go.Proofs.YthkcmkmkapijkaaGreatDoor
open Go
set_option maxRecDepth 100000
def apI{P l n f d c}(args:zAV)(h:doorLeaves P n f d l c (λ_ _=>0)=some (l.filter λx=>x.2.handleName?.isNone,(funcsListed l).map (·.2.funcsOut))):laidMetH P l ((World.doorLaid P n c).forCall (λ_ _=>0) ⟨#[],args,[]⟩).memory:=by
 unfold doorLeaves at h;split at h
 .rename_i o m i;simp only[Option.bind_eq_some_iff]at h;obtain⟨x,j,a⟩:=h;split at a
  .rename_i b;simp only[dF]at b;simp only[Option.map_eq_some_iff,oI]at a;obtain⟨p,k,e,g⟩:=a;refine laidMetH.of_heap ?_<|laidMetH_of_parts3 (fuel:=f) (laidMet_of_run (ps:=x.2) f (by rw[j,<-e]) (eI (nodupBits_sound b.1.1).1) b.1.2) b.2 (by rw[k,g]);show m.heap=(varsWorld P n (varsId P) c (λ_ _=>0)).heap;unfold varsWorld;rw[i]
  .cases a
 .cases h
def atN(a b):doorLeaves Tryz.prog 400 8 257 Rows.fnTopRow.laid a b=some (Rows.fnTopRow.laid.filter λx=>x.2.handleName?.isNone,(funcsListed Rows.fnTopRow.laid).map (·.2.funcsOut)):=J
def aca(a)(args:zAV):laidMetH Tryz.prog Rows.fnTopRow.laid ((World.doorLaid Tryz.prog 400 a).forCall (λ_ _=>0) ⟨#[],args,[]⟩).memory:=apI args<|atN a _
