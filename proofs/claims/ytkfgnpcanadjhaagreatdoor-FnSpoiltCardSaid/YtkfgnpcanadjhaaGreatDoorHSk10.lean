import Derived.Test.YtkfgnpcanadjhaaGreatDoorTie
import Derived.Test.YtkfgnpcanadjhaaGreatDoorCards
import Derived.LaidMore
set_option linter.all false
namespace Go.Proofs.YtkfgnpcanadjhaaGreatDoor
open Go
set_option maxRecDepth 100000
theorem ad2{P:Program}{l:List (String×DataW Unit)}{n f M:Nat}{os:Os}(args:Array Value)(a:doorLeaves P n f M l os (fun _ _=>0)=some (l.filter fun x=>x.2.handleName?.isNone,(funcsListed l).map (·.2.funcsOut))):laidMetH P l ((World.doorLaid P n os).forCall (fun _ _=>0) ⟨#[],args,[]⟩).memory:=by
 unfold doorLeaves at a
 split at a
 ·rename_i k j g
  simp only[Option.bind_eq_some_iff]at a
  obtain⟨x,h,b⟩:=a
  split at b
  ·rename_i c
   simp only[Bool.and_eq_true]at c
   simp only[Option.map_eq_some_iff,Prod.mk.injEq]at b
   obtain⟨m,i,d,e⟩:=b
   refine laidMetH.of_heap ?_ (laidMetH_of_parts3 (fuel:=f) (laidMet_of_run (ps:=x.2) f (by rw[h,<-d]) (decide_eq_true (nodupBits_sound c.1.1).1) c.1.2) c.2 (by rw[i,e]))
   show j.heap=(varsWorld P n (varsId P) os (fun _ _=>0)).heap
   unfold varsWorld
   rw[g]
  ·cases b
 ·cases a
theorem atN(os:Os)(a:Tape):doorLeaves Tryz.prog 126 8 257 Rows.fnSpoiltRow.laid os a=some (Rows.fnSpoiltRow.laid.filter fun x=>x.2.handleName?.isNone,(funcsListed Rows.fnSpoiltRow.laid).map (·.2.funcsOut)):=by kernel_rfl
theorem Er(os:Os)(args:Array Value):laidMetH Tryz.prog Rows.fnSpoiltRow.laid ((World.doorLaid Tryz.prog 126 os).forCall (fun _ _=>0) ⟨#[],args,[]⟩).memory:=ad2 args (atN os _)
