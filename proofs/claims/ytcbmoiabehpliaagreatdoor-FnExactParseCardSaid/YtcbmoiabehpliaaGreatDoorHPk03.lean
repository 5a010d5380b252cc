import Derived.Test.YtcbmoiabehpliaaGreatDoorRows
import Derived.ProofKit
import Derived.LaidMore
import Derived.LaidSub
import Derived.OpenShut
import Derived.OpenVars
import Derived.Stop.Joined
import Derived.Test.YtcbmoiabehpliaaGreatDoorHPk02
set_option linter.unusedVariables false
namespace Go.Proofs.YtcbmoiabehpliaaGreatDoor
open Go.ChangeShapes Go.WideShapes Go.ChangeAt Go.WideMaps Go.WideElems Go.RowKit
theorem pE{H:Type}{enc:TypeId×Value->H}{P:Program}{w:World}{base:Nat}{B:Nat->Bool}{l:Bool}{fuel:Nat}{t e:TypeId}{n:Nat}{cs:List Value}{d:List (List UInt8)}{p:List MemPlace}
  (q:P.underlying t=some (.array n e)) (C:P.underlying e=some .string) (s:P.cellsOf e=1) (v:P.cellsOf t=n)
  (h:DataW.trod enc P w base B l fuel t cs=some (.agg (d.map fun b=> .lit (.string b)),p)):cs=d.map fun b=>Value.string ⟨b.toArray⟩:=by
 obtain⟨m,E,rfl,f,o,k,x⟩:=DataW.trod_array q h;simp only[Prod.mk.injEq,DataW.agg.injEq]at f;have r:d.length=n:=by have:=congrArg List.length f.1;simpa [k] using this
 apply List.ext_getElem (by simp[o,v,r]);intro a y F;have A:a<n:=by omega
 have g:=x a A;rw[s,Nat.mul_one,List.getElem?_eq_getElem (by omega)]at g;obtain⟨i,j,u,_⟩:=DataW.trod_string C g;have z:cs[a]= .string i:=by
  have:((cs.drop a).take 1)[0]?=some (.string i):=by rw[j];rfl
  simpa [List.getElem?_take,List.getElem?_drop,List.getElem?_eq_getElem y] using this
 have c:(m.map (·.1))[a]?=(d.map fun b=>(DataW.lit (.string b):DataW H))[a]?:=by rw[f.1]
 rw[List.getElem?_map,List.getElem?_map,List.getElem?_eq_getElem (by omega),List.getElem?_eq_getElem (by omega)]at c;simp only[Option.map_some,Option.some.injEq]at c;rw[u]at c;simp only[DataW.lit.injEq,Lit.string.injEq]at c;rw[z,List.getElem_map,<-c]
theorem own:ownKnob Tryz.prog.godebug=none:=by kernel_rfl
theorem xA:laidOutB Tryz.prog=true:=by kernel_rfl
end Go.Proofs.YtcbmoiabehpliaaGreatDoor
namespace Go.Proofs.YtcbmoiabehpliaaGreatDoor
open Go.RowKit
end Go.Proofs.YtcbmoiabehpliaaGreatDoor
