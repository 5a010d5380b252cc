import Derived.Test.YtcbmoiabehpliaaGreatDoorTie
import Derived.LaidMore
import Derived.LaidLaws
import Derived.Test.YtcbmoiabehpliaaGreatDoorCards
import Derived.SevenTiedAt
import Derived.Lib.SmallJoins
set_option linter.unusedVariables false
namespace Go.Proofs.YtcbmoiabehpliaaGreatDoor
open Go.ChangeShapes Go.WideShapes Go.ChangeAt Go.WideMaps Go.WideElems Go.RowKit
theorem KP(os:Os)(args:Array Value):(DataW.laidRun Tryz.prog ((World.doorLaid Tryz.prog 126 os).forCall (fun _ _=>0) ⟨#[],args,[]⟩).memory 8 ((Rows.fnExactParseRow.laid.filter fun x=>x.2.handleName?.isNone).map (·.1))).map (·.1)=some (Rows.fnExactParseRow.laid.filter fun x=>x.2.handleName?.isNone):=by kernel_rfl
theorem KQ(os:Os)(args:Array Value):(DataW.laidRun Tryz.prog ((World.doorLaid Tryz.prog 126 os).forCall (fun _ _=>0) ⟨#[],args,[]⟩).memory 8 ((Rows.fnExactParseRow.laid.filter fun x=>x.2.handleName?.isNone).map (·.1))).map (fun x=>decide x.2.Nodup&&laidRowsB Tryz.prog ((World.doorLaid Tryz.prog 126 os).forCall (fun _ _=>0) ⟨#[],args,[]⟩).memory x.2)=some true:=by kernel_rfl
theorem nW(os:Os)(args:Array Value):laidMetH Tryz.prog Rows.fnExactParseRow.laid ((World.doorLaid Tryz.prog 126 os).forCall (fun _ _=>0) ⟨#[],args,[]⟩).memory:=
 laidMetH_of_parts3 (fuel:=8) (laidMet_of_run' 8 (KP os args) (KQ os args)) (by kernel_rfl) (by kernel_rfl)
end Go.Proofs.YtcbmoiabehpliaaGreatDoor
