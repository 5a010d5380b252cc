import Derived.Test.YthjpdjibdnecoaaGreatDoorCards
import Derived.JoinedOf
set_option linter.all false
open Bool renaming true->A
namespace Go.Proofs.YthjpdjibdnecoaaGreatDoor
open Go
set_option maxRecDepth 100000
theorem aT{a b:Bool}(h:a=A)(k:b=A):(a&&b)=A:=by rw[h,k];rfl
theorem jf1:(Rows.fnExactAnswerRow.wf (OpenSpec.ofChange Rows.fnExactAnswerSpec))=A:=by kernel_rfl
theorem jf2:(laidOutB Tryz.checked.prog)=A:=by kernel_rfl
theorem jf3:(mapsRowed Tryz.checked.prog)=A:=by kernel_rfl
theorem jf4:(Tryz.f3.params.all (Tryz.checked.prog.readableRec ·))=A:=by kernel_rfl
theorem jf5:(namedTie Tryz.checked.prog Rows.fnExactAnswerRow.named Rows.fnExactAnswerSpec.vars)=A:=by kernel_rfl
theorem jf6:((Rows.fnExactAnswerRow.stops==[]))=A:=by kernel_rfl
theorem jf7:((Tryz.checked.prog.stops==[]))=A:=by kernel_rfl
theorem jf8:((Rows.fnExactAnswerRow.knobs==[]))=A:=by kernel_rfl
theorem jf9:((Tryz.checked.prog.stopKnobs==[]))=A:=by kernel_rfl
theorem ano:((Rows.fnExactAnswerRow.inPlace==Tryz.checked.prog.inPlace 3))=A:=by kernel_rfl
theorem anp:((Rows.fnExactAnswerRow.unfollowed==Tryz.checked.prog.unfollowed 3))=A:=by kernel_rfl
theorem anq:((Rows.fnExactAnswerRow.recurses==Tryz.checked.prog.recurses 3))=A:=by kernel_rfl
theorem anr:((Rows.fnExactAnswerRow.named==Tryz.checked.prog.varsNamed 3))=A:=by kernel_rfl
theorem ans:((Rows.fnExactAnswerRow.maps==(Tryz.f3.params.toList++Rows.fnExactAnswerSpec.plain.varTypes Tryz.checked.prog).any (Tryz.checked.prog.mapsRec ·)))=A:=by kernel_rfl
theorem ant:((Rows.fnExactAnswerRow.ifaces==(Tryz.f3.params.toList++Rows.fnExactAnswerSpec.plain.varTypes Tryz.checked.prog).any (Tryz.checked.prog.ifacesRec ·)))=A:=by kernel_rfl
theorem anu:((Rows.fnExactAnswerRow.mapsOut==Tryz.checked.prog.mapsAmong Tryz.f3.resultTypes.toList))=A:=by kernel_rfl
theorem anv:((Rows.fnExactAnswerRow.loops==(Tryz.f3.params.toList++Rows.fnExactAnswerSpec.plain.varTypes Tryz.checked.prog).any (Tryz.checked.prog.loopsFrom ·)))=A:=by kernel_rfl
theorem anw:((Rows.fnExactAnswerRow.wideKeys==(Tryz.f3.params.toList++Rows.fnExactAnswerSpec.plain.varTypes Tryz.checked.prog++Tryz.f3.resultTypes.toList).any (Tryz.checked.prog.wideKeysFrom ·)))=A:=by kernel_rfl
theorem anx:(Rows.fnExactAnswerSpec.vars.all (Tryz.checked.prog.varReadable ·))=A:=by kernel_rfl
theorem anz:(Tryz.f3.resultTypes.all (fun t=>Tryz.checked.prog.readableRec t&&decide (t<Tryz.checked.prog.types.size)))=A:=by kernel_rfl
theorem anA:((Rows.fnExactAnswerRow.ifacesOut==Tryz.f3.resultTypes.toList.any (Tryz.checked.prog.ifacesRec ·)))=A:=by kernel_rfl
theorem anB:((Rows.fnExactAnswerRow.loopsOut==Tryz.f3.resultTypes.toList.any (Tryz.checked.prog.loopsFrom ·)))=A:=by kernel_rfl
theorem anC:((Rows.fnExactAnswerRow.plainKeys==Tryz.checked.prog.plainKeys))=A:=by kernel_rfl
theorem anD:(Rows.fnExactAnswerRow.shortTexts.isNone)=A:=by kernel_rfl
theorem anE:(Tryz.checked.prog.stopsHeard)=A:=by kernel_rfl
theorem anF:(Tryz.checked.prog.mayEnter)=A:=by kernel_rfl
theorem anG:((Rows.fnExactAnswerRow.lifted==Tryz.checked.prog.liftsFinal))=A:=by kernel_rfl
theorem anH:((Tryz.checked.prog.make==some Rows.fnExactAnswerRow.make))=A:=by kernel_rfl
theorem anI:((Rows.fnExactAnswerRow.kinds==(if Rows.fnExactAnswerRow.domain.isEmpty then [] else Tryz.f3.params.toList.map fun t=>match Tryz.checked.prog.underlying t with|some (.int k)=>some k|_=>none)))=A:=by kernel_rfl
theorem anJ:((Rows.fnExactAnswerRow.pinned==Rows.fnExactAnswerRow.pinnedBy))=A:=by kernel_rfl
theorem anK:((Rows.fnExactAnswerRow.veiled==(Tryz.f3.params.toList++Rows.fnExactAnswerSpec.plain.varTypes Tryz.checked.prog++Tryz.f3.resultTypes.toList).any (Tryz.checked.prog.veiledRec ·)))=A:=by kernel_rfl
theorem anL:(Rows.fnExactAnswerRow.veiledFits Tryz.checked.prog Tryz.f3.params.toList (Tryz.f3.params.toList++Rows.fnExactAnswerSpec.plain.varTypes Tryz.checked.prog++Tryz.f3.resultTypes.toList))=A:=by kernel_rfl
theorem ann:joinedFacts Tryz.checked.prog 3 Tryz.f3 Rows.fnExactAnswerSpec Rows.fnExactAnswerRow=A:=aT (aT (aT (aT (aT (aT (aT (aT (aT (aT (aT (aT (aT (aT (aT (aT (aT (aT (aT (aT (aT (aT (aT (aT (aT (aT (aT (aT (aT (aT (aT (jf1) jf2) jf3) jf4) jf5) jf6) jf7) jf8) jf9) ano) anp) anq) anr) ans) ant) anu) anv) anw) anx) anz) anA) anB) anC) anD) anE) anF) anG) anH) anI) anJ) anK) anL
