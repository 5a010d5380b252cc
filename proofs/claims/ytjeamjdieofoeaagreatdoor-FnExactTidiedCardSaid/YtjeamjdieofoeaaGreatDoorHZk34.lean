import Derived.Test.YtjeamjdieofoeaaGreatDoorCards
import Derived.JoinedOf
set_option linter.all false
open Bool renaming true->A
namespace Go.Proofs.YtjeamjdieofoeaaGreatDoor
open Go
set_option maxRecDepth 100000
theorem aT{a b:Bool}(h:a=A)(k:b=A):(a&&b)=A:=by rw[h,k];rfl
theorem jf1:(Rows.fnExactTidiedRow.wf (OpenSpec.ofChange Rows.fnExactTidiedSpec))=A:=by kernel_rfl
theorem jf2:(laidOutB Tryz.checked.prog)=A:=by kernel_rfl
theorem jf3:(mapsRowed Tryz.checked.prog)=A:=by kernel_rfl
theorem jf4:(Tryz.f3.params.all (Tryz.checked.prog.readableRec ·))=A:=by kernel_rfl
theorem jf5:(namedTie Tryz.checked.prog Rows.fnExactTidiedRow.named Rows.fnExactTidiedSpec.vars)=A:=by kernel_rfl
theorem jf6:((Rows.fnExactTidiedRow.stops==[]))=A:=by kernel_rfl
theorem jf7:((Tryz.checked.prog.stops==[]))=A:=by kernel_rfl
theorem jf8:((Rows.fnExactTidiedRow.knobs==[]))=A:=by kernel_rfl
theorem jf9:((Tryz.checked.prog.stopKnobs==[]))=A:=by kernel_rfl
theorem apr:((Rows.fnExactTidiedRow.inPlace==Tryz.checked.prog.inPlace 3))=A:=by kernel_rfl
theorem aps:((Rows.fnExactTidiedRow.unfollowed==Tryz.checked.prog.unfollowed 3))=A:=by kernel_rfl
theorem apt:((Rows.fnExactTidiedRow.recurses==Tryz.checked.prog.recurses 3))=A:=by kernel_rfl
theorem apu:((Rows.fnExactTidiedRow.named==Tryz.checked.prog.varsNamed 3))=A:=by kernel_rfl
theorem apv:((Rows.fnExactTidiedRow.maps==(Tryz.f3.params.toList++Rows.fnExactTidiedSpec.plain.varTypes Tryz.checked.prog).any (Tryz.checked.prog.mapsRec ·)))=A:=by kernel_rfl
theorem apw:((Rows.fnExactTidiedRow.ifaces==(Tryz.f3.params.toList++Rows.fnExactTidiedSpec.plain.varTypes Tryz.checked.prog).any (Tryz.checked.prog.ifacesRec ·)))=A:=by kernel_rfl
theorem apx:((Rows.fnExactTidiedRow.mapsOut==Tryz.checked.prog.mapsAmong Tryz.f3.resultTypes.toList))=A:=by kernel_rfl
theorem apy:((Rows.fnExactTidiedRow.loops==(Tryz.f3.params.toList++Rows.fnExactTidiedSpec.plain.varTypes Tryz.checked.prog).any (Tryz.checked.prog.loopsFrom ·)))=A:=by kernel_rfl
theorem apz:((Rows.fnExactTidiedRow.wideKeys==(Tryz.f3.params.toList++Rows.fnExactTidiedSpec.plain.varTypes Tryz.checked.prog++Tryz.f3.resultTypes.toList).any (Tryz.checked.prog.wideKeysFrom ·)))=A:=by kernel_rfl
theorem apA:(Rows.fnExactTidiedSpec.vars.all (Tryz.checked.prog.varReadable ·))=A:=by kernel_rfl
theorem apB:(Tryz.f3.resultTypes.all (fun t=>Tryz.checked.prog.readableRec t&&decide (t<Tryz.checked.prog.types.size)))=A:=by kernel_rfl
theorem apD:((Rows.fnExactTidiedRow.ifacesOut==Tryz.f3.resultTypes.toList.any (Tryz.checked.prog.ifacesRec ·)))=A:=by kernel_rfl
theorem apE:((Rows.fnExactTidiedRow.loopsOut==Tryz.f3.resultTypes.toList.any (Tryz.checked.prog.loopsFrom ·)))=A:=by kernel_rfl
theorem apF:((Rows.fnExactTidiedRow.plainKeys==Tryz.checked.prog.plainKeys))=A:=by kernel_rfl
theorem apH:(Rows.fnExactTidiedRow.shortTexts.isNone)=A:=by kernel_rfl
theorem apI:(Tryz.checked.prog.stopsHeard)=A:=by kernel_rfl
theorem apJ:(Tryz.checked.prog.mayEnter)=A:=by kernel_rfl
theorem apK:((Rows.fnExactTidiedRow.lifted==Tryz.checked.prog.liftsFinal))=A:=by kernel_rfl
theorem apL:((Tryz.checked.prog.make==some Rows.fnExactTidiedRow.make))=A:=by kernel_rfl
theorem ap0:((Rows.fnExactTidiedRow.kinds==(if Rows.fnExactTidiedRow.domain.isEmpty then [] else Tryz.f3.params.toList.map fun t=>match Tryz.checked.prog.underlying t with|some (.int k)=>some k|_=>none)))=A:=by kernel_rfl
theorem ap1:((Rows.fnExactTidiedRow.pinned==Rows.fnExactTidiedRow.pinnedBy))=A:=by kernel_rfl
theorem ap2:((Rows.fnExactTidiedRow.veiled==(Tryz.f3.params.toList++Rows.fnExactTidiedSpec.plain.varTypes Tryz.checked.prog++Tryz.f3.resultTypes.toList).any (Tryz.checked.prog.veiledRec ·)))=A:=by kernel_rfl
theorem ap3:(Rows.fnExactTidiedRow.veiledFits Tryz.checked.prog Tryz.f3.params.toList (Tryz.f3.params.toList++Rows.fnExactTidiedSpec.plain.varTypes Tryz.checked.prog++Tryz.f3.resultTypes.toList))=A:=by kernel_rfl
theorem aoo:joinedFacts Tryz.checked.prog 3 Tryz.f3 Rows.fnExactTidiedSpec Rows.fnExactTidiedRow=A:=aT (aT (aT (aT (aT (aT (aT (aT (aT (aT (aT (aT (aT (aT (aT (aT (aT (aT (aT (aT (aT (aT (aT (aT (aT (aT (aT (aT (aT (aT (aT (jf1) jf2) jf3) jf4) jf5) jf6) jf7) jf8) jf9) apr) aps) apt) apu) apv) apw) apx) apy) apz) apA) apB) apD) apE) apF) apH) apI) apJ) apK) apL) ap0) ap1) ap2) ap3
