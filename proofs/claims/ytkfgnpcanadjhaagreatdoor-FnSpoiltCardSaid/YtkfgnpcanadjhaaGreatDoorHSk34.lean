import Derived.Test.YtkfgnpcanadjhaaGreatDoorCards
import Derived.JoinedOf
set_option linter.all false
namespace Go.Proofs.YtkfgnpcanadjhaaGreatDoor
open Go
set_option maxRecDepth 100000
theorem aT{a b:Bool}(c:a=true)(k:b=true):(a&&b)=true:=by rw[c,k];rfl
theorem jf1:(Rows.fnSpoiltRow.wf (OpenSpec.ofChange Rows.fnSpoiltSpec))=true:=by kernel_rfl
theorem jf2:(laidOutB Tryz.checked.prog)=true:=by kernel_rfl
theorem jf3:(mapsRowed Tryz.checked.prog)=true:=by kernel_rfl
theorem jf4:(Tryz.f3.params.all (Tryz.checked.prog.readableRec ·))=true:=by kernel_rfl
theorem jf5:(namedTie Tryz.checked.prog Rows.fnSpoiltRow.named Rows.fnSpoiltSpec.vars)=true:=by kernel_rfl
theorem jf6:((Rows.fnSpoiltRow.stops==[]))=true:=by kernel_rfl
theorem jf7:((Tryz.checked.prog.stops==[]))=true:=by kernel_rfl
theorem jf8:((Rows.fnSpoiltRow.knobs==[]))=true:=by kernel_rfl
theorem jf9:((Tryz.checked.prog.stopKnobs==[]))=true:=by kernel_rfl
theorem aka:((Rows.fnSpoiltRow.inPlace==Tryz.checked.prog.inPlace 3))=true:=by kernel_rfl
theorem akb:((Rows.fnSpoiltRow.unfollowed==Tryz.checked.prog.unfollowed 3))=true:=by kernel_rfl
theorem akc:((Rows.fnSpoiltRow.recurses==Tryz.checked.prog.recurses 3))=true:=by kernel_rfl
theorem akd:((Rows.fnSpoiltRow.named==Tryz.checked.prog.varsNamed 3))=true:=by kernel_rfl
theorem ake:((Rows.fnSpoiltRow.maps==(Tryz.f3.params.toList++Rows.fnSpoiltSpec.plain.varTypes Tryz.checked.prog).any (Tryz.checked.prog.mapsRec ·)))=true:=by kernel_rfl
theorem akf:((Rows.fnSpoiltRow.ifaces==(Tryz.f3.params.toList++Rows.fnSpoiltSpec.plain.varTypes Tryz.checked.prog).any (Tryz.checked.prog.ifacesRec ·)))=true:=by kernel_rfl
theorem akg:((Rows.fnSpoiltRow.mapsOut==Tryz.checked.prog.mapsAmong Tryz.f3.resultTypes.toList))=true:=by kernel_rfl
theorem akh:((Rows.fnSpoiltRow.loops==(Tryz.f3.params.toList++Rows.fnSpoiltSpec.plain.varTypes Tryz.checked.prog).any (Tryz.checked.prog.loopsFrom ·)))=true:=by kernel_rfl
theorem aki:((Rows.fnSpoiltRow.wideKeys==(Tryz.f3.params.toList++Rows.fnSpoiltSpec.plain.varTypes Tryz.checked.prog++Tryz.f3.resultTypes.toList).any (Tryz.checked.prog.wideKeysFrom ·)))=true:=by kernel_rfl
theorem akj:(Rows.fnSpoiltSpec.vars.all (Tryz.checked.prog.varReadable ·))=true:=by kernel_rfl
theorem akk:(Tryz.f3.resultTypes.all (fun t=>Tryz.checked.prog.readableRec t&&decide (t<Tryz.checked.prog.types.size)))=true:=by kernel_rfl
theorem akl:((Rows.fnSpoiltRow.ifacesOut==Tryz.f3.resultTypes.toList.any (Tryz.checked.prog.ifacesRec ·)))=true:=by kernel_rfl
theorem akm:((Rows.fnSpoiltRow.loopsOut==Tryz.f3.resultTypes.toList.any (Tryz.checked.prog.loopsFrom ·)))=true:=by kernel_rfl
theorem akn:((Rows.fnSpoiltRow.plainKeys==Tryz.checked.prog.plainKeys))=true:=by kernel_rfl
theorem ako:(Rows.fnSpoiltRow.shortTexts.isNone)=true:=by kernel_rfl
theorem akp:(Tryz.checked.prog.stopsHeard)=true:=by kernel_rfl
theorem akq:(Tryz.checked.prog.mayEnter)=true:=by kernel_rfl
theorem akr:((Rows.fnSpoiltRow.lifted==Tryz.checked.prog.liftsFinal))=true:=by kernel_rfl
theorem aks:((Tryz.checked.prog.make==some Rows.fnSpoiltRow.make))=true:=by kernel_rfl
theorem akt:((Rows.fnSpoiltRow.kinds==(if Rows.fnSpoiltRow.domain.isEmpty then [] else Tryz.f3.params.toList.map fun t=>match Tryz.checked.prog.underlying t with|some (.int k)=>some k|_=>none)))=true:=by kernel_rfl
theorem aku:((Rows.fnSpoiltRow.pinned==Rows.fnSpoiltRow.pinnedBy))=true:=by kernel_rfl
theorem akv:((Rows.fnSpoiltRow.veiled==(Tryz.f3.params.toList++Rows.fnSpoiltSpec.plain.varTypes Tryz.checked.prog++Tryz.f3.resultTypes.toList).any (Tryz.checked.prog.veiledRec ·)))=true:=by kernel_rfl
theorem akw:(Rows.fnSpoiltRow.veiledFits Tryz.checked.prog Tryz.f3.params.toList (Tryz.f3.params.toList++Rows.fnSpoiltSpec.plain.varTypes Tryz.checked.prog++Tryz.f3.resultTypes.toList))=true:=by kernel_rfl
theorem ajp:joinedFacts Tryz.checked.prog 3 Tryz.f3 Rows.fnSpoiltSpec Rows.fnSpoiltRow=true:=aT (aT (aT (aT (aT (aT (aT (aT (aT (aT (aT (aT (aT (aT (aT (aT (aT (aT (aT (aT (aT (aT (aT (aT (aT (aT (aT (aT (aT (aT (aT (jf1) jf2) jf3) jf4) jf5) jf6) jf7) jf8) jf9) aka) akb) akc) akd) ake) akf) akg) akh) aki) akj) akk) akl) akm) akn) ako) akp) akq) akr) aks) akt) aku) akv) akw
