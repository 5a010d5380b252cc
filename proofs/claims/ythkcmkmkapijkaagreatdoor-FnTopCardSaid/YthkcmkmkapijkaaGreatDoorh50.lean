import Derived.Test.YthkcmkmkapijkaaGreatDoorh01
import Derived.Test.YthkcmkmkapijkaaGreatDoorCards
import Derived.JoinedOf
set_option linter.all false
open Bool renaming true->A
namespace Go.Proofs.YthkcmkmkapijkaaGreatDoor
open Go
set_option maxRecDepth 100000
def aT{a b}(h:a=A)(k:b=A):(a&&b)=A:=by rw[h,k];rfl
def jf1:(Rows.fnTopRow.wf<|OpenSpec.ofChange Rows.fnTopSpec)=A:=J
def jf2:(laidOutB Tryz.checked.prog)=A:=J
def jf3:(mapsRowed Tryz.checked.prog)=A:=J
def jf4:(Tryz.f3.params.all (Tryz.checked.prog.readableRec ·))=A:=J
def jf5:(namedTie Tryz.checked.prog Rows.fnTopRow.named Rows.fnTopSpec.vars)=A:=J
def jf6:((Rows.fnTopRow.stops==[]))=A:=J
def jf7:((Tryz.checked.prog.stops==[]))=A:=J
def jf8:((Rows.fnTopRow.knobs==[]))=A:=J
def jf9:((Tryz.checked.prog.stopKnobs==[]))=A:=J
def aAm:((Rows.fnTopRow.inPlace==Tryz.checked.prog.inPlace 3))=A:=J
def aAn:((Rows.fnTopRow.unfollowed==Tryz.checked.prog.unfollowed 3))=A:=J
def aAo:((Rows.fnTopRow.recurses==Tryz.checked.prog.recurses 3))=A:=J
def aAp:((Rows.fnTopRow.named==Tryz.checked.prog.varsNamed 3))=A:=J
def aAq:((Rows.fnTopRow.maps==(Tryz.f3.params.toList++Rows.fnTopSpec.plain.varTypes Tryz.checked.prog).any (Tryz.checked.prog.mapsRec ·)))=A:=J
def aAr:((Rows.fnTopRow.ifaces==(Tryz.f3.params.toList++Rows.fnTopSpec.plain.varTypes Tryz.checked.prog).any (Tryz.checked.prog.ifacesRec ·)))=A:=J
def aAs:((Rows.fnTopRow.mapsOut==Tryz.checked.prog.mapsAmong Tryz.f3.resultTypes.toList))=A:=J
def aAt:((Rows.fnTopRow.loops==(Tryz.f3.params.toList++Rows.fnTopSpec.plain.varTypes Tryz.checked.prog).any (Tryz.checked.prog.loopsFrom ·)))=A:=J
def aAu:((Rows.fnTopRow.wideKeys==(Tryz.f3.params.toList++Rows.fnTopSpec.plain.varTypes Tryz.checked.prog++Tryz.f3.resultTypes.toList).any (Tryz.checked.prog.wideKeysFrom ·)))=A:=J
def aAv:(Rows.fnTopSpec.vars.all (Tryz.checked.prog.varReadable ·))=A:=J
def aAw:(Tryz.f3.resultTypes.all (λt=>Tryz.checked.prog.readableRec t&&decide (t<Tryz.checked.prog.types.size)))=A:=J
def aAx:((Rows.fnTopRow.ifacesOut==Tryz.f3.resultTypes.toList.any (Tryz.checked.prog.ifacesRec ·)))=A:=J
def aAy:((Rows.fnTopRow.loopsOut==Tryz.f3.resultTypes.toList.any (Tryz.checked.prog.loopsFrom ·)))=A:=J
def aAz:((Rows.fnTopRow.plainKeys==Tryz.checked.prog.plainKeys))=A:=J
def aAA:(Rows.fnTopRow.shortTexts.isNone)=A:=J
def aAB:(Tryz.checked.prog.stopsHeard)=A:=J
def aAC:(Tryz.checked.prog.mayEnter)=A:=J
def aAD:((Rows.fnTopRow.lifted==Tryz.checked.prog.liftsFinal))=A:=J
def aAE:((Tryz.checked.prog.make==some Rows.fnTopRow.make))=A:=J
def aAF:((Rows.fnTopRow.kinds==(if Rows.fnTopRow.domain.isEmpty then [] else Tryz.f3.params.toList.map λt=>match Tryz.checked.prog.underlying t with|some (.int k)=>some k|_=>none)))=A:=J
def aAG:((Rows.fnTopRow.pinned==Rows.fnTopRow.pinnedBy))=A:=J
def aAH:((Rows.fnTopRow.veiled==(Tryz.f3.params.toList++Rows.fnTopSpec.plain.varTypes Tryz.checked.prog++Tryz.f3.resultTypes.toList).any (Tryz.checked.prog.veiledRec ·)))=A:=J
def aAI:(Rows.fnTopRow.veiledFits Tryz.checked.prog Tryz.f3.params.toList<|Tryz.f3.params.toList++Rows.fnTopSpec.plain.varTypes Tryz.checked.prog++Tryz.f3.resultTypes.toList)=A:=J
def ayI:joinedFacts Tryz.checked.prog 3 Tryz.f3 Rows.fnTopSpec Rows.fnTopRow=A:=aT (aT (aT (aT (aT (aT (aT (aT (aT (aT (aT (aT (aT (aT (aT (aT (aT (aT (aT (aT (aT (aT (aT (aT (aT (aT (aT (aT (aT (aT (aT (jf1) jf2) jf3) jf4) jf5) jf6) jf7) jf8) jf9) aAm) aAn) aAo) aAp) aAq) aAr) aAs) aAt) aAu) aAv) aAw) aAx) aAy) aAz) aAA) aAB) aAC) aAD) aAE) aAF) aAG) aAH) aAI
