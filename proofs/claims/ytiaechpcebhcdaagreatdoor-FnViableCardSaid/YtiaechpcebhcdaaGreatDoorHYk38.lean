import Derived.Test.YtiaechpcebhcdaaGreatDoorHYk01
import Derived.Test.YtiaechpcebhcdaaGreatDoorCards
import Derived.JoinedOf
set_option linter.all false
open Bool renaming true->A
namespace Go.Proofs.YtiaechpcebhcdaaGreatDoor
open Go
set_option maxRecDepth 100000
def aT{a b:Bool}(h:a=A)(k:b=A):(a&&b)=A:=by rw[h,k];rfl
def jf1:(Rows.fnViableRow.wf (OpenSpec.ofChange Rows.fnViableSpec))=A:=J
def jf2:(laidOutB Tryz.checked.prog)=A:=J
def jf3:(mapsRowed Tryz.checked.prog)=A:=J
def jf4:(Tryz.f3.params.all (Tryz.checked.prog.readableRec ·))=A:=J
def jf5:(namedTie Tryz.checked.prog Rows.fnViableRow.named Rows.fnViableSpec.vars)=A:=J
def jf6:((Rows.fnViableRow.stops==[]))=A:=J
def jf7:((Tryz.checked.prog.stops==[]))=A:=J
def jf8:((Rows.fnViableRow.knobs==[]))=A:=J
def jf9:((Tryz.checked.prog.stopKnobs==[]))=A:=J
def at9:((Rows.fnViableRow.inPlace==Tryz.checked.prog.inPlace 3))=A:=J
def aua:((Rows.fnViableRow.unfollowed==Tryz.checked.prog.unfollowed 3))=A:=J
def aub:((Rows.fnViableRow.recurses==Tryz.checked.prog.recurses 3))=A:=J
def auc:((Rows.fnViableRow.named==Tryz.checked.prog.varsNamed 3))=A:=J
def aud:((Rows.fnViableRow.maps==(Tryz.f3.params.toList++Rows.fnViableSpec.plain.varTypes Tryz.checked.prog).any (Tryz.checked.prog.mapsRec ·)))=A:=J
def aue:((Rows.fnViableRow.ifaces==(Tryz.f3.params.toList++Rows.fnViableSpec.plain.varTypes Tryz.checked.prog).any (Tryz.checked.prog.ifacesRec ·)))=A:=J
def auf:((Rows.fnViableRow.mapsOut==Tryz.checked.prog.mapsAmong Tryz.f3.resultTypes.toList))=A:=J
def aug:((Rows.fnViableRow.loops==(Tryz.f3.params.toList++Rows.fnViableSpec.plain.varTypes Tryz.checked.prog).any (Tryz.checked.prog.loopsFrom ·)))=A:=J
def auh:((Rows.fnViableRow.wideKeys==(Tryz.f3.params.toList++Rows.fnViableSpec.plain.varTypes Tryz.checked.prog++Tryz.f3.resultTypes.toList).any (Tryz.checked.prog.wideKeysFrom ·)))=A:=J
def aui:(Rows.fnViableSpec.vars.all (Tryz.checked.prog.varReadable ·))=A:=J
def auj:(Tryz.f3.resultTypes.all (λt=>Tryz.checked.prog.readableRec t&&decide (t<Tryz.checked.prog.types.size)))=A:=J
def auk:((Rows.fnViableRow.ifacesOut==Tryz.f3.resultTypes.toList.any (Tryz.checked.prog.ifacesRec ·)))=A:=J
def aul:((Rows.fnViableRow.loopsOut==Tryz.f3.resultTypes.toList.any (Tryz.checked.prog.loopsFrom ·)))=A:=J
def aum:((Rows.fnViableRow.plainKeys==Tryz.checked.prog.plainKeys))=A:=J
def aun:(Rows.fnViableRow.shortTexts.isNone)=A:=J
def auo:(Tryz.checked.prog.stopsHeard)=A:=J
def aup:(Tryz.checked.prog.mayEnter)=A:=J
def auq:((Rows.fnViableRow.lifted==Tryz.checked.prog.liftsFinal))=A:=J
def aur:((Tryz.checked.prog.make==some Rows.fnViableRow.make))=A:=J
def aus:((Rows.fnViableRow.kinds==(if Rows.fnViableRow.domain.isEmpty then [] else Tryz.f3.params.toList.map λt=>match Tryz.checked.prog.underlying t with|some (.int k)=>some k|_=>none)))=A:=J
def aut:((Rows.fnViableRow.pinned==Rows.fnViableRow.pinnedBy))=A:=J
def auu:((Rows.fnViableRow.veiled==(Tryz.f3.params.toList++Rows.fnViableSpec.plain.varTypes Tryz.checked.prog++Tryz.f3.resultTypes.toList).any (Tryz.checked.prog.veiledRec ·)))=A:=J
def auv:(Rows.fnViableRow.veiledFits Tryz.checked.prog Tryz.f3.params.toList (Tryz.f3.params.toList++Rows.fnViableSpec.plain.varTypes Tryz.checked.prog++Tryz.f3.resultTypes.toList))=A:=J
def atd:joinedFacts Tryz.checked.prog 3 Tryz.f3 Rows.fnViableSpec Rows.fnViableRow=A:=aT (aT (aT (aT (aT (aT (aT (aT (aT (aT (aT (aT (aT (aT (aT (aT (aT (aT (aT (aT (aT (aT (aT (aT (aT (aT (aT (aT (aT (aT (aT (jf1) jf2) jf3) jf4) jf5) jf6) jf7) jf8) jf9) at9) aua) aub) auc) aud) aue) auf) aug) auh) aui) auj) auk) aul) aum) aun) auo) aup) auq) aur) aus) aut) auu) auv
