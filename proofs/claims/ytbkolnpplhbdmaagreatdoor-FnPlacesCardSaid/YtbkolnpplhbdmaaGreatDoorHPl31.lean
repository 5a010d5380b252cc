import Derived.Test.YtbkolnpplhbdmaaGreatDoorCards
import Derived.JoinedOf
set_option linter.all false
open Bool renaming true->A
namespace Go.Proofs.YtbkolnpplhbdmaaGreatDoor
open Go
set_option maxRecDepth 100000
def aT{a b:Bool}(h:a=A)(k:b=A):(a&&b)=A:=by rw[h,k];rfl
def jf1:(Rows.fnPlacesRow.wf (OpenSpec.ofChange Rows.fnPlacesSpec))=A:=by kernel_rfl
def jf2:(laidOutB Tryz.checked.prog)=A:=by kernel_rfl
def jf3:(mapsRowed Tryz.checked.prog)=A:=by kernel_rfl
def jf4:(Tryz.f3.params.all (Tryz.checked.prog.readableRec ·))=A:=by kernel_rfl
def jf5:(namedTie Tryz.checked.prog Rows.fnPlacesRow.named Rows.fnPlacesSpec.vars)=A:=by kernel_rfl
def jf6:((Rows.fnPlacesRow.stops==[]))=A:=by kernel_rfl
def jf7:((Tryz.checked.prog.stops==[]))=A:=by kernel_rfl
def jf8:((Rows.fnPlacesRow.knobs==[]))=A:=by kernel_rfl
def jf9:((Tryz.checked.prog.stopKnobs==[]))=A:=by kernel_rfl
def ata:((Rows.fnPlacesRow.inPlace==Tryz.checked.prog.inPlace 3))=A:=by kernel_rfl
def atb:((Rows.fnPlacesRow.unfollowed==Tryz.checked.prog.unfollowed 3))=A:=by kernel_rfl
def atc:((Rows.fnPlacesRow.recurses==Tryz.checked.prog.recurses 3))=A:=by kernel_rfl
def atd:((Rows.fnPlacesRow.named==Tryz.checked.prog.varsNamed 3))=A:=by kernel_rfl
def ate:((Rows.fnPlacesRow.maps==(Tryz.f3.params.toList++Rows.fnPlacesSpec.plain.varTypes Tryz.checked.prog).any (Tryz.checked.prog.mapsRec ·)))=A:=by kernel_rfl
def atf:((Rows.fnPlacesRow.ifaces==(Tryz.f3.params.toList++Rows.fnPlacesSpec.plain.varTypes Tryz.checked.prog).any (Tryz.checked.prog.ifacesRec ·)))=A:=by kernel_rfl
def atg:((Rows.fnPlacesRow.mapsOut==Tryz.checked.prog.mapsAmong Tryz.f3.resultTypes.toList))=A:=by kernel_rfl
def ath:((Rows.fnPlacesRow.loops==(Tryz.f3.params.toList++Rows.fnPlacesSpec.plain.varTypes Tryz.checked.prog).any (Tryz.checked.prog.loopsFrom ·)))=A:=by kernel_rfl
def ati:((Rows.fnPlacesRow.wideKeys==(Tryz.f3.params.toList++Rows.fnPlacesSpec.plain.varTypes Tryz.checked.prog++Tryz.f3.resultTypes.toList).any (Tryz.checked.prog.wideKeysFrom ·)))=A:=by kernel_rfl
def atj:(Rows.fnPlacesSpec.vars.all (Tryz.checked.prog.varReadable ·))=A:=by kernel_rfl
def atk:(Tryz.f3.resultTypes.all (λt=>Tryz.checked.prog.readableRec t&&decide (t<Tryz.checked.prog.types.size)))=A:=by kernel_rfl
def atl:((Rows.fnPlacesRow.ifacesOut==Tryz.f3.resultTypes.toList.any (Tryz.checked.prog.ifacesRec ·)))=A:=by kernel_rfl
def atm:((Rows.fnPlacesRow.loopsOut==Tryz.f3.resultTypes.toList.any (Tryz.checked.prog.loopsFrom ·)))=A:=by kernel_rfl
def atn:((Rows.fnPlacesRow.plainKeys==Tryz.checked.prog.plainKeys))=A:=by kernel_rfl
def ato:(Rows.fnPlacesRow.shortTexts.isNone)=A:=by kernel_rfl
def atp:(Tryz.checked.prog.stopsHeard)=A:=by kernel_rfl
def atq:(Tryz.checked.prog.mayEnter)=A:=by kernel_rfl
def atr:((Rows.fnPlacesRow.lifted==Tryz.checked.prog.liftsFinal))=A:=by kernel_rfl
def ats:((Tryz.checked.prog.make==some Rows.fnPlacesRow.make))=A:=by kernel_rfl
def att:((Rows.fnPlacesRow.kinds==(if Rows.fnPlacesRow.domain.isEmpty then [] else Tryz.f3.params.toList.map λt=>match Tryz.checked.prog.underlying t with|some (.int k)=>some k|_=>none)))=A:=by kernel_rfl
def atu:((Rows.fnPlacesRow.pinned==Rows.fnPlacesRow.pinnedBy))=A:=by kernel_rfl
def atv:((Rows.fnPlacesRow.veiled==(Tryz.f3.params.toList++Rows.fnPlacesSpec.plain.varTypes Tryz.checked.prog++Tryz.f3.resultTypes.toList).any (Tryz.checked.prog.veiledRec ·)))=A:=by kernel_rfl
def atw:(Rows.fnPlacesRow.veiledFits Tryz.checked.prog Tryz.f3.params.toList (Tryz.f3.params.toList++Rows.fnPlacesSpec.plain.varTypes Tryz.checked.prog++Tryz.f3.resultTypes.toList))=A:=by kernel_rfl
def asa:joinedFacts Tryz.checked.prog 3 Tryz.f3 Rows.fnPlacesSpec Rows.fnPlacesRow=A:=aT (aT (aT (aT (aT (aT (aT (aT (aT (aT (aT (aT (aT (aT (aT (aT (aT (aT (aT (aT (aT (aT (aT (aT (aT (aT (aT (aT (aT (aT (aT (jf1) jf2) jf3) jf4) jf5) jf6) jf7) jf8) jf9) ata) atb) atc) atd) ate) atf) atg) ath) ati) atj) atk) atl) atm) atn) ato) atp) atq) atr) ats) att) atu) atv) atw
