import Derived.Test.YtnoembpaejlaeaaGreatDoorCards
import Derived.JoinedOf
set_option linter.all false
open Bool renaming true->A
namespace Go.Proofs.YtnoembpaejlaeaaGreatDoor
open Go
set_option maxRecDepth 100000
def aT{a b:Bool}(h:a=A)(k:b=A):(a&&b)=A:=by rw[h,k];rfl
def jf1:(Rows.fnLooseRow.wf (OpenSpec.ofChange Rows.fnLooseSpec))=A:=by kernel_rfl
def jf2:(laidOutB Tryz.checked.prog)=A:=by kernel_rfl
def jf3:(mapsRowed Tryz.checked.prog)=A:=by kernel_rfl
def jf4:(Tryz.f3.params.all (Tryz.checked.prog.readableRec ·))=A:=by kernel_rfl
def jf5:(namedTie Tryz.checked.prog Rows.fnLooseRow.named Rows.fnLooseSpec.vars)=A:=by kernel_rfl
def jf6:((Rows.fnLooseRow.stops==[]))=A:=by kernel_rfl
def jf7:((Tryz.checked.prog.stops==[]))=A:=by kernel_rfl
def jf8:((Rows.fnLooseRow.knobs==[]))=A:=by kernel_rfl
def jf9:((Tryz.checked.prog.stopKnobs==[]))=A:=by kernel_rfl
def art:((Rows.fnLooseRow.inPlace==Tryz.checked.prog.inPlace 3))=A:=by kernel_rfl
def aru:((Rows.fnLooseRow.unfollowed==Tryz.checked.prog.unfollowed 3))=A:=by kernel_rfl
def arv:((Rows.fnLooseRow.recurses==Tryz.checked.prog.recurses 3))=A:=by kernel_rfl
def arw:((Rows.fnLooseRow.named==Tryz.checked.prog.varsNamed 3))=A:=by kernel_rfl
def arx:((Rows.fnLooseRow.maps==(Tryz.f3.params.toList++Rows.fnLooseSpec.plain.varTypes Tryz.checked.prog).any (Tryz.checked.prog.mapsRec ·)))=A:=by kernel_rfl
def ary:((Rows.fnLooseRow.ifaces==(Tryz.f3.params.toList++Rows.fnLooseSpec.plain.varTypes Tryz.checked.prog).any (Tryz.checked.prog.ifacesRec ·)))=A:=by kernel_rfl
def arz:((Rows.fnLooseRow.mapsOut==Tryz.checked.prog.mapsAmong Tryz.f3.resultTypes.toList))=A:=by kernel_rfl
def arA:((Rows.fnLooseRow.loops==(Tryz.f3.params.toList++Rows.fnLooseSpec.plain.varTypes Tryz.checked.prog).any (Tryz.checked.prog.loopsFrom ·)))=A:=by kernel_rfl
def arB:((Rows.fnLooseRow.wideKeys==(Tryz.f3.params.toList++Rows.fnLooseSpec.plain.varTypes Tryz.checked.prog++Tryz.f3.resultTypes.toList).any (Tryz.checked.prog.wideKeysFrom ·)))=A:=by kernel_rfl
def arC:(Rows.fnLooseSpec.vars.all (Tryz.checked.prog.varReadable ·))=A:=by kernel_rfl
def arD:(Tryz.f3.resultTypes.all (λt=>Tryz.checked.prog.readableRec t&&decide (t<Tryz.checked.prog.types.size)))=A:=by kernel_rfl
def arE:((Rows.fnLooseRow.ifacesOut==Tryz.f3.resultTypes.toList.any (Tryz.checked.prog.ifacesRec ·)))=A:=by kernel_rfl
def arF:((Rows.fnLooseRow.loopsOut==Tryz.f3.resultTypes.toList.any (Tryz.checked.prog.loopsFrom ·)))=A:=by kernel_rfl
def arG:((Rows.fnLooseRow.plainKeys==Tryz.checked.prog.plainKeys))=A:=by kernel_rfl
def arH:(Rows.fnLooseRow.shortTexts.isNone)=A:=by kernel_rfl
def arI:(Tryz.checked.prog.stopsHeard)=A:=by kernel_rfl
def arJ:(Tryz.checked.prog.mayEnter)=A:=by kernel_rfl
def arK:((Rows.fnLooseRow.lifted==Tryz.checked.prog.liftsFinal))=A:=by kernel_rfl
def arL:((Tryz.checked.prog.make==some Rows.fnLooseRow.make))=A:=by kernel_rfl
def ar0:((Rows.fnLooseRow.kinds==(if Rows.fnLooseRow.domain.isEmpty then [] else Tryz.f3.params.toList.map λt=>match Tryz.checked.prog.underlying t with|some (.int k)=>some k|_=>none)))=A:=by kernel_rfl
def ar1:((Rows.fnLooseRow.pinned==Rows.fnLooseRow.pinnedBy))=A:=by kernel_rfl
def ar2:((Rows.fnLooseRow.veiled==(Tryz.f3.params.toList++Rows.fnLooseSpec.plain.varTypes Tryz.checked.prog++Tryz.f3.resultTypes.toList).any (Tryz.checked.prog.veiledRec ·)))=A:=by kernel_rfl
def ar3:(Rows.fnLooseRow.veiledFits Tryz.checked.prog Tryz.f3.params.toList (Tryz.f3.params.toList++Rows.fnLooseSpec.plain.varTypes Tryz.checked.prog++Tryz.f3.resultTypes.toList))=A:=by kernel_rfl
def aqv:joinedFacts Tryz.checked.prog 3 Tryz.f3 Rows.fnLooseSpec Rows.fnLooseRow=A:=aT (aT (aT (aT (aT (aT (aT (aT (aT (aT (aT (aT (aT (aT (aT (aT (aT (aT (aT (aT (aT (aT (aT (aT (aT (aT (aT (aT (aT (aT (aT (jf1) jf2) jf3) jf4) jf5) jf6) jf7) jf8) jf9) art) aru) arv) arw) arx) ary) arz) arA) arB) arC) arD) arE) arF) arG) arH) arI) arJ) arK) arL) ar0) ar1) ar2) ar3
