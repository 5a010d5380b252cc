import Derived.Test.YthboboahkkhopaaGreatDoorCards
import Derived.JoinedOf
set_option linter.all false
open Bool renaming true->A
namespace Go.Proofs.YthboboahkkhopaaGreatDoor
open Go
set_option maxRecDepth 100000
def aT{a b:Bool}(h:a=A)(k:b=A):(a&&b)=A:=by rw[h,k];rfl
def jf1:(Rows.fnRoundRow.wf (OpenSpec.ofChange Rows.fnRoundSpec))=A:=by kernel_rfl
def jf2:(laidOutB Tryz.checked.prog)=A:=by kernel_rfl
def jf3:(mapsRowed Tryz.checked.prog)=A:=by kernel_rfl
def jf4:(Tryz.f3.params.all (Tryz.checked.prog.readableRec ·))=A:=by kernel_rfl
def jf5:(namedTie Tryz.checked.prog Rows.fnRoundRow.named Rows.fnRoundSpec.vars)=A:=by kernel_rfl
def jf6:((Rows.fnRoundRow.stops==[]))=A:=by kernel_rfl
def jf7:((Tryz.checked.prog.stops==[]))=A:=by kernel_rfl
def jf8:((Rows.fnRoundRow.knobs==[]))=A:=by kernel_rfl
def jf9:((Tryz.checked.prog.stopKnobs==[]))=A:=by kernel_rfl
def atw:((Rows.fnRoundRow.inPlace==Tryz.checked.prog.inPlace 3))=A:=by kernel_rfl
def atx:((Rows.fnRoundRow.unfollowed==Tryz.checked.prog.unfollowed 3))=A:=by kernel_rfl
def aty:((Rows.fnRoundRow.recurses==Tryz.checked.prog.recurses 3))=A:=by kernel_rfl
def atz:((Rows.fnRoundRow.named==Tryz.checked.prog.varsNamed 3))=A:=by kernel_rfl
def atA:((Rows.fnRoundRow.maps==(Tryz.f3.params.toList++Rows.fnRoundSpec.plain.varTypes Tryz.checked.prog).any (Tryz.checked.prog.mapsRec ·)))=A:=by kernel_rfl
def atB:((Rows.fnRoundRow.ifaces==(Tryz.f3.params.toList++Rows.fnRoundSpec.plain.varTypes Tryz.checked.prog).any (Tryz.checked.prog.ifacesRec ·)))=A:=by kernel_rfl
def atC:((Rows.fnRoundRow.mapsOut==Tryz.checked.prog.mapsAmong Tryz.f3.resultTypes.toList))=A:=by kernel_rfl
def atD:((Rows.fnRoundRow.loops==(Tryz.f3.params.toList++Rows.fnRoundSpec.plain.varTypes Tryz.checked.prog).any (Tryz.checked.prog.loopsFrom ·)))=A:=by kernel_rfl
def atE:((Rows.fnRoundRow.wideKeys==(Tryz.f3.params.toList++Rows.fnRoundSpec.plain.varTypes Tryz.checked.prog++Tryz.f3.resultTypes.toList).any (Tryz.checked.prog.wideKeysFrom ·)))=A:=by kernel_rfl
def atF:(Rows.fnRoundSpec.vars.all (Tryz.checked.prog.varReadable ·))=A:=by kernel_rfl
def atG:(Tryz.f3.resultTypes.all (λt=>Tryz.checked.prog.readableRec t&&decide (t<Tryz.checked.prog.types.size)))=A:=by kernel_rfl
def atH:((Rows.fnRoundRow.ifacesOut==Tryz.f3.resultTypes.toList.any (Tryz.checked.prog.ifacesRec ·)))=A:=by kernel_rfl
def atI:((Rows.fnRoundRow.loopsOut==Tryz.f3.resultTypes.toList.any (Tryz.checked.prog.loopsFrom ·)))=A:=by kernel_rfl
def atJ:((Rows.fnRoundRow.plainKeys==Tryz.checked.prog.plainKeys))=A:=by kernel_rfl
def atK:(Rows.fnRoundRow.shortTexts.isNone)=A:=by kernel_rfl
def atL:(Tryz.checked.prog.stopsHeard)=A:=by kernel_rfl
def at1:(Tryz.checked.prog.mayEnter)=A:=by kernel_rfl
def at3:((Rows.fnRoundRow.lifted==Tryz.checked.prog.liftsFinal))=A:=by kernel_rfl
def at4:((Tryz.checked.prog.make==some Rows.fnRoundRow.make))=A:=by kernel_rfl
def at5:((Rows.fnRoundRow.kinds==(if Rows.fnRoundRow.domain.isEmpty then [] else Tryz.f3.params.toList.map λt=>match Tryz.checked.prog.underlying t with|some (.int k)=>some k|_=>none)))=A:=by kernel_rfl
def at6:((Rows.fnRoundRow.pinned==Rows.fnRoundRow.pinnedBy))=A:=by kernel_rfl
def at7:((Rows.fnRoundRow.veiled==(Tryz.f3.params.toList++Rows.fnRoundSpec.plain.varTypes Tryz.checked.prog++Tryz.f3.resultTypes.toList).any (Tryz.checked.prog.veiledRec ·)))=A:=by kernel_rfl
def at8:(Rows.fnRoundRow.veiledFits Tryz.checked.prog Tryz.f3.params.toList (Tryz.f3.params.toList++Rows.fnRoundSpec.plain.varTypes Tryz.checked.prog++Tryz.f3.resultTypes.toList))=A:=by kernel_rfl
def arG:joinedFacts Tryz.checked.prog 3 Tryz.f3 Rows.fnRoundSpec Rows.fnRoundRow=A:=aT (aT (aT (aT (aT (aT (aT (aT (aT (aT (aT (aT (aT (aT (aT (aT (aT (aT (aT (aT (aT (aT (aT (aT (aT (aT (aT (aT (aT (aT (aT (jf1) jf2) jf3) jf4) jf5) jf6) jf7) jf8) jf9) atw) atx) aty) atz) atA) atB) atC) atD) atE) atF) atG) atH) atI) atJ) atK) atL) at1) at3) at4) at5) at6) at7) at8
