import Derived.Test.YtnlhhmlcjbohbaaGreatDoorCards
import Derived.JoinedOf
set_option linter.all false
open Bool renaming true->A
namespace Go.Proofs.YtnlhhmlcjbohbaaGreatDoor
open Go
set_option maxRecDepth 100000
theorem aT{a b:Bool}(h:a=A)(k:b=A):(a&&b)=A:=by rw[h,k];rfl
theorem jf1:(Rows.fnNextRow.wf (OpenSpec.ofChange Rows.fnNextSpec))=A:=by kernel_rfl
theorem jf2:(laidOutB Tryz.checked.prog)=A:=by kernel_rfl
theorem jf3:(mapsRowed Tryz.checked.prog)=A:=by kernel_rfl
theorem jf4:(Tryz.f3.params.all (Tryz.checked.prog.readableRec ·))=A:=by kernel_rfl
theorem jf5:(namedTie Tryz.checked.prog Rows.fnNextRow.named Rows.fnNextSpec.vars)=A:=by kernel_rfl
theorem jf6:((Rows.fnNextRow.stops==[]))=A:=by kernel_rfl
theorem jf7:((Tryz.checked.prog.stops==[]))=A:=by kernel_rfl
theorem jf8:((Rows.fnNextRow.knobs==[]))=A:=by kernel_rfl
theorem jf9:((Tryz.checked.prog.stopKnobs==[]))=A:=by kernel_rfl
theorem asn:((Rows.fnNextRow.inPlace==Tryz.checked.prog.inPlace 3))=A:=by kernel_rfl
theorem aso:((Rows.fnNextRow.unfollowed==Tryz.checked.prog.unfollowed 3))=A:=by kernel_rfl
theorem asp:((Rows.fnNextRow.recurses==Tryz.checked.prog.recurses 3))=A:=by kernel_rfl
theorem asq:((Rows.fnNextRow.named==Tryz.checked.prog.varsNamed 3))=A:=by kernel_rfl
theorem asr:((Rows.fnNextRow.maps==(Tryz.f3.params.toList++Rows.fnNextSpec.plain.varTypes Tryz.checked.prog).any (Tryz.checked.prog.mapsRec ·)))=A:=by kernel_rfl
theorem ass:((Rows.fnNextRow.ifaces==(Tryz.f3.params.toList++Rows.fnNextSpec.plain.varTypes Tryz.checked.prog).any (Tryz.checked.prog.ifacesRec ·)))=A:=by kernel_rfl
theorem ast:((Rows.fnNextRow.mapsOut==Tryz.checked.prog.mapsAmong Tryz.f3.resultTypes.toList))=A:=by kernel_rfl
theorem asu:((Rows.fnNextRow.loops==(Tryz.f3.params.toList++Rows.fnNextSpec.plain.varTypes Tryz.checked.prog).any (Tryz.checked.prog.loopsFrom ·)))=A:=by kernel_rfl
theorem asv:((Rows.fnNextRow.wideKeys==(Tryz.f3.params.toList++Rows.fnNextSpec.plain.varTypes Tryz.checked.prog++Tryz.f3.resultTypes.toList).any (Tryz.checked.prog.wideKeysFrom ·)))=A:=by kernel_rfl
theorem asw:(Rows.fnNextSpec.vars.all (Tryz.checked.prog.varReadable ·))=A:=by kernel_rfl
theorem asx:(Tryz.f3.resultTypes.all (fun t=>Tryz.checked.prog.readableRec t&&decide (t<Tryz.checked.prog.types.size)))=A:=by kernel_rfl
theorem asy:((Rows.fnNextRow.ifacesOut==Tryz.f3.resultTypes.toList.any (Tryz.checked.prog.ifacesRec ·)))=A:=by kernel_rfl
theorem asz:((Rows.fnNextRow.loopsOut==Tryz.f3.resultTypes.toList.any (Tryz.checked.prog.loopsFrom ·)))=A:=by kernel_rfl
theorem asA:((Rows.fnNextRow.plainKeys==Tryz.checked.prog.plainKeys))=A:=by kernel_rfl
theorem asB:(Rows.fnNextRow.shortTexts.isNone)=A:=by kernel_rfl
theorem asC:(Tryz.checked.prog.stopsHeard)=A:=by kernel_rfl
theorem asD:(Tryz.checked.prog.mayEnter)=A:=by kernel_rfl
theorem asE:((Rows.fnNextRow.lifted==Tryz.checked.prog.liftsFinal))=A:=by kernel_rfl
theorem asG:((Tryz.checked.prog.make==some Rows.fnNextRow.make))=A:=by kernel_rfl
theorem asH:((Rows.fnNextRow.kinds==(if Rows.fnNextRow.domain.isEmpty then [] else Tryz.f3.params.toList.map fun t=>match Tryz.checked.prog.underlying t with|some (.int k)=>some k|_=>none)))=A:=by kernel_rfl
theorem asI:((Rows.fnNextRow.pinned==Rows.fnNextRow.pinnedBy))=A:=by kernel_rfl
theorem asJ:((Rows.fnNextRow.veiled==(Tryz.f3.params.toList++Rows.fnNextSpec.plain.varTypes Tryz.checked.prog++Tryz.f3.resultTypes.toList).any (Tryz.checked.prog.veiledRec ·)))=A:=by kernel_rfl
theorem asK:(Rows.fnNextRow.veiledFits Tryz.checked.prog Tryz.f3.params.toList (Tryz.f3.params.toList++Rows.fnNextSpec.plain.varTypes Tryz.checked.prog++Tryz.f3.resultTypes.toList))=A:=by kernel_rfl
theorem arh:joinedFacts Tryz.checked.prog 3 Tryz.f3 Rows.fnNextSpec Rows.fnNextRow=A:=aT (aT (aT (aT (aT (aT (aT (aT (aT (aT (aT (aT (aT (aT (aT (aT (aT (aT (aT (aT (aT (aT (aT (aT (aT (aT (aT (aT (aT (aT (aT (jf1) jf2) jf3) jf4) jf5) jf6) jf7) jf8) jf9) asn) aso) asp) asq) asr) ass) ast) asu) asv) asw) asx) asy) asz) asA) asB) asC) asD) asE) asG) asH) asI) asJ) asK
