import Derived.Shelf.Small.Strs
import Derived.Shelf.Small.Wraps
import Derived.Shelf.Strings.BuilderK
import Derived.Shelf.Strconv.Itoa4
import Derived.Shelf.Strconv.ErrVarParseInt
import Derived.Shelf.Pu.ErrVarParseUint
import Derived.Shelf.Strings.Fields
import Derived.Shelf.Strings.Repeat
import Derived.Shelf.Unicode.IsSpaceAny
import Derived.Shelf.Unicode.ExclAny
import Derived.Shelf.Slices.Empties2
import Derived.ProofKit
import Derived.OneCell
import Derived.RangeFuncBox
import Derived.Deep.RegionHeld3
import Derived.Test.YtjeamjdieofoeaaGreatDoorHZk01
set_option linter.all false
open Option renaming some->A,none->G
open Bool renaming true->C,false->X
open Go.Proofs.Tryz renaming prog->F,sizeOf3->L,isAgg3->O
open Go.Value renaming string->H,int->I,slice->V,pointer->Ax,tuple->A2,nilIface->A5,string->A9,iface->Br
open Go.IntKind renaming i64->J
open Go.Shelf renaming Ren->K
open Go.Ending renaming returned->M
open Go renaming World->Q,Value->U,Calls->u
open Go.RowKit renaming Below->Z
open Go.Obj renaming cells->A0
namespace Go.Proofs
open Go.Shelf
def Tryz.lays103_ren:K:=⟨fun|103=>278|210=>294|206=>197|n=>n,fun|9=>9|4=>4|24=>220|3=>3|n=>n,fun|n=>n⟩
theorem Tryz.lays103:Go.Proofs.Lays.n103 F Tryz.lays103_ren:={
 mixed:=by kernel_rfl
 f103:=Tryz.func278.trans (congrArg A (by kernel_rfl))
 f206:=Tryz.func197.trans (congrArg A (by kernel_rfl))
 f210:=Tryz.func294.trans (congrArg A (by kernel_rfl))
 t3:=Tryz.underlying3
 a3:=O
 z3:=L
 v3:=Tryz.zeroValue3
 t4:=Tryz.underlying4
 a4:=Tryz.isAgg4
 z4:=Tryz.sizeOf4
 v4:=Tryz.zeroValue4
 t9:=Tryz.underlying9
 a9:=Tryz.isAgg9
 z9:=Tryz.sizeOf9
 v9:=Tryz.zeroValue9
 t24:=Tryz.underlying220
 a24:=Tryz.isAgg220
 z24:=Tryz.sizeOf220
 v24:=Tryz.zeroValue220}
open Go.RowKit in
theorem Tryz.strings_CutPrefix(s p:ByteArray)(w:Q):
  u F 278 #[H s,H p] w fun e w'=>e= M (A2 #[H ⟨(Lib.trimPrefix s.data.toList p.data.toList).toArray⟩,.bool (Lib.hasPrefix s.data.toList p.data.toList)])/\w'=w:=Any.strings_CutPrefix Tryz.lays103 s p w
def Tryz.lays104_ren:K:=⟨fun|104=>237|211=>268|207=>287|n=>n,fun|9=>9|4=>4|24=>220|3=>3|n=>n,fun|n=>n⟩
theorem Tryz.lays104:Go.Proofs.Lays.n104 F Tryz.lays104_ren:={
 mixed:=by kernel_rfl
 f104:=Tryz.func237.trans (congrArg A (by kernel_rfl))
 f207:=Tryz.func287.trans (congrArg A (by kernel_rfl))
 f211:=Tryz.func268.trans (congrArg A (by kernel_rfl))
 t3:=Tryz.underlying3
 a3:=O
 z3:=L
 v3:=Tryz.zeroValue3
 t4:=Tryz.underlying4
 a4:=Tryz.isAgg4
 z4:=Tryz.sizeOf4
 v4:=Tryz.zeroValue4
 t9:=Tryz.underlying9
 a9:=Tryz.isAgg9
 z9:=Tryz.sizeOf9
 v9:=Tryz.zeroValue9
 t24:=Tryz.underlying220
 a24:=Tryz.isAgg220
 z24:=Tryz.sizeOf220
 v24:=Tryz.zeroValue220}
open Go.RowKit in
theorem Tryz.strings_CutSuffix(s p:ByteArray)(w:Q)(a:s.size<=9223372036854775807):
  u F 237 #[H s,H p] w fun e w'=>e= M (A2 #[H ⟨(Lib.trimSuffix s.data.toList p.data.toList).toArray⟩,.bool (Lib.hasSuffix s.data.toList p.data.toList)])/\w'=w:=Any.strings_CutSuffix Tryz.lays104 s p w a
def Tryz.laysM173_ren:K:=⟨fun|173=>193|246=>241|283=>271|284=>272|285=>273|286=>274|129=>289|317=>288|318=>290|319=>291|320=>292|337=>303|338=>304|n=>n,fun|2=>2|3=>3|9=>9|4=>4|171=>280|0=>0|53=>226|37=>39|5=>5|173=>283|212=>299|51=>269|20=>20|213=>300|46=>243|232=>323|233=>324|n=>n,fun|17=>6|18=>8|19=>9|n=>n⟩
theorem Tryz.laysM173:Go.Proofs.LaysM.n173 F Tryz.laysM173_ren:={
 mixed:=by kernel_rfl
 f129:=Tryz.func289.trans (congrArg A (by kernel_rfl))
 f173:=Tryz.func193.trans (congrArg A (by kernel_rfl))
 f246:=Tryz.func241.trans (congrArg A (by kernel_rfl))
 f283:=Tryz.func271.trans (congrArg A (by kernel_rfl))
 f284:=Tryz.func272.trans (congrArg A (by kernel_rfl))
 f285:=Tryz.func273.trans (congrArg A (by kernel_rfl))
 f286:=Tryz.func274.trans (congrArg A (by kernel_rfl))
 f317:=Tryz.func288.trans (congrArg A (by kernel_rfl))
 f318:=Tryz.func290.trans (congrArg A (by kernel_rfl))
 f319:=Tryz.func291.trans (congrArg A (by kernel_rfl))
 f320:=Tryz.func292.trans (congrArg A (by kernel_rfl))
 f337:=Tryz.func303.trans (congrArg A (by kernel_rfl))
 f338:=Tryz.func304.trans (congrArg A (by kernel_rfl))
 t0:=Tryz.underlying0
 a0:=Tryz.isAgg0
 z0:=Tryz.sizeOf0
 v0:=Tryz.zeroValue0
 t2:=Tryz.underlying2
 a2:=Tryz.isAgg2
 z2:=Tryz.sizeOf2
 v2:=Tryz.zeroValue2
 t3:=Tryz.underlying3
 a3:=O
 z3:=L
 v3:=Tryz.zeroValue3
 t4:=Tryz.underlying4
 a4:=Tryz.isAgg4
 z4:=Tryz.sizeOf4
 v4:=Tryz.zeroValue4
 t5:=Tryz.underlying5
 a5:=Tryz.isAgg5
 z5:=Tryz.sizeOf5
 v5:=Tryz.zeroValue5
 t9:=Tryz.underlying9
 a9:=Tryz.isAgg9
 z9:=Tryz.sizeOf9
 v9:=Tryz.zeroValue9
 t20:=Tryz.underlying20
 a20:=Tryz.isAgg20
 z20:=Tryz.sizeOf20
 v20:=Tryz.zeroValue20
 t37:=Tryz.underlying39
 a37:=Tryz.isAgg39
 z37:=Tryz.sizeOf39
 v37:=Tryz.zeroValue39
 t46:=Tryz.underlying243
 a46:=Tryz.isAgg243
 z46:=Tryz.sizeOf243
 v46:=Tryz.zeroValue243
 t51:=Tryz.underlying269
 a51:=Tryz.isAgg269
 z51:=Tryz.sizeOf269
 v51:=Tryz.zeroValue269
 t53:=Tryz.underlying226
 a53:=Tryz.isAgg226
 z53:=Tryz.sizeOf226
 v53:=Tryz.zeroValue226
 t171:=Tryz.underlying280
 a171:=Tryz.isAgg280
 z171:=Tryz.sizeOf280
 v171:=Tryz.zeroValue280
 t173:=Tryz.underlying283
 a173:=Tryz.isAgg283
 z173:=Tryz.sizeOf283
 v173:=Tryz.zeroValue283
 t212:=Tryz.underlying299
 a212:=Tryz.isAgg299
 z212:=Tryz.sizeOf299
 v212:=Tryz.zeroValue299
 t213:=Tryz.underlying300
 a213:=Tryz.isAgg300
 z213:=Tryz.sizeOf300
 t232:=Tryz.underlying323
 a232:=Tryz.isAgg323
 z232:=Tryz.sizeOf323
 v232:=Tryz.zeroValue323
 t233:=Tryz.underlying324
 a233:=Tryz.isAgg324
 z233:=Tryz.sizeOf324
 v233:=Tryz.zeroValue324
 g17:=by kernel_rfl
 g18:=by kernel_rfl
 g19:=by kernel_rfl
 i0:=by kernel_rfl
 i2:=by kernel_rfl
 i3:=by kernel_rfl
 i4:=by kernel_rfl
 i5:=by kernel_rfl
 i9:=by kernel_rfl
 i20:=by kernel_rfl
 i37:=by kernel_rfl
 i46:=by kernel_rfl
 i51:=by kernel_rfl
 i53:=by kernel_rfl
 i171:=by kernel_rfl
 i173:=by kernel_rfl
 i212:=by kernel_rfl
 i232:=by kernel_rfl
 i233:=by kernel_rfl
 m17:=by kernel_rfl
 m18:=by kernel_rfl
 m19:=by kernel_rfl}
open Go.RowKit Go.Sort Go.Lib in
theorem Tryz.strconv_FormatInt_10(n:Int)(a: -9223372036854775808<=n)(b:n<=9223372036854775807)(w:Q)(c:Lib.TabIs F w "internal/strconv.uint64pow10" .u64 Lib.pow10Tab):
  u F 193 #[I J n,I J 10] w fun e w'=>e= M (H ⟨(Lib.itoa n).toArray⟩)/\∃k os,w'=grow (w.drewN k) os:=Any.strconv_FormatInt_10 Tryz.laysM173 n a b w c
def Tryz.laysM316_ren:K:=⟨fun|316=>275|n=>n,fun|9=>9|3=>3|4=>4|37=>39|0=>0|127=>274|5=>5|n=>n,fun|n=>n⟩
theorem Tryz.laysM316:Go.Proofs.LaysM.n316 F Tryz.laysM316_ren:={
 mixed:=by kernel_rfl
 f316:=Tryz.func275.trans (congrArg A (by kernel_rfl))
 t0:=Tryz.underlying0
 a0:=Tryz.isAgg0
 z0:=Tryz.sizeOf0
 v0:=Tryz.zeroValue0
 t3:=Tryz.underlying3
 a3:=O
 z3:=L
 v3:=Tryz.zeroValue3
 t4:=Tryz.underlying4
 a4:=Tryz.isAgg4
 z4:=Tryz.sizeOf4
 v4:=Tryz.zeroValue4
 t9:=Tryz.underlying9
 a9:=Tryz.isAgg9
 z9:=Tryz.sizeOf9
 v9:=Tryz.zeroValue9
 t37:=Tryz.underlying39
 a37:=Tryz.isAgg39
 z37:=Tryz.sizeOf39
 v37:=Tryz.zeroValue39
 t127:=Tryz.underlying274
 a127:=Tryz.isAgg274
 z127:=Tryz.sizeOf274
 v127:=Tryz.zeroValue274
 t5:=Tryz.underlying5
 a5:=Tryz.isAgg5
 z5:=Tryz.sizeOf5
 v5:=Tryz.zeroValue5
 i0:=by kernel_rfl
 i3:=by kernel_rfl
 i4:=by kernel_rfl
 i5:=by kernel_rfl
 i9:=by kernel_rfl
 i37:=by kernel_rfl
 i127:=by kernel_rfl}
open Go.RowKit in
theorem Tryz.stringslite_Clone(s:ByteArray)(w:Q)(a:s.size<=281474976710656):
  u F 275 #[H s] w fun e w'=>e= M (H s)/\Z w.heap.size w w':=Any.stringslite_Clone Tryz.laysM316 s w a
def Tryz.lays321_ren:K:=⟨fun|321=>305|n=>n,fun|5=>5|n=>n,fun|n=>n⟩
theorem Tryz.lays321:Go.Proofs.Lays.n321 F Tryz.lays321_ren:={
 mixed:=by kernel_rfl
 f321:=Tryz.func305.trans (congrArg A (by kernel_rfl))
 t5:=Tryz.underlying5
 a5:=Tryz.isAgg5
 z5:=Tryz.sizeOf5
 v5:=Tryz.zeroValue5}
open Go.RowKit in
theorem Tryz.internal_strconv_lower(c:Int)(w:Q):
  u F 305 #[I .u8 c] w fun e w'=>e= M (I .u8 (bits .or .u8 c 32))/\w'=w:=Any.internal_strconv_lower Tryz.lays321 c w
def Tryz.laysC174_ren:K:=⟨fun|174=>280|247=>297|245=>296|287=>295|279=>307|280=>308|281=>309|282=>310|321=>305|322=>306|316=>275|171=>314|205=>313|243=>316|246=>241|283=>271|284=>272|285=>273|286=>274|129=>289|317=>288|318=>290|319=>291|320=>292|337=>303|338=>304|n=>n,fun|9=>9|3=>3|2=>2|75=>250|85=>287|4=>4|167=>316|5=>5|53=>226|175=>285|46=>243|168=>318|37=>39|0=>0|210=>326|21=>21|127=>274|145=>330|143=>328|171=>280|173=>283|212=>299|51=>269|20=>20|213=>300|232=>323|233=>324|80=>253|n=>n,fun|15=>10|16=>11|17=>6|18=>8|19=>9|n=>n⟩
theorem Tryz.laysC174:Go.Proofs.LaysC.n174 F Tryz.laysC174_ren:={
 mixed:=by kernel_rfl
 f129:=Tryz.func289.trans (congrArg A (by kernel_rfl))
 f171:=Tryz.func314.trans (congrArg A (by kernel_rfl))
 f174:=Tryz.func280.trans (congrArg A (by kernel_rfl))
 f205:=Tryz.func313.trans (congrArg A (by kernel_rfl))
 f243:=Tryz.func316.trans (congrArg A (by kernel_rfl))
 f245:=Tryz.func296.trans (congrArg A (by kernel_rfl))
 f246:=Tryz.func241.trans (congrArg A (by kernel_rfl))
 f247:=Tryz.func297.trans (congrArg A (by kernel_rfl))
 f279:=Tryz.func307.trans (congrArg A (by kernel_rfl))
 f280:=Tryz.func308.trans (congrArg A (by kernel_rfl))
 f281:=Tryz.func309.trans (congrArg A (by kernel_rfl))
 f282:=Tryz.func310.trans (congrArg A (by kernel_rfl))
 f283:=Tryz.func271.trans (congrArg A (by kernel_rfl))
 f284:=Tryz.func272.trans (congrArg A (by kernel_rfl))
 f285:=Tryz.func273.trans (congrArg A (by kernel_rfl))
 f286:=Tryz.func274.trans (congrArg A (by kernel_rfl))
 f287:=Tryz.func295.trans (congrArg A (by kernel_rfl))
 f316:=Tryz.func275.trans (congrArg A (by kernel_rfl))
 f317:=Tryz.func288.trans (congrArg A (by kernel_rfl))
 f318:=Tryz.func290.trans (congrArg A (by kernel_rfl))
 f319:=Tryz.func291.trans (congrArg A (by kernel_rfl))
 f320:=Tryz.func292.trans (congrArg A (by kernel_rfl))
 f321:=Tryz.func305.trans (congrArg A (by kernel_rfl))
 f322:=Tryz.func306.trans (congrArg A (by kernel_rfl))
 f337:=Tryz.func303.trans (congrArg A (by kernel_rfl))
 f338:=Tryz.func304.trans (congrArg A (by kernel_rfl))
 t0:=Tryz.underlying0
 a0:=Tryz.isAgg0
 z0:=Tryz.sizeOf0
 v0:=Tryz.zeroValue0
 t2:=Tryz.underlying2
 a2:=Tryz.isAgg2
 z2:=Tryz.sizeOf2
 v2:=Tryz.zeroValue2
 t3:=Tryz.underlying3
 a3:=O
 z3:=L
 v3:=Tryz.zeroValue3
 t4:=Tryz.underlying4
 a4:=Tryz.isAgg4
 z4:=Tryz.sizeOf4
 v4:=Tryz.zeroValue4
 t5:=Tryz.underlying5
 a5:=Tryz.isAgg5
 z5:=Tryz.sizeOf5
 v5:=Tryz.zeroValue5
 t9:=Tryz.underlying9
 a9:=Tryz.isAgg9
 z9:=Tryz.sizeOf9
 v9:=Tryz.zeroValue9
 t20:=Tryz.underlying20
 a20:=Tryz.isAgg20
 z20:=Tryz.sizeOf20
 v20:=Tryz.zeroValue20
 t21:=Tryz.underlying21
 a21:=Tryz.isAgg21
 z21:=Tryz.sizeOf21
 v21:=Tryz.zeroValue21
 t37:=Tryz.underlying39
 a37:=Tryz.isAgg39
 z37:=Tryz.sizeOf39
 v37:=Tryz.zeroValue39
 t46:=Tryz.underlying243
 a46:=Tryz.isAgg243
 z46:=Tryz.sizeOf243
 v46:=Tryz.zeroValue243
 t51:=Tryz.underlying269
 a51:=Tryz.isAgg269
 z51:=Tryz.sizeOf269
 v51:=Tryz.zeroValue269
 t53:=Tryz.underlying226
 a53:=Tryz.isAgg226
 z53:=Tryz.sizeOf226
 v53:=Tryz.zeroValue226
 t75:=Tryz.underlying250
 a75:=Tryz.isAgg250
 z75:=Tryz.sizeOf250
 v75:=Tryz.zeroValue250
 t85:=Tryz.underlying287
 a85:=Tryz.isAgg287
 z85:=Tryz.sizeOf287
 v85:=Tryz.zeroValue287
 t127:=Tryz.underlying274
 a127:=Tryz.isAgg274
 z127:=Tryz.sizeOf274
 v127:=Tryz.zeroValue274
 t143:=Tryz.underlying328
 a143:=Tryz.isAgg328
 z143:=Tryz.sizeOf328
 v143:=Tryz.zeroValue328
 t145:=Tryz.underlying330
 a145:=Tryz.isAgg330
 z145:=Tryz.sizeOf330
 v145:=Tryz.zeroValue330
 t167:=Tryz.underlying316
 a167:=Tryz.isAgg316
 z167:=Tryz.sizeOf316
 v167:=Tryz.zeroValue316
 t168:=Tryz.underlying318
 a168:=Tryz.isAgg318
 z168:=Tryz.sizeOf318
 v168:=Tryz.zeroValue318
 t171:=Tryz.underlying280
 a171:=Tryz.isAgg280
 z171:=Tryz.sizeOf280
 v171:=Tryz.zeroValue280
 t173:=Tryz.underlying283
 a173:=Tryz.isAgg283
 z173:=Tryz.sizeOf283
 v173:=Tryz.zeroValue283
 t175:=Tryz.underlying285
 a175:=Tryz.isAgg285
 z175:=Tryz.sizeOf285
 v175:=Tryz.zeroValue285
 t210:=Tryz.underlying326
 a210:=Tryz.isAgg326
 z210:=Tryz.sizeOf326
 v210:=Tryz.zeroValue326
 t212:=Tryz.underlying299
 a212:=Tryz.isAgg299
 z212:=Tryz.sizeOf299
 v212:=Tryz.zeroValue299
 t213:=Tryz.underlying300
 a213:=Tryz.isAgg300
 z213:=Tryz.sizeOf300
 t232:=Tryz.underlying323
 a232:=Tryz.isAgg323
 z232:=Tryz.sizeOf323
 v232:=Tryz.zeroValue323
 t233:=Tryz.underlying324
 a233:=Tryz.isAgg324
 z233:=Tryz.sizeOf324
 v233:=Tryz.zeroValue324
 g15:=by kernel_rfl
 g16:=by kernel_rfl
 g17:=by kernel_rfl
 g18:=by kernel_rfl
 g19:=by kernel_rfl
 t80:=Tryz.underlying253
 a80:=Tryz.isAgg253
 z80:=Tryz.sizeOf253
 v80:=Tryz.zeroValue253
 i0:=by kernel_rfl
 i2:=by kernel_rfl
 i3:=by kernel_rfl
 i4:=by kernel_rfl
 i5:=by kernel_rfl
 i9:=by kernel_rfl
 i20:=by kernel_rfl
 i21:=by kernel_rfl
 i37:=by kernel_rfl
 i46:=by kernel_rfl
 i51:=by kernel_rfl
 i53:=by kernel_rfl
 i75:=by kernel_rfl
 i80:=by kernel_rfl
 i85:=by kernel_rfl
 i127:=by kernel_rfl
 i143:=by kernel_rfl
 i145:=by kernel_rfl
 i167:=by kernel_rfl
 i168:=by kernel_rfl
 i171:=by kernel_rfl
 i173:=by kernel_rfl
 i175:=by kernel_rfl
 i210:=by kernel_rfl
 i212:=by kernel_rfl
 i232:=by kernel_rfl
 i233:=by kernel_rfl
 m15:=by kernel_rfl
 m16:=by kernel_rfl
 m17:=by kernel_rfl
 m18:=by kernel_rfl
 m19:=by kernel_rfl
 c0:=by kernel_rfl
 c2:=by kernel_rfl
 c3:=by kernel_rfl
 c4:=by kernel_rfl
 c5:=by kernel_rfl
 c9:=by kernel_rfl
 c20:=by kernel_rfl
 c21:=by kernel_rfl
 c37:=by kernel_rfl
 c46:=by kernel_rfl
 c51:=by kernel_rfl
 c53:=by kernel_rfl
 c75:=by kernel_rfl
 c80:=by kernel_rfl
 c85:=by kernel_rfl
 c127:=by kernel_rfl
 c143:=by kernel_rfl
 c145:=by kernel_rfl
 c167:=by kernel_rfl
 c168:=by kernel_rfl
 c171:=by kernel_rfl
 c173:=by kernel_rfl
 c175:=by kernel_rfl
 c210:=by kernel_rfl
 c212:=by kernel_rfl
 c213:=by kernel_rfl
 c232:=by kernel_rfl
 c233:=by kernel_rfl}
open Go.RowKit in
theorem Tryz.strconv_ParseInt_10_at64_ok(s:ByteArray)(a:s.size<=9223372036854775806)(v:Int)(h:Lib.parseIntB 64 s.data.toList= .ok v)(w:Q):
  u F 280 #[H s,I J 10,I J 64] w fun e w'=>e= M (A2 #[I J v,A5])/\(w'=w\/∃t,w'=Lib.bytesWorld w 5 t):=Any.strconv_ParseInt_10_at64_ok Tryz.laysC174 s a v h w
open Go.RowKit in
theorem Tryz.strconv_ParseInt_10_at64_syntax(s:ByteArray)(c:s.size<=281474976710656)(h:Lib.parseIntB 64 s.data.toList= .«syntax»)(a:U)(w:Q)(d:w.cell? ⟨10,0,G⟩=A a)(b:a= A5\/∃g f,a= Br g f):
  u F 280 #[H s,I J 10,I J 64] w fun e w'=>∃N,e= M (A2 #[I J (0),Br 318 (Ax (A ⟨N,0,G⟩))])/\w.heap.size<=N/\w'.heap[N]?=A (A0 #[H ⟨#[80,97,114,115,101,73,110,116]⟩,H s,a] 326 (0,0))/\Z w.heap.size w w':=Any.strconv_ParseInt_10_at64_syntax Tryz.laysC174 s c h a w d b
open Go.RowKit in
theorem Tryz.strconv_ParseInt_10_at64_range(s:ByteArray)(c:s.size<=281474976710656)(h:Lib.parseIntB 64 s.data.toList= .range)(a:U)(w:Q)(d:w.cell? ⟨11,0,G⟩=A a)(b:a= A5\/∃g f,a= Br g f):
  u F 280 #[H s,I J 10,I J 64] w fun e w'=>∃N,e= M (A2 #[I J (Lib.intSat 64 s.data.toList),Br 318 (Ax (A ⟨N,0,G⟩))])/\w.heap.size<=N/\w'.heap[N]?=A (A0 #[H ⟨#[80,97,114,115,101,73,110,116]⟩,H s,a] 326 (0,0))/\Z w.heap.size w w':=Any.strconv_ParseInt_10_at64_range Tryz.laysC174 s c h a w d b
def Tryz.lays99_ren:K:=⟨fun|99=>130|206=>197|n=>n,fun|9=>9|4=>4|3=>3|n=>n,fun|n=>n⟩
theorem Tryz.lays99:Go.Proofs.Lays.n99 F Tryz.lays99_ren:={
 mixed:=by kernel_rfl
 f99:=Tryz.func130.trans (congrArg A (by kernel_rfl))
 f206:=Tryz.func197.trans (congrArg A (by kernel_rfl))
 t3:=Tryz.underlying3
 a3:=O
 z3:=L
 v3:=Tryz.zeroValue3
 t4:=Tryz.underlying4
 a4:=Tryz.isAgg4
 z4:=Tryz.sizeOf4
 v4:=Tryz.zeroValue4
 t9:=Tryz.underlying9
 a9:=Tryz.isAgg9
 z9:=Tryz.sizeOf9
 v9:=Tryz.zeroValue9}
open Go.RowKit Go.Lib in
theorem Tryz.strings_HasPrefix(s p:ByteArray)(w:Q):
  u F 130 #[H s,H p] w fun e w'=>e= M (.bool (Lib.hasPrefix s.data.toList p.data.toList))/\w'=w:=Any.strings_HasPrefix Tryz.lays99 s p w
def Tryz.lays157_ren:K:=⟨fun|157=>236|229=>266|199=>267|261=>286|311=>301|312=>302|n=>n,fun|9=>9|31=>42|3=>3|5=>5|4=>4|119=>275|0=>0|40=>277|152=>293|21=>21|154=>295|51=>269|141=>297|196=>307|193=>304|198=>310|49=>308|194=>305|201=>313|226=>321|46=>243|227=>322|n=>n,fun|0=>4|6=>5|n=>n⟩
theorem Tryz.lays157:Go.Proofs.Lays.n157 F Tryz.lays157_ren:={
 mixed:=by kernel_rfl
 f157:=Tryz.func236.trans (congrArg A (by kernel_rfl))
 f199:=Tryz.func267.trans (congrArg A (by kernel_rfl))
 f229:=Tryz.func266.trans (congrArg A (by kernel_rfl))
 f261:=Tryz.func286.trans (congrArg A (by kernel_rfl))
 f311:=Tryz.func301.trans (congrArg A (by kernel_rfl))
 f312:=Tryz.func302.trans (congrArg A (by kernel_rfl))
 t0:=Tryz.underlying0
 a0:=Tryz.isAgg0
 z0:=Tryz.sizeOf0
 v0:=Tryz.zeroValue0
 t3:=Tryz.underlying3
 a3:=O
 z3:=L
 v3:=Tryz.zeroValue3
 t4:=Tryz.underlying4
 a4:=Tryz.isAgg4
 z4:=Tryz.sizeOf4
 v4:=Tryz.zeroValue4
 t5:=Tryz.underlying5
 a5:=Tryz.isAgg5
 z5:=Tryz.sizeOf5
 v5:=Tryz.zeroValue5
 t9:=Tryz.underlying9
 a9:=Tryz.isAgg9
 z9:=Tryz.sizeOf9
 v9:=Tryz.zeroValue9
 t21:=Tryz.underlying21
 a21:=Tryz.isAgg21
 z21:=Tryz.sizeOf21
 v21:=Tryz.zeroValue21
 t31:=Tryz.underlying42
 a31:=Tryz.isAgg42
 z31:=Tryz.sizeOf42
 v31:=Tryz.zeroValue42
 t40:=Tryz.underlying277
 a40:=Tryz.isAgg277
 z40:=Tryz.sizeOf277
 v40:=Tryz.zeroValue277
 t46:=Tryz.underlying243
 a46:=Tryz.isAgg243
 z46:=Tryz.sizeOf243
 v46:=Tryz.zeroValue243
 t49:=Tryz.underlying308
 a49:=Tryz.isAgg308
 z49:=Tryz.sizeOf308
 v49:=Tryz.zeroValue308
 t51:=Tryz.underlying269
 a51:=Tryz.isAgg269
 z51:=Tryz.sizeOf269
 v51:=Tryz.zeroValue269
 t119:=Tryz.underlying275
 a119:=Tryz.isAgg275
 z119:=Tryz.sizeOf275
 t141:=Tryz.underlying297
 a141:=Tryz.isAgg297
 z141:=Tryz.sizeOf297
 v141:=Tryz.zeroValue297
 t152:=Tryz.underlying293
 a152:=Tryz.isAgg293
 z152:=Tryz.sizeOf293
 v152:=Tryz.zeroValue293
 t154:=Tryz.underlying295
 a154:=Tryz.isAgg295
 z154:=Tryz.sizeOf295
 v154:=Tryz.zeroValue295
 t193:=Tryz.underlying304
 a193:=Tryz.isAgg304
 z193:=Tryz.sizeOf304
 v193:=Tryz.zeroValue304
 t194:=Tryz.underlying305
 a194:=Tryz.isAgg305
 z194:=Tryz.sizeOf305
 v194:=Tryz.zeroValue305
 t196:=Tryz.underlying307
 a196:=Tryz.isAgg307
 z196:=Tryz.sizeOf307
 v196:=Tryz.zeroValue307
 t198:=Tryz.underlying310
 a198:=Tryz.isAgg310
 z198:=Tryz.sizeOf310
 v198:=Tryz.zeroValue310
 t201:=Tryz.underlying313
 a201:=Tryz.isAgg313
 z201:=Tryz.sizeOf313
 v201:=Tryz.zeroValue313
 t226:=Tryz.underlying321
 a226:=Tryz.isAgg321
 z226:=Tryz.sizeOf321
 v226:=Tryz.zeroValue321
 t227:=Tryz.underlying322
 a227:=Tryz.isAgg322
 z227:=Tryz.sizeOf322
 v227:=Tryz.zeroValue322
 g0:=by kernel_rfl
 g6:=by kernel_rfl}
open Go.RowKit Go.Lib in
theorem Tryz.strings_Fields(s:ByteArray)(w:Q)(c:s.size<4294967281)(a:∀(j:Nat) b,s.data.toList[j]?=A b->b.toNat<128)(d:Lib.TabIs F w "strings.asciiSpace" .u8 Lib.asciiSpaceTab):
  u F 236 #[H s] w fun e w'=>
   e= M (V (A ⟨w.heap.size,0,G⟩) (Lib.fields s.data.toList).length (Lib.fields s.data.toList).length)/\w'=w.alloc (A0 ((Lib.fields s.data.toList).map fun l=>A9 ⟨l.toArray⟩).toArray 9):=Any.strings_Fields Tryz.lays157 (by kernel_rfl) (by kernel_rfl) s w c a d
end Go.Proofs
namespace Go.Proofs.YtjeamjdieofoeaaGreatDoor
variable{W W':World}{a:Addr}{b base c k n:Nat}{l:List ByteArray}{t:TypeId}{v vk vn:Value}
def ma(t:Int):Bool:=decide (t=25\/t=50\/t=62\/t=69)
def ip(t:Int):Bool:=decide (t=10\/t=26\/60<t)
def dK(t:Int):Bool:=decide (t=1\/t=2\/t=3\/t=4\/t=24\/t=29\/t=17\/t=49\/t=18\/t=40\/t=42)||ma t
def iB(t:Int):List Int×Bool:=if t=22 then([t,1,104,103],C) else if t=13 then([t,1,47,119],C) else if t=18 then([t,1,133],C) else if t=20 then([t,119,132,105],C) else if t=31 then([t,119,132],C) else if t=19 then([t,1,106],C) else if t=11 then([t],C) else if t=23 then([t],C) else if t=27 then([t,108],C) else if t=30 then([t,132,12,1,109,132],C) else if t=28 then([t,119],C) else if t=14 then([t,116],C) else if t=42 then([132],C) else if t=1 then([t,110],C) else if t=40 then([t,119,41,112],C) else([],X)
def qg(t a c:Int):List Int:=if t=48 then [t,1,a] else if t=44 then [t,119,45,a] else if t=40 then [t,123,41,c] else []
def Is(t:Int):List Int×Bool:=if ma t=C then([t,120],C) else if t=1 then([t,122],C) else if t=40 then([t,119,41,122],C) else if t=42 then([t,129,43],C) else if t=18 then([t,133],C) else([t],dK t)
def acC(t:Int):List Int×Bool:=if t=5 then([t,100],C) else if(iB t).2=C then((iB t).1++[101],C) else([],C)
def ah2(t:Int):List Int×Bool:=if t=5 then([t,100],C) else([],C)
def am6(t:Int):List Int×Bool:=([40,126,41,132],decide (t=40))
def ah3(t:Int):List Int×Bool:=if t=47 then([t,124],C) else([],C)
def ah4(t:Int):List Int×Bool:=if t=46 then([t,1,104],C) else([],C)
def aen(t:Int):List Int×Bool:=if t=15 then([t,119,132,105],C) else if t=16 then([t,132],C) else([],C)
def ah5(t:Int):List Int×Bool:=if t=47 then([t,119,46,119,107,132],C) else([104,21,119,132],decide (t=46\/t=21))
def ah6(t:Int):List Int×Bool:=if t=46 then([t,119],C) else([],C)
def ah7(t:Int):List Int×Bool:=if dK t=C then([124],C) else([],C)
def ah8(t:Int):List Int×Bool:=if t=46 then([t,1],C) else([],C)
def aeo(t:Int):List Int×Bool:=if t=48 then([t,1,110],C) else if t=44 then([t,119,45,110],C) else if t=40 then([t,123,41,111],C) else if t=46 then([t,113],C) else if t=47 then([t,124],C) else([],X)
def akF(t:Int):List Int×Bool:=if t=48 then([t,1,110],C) else if t=44 then([t,119,45,110],C) else if t=40 then([t,123,41,111],C) else([],C)
def akG(t:Int):List Int×Bool:=if t=48 then([t,1,110],C) else if t=44 then([t,119,45,110],C) else if t=40 then([t,123,41,111],C) else([],X)
def aep(t:Int):List Int×Bool:=if t=1 then([t,114],C) else if t=40 then([t,119,41,115],C) else([],X)
def aeq(t:Int):List Int×Bool:=if t=48 then([t,1,114],C) else if t=44 then([t,119,45,114],C) else if t=40 then([t,123,41,115],C) else if t=46 then([t,113],C) else if t=47 then([t,124],C) else([],X)
def akH(t:Int):List Int×Bool:=if t=48 then([t,1,114],C) else if t=44 then([t,119,45,114],C) else if t=40 then([t,123,41,115],C) else([],X)
def aer(t:Int):List Int×Bool:=if t=1 then([t,117],C) else if t=40 then([t,119,41,117],C) else([],X)
def akI(t:Int):List Int×Bool:=if t=48 then([t,1,117],C) else if t=44 then([t,119,45,117],C) else if t=40 then([t,123,41,118],C) else([],X)
def akJ(t:Int):List Int×Bool:=if t=48 then([t,1,117],C) else if t=44 then([t,119,45,117],C) else if t=40 then([t,123,41,118],C) else([],C)
def ah9(t:Int):List Int×Bool:=([120,121],dK t)
def am7(t:Int):List Int×Bool:=Is t
def aia(t:Int):List Int×Bool:=if ip t=C then([t,119],C) else([],C)
def aib(t:Int):List Int×Bool:=(qg t 122 122,C)
def aic(t:Int):List Int×Bool:=if dK t=C then([124],C) else([],C)
def akK(t:Int):List Int×Bool:=([119,125],dK t)
def aid(t:Int):List Int×Bool:=if t=46 then([t,119,125],C) else([],C)
def aes(t:Int):List Int×Bool:=if t=1 then([t,127],C) else if t=49 then([t],C) else([],C)
def aie(t:Int):List Int×Bool:=if t=46 then([t,128],C) else([],C)
def aet(t:Int):List Int×Bool:=if t=1 then([t,127],C) else if t=49 then([t],C) else([],X)
def aif(t:Int):List Int×Bool:=if dK t=C then([131,130],C) else if t=48 then([131,130],C) else if t=44 then([131,130],C) else([],C)
def aig(t:Int):List Int×Bool:=if t=46 then([t,129],C) else([],C)
def aeu(t:Int):List Int×Bool:=if t=48 then([t,1,47,119],C) else if t=44 then([t,119,45,47,119],C) else([119],dK t)
def aev(t:Int):List Int×Bool:=([42,100,43],decide (t=42))
def aih(t:Int):List Int×Bool:=([40,126,41,132],decide (t=40))
def xE(s t:Int):List Int×Bool:=
 if s=100 then acC t else if s=101 then ah2 t else if s=102 then am6 t else if s=103 then ah3 t else if s=104 then ah4 t else if s=105 then aen t else if s=106 then ah5 t else if s=107 then ah6 t else if s=108 then ah7 t else if s=109 then ah8 t else if s=110 then aeo t else if s=111 then akF t else if s=112 then akG t else if s=113 then aep t else if s=114 then aeq t else if s=115 then akH t else if s=116 then aer t else if s=117 then akI t else if s=118 then akJ t else if s=119 then ah9 t else if s=120 then am7 t else if s=121 then aia t else if s=122 then aib t else if s=123 then aic t else if s=124 then akK t else if s=125 then aid t else if s=126 then aes t else if s=127 then aie t else if s=128 then aet t else if s=129 then aif t else if s=130 then aig t else if s=131 then aeu t else if s=132 then aev t else aih t
end Go.Proofs.YtjeamjdieofoeaaGreatDoor
namespace Go.Proofs.YtjeamjdieofoeaaGreatDoor
open Go.RowKit
variable{W W':World}{a:Addr}{b base c k n:Nat}{l:List ByteArray}{t:TypeId}{v vk vn:Value}
structure Nd where
 k:Int
 f:Int
 t:Int
 l:Int
 op:Int
 n:Int
 x:ByteArray
 nm:List ByteArray
 ks:List Int
def cu(W:Q)(v:U)(l:List ByteArray):Prop:=
 (l=[]/\∃a c,v= V a 0 c)\/∃a c,v= V (A a) l.length c/\∀b d,l[b]?=A d->W.cell? (a.add b)=A (H d)
def dw(W:Q)(v:U)(l:List Int):Prop:=
 (l=[]/\∃a c,v= V a 0 c)\/∃a c,v= V (A a) l.length c/\∀b d,l[b]?=A d->W.cell? (a.add b)=A (I J d)
structure KF (W:Q) (a:Addr) (N:Nd) (vn vk:U):Prop where
 c0:W.cell? a=A (.int .i64 N.k)
 c1:W.cell? ⟨a.block,a.off+1,G⟩=A (.int .i64 N.f)
 c2:W.cell? ⟨a.block,a.off+2,G⟩=A (.int .i64 N.t)
 c3:W.cell? ⟨a.block,a.off+3,G⟩=A (.int .i64 N.l)
 c4:W.cell? ⟨a.block,a.off+4,G⟩=A (.int .i64 N.op)
 c5:W.cell? ⟨a.block,a.off+5,G⟩=A (.int .i64 N.n)
 c6:W.cell? ⟨a.block,a.off+6,G⟩=A (.string N.x)
 c7:W.cell? ⟨a.block,a.off+7,G⟩=A vn
 c8:W.cell? ⟨a.block,a.off+8,G⟩=A vk
 hn:cu W vn N.nm
 hk:dw W vk N.ks
def fs(W:Q)(v:U)(b:List Nd):Prop:=
 (b=[]/\∃a c,v= V a 0 c)\/∃a c,v= V (A a) b.length c/\∀e d,b[e]?=A d->∃vn vk,KF W (a.add (e*9)) d vn vk
theorem xI(h:W.cell? a=A v):a.block<W.heap.size:=by
 unfold World.cell? at h;rcases bj a.block W.heap.size with g|g
 ·exact g
 ·rw[xk g]at h;simp at h
theorem aj(b:Z W.heap.size W W')(h:W.cell? a=A v):W'.cell? a=A v:=by
 rw[<-h];unfold World.cell?;rw[b.block _ (xI h)]
theorem cu.below(h:cu W v l)(e:Z W.heap.size W W'):cu W' v l:=by
 rcases h with h|⟨a,b,c,d⟩
 ·exact .inl h
 ·exact .inr ⟨a,b,c,fun g i f=>aj e (d g i f)⟩
theorem dw.below{l:List Int}(h:dw W v l)(e:Z W.heap.size W W'):dw W' v l:=by
 rcases h with h|⟨a,b,c,d⟩
 ·exact .inl h
 ·exact .inr ⟨a,b,c,fun g i f=>aj e (d g i f)⟩
theorem KF.below{N:Nd}(h:KF W a N vn vk)(b:Z W.heap.size W W'):KF W' a N vn vk:=
 ⟨aj b h.c0,aj b h.c1,aj b h.c2,aj b h.c3,aj b h.c4,aj b h.c5,aj b h.c6,aj b h.c7,aj b h.c8,h.hn.below b,h.hk.below b⟩
theorem fs.below{a:List Nd}(h:fs W v a)(j:Z W.heap.size W W'):fs W' v a:=by
 rcases h with h|⟨c,d,f,g⟩
 ·exact .inl h
 ·exact .inr ⟨c,d,f,fun k b i=>by obtain⟨m,l,e⟩:=g k b i;exact⟨m,l,e.below j⟩⟩
theorem cu.form(h:cu W v l):∃a c,v= V a l.length c:=by
 rcases h with⟨rfl,a,c,h⟩|⟨a,c,b,d⟩
 ·exact⟨a,c,h⟩
 ·exact⟨_,_,b⟩
theorem dw.form{l:List Int}(h:dw W v l):∃a c,v= V a l.length c:=by
 rcases h with⟨rfl,a,c,h⟩|⟨a,c,b,d⟩
 ·exact⟨a,c,h⟩
 ·exact⟨_,_,b⟩
theorem fs.form{l:List Nd}(h:fs W v l):∃a c,v= V a l.length c:=by
 rcases h with⟨rfl,a,c,h⟩|⟨a,c,b,d⟩
 ·exact⟨a,c,h⟩
 ·exact⟨_,_,b⟩
theorem cu.get{a:Option Addr}(h:cu W (V a n c) l){s:ByteArray}(d:l[k]?=A s):∃b,a=A b/\W.cell? (b.add k)=A (H s):=by
 rcases h with⟨rfl,_⟩|⟨b,g,e,f⟩
 ·simp at d
 ·cases e;exact⟨b,rfl,f k s d⟩
theorem dw.get{a:Option Addr}{l:List Int}(h:dw W (V a n c) l){s:Int}(d:l[k]?=A s):∃b,a=A b/\W.cell? (b.add k)=A (I J s):=by
 rcases h with⟨rfl,_⟩|⟨b,g,e,f⟩
 ·simp at d
 ·cases e;exact⟨b,rfl,f k s d⟩
theorem fs.get{a:Option Addr}{l:List Nd}(h:fs W (V a n c) l){N:Nd}(d:l[k]?=A N):∃b,a=A b/\∃vn vk,KF W (b.add (k*9)) N vn vk:=by
 rcases h with⟨rfl,_⟩|⟨b,g,e,f⟩
 ·simp at d
 ·cases e;exact⟨b,rfl,f k N d⟩
theorem cJ{w w':Q}{e size:Nat}{xs:List U}(h:w.ownsRow base e size v n xs)(a:Z w.heap.size w w'):w'.ownsRow base e size v n xs:=
 h.kept (row:=G) ⟨a.os,a.tape,a.output,a.size,fun c b _=>a.block c b⟩ (by cases v.ownBlock<;>simp)
theorem nI{w:Q}{b e size:Nat}{xs:List U}(h:w.ownsRow base e size v n xs)(i:b<=base):w.ownsRow b e size v n xs:=by
 obtain⟨g,a⟩:=h;refine⟨g,?_⟩;rcases a with a|⟨f,c,d,k,j,l⟩
 ·exact .inl a
 ·exact .inr ⟨f,c,d,k,bL i j,l⟩
theorem cy{α:Type}{l:List α}(a:l.length=n)(h:k<n):∃s,l[k]?=A s:=⟨l[k]'(by omega),aJ _⟩
theorem gg{fr:Nat×Nat}{a c d e f g:U}(h:W.heap[b]?=A (A0 #[a,c,d,e,f,g] t fr)):W.cell? ⟨b,0,G⟩=A a/\W.cell? ⟨b,1,G⟩=A c/\W.cell? ⟨b,2,G⟩=A d/\W.cell? ⟨b,3,G⟩=A e/\W.cell? ⟨b,4,G⟩=A f/\W.cell? ⟨b,5,G⟩=A g:=by
 refine⟨?_,?_,?_,?_,?_,?_⟩<;>(rw[au _ _ _ _ _ _ h];rfl)
theorem pc{cs:Array U}(h:W.heap[b]?=A (A0 cs t (0,0))):W.frozen? ⟨b,0,G⟩=X/\W.frozen? ⟨b,1,G⟩=X/\W.frozen? ⟨b,2,G⟩=X/\W.frozen? ⟨b,3,G⟩=X/\W.frozen? ⟨b,4,G⟩=X/\W.frozen? ⟨b,5,G⟩=X:=
 ⟨co _ _ _ _ _ h,co _ _ _ _ _ h,co _ _ _ _ _ h,co _ _ _ _ _ h,co _ _ _ _ _ h,co _ _ _ _ _ h⟩
def six(W:Q)(b:Nat)(a c d e f g:U):Q:=((((((W.setCell ⟨b,0,G⟩ a).setCell ⟨b,1,G⟩ c).setCell ⟨b,2,G⟩ d).setCell ⟨b,3,G⟩ e).setCell ⟨b,4,G⟩ f).setCell ⟨b,5,G⟩ g)
theorem F5{m n o p q r:U}(h:W.heap[b]?=A (A0 #[m,n,o,p,q,r] t (0,0)))(c d e f g i:U):(six W b c d e f g i).heap[b]?=A (A0 #[c,d,e,f,g,i] t (0,0)):=by
 have a:=fun j k {W l}=>bz W b j l t k;simpa [six] using a 5 i (a 4 g (a 3 f (a 2 e (a 1 d (a 0 c h)))))
theorem It(h:k≠b)(a c d e f g:U):(six W b a c d e f g).heap[k]?=W.heap[k]?:=by
 unfold six;rw[aB _ _ _ _ h,aB _ _ _ _ h,aB _ _ _ _ h,aB _ _ _ _ h,aB _ _ _ _ h,aB _ _ _ _ h]
theorem qL(w:Q):w.drew.heap=w.heap:=rfl
theorem nh(h:k≠b)(j:Nat)(a c d e f g:U):(six W b a c d e f g).drew.cell? ⟨k,j,G⟩=W.cell? ⟨k,j,G⟩:=by
 unfold World.cell?;rw[qL,It h]
theorem acD{c:Q}(h:Z base c W)(a:base<=b)(d e f g i j:U):Z base c (six W b d e f g i j):=by
 unfold six;exact(((((h.setCell a _).setCell a _).setCell a _).setCell a _).setCell a _).setCell a _
theorem BF(W:Q)(b:Nat)(c d e f g h:U):W.grownBy (six W b c d e f g h).drew (A b):=by
 have a:=(acD (ah b W) (ag b) c d e f g h).drew;exact⟨a.os,a.tape,a.output,a.size,fun l k j=>by rw[qL,It (fun i=>j (by rw[i]))]⟩
theorem sj:(Tryz.prog.info? 3).map (fun i=>(i.zero,i.size,i.bytes))=A (A (I J 0),1,8):=by kernel_rfl
theorem Iu{g:Nat}(h:W.ownsRow base 9 1 (V (A ⟨g,0,G⟩) n c) n (l.map A9))(e:l.length=n):cu W (V (A ⟨g,0,G⟩) n c) l:=by
 subst e;refine .inr ⟨⟨g,0,G⟩,c,rfl,fun a i b=>?_⟩;have f:a<l.length:=by rcases bj a l.length with h|h;exact h;rw[jG h]at b;cases b
 have d:(⟨g,0,G⟩:Addr).add a=⟨g,a,G⟩:=by unfold Addr.add;split<;>simp_all
 rw[d,h.cellAt a (by omega),ce,b];rfl
theorem Iy{g:Nat}{l:List Int}(h:W.ownsRow base 3 1 (V (A ⟨g,0,G⟩) n c) n (l.map (Value.int J)))(e:l.length=n):dw W (V (A ⟨g,0,G⟩) n c) l:=by
 subst e;refine .inr ⟨⟨g,0,G⟩,c,rfl,fun a i b=>?_⟩;have f:a<l.length:=by rcases bj a l.length with h|h;exact h;rw[jG h]at b;cases b
 have d:(⟨g,0,G⟩:Addr).add a=⟨g,a,G⟩:=by unfold Addr.add;split<;>simp_all
 rw[d,h.cellAt a (by omega),ce,b];rfl
def acE:List ByteArray->Nat
 |[]=>0
 |s::l=>s.size+acE l
def aew(l:List ByteArray):Nat:=l.length+acE l
def Ek(N:Nd):Nat:=N.x.size+(aew N.nm+N.ks.length)
def jf(N:Nd)(vn vk:U):U:= .agg #[I J N.k,I J N.f,I J N.t,I J N.l,I J N.op,I J N.n,H N.x,vn,vk]
def qh(b:Nat)(W:Q)(t:TypeId)(N:Nd)(vn vk:U):Prop:=
 W.heap[b]?=A (A0 #[I J N.k,I J N.f,I J N.t,I J N.l,I J N.op,I J N.n,H N.x,vn,vk] t (0,0))
theorem cd{N:Nd}(h:qh b W t N vn vk):
  W.cell? ⟨b,0,G⟩=A (I J N.k)/\W.cell? ⟨b,1,G⟩=A (I J N.f)/\W.cell? ⟨b,2,G⟩=A (I J N.t)/\W.cell? ⟨b,3,G⟩=A (I J N.l)/\W.cell? ⟨b,4,G⟩=A (I J N.op)/\W.cell? ⟨b,5,G⟩=A (I J N.n)/\W.cell? ⟨b,6,G⟩=A (H N.x)/\W.cell? ⟨b,7,G⟩=A vn/\W.cell? ⟨b,8,G⟩=A vk/\(∀j,W.frozen? ⟨b,j,G⟩=X):=by
 unfold qh at h;exact⟨by rw[au _ _ _ _ _ _ h];rfl,by rw[au _ _ _ _ _ _ h];rfl,by rw[au _ _ _ _ _ _ h];rfl,by rw[au _ _ _ _ _ _ h];rfl,by rw[au _ _ _ _ _ _ h];rfl,by rw[au _ _ _ _ _ _ h];rfl,by rw[au _ _ _ _ _ _ h];rfl,by rw[au _ _ _ _ _ _ h];rfl,by rw[au _ _ _ _ _ _ h];rfl,fun j=>co _ _ _ _ _ h⟩
def Iv:Nd:=⟨0,0,0,0,0,0,⟨#[]⟩,[],[]⟩
theorem qh.below{N:Nd}(h:qh b W t N vn vk)(a:Z W.heap.size W W'):qh b W' t N vn vk:=(a.block _ (ai h)).trans h
structure Tk where
 k:Int
 f:Int
 t:Int
 l:Int
 n:Int
 x:ByteArray
def vTk(T:Tk):U:= .agg #[I J T.k,I J T.f,I J T.t,I J T.l,I J T.n,H T.x]
def cTk(T:Tk):List U:=[I J T.k,I J T.f,I J T.t,I J T.l,I J T.n,H T.x]
def As(ts:List Tk):List U:=ts.flatMap cTk
theorem tK(a:List Tk)(T:Tk):As (a++[T])=As a++cTk T:=by simp[As]
end Go.Proofs.YtjeamjdieofoeaaGreatDoor
namespace Go.Proofs.YtjeamjdieofoeaaGreatDoor
variable{W W':World}{a:Addr}{b base c k n:Nat}{l:List ByteArray}{t:TypeId}{v vk vn:Value}
inductive Fo where
 |nil:Fo
 |cons:Nd->Fo->Fo->Fo
def Fo.sz:Fo->Nat
 | .nil=>0
 | .cons _ k r=>k.sz+1+r.sz
def Fo.len:Fo->Nat
 | .nil=>0
 | .cons _ _ r=>r.len+1
def Fo.tops:Fo->Nat->List Int
 | .nil,_=>[]
 | .cons _ k r,b=>((b+k.sz:Nat):Int)::r.tops (b+k.sz+1)
def Fo.flat:Fo->Nat->List Nd
 | .nil,_=>[]
 | .cons N k r,b=>k.flat b++({N with ks:=k.tops b}::r.flat (b+k.sz+1))
def Fo.app:Fo->Fo->Fo
 | .nil,c=>c
 | .cons N k r,c=> .cons N k (r.app c)
def one(N:Nd)(k:Fo):Fo:= .cons N k .nil
theorem Fo.app_nil:∀(a:Fo),a.app .nil=a
 | .nil=>rfl
 | .cons N k r=>by rw[Fo.app,r.app_nil]
theorem Fo.app_app:∀(a b c:Fo),(a.app b).app c=a.app (b.app c)
 | .nil,_,_=>rfl
 | .cons N k r,b,c=>by simp only[Fo.app];rw[r.app_app b c]
theorem Fo.sz_app:∀(a c:Fo),(a.app c).sz=a.sz+c.sz
 | .nil,c=>by simp[Fo.app,Fo.sz]
 | .cons N k r,c=>by simp only[Fo.app,Fo.sz,r.sz_app c];omega
theorem Fo.len_app:∀(a c:Fo),(a.app c).len=a.len+c.len
 | .nil,c=>by simp[Fo.app,Fo.len]
 | .cons N k r,c=>by simp only[Fo.app,Fo.len,r.len_app c];omega
theorem Fo.tops_app:∀(a c:Fo)(b:Nat),(a.app c).tops b=a.tops b++c.tops (b+a.sz)
 | .nil,c,b=>by simp[Fo.app,Fo.sz,Fo.tops]
 | .cons N k r,c,b=>by simp only[Fo.app,Fo.tops,Fo.sz,r.tops_app c,ej];rw[show b+k.sz+1+r.sz=b+(k.sz+1+r.sz) by omega]
theorem Fo.flat_app:∀(a c:Fo)(b:Nat),(a.app c).flat b=a.flat b++c.flat (b+a.sz)
 | .nil,c,b=>by simp[Fo.app,Fo.sz,Fo.flat]
 | .cons N k r,c,b=>by simp only[Fo.app,Fo.flat,Fo.sz,r.flat_app c,ej,dy];rw[show b+k.sz+1+r.sz=b+(k.sz+1+r.sz) by omega]
theorem Fo.flat_len:∀(a:Fo)(b:Nat),(a.flat b).length=a.sz
 | .nil,_=>rfl
 | .cons N k r,b=>by simp only[Fo.flat,Fo.sz,aK,bB,k.flat_len,r.flat_len];omega
theorem Fo.tops_len:∀(a:Fo)(b:Nat),(a.tops b).length=a.len
 | .nil,_=>rfl
 | .cons N k r,b=>by simp only[Fo.tops,Fo.len,bB,r.tops_len]
theorem bm(N:Nd)(k:Fo):(one N k).sz=k.sz+1:=rfl
theorem aex(N:Nd)(k:Fo)(b:Nat):(one N k).tops b=[((b+k.sz:Nat):Int)]:=rfl
theorem BG(N:Nd)(k:Fo)(b:Nat):(one N k).flat b=k.flat b++[{N with ks:=k.tops b}]:=rfl
theorem Fo.len_le:∀(a:Fo),a.len<=a.sz
 | .nil=>ag _
 | .cons N k r=>by have:=r.len_le;simp only[Fo.len,Fo.sz];omega
def z0:ByteArray:=⟨#[]⟩
def nd(k:Int)(s:Tk)(e a n:Int)(x:ByteArray)(nm:List ByteArray):Nd:=⟨k,s.f,e,s.l,a,n,x,nm,[]⟩
def ig(k:Int)(s:Tk)(e:Int):Nd:=nd k s e 0 0 z0 []
def wv(k:Int)(s:Tk)(e:Int):Nd:=if k=10 then ig 28 s e else if k=26 then ig 29 s e else nd 31 s e (k-60) 0 z0 []
def acF(k:Int):Int:=if k=25 then 21 else if k=50 then 22 else if k=69 then 20 else 19
def Iz(k:Int):Int:=if k=26 then 1 else if k=10 then 2 else if 73<=k then 3 else if k=72 then 4 else if k=68 then 5 else if k=69 then 6 else if k=67 then 7 else if k=70\/k=71 then 8 else if k=61\/k=62 then 9 else 10
def rpw(k:Int):Int:=if k=72 then 4 else Iz k+1
def KG(k:Int):Bool:=decide (k=48\/k=44\/k=40)
def mc(N:Nd)(ks:Fo)(s:Tk)(e:Int):Fo:=if N.k=34\/N.k=27 then one (ig 37 s e) (one N ks) else one N ks
inductive Ib (tk:Nat->Tk) (n:Nat):Nat->List ByteArray->Nat->Prop where
 |stop {k:Nat}:(tk k).k≠46->k<n->Ib tk n k [] k
 |go {k j:Nat}{ns:List ByteArray}:(tk k).k=46->k+1<n->(tk (k+1)).k=1->Ib tk n (k+2) ns j->Ib tk n k ((tk (k+1)).x::ns) j
inductive Prm (tk:Nat->Tk) (n:Nat):Nat->List ByteArray->Bool->Nat->Prop where
 |close {k:Nat}:(tk k).k=41->k+1<n->Prm tk n k [] false (k+1)
 |rest {k:Nat}:(tk k).k=49->(tk (k+1)).k=41->k+2<n->Prm tk n k [] true (k+2)
 |last {k:Nat}:(tk k).k=1->(tk (k+1)).k=41->k+2<n->Prm tk n k [(tk k).x] false (k+2)
 |go {k j:Nat}{ns:List ByteArray}{r:Bool}:(tk k).k=1->(tk (k+1)).k=46->k+2<n->Prm tk n (k+2) ns r j->Prm tk n k ((tk k).x::ns) r j
inductive xi where
 |unit:xi
 |expr:Int->xi
 |more:Int->Tk->Fo->xi
 |base:xi
 |post:Tk->Fo->xi
 |exprs:xi
 |moreE:xi
 |moreB:xi
 |stat:xi
 |stats:xi
 |block:xi
 |body:Tk->xi
 |entry:xi
 |entries:xi
 |branch:xi
inductive P (tk:Nat->Tk) (n:Nat):xi->Nat->Fo->Nat->Prop where
 |upre {i j:Nat}{x:Fo}:ma (tk i).k=true->i<n->P tk n .unit (i+1) x j->P tk n .unit i (one (nd 30 (tk i) (tk (j-1)).t (acF (tk i).k) 0 z0 []) x) j
 |uint {i:Nat}:(tk i).k=2->i+1<n->P tk n .unit i (one (nd 23 (tk i) (tk i).t 0 (tk i).n z0 []) .nil) (i+1)
 |uflt {i:Nat}:(tk i).k=3->i+1<n->P tk n .unit i (one (nd 24 (tk i) (tk i).t 0 0 (tk i).x []) .nil) (i+1)
 |ustr {i:Nat}:(tk i).k=4->i+1<n->P tk n .unit i (one (nd 25 (tk i) (tk i).t 0 0 (tk i).x []) .nil) (i+1)
 |unil {i:Nat}:(tk i).k=24->i+1<n->P tk n .unit i (one (ig 20 (tk i) (tk i).t) .nil) (i+1)
 |utru {i:Nat}:(tk i).k=29->i+1<n->P tk n .unit i (one (ig 21 (tk i) (tk i).t) .nil) (i+1)
 |ufls {i:Nat}:(tk i).k=17->i+1<n->P tk n .unit i (one (ig 22 (tk i) (tk i).t) .nil) (i+1)
 |urst {i:Nat}:(tk i).k=49->i+1<n->P tk n .unit i (one (ig 27 (tk i) (tk i).t) .nil) (i+1)
 |ufn {i j:Nat}{R:Fo}:(tk i).k=18->i<n->P tk n (.body (tk i)) (i+1) R j->P tk n .unit i R j
 |utab {i j:Nat}{E:Fo}:(tk i).k=42->i<n->P tk n .entries (i+1) E j->(tk j).k=43->j+1<n->P tk n .unit i (one (ig 35 (tk i) (tk j).t) E) (j+1)
 |ubas {i j:Nat}{R:Fo}:(tk i).k=1\/(tk i).k=40->i<n->P tk n .base i R j->P tk n .unit i R j
 |ex {p:Int}{i k j:Nat}{x R:Fo}:(tk i).k≠6->i<n->P tk n .unit i x k->P tk n (.more p (tk i) x) k R j->P tk n (.expr p) i R j
 |mstop {p:Int}{s:Tk}{x:Fo}{k:Nat}:k<n->(ip (tk k).k=true->Iz (tk k).k<p)->P tk n (.more p s x) k x k
 |mgo {p:Int}{s:Tk}{x y R:Fo}{k k1 j:Nat}:k<n->ip (tk k).k=true->p<=Iz (tk k).k->P tk n (.expr (rpw (tk k).k)) (k+1) y k1->P tk n (.more p s (one (wv (tk k).k s (tk (k1-1)).t) (x.app y))) k1 R j->P tk n (.more p s x) k R j
 |bname {i j:Nat}{R:Fo}:(tk i).k=1->i<n->P tk n (.post (tk i) (one (nd 26 (tk i) (tk i).t 0 0 (tk i).x []) .nil)) (i+1) R j->P tk n .base i R j
 |bopen {i k j:Nat}{N:Nd}{ks R:Fo}:(tk i).k=40->i<n->P tk n (.expr 0) (i+1) (one N ks) k->(tk k).k=41->k<n->P tk n (.post (tk i) (mc N ks (tk i) (tk k).t)) (k+1) R j->P tk n .base i R j
 |pstop {s:Tk}{B:Fo}{k:Nat}:k<n->KG (tk k).k=false->P tk n (.post s B) k B k
 |pdot {s:Tk}{B R:Fo}{k j:Nat}:(tk k).k=48->(tk (k+1)).k=1->k+1<n->P tk n (.post s (one (nd 33 s (tk (k+1)).t 0 0 (tk (k+1)).x []) B)) (k+2) R j->P tk n (.post s B) k R j
 |psq {s:Tk}{B Y R:Fo}{k k1 j:Nat}:(tk k).k=44->k<n->P tk n (.expr 0) (k+1) Y k1->(tk k1).k=45->k1<n->P tk n (.post s (one (ig 32 s (tk k1).t) (B.app Y))) (k1+1) R j->P tk n (.post s B) k R j
 |pcall0 {s:Tk}{B R:Fo}{k j:Nat}:(tk k).k=40->(tk (k+1)).k=41->k+1<n->P tk n (.post s (one (ig 34 s (tk (k+1)).t) B)) (k+2) R j->P tk n (.post s B) k R j
 |pcall {s:Tk}{B Y R:Fo}{k k1 j:Nat}:(tk k).k=40->k+1<n->(tk (k+1)).k≠41->P tk n .exprs (k+1) Y k1->(tk k1).k=41->k1<n->P tk n (.post s (one (ig 34 s (tk k1).t) (B.app Y))) (k1+1) R j->P tk n (.post s B) k R j
 |es {i k j:Nat}{x R:Fo}:P tk n (.expr 0) i x k->P tk n .moreE k R j->P tk n .exprs i (x.app R) j
 |estop {k:Nat}:(tk k).k≠46->k<n->P tk n .moreE k .nil k
 |ego {k k1 j:Nat}{x R:Fo}:(tk k).k=46->k<n->P tk n (.expr 0) (k+1) x k1->P tk n .moreE k1 R j->P tk n .moreE k (x.app R) j
 |bstop {k:Nat}:(tk k).k≠46->k<n->P tk n .moreB k .nil k
 |bgo {k k1 j:Nat}{x R:Fo}:(tk k).k=46->k<n->P tk n .base (k+1) x k1->P tk n .moreB k1 R j->P tk n .moreB k (x.app R) j
 |body {i k j:Nat}{s:Tk}{nm:List ByteArray}{r:Bool}{B:Fo}:(tk i).k=40->i<n->Prm tk n (i+1) nm r k->P tk n .block k B j->P tk n (.body s) i (one (nd 36 s (tk (j-1)).t (if r=true then 1 else 0) 0 z0 nm) B) j
 |block {i k:Nat}{S:Fo}:(tk i).k=42->i<n->P tk n .stats (i+1) S k->(tk k).k=43->k+1<n->P tk n .block i (one (ig 1 (tk i) (tk k).t) S) (k+1)
 |sstop {k:Nat}:(tk k).k=43\/(tk k).k=6->k<n->P tk n .stats k .nil k
 |ssep {k j:Nat}{R:Fo}:(tk k).k=5->k<n->P tk n .stats (k+1) R j->P tk n .stats k R j
 |sgo {k k1 j:Nat}{x R:Fo}:(tk k).k≠5->(tk k).k≠6->(tk k).k≠43->k<n->P tk n .stat k x k1->P tk n .stats k1 R j->P tk n .stats k (x.app R) j
 |nstop {k:Nat}:(tk k).k=43->k<n->P tk n .entries k .nil k
 |ncom {k k1 j:Nat}{x R:Fo}:(tk k).k≠43->k<n->P tk n .entry k x k1->(tk k1).k=46->k1<n->P tk n .entries (k1+1) R j->P tk n .entries k (x.app R) j
 |nlast {k k1 j:Nat}{x R:Fo}:(tk k).k≠43->k<n->P tk n .entry k x k1->(tk k1).k≠46->k1<n->P tk n .entries k1 R j->P tk n .entries k (x.app R) j
 |item {i j:Nat}{x:Fo}:(tk i).k≠48->(tk i).k≠44->(tk i).k≠6->i<n->P tk n (.expr 0) i x j->P tk n .entry i (one (ig 40 (tk i) (tk (j-1)).t) x) j
 |pair {i k j:Nat}{x y:Fo}:(tk i).k=44->i<n->P tk n (.expr 0) (i+1) x k->(tk k).k=45->(tk (k+1)).k=47->k+1<n->P tk n (.expr 0) (k+2) y j->P tk n .entry i (one (ig 41 (tk i) (tk (j-1)).t) (x.app y)) j
 |named {i j:Nat}{y:Fo}:(tk i).k=48->(tk (i+1)).k=1->(tk (i+2)).k=47->i+2<n->P tk n (.expr 0) (i+3) y j->P tk n .entry i (one (nd 42 (tk i) (tk (j-1)).t 0 0 (tk (i+1)).x []) y) j
 |belif {i k k1 j:Nat}{x b z:Fo}:(tk i).k=20\/(tk i).k=15->i<n->P tk n (.expr 0) (i+1) x k->P tk n .block k b k1->(tk k1).k=15->k1<n->P tk n .branch k1 z j->P tk n .branch i (one (ig 7 (tk i) (tk (j-1)).t) ((x.app b).app z)) j
 |belse {i k k1 j:Nat}{x b z:Fo}:(tk i).k=20\/(tk i).k=15->i<n->P tk n (.expr 0) (i+1) x k->P tk n .block k b k1->(tk k1).k=16->k1<n->P tk n .block (k1+1) z j->P tk n .branch i (one (ig 7 (tk i) (tk (j-1)).t) ((x.app b).app z)) j
 |bno {i k k1:Nat}{x b:Fo}:(tk i).k=20\/(tk i).k=15->i<n->P tk n (.expr 0) (i+1) x k->P tk n .block k b k1->(tk k1).k≠15->(tk k1).k≠16->k1<n->P tk n .branch i (one (ig 7 (tk i) (tk (k1-1)).t) (x.app b)) k1
 |tlet0 {i k:Nat}{ns:List ByteArray}:(tk i).k=22->i+1<n->(tk (i+1)).k=1->Ib tk n (i+2) ns k->(tk k).k≠47->P tk n .stat i (one (nd 2 (tk i) (tk (k-1)).t 0 0 z0 ((tk (i+1)).x::ns)) .nil) k
 |tlet {i k j:Nat}{ns:List ByteArray}{E:Fo}:(tk i).k=22->i+1<n->(tk (i+1)).k=1->Ib tk n (i+2) ns k->(tk k).k=47->P tk n .exprs (k+1) E j->P tk n .stat i (one (nd 2 (tk i) (tk (j-1)).t 0 0 z0 ((tk (i+1)).x::ns)) E) j
 |tcon {i j:Nat}{x:Fo}:(tk i).k=13->(tk (i+1)).k=1->(tk (i+2)).k=47->i+2<n->P tk n (.expr 0) (i+3) x j->P tk n .stat i (one (nd 3 (tk i) (tk (j-1)).t 0 0 z0 [(tk (i+1)).x]) x) j
 |tfn {i j:Nat}{B:Fo}:(tk i).k=18->(tk (i+1)).k=1->(tk (i+2)).k=40->i+2<n->P tk n (.body (tk (i+2))) (i+2) B j->P tk n .stat i (one (nd 4 (tk i) (tk (j-1)).t 0 0 z0 [(tk (i+1)).x]) B) j
 |tif {i j:Nat}{R:Fo}:(tk i).k=20->i<n->P tk n .branch i R j->P tk n .stat i R j
 |twhile {i k j:Nat}{x b:Fo}:(tk i).k=31->i<n->P tk n (.expr 0) (i+1) x k->P tk n .block k b j->P tk n .stat i (one (ig 8 (tk i) (tk (j-1)).t) (x.app b)) j
 |tfor {i k k1 j:Nat}{ns:List ByteArray}{E b:Fo}:(tk i).k=19->i+1<n->(tk (i+1)).k=1->Ib tk n (i+2) ns k->(tk k).k=47->P tk n .exprs (k+1) E k1->P tk n .block k1 b j->P tk n .stat i (one (nd 9 (tk i) (tk (j-1)).t 0 0 z0 ((tk (i+1)).x::ns)) (E.app b)) j
 |teach {i k k1 j:Nat}{ns:List ByteArray}{x b:Fo}:(tk i).k=19->i+1<n->(tk (i+1)).k=1->Ib tk n (i+2) ns k->(tk k).k=21->P tk n (.expr 0) (k+1) x k1->(tk k1).k=42->k1<n->P tk n .block k1 b j->P tk n .stat i (one (nd 10 (tk i) (tk (j-1)).t 0 0 z0 ((tk (i+1)).x::ns)) (x.app b)) j
 |tbreak {i:Nat}:(tk i).k=11->i+1<n->P tk n .stat i (one (ig 11 (tk i) (tk i).t) .nil) (i+1)
 |tnext {i:Nat}:(tk i).k=23->i+1<n->P tk n .stat i (one (ig 12 (tk i) (tk i).t) .nil) (i+1)
 |tret0 {i:Nat}:(tk i).k=27->i+1<n->(tk (i+1)).k=5\/(tk (i+1)).k=6\/(tk (i+1)).k=43->P tk n .stat i (one (ig 13 (tk i) (tk i).t) .nil) (i+1)
 |tret {i j:Nat}{E:Fo}:(tk i).k=27->i+1<n->dK (tk (i+1)).k=true->P tk n .exprs (i+1) E j->P tk n .stat i (one (ig 13 (tk i) (tk (j-1)).t) E) j
 |ttry {i k k1 j:Nat}{ns:List ByteArray}{a b:Fo}:(tk i).k=30->i<n->P tk n .block (i+1) a k->(tk k).k=12->k+1<n->(tk (k+1)).k=1->Ib tk n (k+2) ns k1->P tk n .block k1 b j->P tk n .stat i (one (nd 14 (tk i) (tk (j-1)).t 0 0 z0 ((tk (k+1)).x::ns)) (a.app b)) j
 |tthrow {i j:Nat}{x:Fo}:(tk i).k=28->i<n->P tk n (.expr 0) (i+1) x j->P tk n .stat i (one (ig 15 (tk i) (tk (j-1)).t) x) j
 |tdefer {i j:Nat}{x:Fo}:(tk i).k=14->i<n->P tk n .base (i+1) x j->P tk n .stat i (one (ig 16 (tk i) (tk (j-1)).t) x) j
 |tblock {i j:Nat}{R:Fo}:(tk i).k=42->i<n->P tk n .block i R j->P tk n .stat i R j
 |tdo {i j:Nat}{x:Fo}:(tk i).k=1\/(tk i).k=40->i<n->P tk n .base i x j->(tk j).k≠46->(tk j).k≠47->j<n->P tk n .stat i (one (ig 6 (tk i) (tk (j-1)).t) x) j
 |tset {i k k1 j:Nat}{x R E:Fo}:(tk i).k=1\/(tk i).k=40->i<n->P tk n .base i x k->P tk n .moreB k R k1->(tk k1).k=47->k1<n->P tk n .exprs (k1+1) E j->P tk n .stat i (one (nd 5 (tk i) (tk (j-1)).t 0 ((x.app R).len:Nat) z0 []) ((x.app R).app E)) j
end Go.Proofs.YtjeamjdieofoeaaGreatDoor
namespace Go.Proofs.YtjeamjdieofoeaaGreatDoor
open Go.Maps Go.WideMaps
variable{W W':World}{a:Addr}{b base c k n:Nat}{l:List ByteArray}{t:TypeId}{v vk vn:Value}
theorem kqf{a b:Int}(h:a=b)(c:Int)(e:(b==c)=X):(a==c)=X:=by rw[h];exact e
theorem kqt{a b:Int}(h:a=b)(c:Int)(e:(b==c)=C):(a==c)=C:=by rw[h];exact e
theorem kqs{a b:Int}(h:a=b):(a==b)=C:=by rw[h];exact beq_self_eq_true b
end Go.Proofs.YtjeamjdieofoeaaGreatDoor
namespace Go.Proofs
open Go.Shelf
def Tryz.lays170_ren:K:=⟨fun|170=>234|n=>n,fun|70=>246|3=>3|0=>0|72=>248|37=>39|5=>5|n=>n,fun|n=>n⟩
theorem Tryz.lays170:Go.Proofs.Lays.n170 F Tryz.lays170_ren:={
 mixed:=by kernel_rfl
 f170:=Tryz.func234.trans (congrArg A (by kernel_rfl))
 t0:=Tryz.underlying0
 a0:=Tryz.isAgg0
 z0:=Tryz.sizeOf0
 v0:=Tryz.zeroValue0
 t3:=Tryz.underlying3
 a3:=O
 z3:=L
 v3:=Tryz.zeroValue3
 t37:=Tryz.underlying39
 a37:=Tryz.isAgg39
 z37:=Tryz.sizeOf39
 v37:=Tryz.zeroValue39
 t70:=Tryz.underlying246
 a70:=Tryz.isAgg246
 z70:=Tryz.sizeOf246
 v70:=Tryz.zeroValue246
 t72:=Tryz.underlying248
 a72:=Tryz.isAgg248
 z72:=Tryz.sizeOf248
 v72:=Tryz.zeroValue248}
def Tryz.lays169_ren:K:=⟨fun|169=>235|n=>n,fun|70=>246|9=>9|0=>0|72=>248|37=>39|127=>274|3=>3|5=>5|n=>n,fun|n=>n⟩
theorem Tryz.lays169:Go.Proofs.Lays.n169 F Tryz.lays169_ren:={
 mixed:=by kernel_rfl
 f169:=Tryz.func235.trans (congrArg A (by kernel_rfl))
 t0:=Tryz.underlying0
 a0:=Tryz.isAgg0
 z0:=Tryz.sizeOf0
 v0:=Tryz.zeroValue0
 t3:=Tryz.underlying3
 a3:=O
 z3:=L
 v3:=Tryz.zeroValue3
 t9:=Tryz.underlying9
 a9:=Tryz.isAgg9
 z9:=Tryz.sizeOf9
 v9:=Tryz.zeroValue9
 t37:=Tryz.underlying39
 a37:=Tryz.isAgg39
 z37:=Tryz.sizeOf39
 v37:=Tryz.zeroValue39
 t70:=Tryz.underlying246
 a70:=Tryz.isAgg246
 z70:=Tryz.sizeOf246
 v70:=Tryz.zeroValue246
 t72:=Tryz.underlying248
 a72:=Tryz.isAgg248
 z72:=Tryz.sizeOf248
 v72:=Tryz.zeroValue248
 t127:=Tryz.underlying274
 a127:=Tryz.isAgg274
 z127:=Tryz.sizeOf274
 v127:=Tryz.zeroValue274}
theorem Tryz.Builder_Extra_169:Builder.Extra F Tryz.lays169_ren:={
 sizeBuilder:=by kernel_rfl
 liesBuilder:=by kernel_rfl
 t5:=Tryz.underlying5
 a5:=Tryz.isAgg5
 z5:=Tryz.sizeOf5
 v5:=Tryz.zeroValue5
 infoByte:=by kernel_rfl
 cellsByte:=by kernel_rfl
 sizeByte:=by kernel_rfl
 neB5:=by decide}
def Tryz.lays241_ren:K:=⟨fun|241=>265|277=>285|n=>n,fun|70=>246|3=>3|0=>0|72=>248|37=>39|5=>5|n=>n,fun|n=>n⟩
theorem Tryz.lays241:Go.Proofs.Lays.n241 F Tryz.lays241_ren:={
 mixed:=by kernel_rfl
 f241:=Tryz.func265.trans (congrArg A (by kernel_rfl))
 f277:=Tryz.func285.trans (congrArg A (by kernel_rfl))
 t0:=Tryz.underlying0
 a0:=Tryz.isAgg0
 z0:=Tryz.sizeOf0
 v0:=Tryz.zeroValue0
 t3:=Tryz.underlying3
 a3:=O
 z3:=L
 v3:=Tryz.zeroValue3
 t37:=Tryz.underlying39
 a37:=Tryz.isAgg39
 z37:=Tryz.sizeOf39
 v37:=Tryz.zeroValue39
 t70:=Tryz.underlying246
 a70:=Tryz.isAgg246
 z70:=Tryz.sizeOf246
 v70:=Tryz.zeroValue246
 t72:=Tryz.underlying248
 a72:=Tryz.isAgg248
 z72:=Tryz.sizeOf248
 v72:=Tryz.zeroValue248}
theorem Tryz.Builder_Extra_241:Builder.Extra F Tryz.lays241_ren:={
 sizeBuilder:=by kernel_rfl
 liesBuilder:=by kernel_rfl
 t5:=Tryz.underlying5
 a5:=Tryz.isAgg5
 z5:=Tryz.sizeOf5
 v5:=Tryz.zeroValue5
 infoByte:=by kernel_rfl
 cellsByte:=by kernel_rfl
 sizeByte:=by kernel_rfl
 neB5:=by decide}
open Go.RowKit in
theorem Tryz.Builder_grow_fresh(B b n:Nat)(w:Q)(a:B<=b)(d:w.heap[b]?=A (A0 #[Ax (A ⟨b,0,G⟩),V G 0 0] 248 (0,0)))(c:B<=w.heap.size)(f:n<=281474976710656):
  u F 265 #[Ax (A ⟨b,0,G⟩),I J n] w fun e w'=>e= M (A2 #[])/\(Lib.BuilderAt 248 5 B b (Ax (A ⟨b,0,G⟩)) [] w'/\Z B w w'):=Any.Builder_grow_fresh Tryz.lays241 Tryz.Builder_Extra_241 B b n w a d c f
open Go.RowKit in
theorem Tryz.Builder_Len_f(B b:Nat)(a:List U)(w:Q)(h:Lib.IsBuilderF 248 5 B b a w):
  u F 234 #[Ax (A ⟨b,0,G⟩)] w fun e w'=>e= M (I J a.length)/\w'=w:=Any.Builder_Len_f Tryz.lays170 B b a w h
open Go.RowKit in
theorem Tryz.Builder_String_any_k(B b:Nat)(l:List UInt8)(w:Q)(h:Lib.IsBuilderF 248 5 B b (Lib.byteCells l) w)(a:B<=w.heap.size):
  u F 235 #[Ax (A ⟨b,0,G⟩)] w fun e w'=>e= M (H ⟨l.toArray⟩)/\(Lib.IsBuilderF 248 5 B b (Lib.byteCells l) w'/\Z B w w'/\Lib.OthersKept 5 (A b) w w'):=Any.Builder_String_any_k Tryz.lays169 Tryz.Builder_Extra_169 B b l w h a
