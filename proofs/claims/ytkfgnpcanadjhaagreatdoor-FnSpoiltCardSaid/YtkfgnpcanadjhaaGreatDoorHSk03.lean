import Derived.Shelf.Strings.OnBuilder
import Derived.Shelf.Small.Wraps
import Derived.Shelf.Strings.BuilderK
import Derived.Shelf.Strconv.Itoa4
import Derived.Shelf.Strconv.ErrVarParseInt
import Derived.Shelf.Pu.ErrVarParseUint
import Derived.Shelf.Strings.Fields
import Derived.Shelf.Strings.Repeat
import Derived.Shelf.Unicode.IsSpaceAny
import Derived.Shelf.Unicode.ExclAny
import Derived.Shelf.Slices.Empties2
import Derived.ProofKit
import Derived.OneCell
import Derived.RangeFuncBox
import Derived.Deep.RegionHeld3
import Derived.Test.YtkfgnpcanadjhaaGreatDoorHSk01
set_option linter.all false
set_option maxRecDepth 100000
namespace Go.Proofs
open Go.Shelf
def Tryz.lays103_ren:Go.Shelf.Ren:=⟨fun|103=>267|210=>275|206=>248|n=>n,fun|9=>9|4=>4|24=>200|3=>3|n=>n,fun|n=>n⟩
theorem Tryz.lays103:Go.Proofs.Lays.n103 Tryz.prog Tryz.lays103_ren:={
 mixed:=by kernel_rfl
 f103:=Tryz.func267.trans (congrArg some (by kernel_rfl))
 f206:=Tryz.func248.trans (congrArg some (by kernel_rfl))
 f210:=Tryz.func275.trans (congrArg some (by kernel_rfl))
 t3:=Tryz.underlying3
 a3:=Tryz.isAgg3
 z3:=Tryz.sizeOf3
 v3:=Tryz.zeroValue3
 t4:=Tryz.underlying4
 a4:=Tryz.isAgg4
 z4:=Tryz.sizeOf4
 v4:=Tryz.zeroValue4
 t9:=Tryz.underlying9
 a9:=Tryz.isAgg9
 z9:=Tryz.sizeOf9
 v9:=Tryz.zeroValue9
 t24:=Tryz.underlying200
 a24:=Tryz.isAgg200
 z24:=Tryz.sizeOf200
 v24:=Tryz.zeroValue200}
open Go.RowKit in
theorem Tryz.strings_CutPrefix(s p:ByteArray)(w:World):
  Calls Tryz.prog 267 #[.string s,.string p] w fun e a=>e= .returned (.tuple #[.string ⟨(Lib.trimPrefix s.data.toList p.data.toList).toArray⟩,.bool (Lib.hasPrefix s.data.toList p.data.toList)])/\a=w:=Any.strings_CutPrefix Tryz.lays103 s p w
def Tryz.lays104_ren:Go.Shelf.Ren:=⟨fun|104=>210|211=>251|207=>271|n=>n,fun|9=>9|4=>4|24=>200|3=>3|n=>n,fun|n=>n⟩
theorem Tryz.lays104:Go.Proofs.Lays.n104 Tryz.prog Tryz.lays104_ren:={
 mixed:=by kernel_rfl
 f104:=Tryz.func210.trans (congrArg some (by kernel_rfl))
 f207:=Tryz.func271.trans (congrArg some (by kernel_rfl))
 f211:=Tryz.func251.trans (congrArg some (by kernel_rfl))
 t3:=Tryz.underlying3
 a3:=Tryz.isAgg3
 z3:=Tryz.sizeOf3
 v3:=Tryz.zeroValue3
 t4:=Tryz.underlying4
 a4:=Tryz.isAgg4
 z4:=Tryz.sizeOf4
 v4:=Tryz.zeroValue4
 t9:=Tryz.underlying9
 a9:=Tryz.isAgg9
 z9:=Tryz.sizeOf9
 v9:=Tryz.zeroValue9
 t24:=Tryz.underlying200
 a24:=Tryz.isAgg200
 z24:=Tryz.sizeOf200
 v24:=Tryz.zeroValue200}
open Go.RowKit in
theorem Tryz.strings_CutSuffix(s p:ByteArray)(w:World)(a:s.size<=9223372036854775807):
  Calls Tryz.prog 210 #[.string s,.string p] w fun e b=>e= .returned (.tuple #[.string ⟨(Lib.trimSuffix s.data.toList p.data.toList).toArray⟩,.bool (Lib.hasSuffix s.data.toList p.data.toList)])/\b=w:=Any.strings_CutSuffix Tryz.lays104 s p w a
def Tryz.laysM173_ren:Go.Shelf.Ren:=⟨fun|173=>87|246=>149|283=>184|284=>185|285=>186|286=>187|129=>218|317=>217|318=>219|319=>220|320=>221|337=>256|338=>257|n=>n,fun|2=>2|3=>3|9=>9|4=>4|171=>213|0=>0|53=>38|37=>22|5=>5|173=>216|212=>236|51=>237|20=>20|213=>238|46=>124|232=>274|233=>275|n=>n,fun|17=>4|18=>8|19=>9|n=>n⟩
theorem Tryz.laysM173:Go.Proofs.LaysM.n173 Tryz.prog Tryz.laysM173_ren:={
 mixed:=by kernel_rfl
 f129:=Tryz.func218.trans (congrArg some (by kernel_rfl))
 f173:=Tryz.func87.trans (congrArg some (by kernel_rfl))
 f246:=Tryz.func149.trans (congrArg some (by kernel_rfl))
 f283:=Tryz.func184.trans (congrArg some (by kernel_rfl))
 f284:=Tryz.func185.trans (congrArg some (by kernel_rfl))
 f285:=Tryz.func186.trans (congrArg some (by kernel_rfl))
 f286:=Tryz.func187.trans (congrArg some (by kernel_rfl))
 f317:=Tryz.func217.trans (congrArg some (by kernel_rfl))
 f318:=Tryz.func219.trans (congrArg some (by kernel_rfl))
 f319:=Tryz.func220.trans (congrArg some (by kernel_rfl))
 f320:=Tryz.func221.trans (congrArg some (by kernel_rfl))
 f337:=Tryz.func256.trans (congrArg some (by kernel_rfl))
 f338:=Tryz.func257.trans (congrArg some (by kernel_rfl))
 t0:=Tryz.underlying0
 a0:=Tryz.isAgg0
 z0:=Tryz.sizeOf0
 v0:=Tryz.zeroValue0
 t2:=Tryz.underlying2
 a2:=Tryz.isAgg2
 z2:=Tryz.sizeOf2
 v2:=Tryz.zeroValue2
 t3:=Tryz.underlying3
 a3:=Tryz.isAgg3
 z3:=Tryz.sizeOf3
 v3:=Tryz.zeroValue3
 t4:=Tryz.underlying4
 a4:=Tryz.isAgg4
 z4:=Tryz.sizeOf4
 v4:=Tryz.zeroValue4
 t5:=Tryz.underlying5
 a5:=Tryz.isAgg5
 z5:=Tryz.sizeOf5
 v5:=Tryz.zeroValue5
 t9:=Tryz.underlying9
 a9:=Tryz.isAgg9
 z9:=Tryz.sizeOf9
 v9:=Tryz.zeroValue9
 t20:=Tryz.underlying20
 a20:=Tryz.isAgg20
 z20:=Tryz.sizeOf20
 v20:=Tryz.zeroValue20
 t37:=Tryz.underlying22
 a37:=Tryz.isAgg22
 z37:=Tryz.sizeOf22
 v37:=Tryz.zeroValue22
 t46:=Tryz.underlying124
 a46:=Tryz.isAgg124
 z46:=Tryz.sizeOf124
 v46:=Tryz.zeroValue124
 t51:=Tryz.underlying237
 a51:=Tryz.isAgg237
 z51:=Tryz.sizeOf237
 v51:=Tryz.zeroValue237
 t53:=Tryz.underlying38
 a53:=Tryz.isAgg38
 z53:=Tryz.sizeOf38
 v53:=Tryz.zeroValue38
 t171:=Tryz.underlying213
 a171:=Tryz.isAgg213
 z171:=Tryz.sizeOf213
 v171:=Tryz.zeroValue213
 t173:=Tryz.underlying216
 a173:=Tryz.isAgg216
 z173:=Tryz.sizeOf216
 v173:=Tryz.zeroValue216
 t212:=Tryz.underlying236
 a212:=Tryz.isAgg236
 z212:=Tryz.sizeOf236
 v212:=Tryz.zeroValue236
 t213:=Tryz.underlying238
 a213:=Tryz.isAgg238
 z213:=Tryz.sizeOf238
 t232:=Tryz.underlying274
 a232:=Tryz.isAgg274
 z232:=Tryz.sizeOf274
 v232:=Tryz.zeroValue274
 t233:=Tryz.underlying275
 a233:=Tryz.isAgg275
 z233:=Tryz.sizeOf275
 v233:=Tryz.zeroValue275
 g17:=by kernel_rfl
 g18:=by kernel_rfl
 g19:=by kernel_rfl
 i0:=by kernel_rfl
 i2:=by kernel_rfl
 i3:=by kernel_rfl
 i4:=by kernel_rfl
 i5:=by kernel_rfl
 i9:=by kernel_rfl
 i20:=by kernel_rfl
 i37:=by kernel_rfl
 i46:=by kernel_rfl
 i51:=by kernel_rfl
 i53:=by kernel_rfl
 i171:=by kernel_rfl
 i173:=by kernel_rfl
 i212:=by kernel_rfl
 i232:=by kernel_rfl
 i233:=by kernel_rfl
 m17:=by kernel_rfl
 m18:=by kernel_rfl
 m19:=by kernel_rfl}
open Go.RowKit Go.Sort Go.Lib in
theorem Tryz.strconv_FormatInt_10(n:Int)(a: -9223372036854775808<=n)(b:n<=9223372036854775807)(w:World)(c:Lib.TabIs Tryz.prog w "internal/strconv.uint64pow10" .u64 Lib.pow10Tab):
  Calls Tryz.prog 87 #[.int .i64 n,.int .i64 10] w fun e d=>e= .returned (.string ⟨(Lib.itoa n).toArray⟩)/\∃k os,d=grow (w.drewN k) os:=Any.strconv_FormatInt_10 Tryz.laysM173 n a b w c
def Tryz.lays321_ren:Go.Shelf.Ren:=⟨fun|321=>281|n=>n,fun|5=>5|n=>n,fun|n=>n⟩
theorem Tryz.lays321:Go.Proofs.Lays.n321 Tryz.prog Tryz.lays321_ren:={
 mixed:=by kernel_rfl
 f321:=Tryz.func281.trans (congrArg some (by kernel_rfl))
 t5:=Tryz.underlying5
 a5:=Tryz.isAgg5
 z5:=Tryz.sizeOf5
 v5:=Tryz.zeroValue5}
open Go.RowKit in
theorem Tryz.internal_strconv_lower(c:Int)(w:World):
  Calls Tryz.prog 281 #[.int .u8 c] w fun e a=>e= .returned (.int .u8 (bits .or .u8 c 32))/\a=w:=Any.internal_strconv_lower Tryz.lays321 c w
def Tryz.laysC174_ren:Go.Shelf.Ren:=⟨fun|174=>269|247=>278|245=>277|287=>276|279=>283|280=>284|281=>285|282=>286|321=>281|322=>282|316=>146|171=>86|205=>287|243=>148|246=>149|283=>184|284=>185|285=>186|286=>187|129=>218|317=>217|318=>219|319=>220|320=>221|337=>256|338=>257|n=>n,fun|9=>9|3=>3|2=>2|75=>77|85=>267|4=>4|167=>288|5=>5|53=>38|175=>265|46=>124|168=>290|37=>22|0=>0|210=>296|21=>21|127=>117|145=>300|143=>298|171=>213|173=>216|212=>236|51=>237|20=>20|213=>238|232=>274|233=>275|80=>81|n=>n,fun|15=>10|16=>11|17=>4|18=>8|19=>9|n=>n⟩
theorem Tryz.laysC174:Go.Proofs.LaysC.n174 Tryz.prog Tryz.laysC174_ren:={
 mixed:=by kernel_rfl
 f129:=Tryz.func218.trans (congrArg some (by kernel_rfl))
 f171:=Tryz.func86.trans (congrArg some (by kernel_rfl))
 f174:=Tryz.func269.trans (congrArg some (by kernel_rfl))
 f205:=Tryz.func287.trans (congrArg some (by kernel_rfl))
 f243:=Tryz.func148.trans (congrArg some (by kernel_rfl))
 f245:=Tryz.func277.trans (congrArg some (by kernel_rfl))
 f246:=Tryz.func149.trans (congrArg some (by kernel_rfl))
 f247:=Tryz.func278.trans (congrArg some (by kernel_rfl))
 f279:=Tryz.func283.trans (congrArg some (by kernel_rfl))
 f280:=Tryz.func284.trans (congrArg some (by kernel_rfl))
 f281:=Tryz.func285.trans (congrArg some (by kernel_rfl))
 f282:=Tryz.func286.trans (congrArg some (by kernel_rfl))
 f283:=Tryz.func184.trans (congrArg some (by kernel_rfl))
 f284:=Tryz.func185.trans (congrArg some (by kernel_rfl))
 f285:=Tryz.func186.trans (congrArg some (by kernel_rfl))
 f286:=Tryz.func187.trans (congrArg some (by kernel_rfl))
 f287:=Tryz.func276.trans (congrArg some (by kernel_rfl))
 f316:=Tryz.func146.trans (congrArg some (by kernel_rfl))
 f317:=Tryz.func217.trans (congrArg some (by kernel_rfl))
 f318:=Tryz.func219.trans (congrArg some (by kernel_rfl))
 f319:=Tryz.func220.trans (congrArg some (by kernel_rfl))
 f320:=Tryz.func221.trans (congrArg some (by kernel_rfl))
 f321:=Tryz.func281.trans (congrArg some (by kernel_rfl))
 f322:=Tryz.func282.trans (congrArg some (by kernel_rfl))
 f337:=Tryz.func256.trans (congrArg some (by kernel_rfl))
 f338:=Tryz.func257.trans (congrArg some (by kernel_rfl))
 t0:=Tryz.underlying0
 a0:=Tryz.isAgg0
 z0:=Tryz.sizeOf0
 v0:=Tryz.zeroValue0
 t2:=Tryz.underlying2
 a2:=Tryz.isAgg2
 z2:=Tryz.sizeOf2
 v2:=Tryz.zeroValue2
 t3:=Tryz.underlying3
 a3:=Tryz.isAgg3
 z3:=Tryz.sizeOf3
 v3:=Tryz.zeroValue3
 t4:=Tryz.underlying4
 a4:=Tryz.isAgg4
 z4:=Tryz.sizeOf4
 v4:=Tryz.zeroValue4
 t5:=Tryz.underlying5
 a5:=Tryz.isAgg5
 z5:=Tryz.sizeOf5
 v5:=Tryz.zeroValue5
 t9:=Tryz.underlying9
 a9:=Tryz.isAgg9
 z9:=Tryz.sizeOf9
 v9:=Tryz.zeroValue9
 t20:=Tryz.underlying20
 a20:=Tryz.isAgg20
 z20:=Tryz.sizeOf20
 v20:=Tryz.zeroValue20
 t21:=Tryz.underlying21
 a21:=Tryz.isAgg21
 z21:=Tryz.sizeOf21
 v21:=Tryz.zeroValue21
 t37:=Tryz.underlying22
 a37:=Tryz.isAgg22
 z37:=Tryz.sizeOf22
 v37:=Tryz.zeroValue22
 t46:=Tryz.underlying124
 a46:=Tryz.isAgg124
 z46:=Tryz.sizeOf124
 v46:=Tryz.zeroValue124
 t51:=Tryz.underlying237
 a51:=Tryz.isAgg237
 z51:=Tryz.sizeOf237
 v51:=Tryz.zeroValue237
 t53:=Tryz.underlying38
 a53:=Tryz.isAgg38
 z53:=Tryz.sizeOf38
 v53:=Tryz.zeroValue38
 t75:=Tryz.underlying77
 a75:=Tryz.isAgg77
 z75:=Tryz.sizeOf77
 v75:=Tryz.zeroValue77
 t85:=Tryz.underlying267
 a85:=Tryz.isAgg267
 z85:=Tryz.sizeOf267
 v85:=Tryz.zeroValue267
 t127:=Tryz.underlying117
 a127:=Tryz.isAgg117
 z127:=Tryz.sizeOf117
 v127:=Tryz.zeroValue117
 t143:=Tryz.underlying298
 a143:=Tryz.isAgg298
 z143:=Tryz.sizeOf298
 v143:=Tryz.zeroValue298
 t145:=Tryz.underlying300
 a145:=Tryz.isAgg300
 z145:=Tryz.sizeOf300
 v145:=Tryz.zeroValue300
 t167:=Tryz.underlying288
 a167:=Tryz.isAgg288
 z167:=Tryz.sizeOf288
 v167:=Tryz.zeroValue288
 t168:=Tryz.underlying290
 a168:=Tryz.isAgg290
 z168:=Tryz.sizeOf290
 v168:=Tryz.zeroValue290
 t171:=Tryz.underlying213
 a171:=Tryz.isAgg213
 z171:=Tryz.sizeOf213
 v171:=Tryz.zeroValue213
 t173:=Tryz.underlying216
 a173:=Tryz.isAgg216
 z173:=Tryz.sizeOf216
 v173:=Tryz.zeroValue216
 t175:=Tryz.underlying265
 a175:=Tryz.isAgg265
 z175:=Tryz.sizeOf265
 v175:=Tryz.zeroValue265
 t210:=Tryz.underlying296
 a210:=Tryz.isAgg296
 z210:=Tryz.sizeOf296
 v210:=Tryz.zeroValue296
 t212:=Tryz.underlying236
 a212:=Tryz.isAgg236
 z212:=Tryz.sizeOf236
 v212:=Tryz.zeroValue236
 t213:=Tryz.underlying238
 a213:=Tryz.isAgg238
 z213:=Tryz.sizeOf238
 t232:=Tryz.underlying274
 a232:=Tryz.isAgg274
 z232:=Tryz.sizeOf274
 v232:=Tryz.zeroValue274
 t233:=Tryz.underlying275
 a233:=Tryz.isAgg275
 z233:=Tryz.sizeOf275
 v233:=Tryz.zeroValue275
 g15:=by kernel_rfl
 g16:=by kernel_rfl
 g17:=by kernel_rfl
 g18:=by kernel_rfl
 g19:=by kernel_rfl
 t80:=Tryz.underlying81
 a80:=Tryz.isAgg81
 z80:=Tryz.sizeOf81
 v80:=Tryz.zeroValue81
 i0:=by kernel_rfl
 i2:=by kernel_rfl
 i3:=by kernel_rfl
 i4:=by kernel_rfl
 i5:=by kernel_rfl
 i9:=by kernel_rfl
 i20:=by kernel_rfl
 i21:=by kernel_rfl
 i37:=by kernel_rfl
 i46:=by kernel_rfl
 i51:=by kernel_rfl
 i53:=by kernel_rfl
 i75:=by kernel_rfl
 i80:=by kernel_rfl
 i85:=by kernel_rfl
 i127:=by kernel_rfl
 i143:=by kernel_rfl
 i145:=by kernel_rfl
 i167:=by kernel_rfl
 i168:=by kernel_rfl
 i171:=by kernel_rfl
 i173:=by kernel_rfl
 i175:=by kernel_rfl
 i210:=by kernel_rfl
 i212:=by kernel_rfl
 i232:=by kernel_rfl
 i233:=by kernel_rfl
 m15:=by kernel_rfl
 m16:=by kernel_rfl
 m17:=by kernel_rfl
 m18:=by kernel_rfl
 m19:=by kernel_rfl
 c0:=by kernel_rfl
 c2:=by kernel_rfl
 c3:=by kernel_rfl
 c4:=by kernel_rfl
 c5:=by kernel_rfl
 c9:=by kernel_rfl
 c20:=by kernel_rfl
 c21:=by kernel_rfl
 c37:=by kernel_rfl
 c46:=by kernel_rfl
 c51:=by kernel_rfl
 c53:=by kernel_rfl
 c75:=by kernel_rfl
 c80:=by kernel_rfl
 c85:=by kernel_rfl
 c127:=by kernel_rfl
 c143:=by kernel_rfl
 c145:=by kernel_rfl
 c167:=by kernel_rfl
 c168:=by kernel_rfl
 c171:=by kernel_rfl
 c173:=by kernel_rfl
 c175:=by kernel_rfl
 c210:=by kernel_rfl
 c212:=by kernel_rfl
 c213:=by kernel_rfl
 c232:=by kernel_rfl
 c233:=by kernel_rfl}
open Go.RowKit in
theorem Tryz.strconv_ParseInt_10_at64_ok(s:ByteArray)(c:s.size<=9223372036854775806)(v:Int)(b:Lib.parseIntB 64 s.data.toList= .ok v)(w:World):
  Calls Tryz.prog 269 #[.string s,.int .i64 10,.int .i64 64] w fun e a=>e= .returned (.tuple #[.int .i64 v,.nilIface])/\(a=w\/∃t,a=Lib.bytesWorld w 5 t):=Any.strconv_ParseInt_10_at64_ok Tryz.laysC174 s c v b w
open Go.RowKit in
theorem Tryz.strconv_ParseInt_10_at64_syntax(s:ByteArray)(f:s.size<=281474976710656)(c:Lib.parseIntB 64 s.data.toList= .«syntax»)(a:Value)(w:World)(g:w.cell? ⟨10,0,none⟩=some a)(d:a= .nilIface\/∃i h,a= .iface i h):
  Calls Tryz.prog 269 #[.string s,.int .i64 10,.int .i64 64] w fun e b=>∃N,e= .returned (.tuple #[.int .i64 (0),.iface 290 (.pointer (some ⟨N,0,none⟩))])/\w.heap.size<=N/\b.heap[N]?=some (.cells #[.string ⟨#[80,97,114,115,101,73,110,116]⟩,.string s,a] 296 (0,0))/\Below w.heap.size w b:=Any.strconv_ParseInt_10_at64_syntax Tryz.laysC174 s f c a w g d
open Go.RowKit in
theorem Tryz.strconv_ParseInt_10_at64_range(s:ByteArray)(f:s.size<=281474976710656)(c:Lib.parseIntB 64 s.data.toList= .range)(a:Value)(w:World)(g:w.cell? ⟨11,0,none⟩=some a)(d:a= .nilIface\/∃i h,a= .iface i h):
  Calls Tryz.prog 269 #[.string s,.int .i64 10,.int .i64 64] w fun e b=>∃N,e= .returned (.tuple #[.int .i64 (Lib.intSat 64 s.data.toList),.iface 290 (.pointer (some ⟨N,0,none⟩))])/\w.heap.size<=N/\b.heap[N]?=some (.cells #[.string ⟨#[80,97,114,115,101,73,110,116]⟩,.string s,a] 296 (0,0))/\Below w.heap.size w b:=Any.strconv_ParseInt_10_at64_range Tryz.laysC174 s f c a w g d
def Tryz.lays99_ren:Go.Shelf.Ren:=⟨fun|99=>207|206=>248|n=>n,fun|9=>9|4=>4|3=>3|n=>n,fun|n=>n⟩
theorem Tryz.lays99:Go.Proofs.Lays.n99 Tryz.prog Tryz.lays99_ren:={
 mixed:=by kernel_rfl
 f99:=Tryz.func207.trans (congrArg some (by kernel_rfl))
 f206:=Tryz.func248.trans (congrArg some (by kernel_rfl))
 t3:=Tryz.underlying3
 a3:=Tryz.isAgg3
 z3:=Tryz.sizeOf3
 v3:=Tryz.zeroValue3
 t4:=Tryz.underlying4
 a4:=Tryz.isAgg4
 z4:=Tryz.sizeOf4
 v4:=Tryz.zeroValue4
 t9:=Tryz.underlying9
 a9:=Tryz.isAgg9
 z9:=Tryz.sizeOf9
 v9:=Tryz.zeroValue9}
open Go.RowKit Go.Lib in
theorem Tryz.strings_HasPrefix(s p:ByteArray)(w:World):
  Calls Tryz.prog 207 #[.string s,.string p] w fun e a=>e= .returned (.bool (Lib.hasPrefix s.data.toList p.data.toList))/\a=w:=Any.strings_HasPrefix Tryz.lays99 s p w
def Tryz.lays157_ren:Go.Shelf.Ren:=⟨fun|157=>209|229=>249|199=>250|261=>270|311=>279|312=>280|n=>n,fun|9=>9|31=>48|3=>3|5=>5|4=>4|119=>257|0=>0|40=>259|152=>269|21=>21|154=>271|51=>237|141=>273|196=>280|193=>277|198=>283|49=>281|194=>278|201=>286|226=>293|46=>124|227=>294|n=>n,fun|0=>5|6=>7|n=>n⟩
theorem Tryz.lays157:Go.Proofs.Lays.n157 Tryz.prog Tryz.lays157_ren:={
 mixed:=by kernel_rfl
 f157:=Tryz.func209.trans (congrArg some (by kernel_rfl))
 f199:=Tryz.func250.trans (congrArg some (by kernel_rfl))
 f229:=Tryz.func249.trans (congrArg some (by kernel_rfl))
 f261:=Tryz.func270.trans (congrArg some (by kernel_rfl))
 f311:=Tryz.func279.trans (congrArg some (by kernel_rfl))
 f312:=Tryz.func280.trans (congrArg some (by kernel_rfl))
 t0:=Tryz.underlying0
 a0:=Tryz.isAgg0
 z0:=Tryz.sizeOf0
 v0:=Tryz.zeroValue0
 t3:=Tryz.underlying3
 a3:=Tryz.isAgg3
 z3:=Tryz.sizeOf3
 v3:=Tryz.zeroValue3
 t4:=Tryz.underlying4
 a4:=Tryz.isAgg4
 z4:=Tryz.sizeOf4
 v4:=Tryz.zeroValue4
 t5:=Tryz.underlying5
 a5:=Tryz.isAgg5
 z5:=Tryz.sizeOf5
 v5:=Tryz.zeroValue5
 t9:=Tryz.underlying9
 a9:=Tryz.isAgg9
 z9:=Tryz.sizeOf9
 v9:=Tryz.zeroValue9
 t21:=Tryz.underlying21
 a21:=Tryz.isAgg21
 z21:=Tryz.sizeOf21
 v21:=Tryz.zeroValue21
 t31:=Tryz.underlying48
 a31:=Tryz.isAgg48
 z31:=Tryz.sizeOf48
 v31:=Tryz.zeroValue48
 t40:=Tryz.underlying259
 a40:=Tryz.isAgg259
 z40:=Tryz.sizeOf259
 v40:=Tryz.zeroValue259
 t46:=Tryz.underlying124
 a46:=Tryz.isAgg124
 z46:=Tryz.sizeOf124
 v46:=Tryz.zeroValue124
 t49:=Tryz.underlying281
 a49:=Tryz.isAgg281
 z49:=Tryz.sizeOf281
 v49:=Tryz.zeroValue281
 t51:=Tryz.underlying237
 a51:=Tryz.isAgg237
 z51:=Tryz.sizeOf237
 v51:=Tryz.zeroValue237
 t119:=Tryz.underlying257
 a119:=Tryz.isAgg257
 z119:=Tryz.sizeOf257
 t141:=Tryz.underlying273
 a141:=Tryz.isAgg273
 z141:=Tryz.sizeOf273
 v141:=Tryz.zeroValue273
 t152:=Tryz.underlying269
 a152:=Tryz.isAgg269
 z152:=Tryz.sizeOf269
 v152:=Tryz.zeroValue269
 t154:=Tryz.underlying271
 a154:=Tryz.isAgg271
 z154:=Tryz.sizeOf271
 v154:=Tryz.zeroValue271
 t193:=Tryz.underlying277
 a193:=Tryz.isAgg277
 z193:=Tryz.sizeOf277
 v193:=Tryz.zeroValue277
 t194:=Tryz.underlying278
 a194:=Tryz.isAgg278
 z194:=Tryz.sizeOf278
 v194:=Tryz.zeroValue278
 t196:=Tryz.underlying280
 a196:=Tryz.isAgg280
 z196:=Tryz.sizeOf280
 v196:=Tryz.zeroValue280
 t198:=Tryz.underlying283
 a198:=Tryz.isAgg283
 z198:=Tryz.sizeOf283
 v198:=Tryz.zeroValue283
 t201:=Tryz.underlying286
 a201:=Tryz.isAgg286
 z201:=Tryz.sizeOf286
 v201:=Tryz.zeroValue286
 t226:=Tryz.underlying293
 a226:=Tryz.isAgg293
 z226:=Tryz.sizeOf293
 v226:=Tryz.zeroValue293
 t227:=Tryz.underlying294
 a227:=Tryz.isAgg294
 z227:=Tryz.sizeOf294
 v227:=Tryz.zeroValue294
 g0:=by kernel_rfl
 g6:=by kernel_rfl}
open Go.RowKit Go.Lib in
theorem Tryz.strings_Fields(s:ByteArray)(w:World)(c:s.size<4294967281)(a:∀(j:Nat) b,s.data.toList[j]?=some b->b.toNat<128)(d:Lib.TabIs Tryz.prog w "strings.asciiSpace" .u8 Lib.asciiSpaceTab):
  Calls Tryz.prog 209 #[.string s] w fun e f=>
   e= .returned (.slice (some ⟨w.heap.size,0,none⟩) (Lib.fields s.data.toList).length (Lib.fields s.data.toList).length)/\f=w.alloc (.cells ((Lib.fields s.data.toList).map fun l=>Value.string ⟨l.toArray⟩).toArray 9):=Any.strings_Fields Tryz.lays157 (by kernel_rfl) (by kernel_rfl) s w c a d
end Go.Proofs
namespace Go.Proofs.YtkfgnpcanadjhaaGreatDoor
def kC(t:Int):Bool:=decide (t=25\/t=50\/t=62\/t=69)
def iL(t:Int):Bool:=decide (t=10\/t=26\/60<t)
def dw(t:Int):Bool:=decide (t=1\/t=2\/t=3\/t=4\/t=24\/t=29\/t=17\/t=49\/t=18\/t=40\/t=42)||kC t
def gA(t:Int):List Int×Bool:=if t=22 then([t,1,104,103],true) else if t=13 then([t,1,47,119],true) else if t=18 then([t,1,133],true) else if t=20 then([t,119,132,105],true) else if t=31 then([t,119,132],true) else if t=19 then([t,1,106],true) else if t=11 then([t],true) else if t=23 then([t],true) else if t=27 then([t,108],true) else if t=30 then([t,132,12,1,109,132],true) else if t=28 then([t,119],true) else if t=14 then([t,116],true) else if t=42 then([132],true) else if t=1 then([t,110],true) else if t=40 then([t,119,41,112],true) else([],false)
def na(t a c:Int):List Int:=if t=48 then [t,1,a] else if t=44 then [t,119,45,a] else if t=40 then [t,123,41,c] else []
def DH(t:Int):List Int×Bool:=if kC t=true then([t,120],true) else if t=1 then([t,122],true) else if t=40 then([t,119,41,122],true) else if t=42 then([t,129,43],true) else if t=18 then([t,133],true) else([t],dw t)
def Jr(t:Int):List Int×Bool:=if t=5 then([t,100],true) else if(gA t).2=true then((gA t).1++[101],true) else([],true)
def adh(t:Int):List Int×Bool:=if t=5 then([t,100],true) else([],true)
def aic(t:Int):List Int×Bool:=([40,126,41,132],decide (t=40))
def adi(t:Int):List Int×Bool:=if t=47 then([t,124],true) else([],true)
def adj(t:Int):List Int×Bool:=if t=46 then([t,1,104],true) else([],true)
def LG(t:Int):List Int×Bool:=if t=15 then([t,119,132,105],true) else if t=16 then([t,132],true) else([],true)
def adk(t:Int):List Int×Bool:=if t=47 then([t,119,46,119,107,132],true) else([104,21,119,132],decide (t=46\/t=21))
def adl(t:Int):List Int×Bool:=if t=46 then([t,119],true) else([],true)
def adm(t:Int):List Int×Bool:=if dw t=true then([124],true) else([],true)
def adn(t:Int):List Int×Bool:=if t=46 then([t,1],true) else([],true)
def LH(t:Int):List Int×Bool:=if t=48 then([t,1,110],true) else if t=44 then([t,119,45,110],true) else if t=40 then([t,123,41,111],true) else if t=46 then([t,113],true) else if t=47 then([t,124],true) else([],false)
def af7(t:Int):List Int×Bool:=if t=48 then([t,1,110],true) else if t=44 then([t,119,45,110],true) else if t=40 then([t,123,41,111],true) else([],true)
def af8(t:Int):List Int×Bool:=if t=48 then([t,1,110],true) else if t=44 then([t,119,45,110],true) else if t=40 then([t,123,41,111],true) else([],false)
def LI(t:Int):List Int×Bool:=if t=1 then([t,114],true) else if t=40 then([t,119,41,115],true) else([],false)
def LJ(t:Int):List Int×Bool:=if t=48 then([t,1,114],true) else if t=44 then([t,119,45,114],true) else if t=40 then([t,123,41,115],true) else if t=46 then([t,113],true) else if t=47 then([t,124],true) else([],false)
def af9(t:Int):List Int×Bool:=if t=48 then([t,1,114],true) else if t=44 then([t,119,45,114],true) else if t=40 then([t,123,41,115],true) else([],false)
def LK(t:Int):List Int×Bool:=if t=1 then([t,117],true) else if t=40 then([t,119,41,117],true) else([],false)
def aga(t:Int):List Int×Bool:=if t=48 then([t,1,117],true) else if t=44 then([t,119,45,117],true) else if t=40 then([t,123,41,118],true) else([],false)
def agb(t:Int):List Int×Bool:=if t=48 then([t,1,117],true) else if t=44 then([t,119,45,117],true) else if t=40 then([t,123,41,118],true) else([],true)
def ado(t:Int):List Int×Bool:=([120,121],dw t)
def aid(t:Int):List Int×Bool:=DH t
def adp(t:Int):List Int×Bool:=if iL t=true then([t,119],true) else([],true)
def adq(t:Int):List Int×Bool:=(na t 122 122,true)
def adr(t:Int):List Int×Bool:=if dw t=true then([124],true) else([],true)
def agc(t:Int):List Int×Bool:=([119,125],dw t)
def ads(t:Int):List Int×Bool:=if t=46 then([t,119,125],true) else([],true)
def LL(t:Int):List Int×Bool:=if t=1 then([t,127],true) else if t=49 then([t],true) else([],true)
def adt(t:Int):List Int×Bool:=if t=46 then([t,128],true) else([],true)
def L8(t:Int):List Int×Bool:=if t=1 then([t,127],true) else if t=49 then([t],true) else([],false)
def adu(t:Int):List Int×Bool:=if dw t=true then([131,130],true) else if t=48 then([131,130],true) else if t=44 then([131,130],true) else([],true)
def adv(t:Int):List Int×Bool:=if t=46 then([t,129],true) else([],true)
def L9(t:Int):List Int×Bool:=if t=48 then([t,1,47,119],true) else if t=44 then([t,119,45,47,119],true) else([119],dw t)
def aaa(t:Int):List Int×Bool:=([42,100,43],decide (t=42))
def adw(t:Int):List Int×Bool:=([40,126,41,132],decide (t=40))
def xE(s t:Int):List Int×Bool:=
 if s=100 then Jr t else if s=101 then adh t else if s=102 then aic t else if s=103 then adi t else if s=104 then adj t else if s=105 then LG t else if s=106 then adk t else if s=107 then adl t else if s=108 then adm t else if s=109 then adn t else if s=110 then LH t else if s=111 then af7 t else if s=112 then af8 t else if s=113 then LI t else if s=114 then LJ t else if s=115 then af9 t else if s=116 then LK t else if s=117 then aga t else if s=118 then agb t else if s=119 then ado t else if s=120 then aid t else if s=121 then adp t else if s=122 then adq t else if s=123 then adr t else if s=124 then agc t else if s=125 then ads t else if s=126 then LL t else if s=127 then adt t else if s=128 then L8 t else if s=129 then adu t else if s=130 then adv t else if s=131 then L9 t else if s=132 then aaa t else adw t
def iF:Nat->List Int->Int->Nat->Option (List Int×Option Bool×Nat)
 |0,_,_,_=>none
 |_+1,[],_,n=>some ([],none,n)
 |f+1,s::r,t,n=>if s<100 then some (r,some (decide (s=t)),n) else if(xE s t).2=true then iF f ((xE s t).1++r) t (n+(xE s t).1.length) else some (r,some false,n)
def dF:List Int->Int->List Int×Bool
 |[],_=>([],false)
 |s::r,t=>if s<100 then(r,decide (s=t)) else if(xE s t).1=[]/\(xE s t).2=true then dF r t else match iF 8 [s] t 0 with|some (a,some b,_)=>(a++r,b)|_=>([],false)
def adx(s t:Int):Bool:=
 (xE s t).1.all (fun b=>decide (b<=133))&&(decide ((xE s t).1.length<=7)&&
 (if(xE s t).1=[]/\(xE s t).2=true then true else match iF 8 [s] t 0 with|some (_,some _,a)=>decide (a<=20)|_=>false))
theorem ady:((List.range 34).all fun s=>(List.range 78).all fun t=>adx ((s:Int)+100) ((t:Int)+1))=true:=by decide+kernel
theorem aab{s t:Int}(e:100<=s)(f:s<=133)(g:1<=t)(h:t<=78):adx s t=true:=by
 have d:=List.all_eq_true.1 ady (s-100).toNat (by rw[wG];omega)
 have a:=List.all_eq_true.1 d (t-1).toNat (by rw[wG];omega)
 have b:(((s-100).toNat:Nat):Int)+100=s:=by omega
 have c:(((t-1).toNat:Nat):Int)+1=t:=by omega
 rw[b,c]at a
 exact a
theorem Hw{s t:Int}(b:100<=s)(c:s<=133)(e:1<=t)(f:t<=78):(∀x∈(xE s t).1,x<=133)/\(xE s t).1.length<=7:=by
 have a:=aab b c e f
 unfold adx at a
 rw[dr,dr]at a
 exact⟨fun x d=>bi (List.all_eq_true.1 a.1 x d),bi a.2.1⟩
theorem B9{s t:Int}(f:100<=s)(g:s<=133)(i:1<=t)(j:t<=78)(h:¬((xE s t).1=[]/\(xE s t).2=true)):∃d b n,iF 8 [s] t 0=some (d,some b,n)/\n<=20:=by
 have a:=aab f g i j
 unfold adx at a
 rw[dr,dr,aa h]at a
 have c:=a.2.2
 split at c
 ·rename_i d b n e
  exact⟨d,b,n,e,bi c⟩
 ·cases c
theorem re{s t:Int}{r:List Int}(b:100<=s)(a:(xE s t).1=[]/\(xE s t).2=true):dF (s::r) t=dF r t:=by
 rw[dF,aa (by omega),ab a]
theorem rf{s t:Int}{r a:List Int}{b:Bool}{n:Nat}(e:100<=s)(c:¬((xE s t).1=[]/\(xE s t).2=true))(d:iF 8 [s] t 0=some (a,some b,n)):dF (s::r) t=(a++r,b):=by
 rw[dF,aa (by omega),aa c,d]
theorem ob{s t:Int}{r:List Int}(a:s<100):dF (s::r) t=(r,decide (s=t)):=by
 rw[dF,ab a]
theorem jq{s t:Int}{r d:List Int}{b:Option Bool}{f n m:Nat}(a:iF (f+1) (s::r) t n=some (d,b,m))(e:100<=s):((xE s t).2=true/\iF f ((xE s t).1++r) t (n+(xE s t).1.length)=some (d,b,m))\/((xE s t).2=false/\d=r/\b=some false/\m=n):=by
 rw[iF,aa (by omega)]at a
 split at a
 ·rename_i c;exact .inl ⟨c,a⟩
 ·rename_i c
  simp only[fe,ll]at a
  exact .inr ⟨by simpa using c,a.1.symm,a.2.1.symm,a.2.2.symm⟩
theorem qh{s t:Int}{r c:List Int}{b:Option Bool}{f n m:Nat}(a:iF (f+1) (s::r) t n=some (c,b,m))(d:s<100):c=r/\b=some (decide (s=t))/\m=n:=by
 rw[iF,ab d]at a
 simp only[fe,ll]at a
 exact⟨a.1.symm,a.2.1.symm,a.2.2.symm⟩
def Li(st:List Int):Prop:=∀a∈st,a<=133
theorem Hx:∀{f:Nat}{st:List Int}{t:Int}{n:Nat}{d:List Int}{b:Option Bool}{m:Nat},Li st->1<=t->t<=78->iF f st t n=some (d,b,m)->Li d
 |0,_,_,_,_,_,_,_,_,_,a=>by simp[iF]at a
 |f+1,[],t,n,d,b,m,c,_,_,a=>by
  simp only[iF,fe,ll]at a
  rw[<-a.1];exact c
 |f+1,s::r,t,n,d,b,m,c,i,j,a=>by
  have h:Li r:=fun e hx=>c e (ep _ hx)
  by_cases k:s<100
  ·rw[(qh a k).1];exact h
  ·rcases jq a (by omega) with⟨_,g⟩|⟨_,g,_⟩
   ·refine Hx (fun e hx=>?_) i j g
    rcases List.mem_append.1 hx with hx|hx
    ·exact(Hw (by omega) (c s (da ..)) i j).1 e hx
    ·exact h e hx
   ·rw[g];exact h
theorem xG:∀{st:List Int}{t:Int},Li st->1<=t->t<=78->Li (dF st t).1
 |[],t,a,_,_=>by rw[dF];exact a
 |s::r,t,a,e,f=>by
  have d:Li r:=fun b hx=>a b (ep _ hx)
  by_cases i:s<100
  ·rw[ob i];exact d
  ·have h:=a s (da ..)
   by_cases c:(xE s t).1=[]/\(xE s t).2=true
   ·rw[re (by omega) c];exact xG d e f
   ·obtain⟨l,k,m,g,_⟩:=B9 (by omega) h e f c
    rw[rf (by omega) c g]
    intro b hx
    rcases List.mem_append.1 hx with hx|hx
    ·refine Hx (st:=[s]) ?_ e f g b hx
     intro n j
     obtain rfl:=List.mem_singleton.1 j
     exact h
    ·exact d b hx
end Go.Proofs.YtkfgnpcanadjhaaGreatDoor
namespace Go.Proofs.YtkfgnpcanadjhaaGreatDoor
open Go.RowKit
structure Nd where
 k:Int
 f:Int
 t:Int
 l:Int
 op:Int
 n:Int
 x:ByteArray
 nm:List ByteArray
 ks:List Int
def bp(W:World)(v:Value)(l:List ByteArray):Prop:=
 (l=[]/\∃a b,v= .slice a 0 b)\/∃a b,v= .slice (some a) l.length b/\∀c d,l[c]?=some d->W.cell? (a.add c)=some (.string d)
def cH(W:World)(v:Value)(l:List Int):Prop:=
 (l=[]/\∃a b,v= .slice a 0 b)\/∃a b,v= .slice (some a) l.length b/\∀c d,l[c]?=some d->W.cell? (a.add c)=some (.int .i64 d)
structure FG (W:World) (a:Addr) (N:Nd) (vn vk:Value):Prop where
 c0:W.cell? a=some (.int .i64 N.k)
 c1:W.cell? ⟨a.block,a.off+1,none⟩=some (.int .i64 N.f)
 c2:W.cell? ⟨a.block,a.off+2,none⟩=some (.int .i64 N.t)
 c3:W.cell? ⟨a.block,a.off+3,none⟩=some (.int .i64 N.l)
 c4:W.cell? ⟨a.block,a.off+4,none⟩=some (.int .i64 N.op)
 c5:W.cell? ⟨a.block,a.off+5,none⟩=some (.int .i64 N.n)
 c6:W.cell? ⟨a.block,a.off+6,none⟩=some (.string N.x)
 c7:W.cell? ⟨a.block,a.off+7,none⟩=some vn
 c8:W.cell? ⟨a.block,a.off+8,none⟩=some vk
 hn:bp W vn N.nm
 hk:cH W vk N.ks
def dK(W:World)(v:Value)(c:List Nd):Prop:=
 (c=[]/\∃a b,v= .slice a 0 b)\/∃a b,v= .slice (some a) c.length b/\∀e d,c[e]?=some d->∃g f,FG W (a.add (e*9)) d g f
theorem tg{W:World}{a:Addr}{v:Value}(b:W.cell? a=some v):a.block<W.heap.size:=by
 unfold World.cell? at b
 rcases ci a.block W.heap.size with g|g
 ·exact g
 ·rw[wJ g]at b;simp at b
theorem ai{W b:World}(d:Below W.heap.size W b){a:Addr}{v:Value}(c:W.cell? a=some v):b.cell? a=some v:=by
 rw[<-c]
 unfold World.cell?
 rw[d.block _ (tg c)]
theorem bp.below{W b:World}{v:Value}{l:List ByteArray}(a:bp W v l)(g:Below W.heap.size W b):bp b v l:=by
 rcases a with a|⟨c,d,e,f⟩
 ·exact .inl a
 ·exact .inr ⟨c,d,e,fun i j h=>ai g (f i j h)⟩
theorem cH.below{W b:World}{v:Value}{l:List Int}(a:cH W v l)(g:Below W.heap.size W b):cH b v l:=by
 rcases a with a|⟨c,d,e,f⟩
 ·exact .inl a
 ·exact .inr ⟨c,d,e,fun i j h=>ai g (f i j h)⟩
theorem FG.below{W d:World}{a:Addr}{N:Nd}{vn vk:Value}(b:FG W a N vn vk)(c:Below W.heap.size W d):FG d a N vn vk:=
 ⟨ai c b.c0,ai c b.c1,ai c b.c2,ai c b.c3,ai c b.c4,ai c b.c5,ai c b.c6,ai c b.c7,ai c b.c8,b.hn.below c,b.hk.below c⟩
theorem dK.below{W b:World}{v:Value}{c:List Nd}(a:dK W v c)(k:Below W.heap.size W b):dK b v c:=by
 rcases a with a|⟨e,f,h,i⟩
 ·exact .inl a
 ·exact .inr ⟨e,f,h,fun l d j=>by obtain⟨n,m,g⟩:=i l d j;exact⟨n,m,g.below k⟩⟩
theorem bp.form{W:World}{v:Value}{l:List ByteArray}(b:bp W v l):∃a c,v= .slice a l.length c:=by
 rcases b with⟨rfl,a,c,b⟩|⟨a,c,d,e⟩
 ·exact⟨a,c,b⟩
 ·exact⟨_,_,d⟩
theorem cH.form{W:World}{v:Value}{l:List Int}(b:cH W v l):∃a c,v= .slice a l.length c:=by
 rcases b with⟨rfl,a,c,b⟩|⟨a,c,d,e⟩
 ·exact⟨a,c,b⟩
 ·exact⟨_,_,d⟩
theorem dK.form{W:World}{v:Value}{l:List Nd}(b:dK W v l):∃a c,v= .slice a l.length c:=by
 rcases b with⟨rfl,a,c,b⟩|⟨a,c,d,e⟩
 ·exact⟨a,c,b⟩
 ·exact⟨_,_,d⟩
theorem bp.get{W:World}{a:Option Addr}{n c:Nat}{l:List ByteArray}(f:bp W (.slice a n c) l){k:Nat}{s:ByteArray}(d:l[k]?=some s):∃b,a=some b/\W.cell? (b.add k)=some (.string s):=by
 rcases f with⟨rfl,_⟩|⟨b,h,e,g⟩
 ·simp at d
 ·cases e;exact⟨b,rfl,g k s d⟩
theorem cH.get{W:World}{a:Option Addr}{n c:Nat}{l:List Int}(f:cH W (.slice a n c) l){k:Nat}{s:Int}(d:l[k]?=some s):∃b,a=some b/\W.cell? (b.add k)=some (.int .i64 s):=by
 rcases f with⟨rfl,_⟩|⟨b,h,e,g⟩
 ·simp at d
 ·cases e;exact⟨b,rfl,g k s d⟩
theorem dK.get{W:World}{a:Option Addr}{n c:Nat}{l:List Nd}(f:dK W (.slice a n c) l){k:Nat}{N:Nd}(d:l[k]?=some N):∃b,a=some b/\∃vn vk,FG W (b.add (k*9)) N vn vk:=by
 rcases f with⟨rfl,_⟩|⟨b,h,e,g⟩
 ·simp at d
 ·cases e;exact⟨b,rfl,g k N d⟩
theorem cF{w b:World}{base e size:Nat}{v:Value}{n:Nat}{xs:List Value}(c:w.ownsRow base e size v n xs)(a:Below w.heap.size w b):b.ownsRow base e size v n xs:=
 c.kept (row:=none) ⟨a.os,a.tape,a.output,a.size,fun f d _=>a.block f d⟩ (by cases v.ownBlock<;>simp)
theorem us{w:World}{base b e size:Nat}{v:Value}{n:Nat}{xs:List Value}(g:w.ownsRow base e size v n xs)(i:b<=base):w.ownsRow b e size v n xs:=by
 obtain⟨h,a⟩:=g
 refine⟨h,?_⟩
 rcases a with a|⟨f,c,d,k,j,l⟩
 ·exact .inl a
 ·exact .inr ⟨f,c,d,k,ch i j,l⟩
theorem bC{a:Type}{l:List a}{n k:Nat}(c:l.length=n)(b:k<n):∃s,l[k]?=some s:=⟨l[k]'(by omega),aF _⟩
theorem FH{b:Nat}{W:World}{t:TypeId}{fr:Nat×Nat}{a c d e f g:Value}(h:W.heap[b]?=some (.cells #[a,c,d,e,f,g] t fr)):W.cell? ⟨b,0,none⟩=some a/\W.cell? ⟨b,1,none⟩=some c/\W.cell? ⟨b,2,none⟩=some d/\W.cell? ⟨b,3,none⟩=some e/\W.cell? ⟨b,4,none⟩=some f/\W.cell? ⟨b,5,none⟩=some g:=by
 refine⟨?_,?_,?_,?_,?_,?_⟩<;>(rw[au _ _ _ _ _ _ h];rfl)
theorem aac{b:Nat}{W:World}{t:TypeId}{cs:Array Value}(a:W.heap[b]?=some (.cells cs t (0,0))):W.frozen? ⟨b,0,none⟩=false/\W.frozen? ⟨b,1,none⟩=false/\W.frozen? ⟨b,2,none⟩=false/\W.frozen? ⟨b,3,none⟩=false/\W.frozen? ⟨b,4,none⟩=false/\W.frozen? ⟨b,5,none⟩=false:=
 ⟨cA _ _ _ _ _ a,cA _ _ _ _ _ a,cA _ _ _ _ _ a,cA _ _ _ _ _ a,cA _ _ _ _ _ a,cA _ _ _ _ _ a⟩
def six(W:World)(b:Nat)(a c d e f v5:Value):World:=((((((W.setCell ⟨b,0,none⟩ a).setCell ⟨b,1,none⟩ c).setCell ⟨b,2,none⟩ d).setCell ⟨b,3,none⟩ e).setCell ⟨b,4,none⟩ f).setCell ⟨b,5,none⟩ v5)
theorem aad{W:World}{b k:Nat}(a:k≠b)(c d e f g v5:Value):(six W b c d e f g v5).heap[k]?=W.heap[k]?:=by
 unfold six
 rw[aK _ _ _ _ a,aK _ _ _ _ a,aK _ _ _ _ a,aK _ _ _ _ a,aK _ _ _ _ a,aK _ _ _ _ a]
theorem Js(w:World):w.drew.heap=w.heap:=rfl
theorem aae{W:World}{b k:Nat}(a:k≠b)(j:Nat)(c d e f g v5:Value):(six W b c d e f g v5).drew.cell? ⟨k,j,none⟩=W.cell? ⟨k,j,none⟩:=by
 unfold World.cell?
 rw[Js,aad a]
theorem rh:(Tryz.prog.info? 3).map (fun i=>(i.zero,i.size,i.bytes))=some (some (.int .i64 0),1,8):=by kernel_rfl
theorem DI{W:World}{base g n c:Nat}{l:List ByteArray}(h:W.ownsRow base 9 1 (.slice (some ⟨g,0,none⟩) n c) n (l.map Value.string))(e:l.length=n):bp W (.slice (some ⟨g,0,none⟩) n c) l:=by
 subst e
 refine .inr ⟨⟨g,0,none⟩,c,rfl,fun a i b=>?_⟩
 have f:a<l.length:=by rcases ci a l.length with h|h;exact h;rw[iC h]at b;cases b
 have d:(⟨g,0,none⟩:Addr).add a=⟨g,a,none⟩:=by unfold Addr.add;split<;>simp_all
 rw[d,h.cellAt a (by omega),bq,b];rfl
theorem DJ{W:World}{base g n c:Nat}{l:List Int}(h:W.ownsRow base 3 1 (.slice (some ⟨g,0,none⟩) n c) n (l.map (Value.int .i64)))(e:l.length=n):cH W (.slice (some ⟨g,0,none⟩) n c) l:=by
 subst e
 refine .inr ⟨⟨g,0,none⟩,c,rfl,fun a i b=>?_⟩
 have f:a<l.length:=by rcases ci a l.length with h|h;exact h;rw[iC h]at b;cases b
 have d:(⟨g,0,none⟩:Addr).add a=⟨g,a,none⟩:=by unfold Addr.add;split<;>simp_all
 rw[d,h.cellAt a (by omega),bq,b];rfl
def Jt:List ByteArray->Nat
 |[]=>0
 |s::l=>s.size+Jt l
def aaf(l:List ByteArray):Nat:=l.length+Jt l
def Aw(N:Nd):Nat:=N.x.size+(aaf N.nm+N.ks.length)
def gF(N:Nd)(vn vk:Value):Value:= .agg #[.int .i64 N.k,.int .i64 N.f,.int .i64 N.t,.int .i64 N.l,.int .i64 N.op,.int .i64 N.n,.string N.x,vn,vk]
def nc(b:Nat)(W:World)(t:TypeId)(N:Nd)(vn vk:Value):Prop:=
 W.heap[b]?=some (.cells #[.int .i64 N.k,.int .i64 N.f,.int .i64 N.t,.int .i64 N.l,.int .i64 N.op,.int .i64 N.n,.string N.x,vn,vk] t (0,0))
theorem bz{b:Nat}{W:World}{t:TypeId}{N:Nd}{vn vk:Value}(a:nc b W t N vn vk):
  W.cell? ⟨b,0,none⟩=some (.int .i64 N.k)/\W.cell? ⟨b,1,none⟩=some (.int .i64 N.f)/\W.cell? ⟨b,2,none⟩=some (.int .i64 N.t)/\W.cell? ⟨b,3,none⟩=some (.int .i64 N.l)/\W.cell? ⟨b,4,none⟩=some (.int .i64 N.op)/\W.cell? ⟨b,5,none⟩=some (.int .i64 N.n)/\W.cell? ⟨b,6,none⟩=some (.string N.x)/\W.cell? ⟨b,7,none⟩=some vn/\W.cell? ⟨b,8,none⟩=some vk/\(∀j,W.frozen? ⟨b,j,none⟩=false):=by
 unfold nc at a
 exact⟨by rw[au _ _ _ _ _ _ a];rfl,by rw[au _ _ _ _ _ _ a];rfl,by rw[au _ _ _ _ _ _ a];rfl,by rw[au _ _ _ _ _ _ a];rfl,by rw[au _ _ _ _ _ _ a];rfl,by rw[au _ _ _ _ _ _ a];rfl,by rw[au _ _ _ _ _ _ a];rfl,by rw[au _ _ _ _ _ _ a];rfl,by rw[au _ _ _ _ _ _ a];rfl,fun j=>cA _ _ _ _ _ a⟩
def Hy:Nd:=⟨0,0,0,0,0,0,⟨#[]⟩,[],[]⟩
theorem nc.below{b:Nat}{W a:World}{t:TypeId}{N:Nd}{vn vk:Value}(c:nc b W t N vn vk)(d:Below W.heap.size W a):nc b a t N vn vk:=(d.block _ (aw c)).trans c
def ajs(W:World)(b:Nat)(N:Nd)(vn vk:Value):World:=(((((((((W.setCell ⟨b,0,none⟩ (.int .i64 N.k)).setCell ⟨b,1,none⟩ (.int .i64 N.f)).setCell ⟨b,2,none⟩ (.int .i64 N.t)).setCell ⟨b,3,none⟩ (.int .i64 N.l)).setCell ⟨b,4,none⟩ (.int .i64 N.op)).setCell ⟨b,5,none⟩ (.int .i64 N.n)).setCell ⟨b,6,none⟩ (.string N.x)).setCell ⟨b,7,none⟩ (vn)).setCell ⟨b,8,none⟩ (vk))
end Go.Proofs.YtkfgnpcanadjhaaGreatDoor
namespace Go.Proofs.YtkfgnpcanadjhaaGreatDoor
def wpU(P:Program)(e:Region.Mode)(c:Array Oper)(d:Exit->Act->World->Prop)(S g:World->Prop)(C:Nat->Bool):Nat->Array Bool->Act->World->Prop
 |0,b,a,w=>Region.ready e c b=[]/\d .normal a w
 |fuel+1,b,a,w=>
  (Region.ready e c b=[]->d .normal a w)/\
  ∀i∈Region.ready e c b,wpOp P c d i (fun h f=>(g f/\(C i=true->S f))/\wpU P e c d S g C fuel (b.setIfInBounds i true) h f) a w
theorem xH{P:Program}{h:Array Oper}{c:Exit->Act->World->Prop}{g:Region.Mode}{S d:World->Prop}{C:Nat->Bool}:∀(fuel:Nat)(f:Array Bool)(a:Act)(w:World),wpU P g h c S d C fuel f a w->wpAnyH P g h c d fuel f a w
 |0,_,_,_,b=>b
 |fuel+1,_,_,_,b=>⟨b.1,fun i k=>wpOp_mono (fun j l e=>⟨e.1.1,xH fuel _ j l e.2⟩) (b.2 i k)⟩
theorem oc{P:Program}{f:Array Oper}{t:Exit->Act->World->Prop}{m:Region.Mode}{S z:World->Prop}{C:Nat->Bool}{i:Nat}{n:Oper}{v:Value}(H:f[i]?=some n)(af:∀(j:Nat) (o:Oper) cs b,f[j]?=some o->o.op≠ .select cs b)
  (ap:∀c a w,t (.panic c) (a.put n.dst v) w->t (.panic c) a w) (an:∀(j:Nat) d,f[j]?=some d->C j=false->∃e∈d.after,Region.binds m e=true/\e.on=i):
  ∀(fuel:Nat)(g:Array Bool)(a:Act)(w:World),
   (∀j d,f[j]?=some d->j≠i->g.getD j true=false->(∀e∈d.after,Region.binds m e=true->e.on≠i)->n.apart f d=true)->
   i∈Region.ready m f g->YieldsIf P f S n v a->z w->S w->
   wpU P m f t S z C fuel (g.setIfInBounds i true) (a.put n.dst v) w->wpAnyH P m f t z (fuel+1) g a w:=by
 intro fuel
 induction fuel with
 |zero=>
  intro g a w _ l y B hS q
  refine⟨fun A=>(by rw[A]at l;cases l),fun j u=>?_⟩
  by_cases h:j=i
  ·subst h;exact y.wpOp H hS ⟨B,xH _ _ _ _ q⟩
  ·have:=ready_mono u h
   rw[q.1]at this
   cases this
 |succ fuel a3=>
  intro g a w J l y B hS q
  refine⟨fun A=>(by rw[A]at l;cases l),fun j u=>?_⟩
  by_cases h:j=i
  ·subst h;exact y.wpOp H hS ⟨B,xH _ _ _ _ q⟩
  ·have k:=q.2 j (ready_mono u h)
   obtain⟨L,d,x,ar⟩:=mem_ready.1 u
   have ad:∀e∈d.after,Region.binds m e=true->e.on≠i:=fun e F E G=>by
    have k:=ar e F E
    have I:=(mem_ready.1 l).1
    rw[G]at k
    rcases ci i g.size with h'|h'
    ·simp[h']at I k;rw[I]at k;cases k
    ·simp[wJ h']at k
   have ao:C j=true:=by
    cases hc:C j with
    |true=>rfl
    |false=>
     obtain⟨e,F,E,G⟩:=an j d x hc
     exact absurd G (ad e F E)
   have am:=wpOp_putIf x (J j d x h L ad) (fun cs b=>af i n cs b H) (fun cs b=>af j d cs b x) ap y k
   have av:∀p s,f[p]?=some s->p≠i->(g.setIfInBounds j true).getD p true=false->
     (∀e∈s.after,Region.binds m e=true->e.on≠i)->n.apart f s=true:=fun p s a0 a1 ak a2=>by
    refine J p s a0 a1 ?_ a2
    by_cases K:j=p
    ·subst K;exact L
    ·rw[getD_set_ne true K]at ak;exact ak
   refine wpOp_mono (fun al a4 r=>⟨r.2.1.1,a3 (g.setIfInBounds j true) al a4 av (ready_mono l (eA h)) r.1 r.2.1.1 (r.2.1.2 ao) ?_⟩) am
   rw[Array.setIfInBounds_comm _ _ h]
   exact r.2.2
theorem dI{P:Program}{b:Array Oper}{d:Exit->Act->World->Prop}{g:Region.Mode}{S c:World->Prop}{C:Nat->Bool}{i:Nat}{o:Oper}{fuel:Nat}{f:Array Bool}{a:Act}{w:World}(p:Region.ready g b f=[i])(v:b[i]?=some o)
  (r:∀h:Act->World->Prop,Shut (∀a w,c w->(C i=true->S w)->wpU P g b d S c C fuel (f.setIfInBounds i true) a w->h a w)->if Region.wanted o (yielded b a.tmps)=true then Oper.wp P o a w h d else h (a.put o.dst undef) w):wpU P g b d S c C (fuel+1) f a w:=by
 refine⟨fun m=>(by rw[p]at m;cases m),fun k n=>?_⟩
 rw[p]at n
 obtain rfl:k=i:=by simpa using n
 have e:=r (fun q l=>(c l/\(C k=true->S l))/\wpU P g b d S c C fuel (f.setIfInBounds k true) q l) (fun a w s t u=>⟨⟨s,t⟩,u⟩)
 unfold wpOp
 simp only[v]
 split
 ·rename_i j
  rw[ab j]at e
  exact .inl e
 ·rename_i j
  rw[aa j]at e
  exact e
theorem qi{P:Program}{g:Array Oper}{b:Exit->Act->World->Prop}{f:Region.Mode}{S h:World->Prop}{C:Nat->Bool}{e:Array Bool}{a:Act}{w:World}(d:Region.ready f g e=[])(c:b .normal a w):
  ∀fuel,wpU P f g b S h C fuel e a w
 |0=>⟨d,c⟩
 |_+1=>⟨fun _=>c,by rw[d];simp⟩
end Go.Proofs.YtkfgnpcanadjhaaGreatDoor
namespace Go.Proofs.YtkfgnpcanadjhaaGreatDoor
structure Tk where
 k:Int
 f:Int
 t:Int
 l:Int
 n:Int
 x:ByteArray
def cTk(T:Tk):List Value:=[.int .i64 T.k,.int .i64 T.f,.int .i64 T.t,.int .i64 T.l,.int .i64 T.n,.string T.x]
def xI(a:List Tk):List Value:=a.flatMap cTk
theorem xJ(a:List Tk)(T:Tk):xI (a++[T])=xI a++cTk T:=by simp[xI]
end Go.Proofs.YtkfgnpcanadjhaaGreatDoor
namespace Go.Proofs.YtkfgnpcanadjhaaGreatDoor
open Go.Maps Go.WideMaps
theorem Lj{a b:Int}(d:a=b)(c:Int)(e:(b==c)=false):(a==c)=false:=by rw[d];exact e
theorem kqt{a b:Int}(d:a=b)(c:Int)(e:(b==c)=true):(a==c)=true:=by rw[d];exact e
theorem Hz{a b:Int}(c:a=b):(a==b)=true:=by rw[c];exact beq_self_eq_true b
end Go.Proofs.YtkfgnpcanadjhaaGreatDoor
