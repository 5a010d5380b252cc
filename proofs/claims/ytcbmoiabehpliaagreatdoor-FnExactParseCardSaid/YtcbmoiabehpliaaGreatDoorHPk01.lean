import Derived.Test.YtcbmoiabehpliaaGreatDoorProg
import Derived.WalkKit
import Derived.Below
import Derived.Shelf.Strings.Builder1
import Derived.Shelf.Small.Strs
import Derived.Shelf.Small.Wraps
import Derived.Shelf.Strings.BuilderF
import Derived.Shelf.Strings.BuilderK
import Derived.Shelf.Strconv.Itoa0
import Derived.Shelf.Strconv.Itoa1
import Derived.Shelf.LaysM
import Derived.Shelf.Strconv.Itoa2
import Derived.Shelf.Strconv.Itoa3
import Derived.Shelf.Strconv.ParseIntEmpty
import Derived.Shelf.Strconv.Clone
import Derived.Shelf.Strconv.SyntaxError
import Derived.Shelf.LaysC
import Derived.Shelf.Strconv.ToError
import Derived.Shelf.Strconv.Lower
import Derived.Shelf.Strconv.ParseUint10
import Derived.Shelf.Strconv.ParseUint10Empty
import Derived.Shelf.Strconv.ParseUint10Any
import Derived.Shelf.Strconv.ParseInt10
import Derived.Shelf.Strconv.RangeError
import Derived.Shelf.Strconv.ToErrorRange
import Derived.Shelf.Strconv.ParseUintEmpty
import Derived.Shelf.Strconv.ParseUint10b64
import Derived.Shelf.Strconv.ParseUint10b32
import Derived.Shelf.Strconv.ParseUint10b16
import Derived.Shelf.Strconv.ParseUint10b8
import Derived.Shelf.Strconv.ParseUint10At
import Derived.Shelf.Strconv.ParseInt10At64
import Derived.Shelf.Strconv.ParseInt10At32
import Derived.Shelf.Strconv.ParseInt10At16
import Derived.Shelf.Strconv.ParseInt10At8
import Derived.Shelf.Strconv.ParseInt10All
import Derived.Shelf.Strconv.ParseIntPublic10
import Derived.Shelf.Strconv.ErrVarParseInt
import Derived.Ground.MpProg
import Derived.Shelf.Pu.ParseUintPublic10
import Derived.Shelf.Pu.ErrVarParseUint
import Derived.Shelf.Strings.Search1
import Derived.Shelf.Strings.Prefix
import Derived.Shelf.Strings.Fields
import Derived.Shelf.Bits.Mul64
import Derived.ProofKit
import Derived.OwnWalk
import Derived.OneCell
import Derived.Laws.OwnMore
import Derived.RangeFuncBox
import Derived.Deep.RegionHeld3
set_option linter.unusedVariables false
namespace Go.Proofs.YtcbmoiabehpliaaGreatDoor
open Go.RowKit
theorem ab{p:Prop}(h:p):Hid p:=h
section
variable {a b c d e f g h i : Prop}
theorem cK(x:a)(j:b):Hid (a/\b):=⟨x,j⟩
theorem cS(x:a)(j:b)(z:c):Hid (a/\b/\c):=⟨x,j,z⟩
theorem sJ(x:a)(j:b)(z:c)(u:d):Hid (a/\b/\c/\d):=⟨x,j,z,u⟩
theorem vC(x:a)(j:b)(z:c)(u:d)(v:e):Hid (a/\b/\c/\d/\e):=⟨x,j,z,u,v⟩
theorem F9(x:a)(j:b)(z:c)(u:d)(v:e)(w:f):Hid (a/\b/\c/\d/\e/\f):=⟨x,j,z,u,v,w⟩
theorem JL(x:a)(j:b)(z:c)(u:d)(v:e)(w:f)(p:g)(q:h):Hid (a/\b/\c/\d/\e/\f/\g/\h):=⟨x,j,z,u,v,w,p,q⟩
end
theorem ah{α:Sort _}(a:α):∃x,a=x:=⟨a,rfl⟩
section
variable {P : Program} {f : FuncId} {z : Array Value} {w : World} {v : Value} {Q : World → Prop} {R : Ending → World → Prop}
theorem au(h:Calls P f z w fun e j=>e= .returned v/\Q j)(k:∀j,Q j->R (.returned v) j):Calls P f z w R:=h.mono fun e j l=>l.1 ▸ k j l.2
theorem bc(h:Calls P f z w fun e l=>e= .returned v/\l=w)(k:R (.returned v) w):Calls P f z w R:=h.mono fun e l j=>by rw[j.1,j.2];exact k
end
end Go.Proofs.YtcbmoiabehpliaaGreatDoor
namespace Go.Proofs
open Go.Shelf
def Tryz.lays103_ren:Go.Shelf.Ren:=⟨fun|103=>186|210=>204|206=>114|n=>n,fun|9=>9|4=>4|24=>218|3=>3|n=>n,fun|n=>n⟩
theorem Tryz.lays103:Go.Proofs.Lays.n103 Tryz.prog Tryz.lays103_ren:={
 mixed:=by kernel_rfl
 f103:=Tryz.func186.trans (congrArg some (by kernel_rfl))
 f206:=Tryz.func114.trans (congrArg some (by kernel_rfl))
 f210:=Tryz.func204.trans (congrArg some (by kernel_rfl))
 t3:=Tryz.underlying3
 a3:=Tryz.isAgg3
 z3:=Tryz.sizeOf3
 v3:=Tryz.zeroValue3
 t4:=Tryz.underlying4
 a4:=Tryz.isAgg4
 z4:=Tryz.sizeOf4
 v4:=Tryz.zeroValue4
 t9:=Tryz.underlying9
 a9:=Tryz.isAgg9
 z9:=Tryz.sizeOf9
 v9:=Tryz.zeroValue9
 t24:=Tryz.underlying218
 a24:=Tryz.isAgg218
 z24:=Tryz.sizeOf218
 v24:=Tryz.zeroValue218}
open Go.RowKit in
theorem Tryz.strings_CutPrefix(s p:ByteArray)(w:World):
  Calls Tryz.prog 186 #[.string s,.string p] w fun e j=>e= .returned (.tuple #[.string ⟨(Lib.trimPrefix s.data.toList p.data.toList).toArray⟩,.bool (Lib.hasPrefix s.data.toList p.data.toList)])/\j=w:=Any.strings_CutPrefix Tryz.lays103 s p w
def Tryz.lays104_ren:Go.Shelf.Ren:=⟨fun|104=>201|211=>218|207=>231|n=>n,fun|9=>9|4=>4|24=>218|3=>3|n=>n,fun|n=>n⟩
theorem Tryz.lays104:Go.Proofs.Lays.n104 Tryz.prog Tryz.lays104_ren:={
 mixed:=by kernel_rfl
 f104:=Tryz.func201.trans (congrArg some (by kernel_rfl))
 f207:=Tryz.func231.trans (congrArg some (by kernel_rfl))
 f211:=Tryz.func218.trans (congrArg some (by kernel_rfl))
 t3:=Tryz.underlying3
 a3:=Tryz.isAgg3
 z3:=Tryz.sizeOf3
 v3:=Tryz.zeroValue3
 t4:=Tryz.underlying4
 a4:=Tryz.isAgg4
 z4:=Tryz.sizeOf4
 v4:=Tryz.zeroValue4
 t9:=Tryz.underlying9
 a9:=Tryz.isAgg9
 z9:=Tryz.sizeOf9
 v9:=Tryz.zeroValue9
 t24:=Tryz.underlying218
 a24:=Tryz.isAgg218
 z24:=Tryz.sizeOf218
 v24:=Tryz.zeroValue218}
open Go.RowKit in
theorem Tryz.strings_CutSuffix(s p:ByteArray)(w:World)(j:s.size<=9223372036854775807):
  Calls Tryz.prog 201 #[.string s,.string p] w fun e k=>e= .returned (.tuple #[.string ⟨(Lib.trimSuffix s.data.toList p.data.toList).toArray⟩,.bool (Lib.hasSuffix s.data.toList p.data.toList)])/\k=w:=Any.strings_CutSuffix Tryz.lays104 s p w j
def Tryz.laysM316_ren:Go.Shelf.Ren:=⟨fun|316=>183|n=>n,fun|9=>9|3=>3|4=>4|37=>195|0=>0|127=>243|5=>5|n=>n,fun|n=>n⟩
theorem Tryz.laysM316:Go.Proofs.LaysM.n316 Tryz.prog Tryz.laysM316_ren:={
 mixed:=by kernel_rfl
 f316:=Tryz.func183.trans (congrArg some (by kernel_rfl))
 t0:=Tryz.underlying0
 a0:=Tryz.isAgg0
 z0:=Tryz.sizeOf0
 v0:=Tryz.zeroValue0
 t3:=Tryz.underlying3
 a3:=Tryz.isAgg3
 z3:=Tryz.sizeOf3
 v3:=Tryz.zeroValue3
 t4:=Tryz.underlying4
 a4:=Tryz.isAgg4
 z4:=Tryz.sizeOf4
 v4:=Tryz.zeroValue4
 t9:=Tryz.underlying9
 a9:=Tryz.isAgg9
 z9:=Tryz.sizeOf9
 v9:=Tryz.zeroValue9
 t37:=Tryz.underlying195
 a37:=Tryz.isAgg195
 z37:=Tryz.sizeOf195
 v37:=Tryz.zeroValue195
 t127:=Tryz.underlying243
 a127:=Tryz.isAgg243
 z127:=Tryz.sizeOf243
 v127:=Tryz.zeroValue243
 t5:=Tryz.underlying5
 a5:=Tryz.isAgg5
 z5:=Tryz.sizeOf5
 v5:=Tryz.zeroValue5
 i0:=by kernel_rfl
 i3:=by kernel_rfl
 i4:=by kernel_rfl
 i5:=by kernel_rfl
 i9:=by kernel_rfl
 i37:=by kernel_rfl
 i127:=by kernel_rfl}
open Go.RowKit in
theorem Tryz.stringslite_Clone(s:ByteArray)(w:World)(j:s.size<=281474976710656):
  Calls Tryz.prog 183 #[.string s] w fun e k=>e= .returned (.string s)/\Below w.heap.size w k:=Any.stringslite_Clone Tryz.laysM316 s w j
def Tryz.lays321_ren:Go.Shelf.Ren:=⟨fun|321=>220|n=>n,fun|5=>5|n=>n,fun|n=>n⟩
theorem Tryz.lays321:Go.Proofs.Lays.n321 Tryz.prog Tryz.lays321_ren:={
 mixed:=by kernel_rfl
 f321:=Tryz.func220.trans (congrArg some (by kernel_rfl))
 t5:=Tryz.underlying5
 a5:=Tryz.isAgg5
 z5:=Tryz.sizeOf5
 v5:=Tryz.zeroValue5}
open Go.RowKit in
theorem Tryz.internal_strconv_lower(c:Int)(w:World):
  Calls Tryz.prog 220 #[.int .u8 c] w fun e j=>e= .returned (.int .u8 (bits .or .u8 c 32))/\j=w:=Any.internal_strconv_lower Tryz.lays321 c w
def Tryz.laysC174_ren:Go.Shelf.Ren:=⟨fun|174=>188|247=>207|245=>206|287=>205|279=>222|280=>223|281=>224|282=>225|321=>220|322=>221|316=>183|171=>233|205=>232|243=>237|246=>238|283=>239|284=>240|285=>241|286=>242|129=>244|317=>243|318=>245|319=>246|320=>247|337=>248|338=>249|n=>n,fun|9=>9|3=>3|2=>2|75=>223|85=>226|4=>4|167=>255|5=>5|53=>196|175=>224|46=>231|168=>257|37=>195|0=>0|210=>269|21=>21|127=>243|145=>284|143=>282|171=>288|173=>291|212=>294|51=>247|20=>20|213=>295|232=>298|233=>299|80=>240|n=>n,fun|15=>6|16=>7|17=>9|18=>10|19=>11|n=>n⟩
theorem Tryz.laysC174:Go.Proofs.LaysC.n174 Tryz.prog Tryz.laysC174_ren:={
 mixed:=by kernel_rfl
 f129:=Tryz.func244.trans (congrArg some (by kernel_rfl))
 f171:=Tryz.func233.trans (congrArg some (by kernel_rfl))
 f174:=Tryz.func188.trans (congrArg some (by kernel_rfl))
 f205:=Tryz.func232.trans (congrArg some (by kernel_rfl))
 f243:=Tryz.func237.trans (congrArg some (by kernel_rfl))
 f245:=Tryz.func206.trans (congrArg some (by kernel_rfl))
 f246:=Tryz.func238.trans (congrArg some (by kernel_rfl))
 f247:=Tryz.func207.trans (congrArg some (by kernel_rfl))
 f279:=Tryz.func222.trans (congrArg some (by kernel_rfl))
 f280:=Tryz.func223.trans (congrArg some (by kernel_rfl))
 f281:=Tryz.func224.trans (congrArg some (by kernel_rfl))
 f282:=Tryz.func225.trans (congrArg some (by kernel_rfl))
 f283:=Tryz.func239.trans (congrArg some (by kernel_rfl))
 f284:=Tryz.func240.trans (congrArg some (by kernel_rfl))
 f285:=Tryz.func241.trans (congrArg some (by kernel_rfl))
 f286:=Tryz.func242.trans (congrArg some (by kernel_rfl))
 f287:=Tryz.func205.trans (congrArg some (by kernel_rfl))
 f316:=Tryz.func183.trans (congrArg some (by kernel_rfl))
 f317:=Tryz.func243.trans (congrArg some (by kernel_rfl))
 f318:=Tryz.func245.trans (congrArg some (by kernel_rfl))
 f319:=Tryz.func246.trans (congrArg some (by kernel_rfl))
 f320:=Tryz.func247.trans (congrArg some (by kernel_rfl))
 f321:=Tryz.func220.trans (congrArg some (by kernel_rfl))
 f322:=Tryz.func221.trans (congrArg some (by kernel_rfl))
 f337:=Tryz.func248.trans (congrArg some (by kernel_rfl))
 f338:=Tryz.func249.trans (congrArg some (by kernel_rfl))
 t0:=Tryz.underlying0
 a0:=Tryz.isAgg0
 z0:=Tryz.sizeOf0
 v0:=Tryz.zeroValue0
 t2:=Tryz.underlying2
 a2:=Tryz.isAgg2
 z2:=Tryz.sizeOf2
 v2:=Tryz.zeroValue2
 t3:=Tryz.underlying3
 a3:=Tryz.isAgg3
 z3:=Tryz.sizeOf3
 v3:=Tryz.zeroValue3
 t4:=Tryz.underlying4
 a4:=Tryz.isAgg4
 z4:=Tryz.sizeOf4
 v4:=Tryz.zeroValue4
 t5:=Tryz.underlying5
 a5:=Tryz.isAgg5
 z5:=Tryz.sizeOf5
 v5:=Tryz.zeroValue5
 t9:=Tryz.underlying9
 a9:=Tryz.isAgg9
 z9:=Tryz.sizeOf9
 v9:=Tryz.zeroValue9
 t20:=Tryz.underlying20
 a20:=Tryz.isAgg20
 z20:=Tryz.sizeOf20
 v20:=Tryz.zeroValue20
 t21:=Tryz.underlying21
 a21:=Tryz.isAgg21
 z21:=Tryz.sizeOf21
 v21:=Tryz.zeroValue21
 t37:=Tryz.underlying195
 a37:=Tryz.isAgg195
 z37:=Tryz.sizeOf195
 v37:=Tryz.zeroValue195
 t46:=Tryz.underlying231
 a46:=Tryz.isAgg231
 z46:=Tryz.sizeOf231
 v46:=Tryz.zeroValue231
 t51:=Tryz.underlying247
 a51:=Tryz.isAgg247
 z51:=Tryz.sizeOf247
 v51:=Tryz.zeroValue247
 t53:=Tryz.underlying196
 a53:=Tryz.isAgg196
 z53:=Tryz.sizeOf196
 v53:=Tryz.zeroValue196
 t75:=Tryz.underlying223
 a75:=Tryz.isAgg223
 z75:=Tryz.sizeOf223
 v75:=Tryz.zeroValue223
 t85:=Tryz.underlying226
 a85:=Tryz.isAgg226
 z85:=Tryz.sizeOf226
 v85:=Tryz.zeroValue226
 t127:=Tryz.underlying243
 a127:=Tryz.isAgg243
 z127:=Tryz.sizeOf243
 v127:=Tryz.zeroValue243
 t143:=Tryz.underlying282
 a143:=Tryz.isAgg282
 z143:=Tryz.sizeOf282
 v143:=Tryz.zeroValue282
 t145:=Tryz.underlying284
 a145:=Tryz.isAgg284
 z145:=Tryz.sizeOf284
 v145:=Tryz.zeroValue284
 t167:=Tryz.underlying255
 a167:=Tryz.isAgg255
 z167:=Tryz.sizeOf255
 v167:=Tryz.zeroValue255
 t168:=Tryz.underlying257
 a168:=Tryz.isAgg257
 z168:=Tryz.sizeOf257
 v168:=Tryz.zeroValue257
 t171:=Tryz.underlying288
 a171:=Tryz.isAgg288
 z171:=Tryz.sizeOf288
 v171:=Tryz.zeroValue288
 t173:=Tryz.underlying291
 a173:=Tryz.isAgg291
 z173:=Tryz.sizeOf291
 v173:=Tryz.zeroValue291
 t175:=Tryz.underlying224
 a175:=Tryz.isAgg224
 z175:=Tryz.sizeOf224
 v175:=Tryz.zeroValue224
 t210:=Tryz.underlying269
 a210:=Tryz.isAgg269
 z210:=Tryz.sizeOf269
 v210:=Tryz.zeroValue269
 t212:=Tryz.underlying294
 a212:=Tryz.isAgg294
 z212:=Tryz.sizeOf294
 v212:=Tryz.zeroValue294
 t213:=Tryz.underlying295
 a213:=Tryz.isAgg295
 z213:=Tryz.sizeOf295
 t232:=Tryz.underlying298
 a232:=Tryz.isAgg298
 z232:=Tryz.sizeOf298
 v232:=Tryz.zeroValue298
 t233:=Tryz.underlying299
 a233:=Tryz.isAgg299
 z233:=Tryz.sizeOf299
 v233:=Tryz.zeroValue299
 g15:=by kernel_rfl
 g16:=by kernel_rfl
 g17:=by kernel_rfl
 g18:=by kernel_rfl
 g19:=by kernel_rfl
 t80:=Tryz.underlying240
 a80:=Tryz.isAgg240
 z80:=Tryz.sizeOf240
 v80:=Tryz.zeroValue240
 i0:=by kernel_rfl
 i2:=by kernel_rfl
 i3:=by kernel_rfl
 i4:=by kernel_rfl
 i5:=by kernel_rfl
 i9:=by kernel_rfl
 i20:=by kernel_rfl
 i21:=by kernel_rfl
 i37:=by kernel_rfl
 i46:=by kernel_rfl
 i51:=by kernel_rfl
 i53:=by kernel_rfl
 i75:=by kernel_rfl
 i80:=by kernel_rfl
 i85:=by kernel_rfl
 i127:=by kernel_rfl
 i143:=by kernel_rfl
 i145:=by kernel_rfl
 i167:=by kernel_rfl
 i168:=by kernel_rfl
 i171:=by kernel_rfl
 i173:=by kernel_rfl
 i175:=by kernel_rfl
 i210:=by kernel_rfl
 i212:=by kernel_rfl
 i232:=by kernel_rfl
 i233:=by kernel_rfl
 m15:=by kernel_rfl
 m16:=by kernel_rfl
 m17:=by kernel_rfl
 m18:=by kernel_rfl
 m19:=by kernel_rfl
 c0:=by kernel_rfl
 c2:=by kernel_rfl
 c3:=by kernel_rfl
 c4:=by kernel_rfl
 c5:=by kernel_rfl
 c9:=by kernel_rfl
 c20:=by kernel_rfl
 c21:=by kernel_rfl
 c37:=by kernel_rfl
 c46:=by kernel_rfl
 c51:=by kernel_rfl
 c53:=by kernel_rfl
 c75:=by kernel_rfl
 c80:=by kernel_rfl
 c85:=by kernel_rfl
 c127:=by kernel_rfl
 c143:=by kernel_rfl
 c145:=by kernel_rfl
 c167:=by kernel_rfl
 c168:=by kernel_rfl
 c171:=by kernel_rfl
 c173:=by kernel_rfl
 c175:=by kernel_rfl
 c210:=by kernel_rfl
 c212:=by kernel_rfl
 c213:=by kernel_rfl
 c232:=by kernel_rfl
 c233:=by kernel_rfl}
open Go.RowKit in
theorem Tryz.strconv_ParseInt_10_at64_ok(s:ByteArray)(k:s.size<=9223372036854775806)(v:Int)(h:Lib.parseIntB 64 s.data.toList= .ok v)(w:World):
  Calls Tryz.prog 188 #[.string s,.int .i64 10,.int .i64 64] w fun e j=>e= .returned (.tuple #[.int .i64 v,.nilIface])/\(j=w\/∃t,j=Lib.bytesWorld w 5 t):=Any.strconv_ParseInt_10_at64_ok Tryz.laysC174 s k v h w
open Go.RowKit in
theorem Tryz.strconv_ParseInt_10_at64_syntax(s:ByteArray)(m:s.size<=281474976710656)(h:Lib.parseIntB 64 s.data.toList= .«syntax»)(j:Value)(w:World)(o:w.cell? ⟨6,0,none⟩=some j)(n:j= .nilIface\/∃l p,j= .iface l p):
  Calls Tryz.prog 188 #[.string s,.int .i64 10,.int .i64 64] w fun e k=>∃N,e= .returned (.tuple #[.int .i64 (0),.iface 257 (.pointer (some ⟨N,0,none⟩))])/\w.heap.size<=N/\k.heap[N]?=some (.cells #[.string ⟨#[80,97,114,115,101,73,110,116]⟩,.string s,j] 269 (0,0))/\Below w.heap.size w k:=Any.strconv_ParseInt_10_at64_syntax Tryz.laysC174 s m h j w o n
open Go.RowKit in
theorem Tryz.strconv_ParseInt_10_at64_range(s:ByteArray)(m:s.size<=281474976710656)(h:Lib.parseIntB 64 s.data.toList= .range)(j:Value)(w:World)(o:w.cell? ⟨7,0,none⟩=some j)(n:j= .nilIface\/∃l p,j= .iface l p):
  Calls Tryz.prog 188 #[.string s,.int .i64 10,.int .i64 64] w fun e k=>∃N,e= .returned (.tuple #[.int .i64 (Lib.intSat 64 s.data.toList),.iface 257 (.pointer (some ⟨N,0,none⟩))])/\w.heap.size<=N/\k.heap[N]?=some (.cells #[.string ⟨#[80,97,114,115,101,73,110,116]⟩,.string s,j] 269 (0,0))/\Below w.heap.size w k:=Any.strconv_ParseInt_10_at64_range Tryz.laysC174 s m h j w o n
def Tryz.lays99_ren:Go.Shelf.Ren:=⟨fun|99=>58|206=>114|n=>n,fun|9=>9|4=>4|3=>3|n=>n,fun|n=>n⟩
theorem Tryz.lays99:Go.Proofs.Lays.n99 Tryz.prog Tryz.lays99_ren:={
 mixed:=by kernel_rfl
 f99:=Tryz.func58.trans (congrArg some (by kernel_rfl))
 f206:=Tryz.func114.trans (congrArg some (by kernel_rfl))
 t3:=Tryz.underlying3
 a3:=Tryz.isAgg3
 z3:=Tryz.sizeOf3
 v3:=Tryz.zeroValue3
 t4:=Tryz.underlying4
 a4:=Tryz.isAgg4
 z4:=Tryz.sizeOf4
 v4:=Tryz.zeroValue4
 t9:=Tryz.underlying9
 a9:=Tryz.isAgg9
 z9:=Tryz.sizeOf9
 v9:=Tryz.zeroValue9}
open Go.RowKit Go.Lib in
theorem Tryz.strings_HasPrefix(s p:ByteArray)(w:World):
  Calls Tryz.prog 58 #[.string s,.string p] w fun e j=>e= .returned (.bool (Lib.hasPrefix s.data.toList p.data.toList))/\j=w:=Any.strings_HasPrefix Tryz.lays99 s p w
def Tryz.lays157_ren:Go.Shelf.Ren:=⟨fun|157=>200|229=>216|199=>217|261=>230|311=>235|312=>236|n=>n,fun|9=>9|31=>66|3=>3|5=>5|4=>4|119=>252|0=>0|40=>254|152=>263|21=>21|154=>265|51=>247|141=>267|196=>274|193=>271|198=>277|49=>275|194=>272|201=>280|226=>285|46=>231|227=>286|n=>n,fun|0=>4|6=>5|n=>n⟩
theorem Tryz.lays157:Go.Proofs.Lays.n157 Tryz.prog Tryz.lays157_ren:={
 mixed:=by kernel_rfl
 f157:=Tryz.func200.trans (congrArg some (by kernel_rfl))
 f199:=Tryz.func217.trans (congrArg some (by kernel_rfl))
 f229:=Tryz.func216.trans (congrArg some (by kernel_rfl))
 f261:=Tryz.func230.trans (congrArg some (by kernel_rfl))
 f311:=Tryz.func235.trans (congrArg some (by kernel_rfl))
 f312:=Tryz.func236.trans (congrArg some (by kernel_rfl))
 t0:=Tryz.underlying0
 a0:=Tryz.isAgg0
 z0:=Tryz.sizeOf0
 v0:=Tryz.zeroValue0
 t3:=Tryz.underlying3
 a3:=Tryz.isAgg3
 z3:=Tryz.sizeOf3
 v3:=Tryz.zeroValue3
 t4:=Tryz.underlying4
 a4:=Tryz.isAgg4
 z4:=Tryz.sizeOf4
 v4:=Tryz.zeroValue4
 t5:=Tryz.underlying5
 a5:=Tryz.isAgg5
 z5:=Tryz.sizeOf5
 v5:=Tryz.zeroValue5
 t9:=Tryz.underlying9
 a9:=Tryz.isAgg9
 z9:=Tryz.sizeOf9
 v9:=Tryz.zeroValue9
 t21:=Tryz.underlying21
 a21:=Tryz.isAgg21
 z21:=Tryz.sizeOf21
 v21:=Tryz.zeroValue21
 t31:=Tryz.underlying66
 a31:=Tryz.isAgg66
 z31:=Tryz.sizeOf66
 v31:=Tryz.zeroValue66
 t40:=Tryz.underlying254
 a40:=Tryz.isAgg254
 z40:=Tryz.sizeOf254
 v40:=Tryz.zeroValue254
 t46:=Tryz.underlying231
 a46:=Tryz.isAgg231
 z46:=Tryz.sizeOf231
 v46:=Tryz.zeroValue231
 t49:=Tryz.underlying275
 a49:=Tryz.isAgg275
 z49:=Tryz.sizeOf275
 v49:=Tryz.zeroValue275
 t51:=Tryz.underlying247
 a51:=Tryz.isAgg247
 z51:=Tryz.sizeOf247
 v51:=Tryz.zeroValue247
 t119:=Tryz.underlying252
 a119:=Tryz.isAgg252
 z119:=Tryz.sizeOf252
 t141:=Tryz.underlying267
 a141:=Tryz.isAgg267
 z141:=Tryz.sizeOf267
 v141:=Tryz.zeroValue267
 t152:=Tryz.underlying263
 a152:=Tryz.isAgg263
 z152:=Tryz.sizeOf263
 v152:=Tryz.zeroValue263
 t154:=Tryz.underlying265
 a154:=Tryz.isAgg265
 z154:=Tryz.sizeOf265
 v154:=Tryz.zeroValue265
 t193:=Tryz.underlying271
 a193:=Tryz.isAgg271
 z193:=Tryz.sizeOf271
 v193:=Tryz.zeroValue271
 t194:=Tryz.underlying272
 a194:=Tryz.isAgg272
 z194:=Tryz.sizeOf272
 v194:=Tryz.zeroValue272
 t196:=Tryz.underlying274
 a196:=Tryz.isAgg274
 z196:=Tryz.sizeOf274
 v196:=Tryz.zeroValue274
 t198:=Tryz.underlying277
 a198:=Tryz.isAgg277
 z198:=Tryz.sizeOf277
 v198:=Tryz.zeroValue277
 t201:=Tryz.underlying280
 a201:=Tryz.isAgg280
 z201:=Tryz.sizeOf280
 v201:=Tryz.zeroValue280
 t226:=Tryz.underlying285
 a226:=Tryz.isAgg285
 z226:=Tryz.sizeOf285
 v226:=Tryz.zeroValue285
 t227:=Tryz.underlying286
 a227:=Tryz.isAgg286
 z227:=Tryz.sizeOf286
 v227:=Tryz.zeroValue286
 g0:=by kernel_rfl
 g6:=by kernel_rfl}
open Go.RowKit Go.Lib in
theorem Tryz.strings_Fields(s:ByteArray)(w:World)(o:s.size<4294967281)(k:∀(j:Nat) b,s.data.toList[j]?=some b->b.toNat<128)(m:Lib.TabIs Tryz.prog w "strings.asciiSpace" .u8 Lib.asciiSpaceTab):
  Calls Tryz.prog 200 #[.string s] w fun e n=>
   e= .returned (.slice (some ⟨w.heap.size,0,none⟩) (Lib.fields s.data.toList).length (Lib.fields s.data.toList).length)/\n=w.alloc (.cells ((Lib.fields s.data.toList).map fun l=>Value.string ⟨l.toArray⟩).toArray 9):=Any.strings_Fields Tryz.lays157 (by kernel_rfl) (by kernel_rfl) s w o k m
end Go.Proofs
namespace Go.Proofs.YtcbmoiabehpliaaGreatDoor
open Go.RowKit
structure Nd where
 k:Int
 f:Int
 t:Int
 l:Int
 op:Int
 n:Int
 x:ByteArray
 nm:List ByteArray
 ks:List Int
def aH(W:World)(v:Value)(l:List ByteArray):Prop:=
 (l=[]/\∃a c,v= .slice a 0 c)\/∃a c,v= .slice (some a) l.length c/\∀j k,l[j]?=some k->W.cell? (a.add j)=some (.string k)
def aV(W:World)(v:Value)(l:List Int):Prop:=
 (l=[]/\∃a c,v= .slice a 0 c)\/∃a c,v= .slice (some a) l.length c/\∀j z,l[j]?=some z->W.cell? (a.add j)=some (.int .i64 z)
structure yQ (W:World) (a:Addr) (N:Nd) (vn vk:Value):Prop where
 c0:W.cell? a=some (.int .i64 N.k)
 c1:W.cell? ⟨a.block,a.off+1,none⟩=some (.int .i64 N.f)
 c2:W.cell? ⟨a.block,a.off+2,none⟩=some (.int .i64 N.t)
 c3:W.cell? ⟨a.block,a.off+3,none⟩=some (.int .i64 N.l)
 c4:W.cell? ⟨a.block,a.off+4,none⟩=some (.int .i64 N.op)
 c5:W.cell? ⟨a.block,a.off+5,none⟩=some (.int .i64 N.n)
 c6:W.cell? ⟨a.block,a.off+6,none⟩=some (.string N.x)
 c7:W.cell? ⟨a.block,a.off+7,none⟩=some vn
 c8:W.cell? ⟨a.block,a.off+8,none⟩=some vk
 hn:aH W vn N.nm
 hk:aV W vk N.ks
def bf(W:World)(v:Value)(ns:List Nd):Prop:=
 (ns=[]/\∃a c,v= .slice a 0 c)\/∃a c,v= .slice (some a) ns.length c/\∀i j,ns[i]?=some j->∃k l,yQ W (a.add (i*9)) j k l
theorem mP{W:World}{a:Addr}{v:Value}(h:W.cell? a=some v):a.block<W.heap.size:=by
 unfold World.cell? at h;rcases Nat.lt_or_ge a.block W.heap.size with g|g
 ·exact g
 ·rw[Array.getElem?_eq_none g]at h;simp at h
theorem aa{W j:World}(k:Below W.heap.size W j){a:Addr}{v:Value}(h:W.cell? a=some v):j.cell? a=some v:=by
 rw[<-h];unfold World.cell?;rw[k.block _ (mP h)]
theorem aH.below{W j:World}{v:Value}{l:List ByteArray}(h:aH W v l)(p:Below W.heap.size W j):aH j v l:=by
 rcases h with h|⟨a,c,q,o⟩
 ·exact .inl h
 ·exact .inr ⟨a,c,q,fun k m n=>aa p (o k m n)⟩
theorem aV.below{W j:World}{v:Value}{l:List Int}(h:aV W v l)(p:Below W.heap.size W j):aV j v l:=by
 rcases h with h|⟨a,c,q,o⟩
 ·exact .inl h
 ·exact .inr ⟨a,c,q,fun k m n=>aa p (o k m n)⟩
theorem yQ.below{W k:World}{a:Addr}{N:Nd}{vn vk:Value}(h:yQ W a N vn vk)(j:Below W.heap.size W k):yQ k a N vn vk:=
 ⟨aa j h.c0,aa j h.c1,aa j h.c2,aa j h.c3,aa j h.c4,aa j h.c5,aa j h.c6,aa j h.c7,aa j h.c8,h.hn.below j,h.hk.below j⟩
theorem bf.below{W j:World}{v:Value}{ns:List Nd}(h:bf W v ns)(p:Below W.heap.size W j):bf j v ns:=by
 rcases h with h|⟨a,c,q,o⟩
 ·exact .inl h
 ·exact .inr ⟨a,c,q,fun i k n=>by obtain⟨l,m,g⟩:=o i k n;exact⟨l,m,g.below p⟩⟩
theorem aH.form{W:World}{v:Value}{l:List ByteArray}(h:aH W v l):∃a c,v= .slice a l.length c:=by
 rcases h with⟨rfl,a,c,h⟩|⟨a,c,j,k⟩
 ·exact⟨a,c,h⟩
 ·exact⟨_,_,j⟩
theorem aV.form{W:World}{v:Value}{l:List Int}(h:aV W v l):∃a c,v= .slice a l.length c:=by
 rcases h with⟨rfl,a,c,h⟩|⟨a,c,j,k⟩
 ·exact⟨a,c,h⟩
 ·exact⟨_,_,j⟩
theorem bf.form{W:World}{v:Value}{l:List Nd}(h:bf W v l):∃a c,v= .slice a l.length c:=by
 rcases h with⟨rfl,a,c,h⟩|⟨a,c,j,k⟩
 ·exact⟨a,c,h⟩
 ·exact⟨_,_,j⟩
theorem aH.get{W:World}{a:Option Addr}{n c:Nat}{l:List ByteArray}(h:aH W (.slice a n c) l){k:Nat}{s:ByteArray}(m:l[k]?=some s):∃j,a=some j/\W.cell? (j.add k)=some (.string s):=by
 rcases h with⟨rfl,_⟩|⟨j,p,e,o⟩
 ·simp at m
 ·cases e;exact⟨j,rfl,o k s m⟩
theorem aV.get{W:World}{a:Option Addr}{n c:Nat}{l:List Int}(h:aV W (.slice a n c) l){k:Nat}{s:Int}(m:l[k]?=some s):∃j,a=some j/\W.cell? (j.add k)=some (.int .i64 s):=by
 rcases h with⟨rfl,_⟩|⟨j,p,e,o⟩
 ·simp at m
 ·cases e;exact⟨j,rfl,o k s m⟩
theorem bf.get{W:World}{a:Option Addr}{n c:Nat}{l:List Nd}(h:bf W (.slice a n c) l){k:Nat}{N:Nd}(m:l[k]?=some N):∃j,a=some j/\∃vn vk,yQ W (j.add (k*9)) N vn vk:=by
 rcases h with⟨rfl,_⟩|⟨j,p,e,o⟩
 ·simp at m
 ·cases e;exact⟨j,rfl,o k N m⟩
theorem ai{w l:World}{base e size:Nat}{v:Value}{n:Nat}{k:List Value}(h:w.ownsRow base e size v n k)(j:Below w.heap.size w l):l.ownsRow base e size v n k:=
 h.kept (row:=none) ⟨j.os,j.tape,j.output,j.size,fun m o _=>j.block m o⟩ (by cases v.ownBlock<;>simp)
theorem cU{w:World}{base l e size:Nat}{v:Value}{n:Nat}{k:List Value}(h:w.ownsRow base e size v n k)(s:l<=base):w.ownsRow l e size v n k:=by
 obtain⟨t,j⟩:=h;refine⟨t,?_⟩;rcases j with j|⟨g,q,m,o,r,p⟩
 ·exact .inl j
 ·exact .inr ⟨g,q,m,o,Nat.le_trans s r,p⟩
theorem aF{α:Type}{l:List α}{n k:Nat}(j:l.length=n)(h:k<n):∃s,l[k]?=some s:=⟨l[k]'(by omega),List.getElem?_eq_getElem _⟩
theorem bz{b:Nat}{W:World}{t:TypeId}{fr:Nat×Nat}{j m n l o k:Value}(h:W.heap[b]?=some (.cells #[j,m,n,l,o,k] t fr)):W.cell? ⟨b,0,none⟩=some j/\W.cell? ⟨b,1,none⟩=some m/\W.cell? ⟨b,2,none⟩=some n/\W.cell? ⟨b,3,none⟩=some l/\W.cell? ⟨b,4,none⟩=some o/\W.cell? ⟨b,5,none⟩=some k:=by
 refine⟨?_,?_,?_,?_,?_,?_⟩<;>(rw[cell_of_row _ _ _ _ _ _ h];rfl)
theorem er{b:Nat}{W:World}{t:TypeId}{cs:Array Value}(h:W.heap[b]?=some (.cells cs t (0,0))):W.frozen? ⟨b,0,none⟩=false/\W.frozen? ⟨b,1,none⟩=false/\W.frozen? ⟨b,2,none⟩=false/\W.frozen? ⟨b,3,none⟩=false/\W.frozen? ⟨b,4,none⟩=false/\W.frozen? ⟨b,5,none⟩=false:=
 ⟨frozen_of_row _ _ _ _ _ h,frozen_of_row _ _ _ _ _ h,frozen_of_row _ _ _ _ _ h,frozen_of_row _ _ _ _ _ h,frozen_of_row _ _ _ _ _ h,frozen_of_row _ _ _ _ _ h⟩
def ja(W:World)(b:Nat)(n l k j m o:Value):World:=((((((W.setCell ⟨b,0,none⟩ n).setCell ⟨b,1,none⟩ l).setCell ⟨b,2,none⟩ k).setCell ⟨b,3,none⟩ j).setCell ⟨b,4,none⟩ m).setCell ⟨b,5,none⟩ o)
theorem kX{b:Nat}{W:World}{t:TypeId}{B u s r p o:Value}(h:W.heap[b]?=some (.cells #[B,u,s,r,p,o] t (0,0)))(j k l m n q:Value):(ja W b j k l m n q).heap[b]?=some (.cells #[j,k,l,m,n,q] t (0,0)):=by
 unfold ja;have s0:(W.setCell ⟨b,0,none⟩ j).heap[b]?=some (.cells #[j,u,s,r,p,o] t (0,0)):=heap_setCell_same _ b 0 _ _ _ h;have C:((W.setCell ⟨b,0,none⟩ j).setCell ⟨b,1,none⟩ k).heap[b]?=some (.cells #[j,k,s,r,p,o] t (0,0)):=heap_setCell_same _ b 1 _ _ _ s0;have E:(((W.setCell ⟨b,0,none⟩ j).setCell ⟨b,1,none⟩ k).setCell ⟨b,2,none⟩ l).heap[b]?=some (.cells #[j,k,l,r,p,o] t (0,0)):=heap_setCell_same _ b 2 _ _ _ C;have y:((((W.setCell ⟨b,0,none⟩ j).setCell ⟨b,1,none⟩ k).setCell ⟨b,2,none⟩ l).setCell ⟨b,3,none⟩ m).heap[b]?=some (.cells #[j,k,l,m,p,o] t (0,0)):=heap_setCell_same _ b 3 _ _ _ E;have x:(((((W.setCell ⟨b,0,none⟩ j).setCell ⟨b,1,none⟩ k).setCell ⟨b,2,none⟩ l).setCell ⟨b,3,none⟩ m).setCell ⟨b,4,none⟩ n).heap[b]?=some (.cells #[j,k,l,m,n,o] t (0,0)):=heap_setCell_same _ b 4 _ _ _ y;have A:((((((W.setCell ⟨b,0,none⟩ j).setCell ⟨b,1,none⟩ k).setCell ⟨b,2,none⟩ l).setCell ⟨b,3,none⟩ m).setCell ⟨b,4,none⟩ n).setCell ⟨b,5,none⟩ q).heap[b]?=some (.cells #[j,k,l,m,n,q] t (0,0)):=heap_setCell_same _ b 5 _ _ _ x;exact A
theorem na{W:World}{b k:Nat}(h:k≠b)(o m l j n p:Value):(ja W b o m l j n p).heap[k]?=W.heap[k]?:=by
 unfold ja;rw[heap_setCell_other _ _ _ _ h,heap_setCell_other _ _ _ _ h,heap_setCell_other _ _ _ _ h,heap_setCell_other _ _ _ _ h,heap_setCell_other _ _ _ _ h,heap_setCell_other _ _ _ _ h]
theorem eP(w:World):w.drew.heap=w.heap:=rfl
theorem dI{W:World}{b k:Nat}(h:k≠b)(j:Nat)(p n m l o q:Value):(ja W b p n m l o q).drew.cell? ⟨k,j,none⟩=W.cell? ⟨k,j,none⟩:=by
 unfold World.cell?;rw[eP,na h]
theorem qi{k W:World}{b base:Nat}(h:Below base k W)(j:base<=b)(p n m l o q:Value):Below base k (ja W b p n m l o q):=by
 unfold ja;exact(((((h.setCell j _).setCell j _).setCell j _).setCell j _).setCell j _).setCell j _
theorem jP(W:World)(b:Nat)(o m l k n p:Value):W.grownBy (ja W b o m l k n p).drew (some b):=by
 have j:=(qi (Below.refl b W) (Nat.le_refl b) o m l k n p).drew;exact⟨j.os,j.tape,j.output,j.size,fun r s q=>by rw[eP,na (fun e=>q (by rw[e]))]⟩
structure Tk where
 k:Int
 f:Int
 t:Int
 l:Int
 n:Int
 x:ByteArray
def vw(T:Tk):Value:= .agg #[.int .i64 T.k,.int .i64 T.f,.int .i64 T.t,.int .i64 T.l,.int .i64 T.n,.string T.x]
def Ga(T:Tk):List Value:=[.int .i64 T.k,.int .i64 T.f,.int .i64 T.t,.int .i64 T.l,.int .i64 T.n,.string T.x]
def mD(ts:List Tk):List Value:=ts.flatMap Ga
theorem hU(a:List Tk)(T:Tk):mD (a++[T])=mD a++Ga T:=by simp[mD]
end Go.Proofs.YtcbmoiabehpliaaGreatDoor
