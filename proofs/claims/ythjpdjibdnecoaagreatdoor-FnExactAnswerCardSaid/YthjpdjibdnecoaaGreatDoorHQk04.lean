import Derived.Shelf.Strings.OnBuilder
import Derived.Shelf.Small.Utf8
import Derived.Shelf.Small.Strs
import Derived.Shelf.Small.Wraps
import Derived.Shelf.Strings.BuilderK
import Derived.Shelf.Strconv.Itoa4
import Derived.Shelf.Strconv.ErrVarParseInt
import Derived.Shelf.Pu.ErrVarParseUint
import Derived.Shelf.Strings.Shaped
import Derived.Shelf.Strings.LastIndex
import Derived.Shelf.Strings.Fields
import Derived.Shelf.Strings.Repeat
import Derived.Shelf.Unicode.DecodeSlow
import Derived.Shelf.Unicode.IsSpaceAny
import Derived.Shelf.Unicode.ExclAny
import Derived.Shelf.Slices.Empties2
import Derived.ProofKit
import Derived.OneCell
import Derived.RangeFuncBox
import Derived.Deep.RegionHeld3
import Derived.Test.YthjpdjibdnecoaaGreatDoorHQk01
set_option linter.all false
open Option renaming some->A,none->C
open Bool renaming true->B,false->Q
open Go renaming World->E,Value->H,Calls->V,TypeId->X
open Go.Proofs.Tryz renaming prog->F,sizeOf3->O,isAgg3->R
open Go.Value renaming string->G,int->I,slice->L,tuple->Y,nilIface->Z,string->u,iface->y,pointer->z
open Go.IntKind renaming i64->J
open Go.Shelf renaming Ren->K
open Go.Ending renaming returned->M
open Go.Obj renaming cells->S
open Go.RowKit renaming Below->U
namespace Go.Proofs
open Go.Shelf
def Tryz.lays103_ren:K:=⟨fun|103=>234|210=>249|206=>163|n=>n,fun|9=>9|4=>4|24=>257|3=>3|n=>n,fun|n=>n⟩
theorem Tryz.lays103:Go.Proofs.Lays.n103 F Tryz.lays103_ren:={
 mixed:=by kernel_rfl
 f103:=Tryz.func234.trans (congrArg A (by kernel_rfl))
 f206:=Tryz.func163.trans (congrArg A (by kernel_rfl))
 f210:=Tryz.func249.trans (congrArg A (by kernel_rfl))
 t3:=Tryz.underlying3
 a3:=R
 z3:=O
 v3:=Tryz.zeroValue3
 t4:=Tryz.underlying4
 a4:=Tryz.isAgg4
 z4:=Tryz.sizeOf4
 v4:=Tryz.zeroValue4
 t9:=Tryz.underlying9
 a9:=Tryz.isAgg9
 z9:=Tryz.sizeOf9
 v9:=Tryz.zeroValue9
 t24:=Tryz.underlying257
 a24:=Tryz.isAgg257
 z24:=Tryz.sizeOf257
 v24:=Tryz.zeroValue257}
open Go.RowKit in
theorem Tryz.strings_CutPrefix(s p:ByteArray)(w:E):
  V F 234 #[G s,G p] w fun e a=>e= M (Y #[G ⟨(Lib.trimPrefix s.data.toList p.data.toList).toArray⟩,.bool (Lib.hasPrefix s.data.toList p.data.toList)])/\a=w:=Any.strings_CutPrefix Tryz.lays103 s p w
def Tryz.lays104_ren:K:=⟨fun|104=>227|211=>246|207=>257|n=>n,fun|9=>9|4=>4|24=>257|3=>3|n=>n,fun|n=>n⟩
theorem Tryz.lays104:Go.Proofs.Lays.n104 F Tryz.lays104_ren:={
 mixed:=by kernel_rfl
 f104:=Tryz.func227.trans (congrArg A (by kernel_rfl))
 f207:=Tryz.func257.trans (congrArg A (by kernel_rfl))
 f211:=Tryz.func246.trans (congrArg A (by kernel_rfl))
 t3:=Tryz.underlying3
 a3:=R
 z3:=O
 v3:=Tryz.zeroValue3
 t4:=Tryz.underlying4
 a4:=Tryz.isAgg4
 z4:=Tryz.sizeOf4
 v4:=Tryz.zeroValue4
 t9:=Tryz.underlying9
 a9:=Tryz.isAgg9
 z9:=Tryz.sizeOf9
 v9:=Tryz.zeroValue9
 t24:=Tryz.underlying257
 a24:=Tryz.isAgg257
 z24:=Tryz.sizeOf257
 v24:=Tryz.zeroValue257}
open Go.RowKit in
theorem Tryz.strings_CutSuffix(s p:ByteArray)(w:E)(a:s.size<=9223372036854775807):
  V F 227 #[G s,G p] w fun e b=>e= M (Y #[G ⟨(Lib.trimSuffix s.data.toList p.data.toList).toArray⟩,.bool (Lib.hasSuffix s.data.toList p.data.toList)])/\b=w:=Any.strings_CutSuffix Tryz.lays104 s p w a
def Tryz.laysM173_ren:K:=⟨fun|173=>43|246=>82|283=>142|284=>143|285=>144|286=>145|129=>196|317=>195|318=>197|319=>198|320=>199|337=>229|338=>230|n=>n,fun|2=>2|3=>3|9=>9|4=>4|171=>232|0=>0|53=>233|37=>49|5=>5|173=>236|212=>261|51=>171|20=>20|213=>262|46=>137|232=>296|233=>297|n=>n,fun|17=>5|18=>9|19=>10|n=>n⟩
theorem Tryz.laysM173:Go.Proofs.LaysM.n173 F Tryz.laysM173_ren:={
 mixed:=by kernel_rfl
 f129:=Tryz.func196.trans (congrArg A (by kernel_rfl))
 f173:=Tryz.func43.trans (congrArg A (by kernel_rfl))
 f246:=Tryz.func82.trans (congrArg A (by kernel_rfl))
 f283:=Tryz.func142.trans (congrArg A (by kernel_rfl))
 f284:=Tryz.func143.trans (congrArg A (by kernel_rfl))
 f285:=Tryz.func144.trans (congrArg A (by kernel_rfl))
 f286:=Tryz.func145.trans (congrArg A (by kernel_rfl))
 f317:=Tryz.func195.trans (congrArg A (by kernel_rfl))
 f318:=Tryz.func197.trans (congrArg A (by kernel_rfl))
 f319:=Tryz.func198.trans (congrArg A (by kernel_rfl))
 f320:=Tryz.func199.trans (congrArg A (by kernel_rfl))
 f337:=Tryz.func229.trans (congrArg A (by kernel_rfl))
 f338:=Tryz.func230.trans (congrArg A (by kernel_rfl))
 t0:=Tryz.underlying0
 a0:=Tryz.isAgg0
 z0:=Tryz.sizeOf0
 v0:=Tryz.zeroValue0
 t2:=Tryz.underlying2
 a2:=Tryz.isAgg2
 z2:=Tryz.sizeOf2
 v2:=Tryz.zeroValue2
 t3:=Tryz.underlying3
 a3:=R
 z3:=O
 v3:=Tryz.zeroValue3
 t4:=Tryz.underlying4
 a4:=Tryz.isAgg4
 z4:=Tryz.sizeOf4
 v4:=Tryz.zeroValue4
 t5:=Tryz.underlying5
 a5:=Tryz.isAgg5
 z5:=Tryz.sizeOf5
 v5:=Tryz.zeroValue5
 t9:=Tryz.underlying9
 a9:=Tryz.isAgg9
 z9:=Tryz.sizeOf9
 v9:=Tryz.zeroValue9
 t20:=Tryz.underlying20
 a20:=Tryz.isAgg20
 z20:=Tryz.sizeOf20
 v20:=Tryz.zeroValue20
 t37:=Tryz.underlying49
 a37:=Tryz.isAgg49
 z37:=Tryz.sizeOf49
 v37:=Tryz.zeroValue49
 t46:=Tryz.underlying137
 a46:=Tryz.isAgg137
 z46:=Tryz.sizeOf137
 v46:=Tryz.zeroValue137
 t51:=Tryz.underlying171
 a51:=Tryz.isAgg171
 z51:=Tryz.sizeOf171
 v51:=Tryz.zeroValue171
 t53:=Tryz.underlying233
 a53:=Tryz.isAgg233
 z53:=Tryz.sizeOf233
 v53:=Tryz.zeroValue233
 t171:=Tryz.underlying232
 a171:=Tryz.isAgg232
 z171:=Tryz.sizeOf232
 v171:=Tryz.zeroValue232
 t173:=Tryz.underlying236
 a173:=Tryz.isAgg236
 z173:=Tryz.sizeOf236
 v173:=Tryz.zeroValue236
 t212:=Tryz.underlying261
 a212:=Tryz.isAgg261
 z212:=Tryz.sizeOf261
 v212:=Tryz.zeroValue261
 t213:=Tryz.underlying262
 a213:=Tryz.isAgg262
 z213:=Tryz.sizeOf262
 t232:=Tryz.underlying296
 a232:=Tryz.isAgg296
 z232:=Tryz.sizeOf296
 v232:=Tryz.zeroValue296
 t233:=Tryz.underlying297
 a233:=Tryz.isAgg297
 z233:=Tryz.sizeOf297
 v233:=Tryz.zeroValue297
 g17:=by kernel_rfl
 g18:=by kernel_rfl
 g19:=by kernel_rfl
 i0:=by kernel_rfl
 i2:=by kernel_rfl
 i3:=by kernel_rfl
 i4:=by kernel_rfl
 i5:=by kernel_rfl
 i9:=by kernel_rfl
 i20:=by kernel_rfl
 i37:=by kernel_rfl
 i46:=by kernel_rfl
 i51:=by kernel_rfl
 i53:=by kernel_rfl
 i171:=by kernel_rfl
 i173:=by kernel_rfl
 i212:=by kernel_rfl
 i232:=by kernel_rfl
 i233:=by kernel_rfl
 m17:=by kernel_rfl
 m18:=by kernel_rfl
 m19:=by kernel_rfl}
open Go.RowKit Go.Sort Go.Lib in
theorem Tryz.strconv_FormatInt_10(n:Int)(a: -9223372036854775808<=n)(b:n<=9223372036854775807)(w:E)(c:Lib.TabIs F w "internal/strconv.uint64pow10" .u64 Lib.pow10Tab):
  V F 43 #[I J n,I J 10] w fun e d=>e= M (G ⟨(Lib.itoa n).toArray⟩)/\∃k os,d=grow (w.drewN k) os:=Any.strconv_FormatInt_10 Tryz.laysM173 n a b w c
def Tryz.laysM316_ren:K:=⟨fun|316=>231|n=>n,fun|9=>9|3=>3|4=>4|37=>49|0=>0|127=>108|5=>5|n=>n,fun|n=>n⟩
theorem Tryz.laysM316:Go.Proofs.LaysM.n316 F Tryz.laysM316_ren:={
 mixed:=by kernel_rfl
 f316:=Tryz.func231.trans (congrArg A (by kernel_rfl))
 t0:=Tryz.underlying0
 a0:=Tryz.isAgg0
 z0:=Tryz.sizeOf0
 v0:=Tryz.zeroValue0
 t3:=Tryz.underlying3
 a3:=R
 z3:=O
 v3:=Tryz.zeroValue3
 t4:=Tryz.underlying4
 a4:=Tryz.isAgg4
 z4:=Tryz.sizeOf4
 v4:=Tryz.zeroValue4
 t9:=Tryz.underlying9
 a9:=Tryz.isAgg9
 z9:=Tryz.sizeOf9
 v9:=Tryz.zeroValue9
 t37:=Tryz.underlying49
 a37:=Tryz.isAgg49
 z37:=Tryz.sizeOf49
 v37:=Tryz.zeroValue49
 t127:=Tryz.underlying108
 a127:=Tryz.isAgg108
 z127:=Tryz.sizeOf108
 v127:=Tryz.zeroValue108
 t5:=Tryz.underlying5
 a5:=Tryz.isAgg5
 z5:=Tryz.sizeOf5
 v5:=Tryz.zeroValue5
 i0:=by kernel_rfl
 i3:=by kernel_rfl
 i4:=by kernel_rfl
 i5:=by kernel_rfl
 i9:=by kernel_rfl
 i37:=by kernel_rfl
 i127:=by kernel_rfl}
open Go.RowKit in
theorem Tryz.stringslite_Clone(s:ByteArray)(w:E)(a:s.size<=281474976710656):
  V F 231 #[G s] w fun e b=>e= M (G s)/\U w.heap.size w b:=Any.stringslite_Clone Tryz.laysM316 s w a
def Tryz.lays321_ren:K:=⟨fun|321=>258|n=>n,fun|5=>5|n=>n,fun|n=>n⟩
theorem Tryz.lays321:Go.Proofs.Lays.n321 F Tryz.lays321_ren:={
 mixed:=by kernel_rfl
 f321:=Tryz.func258.trans (congrArg A (by kernel_rfl))
 t5:=Tryz.underlying5
 a5:=Tryz.isAgg5
 z5:=Tryz.sizeOf5
 v5:=Tryz.zeroValue5}
open Go.RowKit in
theorem Tryz.internal_strconv_lower(c:Int)(w:E):
  V F 258 #[I .u8 c] w fun e a=>e= M (I .u8 (bits .or .u8 c 32))/\a=w:=Any.internal_strconv_lower Tryz.lays321 c w
def Tryz.laysC174_ren:K:=⟨fun|174=>236|247=>252|245=>251|287=>250|279=>260|280=>261|281=>262|282=>263|321=>258|322=>259|316=>231|171=>28|205=>267|243=>54|246=>82|283=>142|284=>143|285=>144|286=>145|129=>196|317=>195|318=>197|319=>198|320=>199|337=>229|338=>230|n=>n,fun|9=>9|3=>3|2=>2|75=>33|85=>284|4=>4|167=>304|5=>5|53=>233|175=>282|46=>137|168=>306|37=>49|0=>0|210=>321|21=>21|127=>108|145=>327|143=>325|171=>232|173=>236|212=>261|51=>171|20=>20|213=>262|232=>296|233=>297|80=>36|n=>n,fun|15=>12|16=>13|17=>5|18=>9|19=>10|n=>n⟩
theorem Tryz.laysC174:Go.Proofs.LaysC.n174 F Tryz.laysC174_ren:={
 mixed:=by kernel_rfl
 f129:=Tryz.func196.trans (congrArg A (by kernel_rfl))
 f171:=Tryz.func28.trans (congrArg A (by kernel_rfl))
 f174:=Tryz.func236.trans (congrArg A (by kernel_rfl))
 f205:=Tryz.func267.trans (congrArg A (by kernel_rfl))
 f243:=Tryz.func54.trans (congrArg A (by kernel_rfl))
 f245:=Tryz.func251.trans (congrArg A (by kernel_rfl))
 f246:=Tryz.func82.trans (congrArg A (by kernel_rfl))
 f247:=Tryz.func252.trans (congrArg A (by kernel_rfl))
 f279:=Tryz.func260.trans (congrArg A (by kernel_rfl))
 f280:=Tryz.func261.trans (congrArg A (by kernel_rfl))
 f281:=Tryz.func262.trans (congrArg A (by kernel_rfl))
 f282:=Tryz.func263.trans (congrArg A (by kernel_rfl))
 f283:=Tryz.func142.trans (congrArg A (by kernel_rfl))
 f284:=Tryz.func143.trans (congrArg A (by kernel_rfl))
 f285:=Tryz.func144.trans (congrArg A (by kernel_rfl))
 f286:=Tryz.func145.trans (congrArg A (by kernel_rfl))
 f287:=Tryz.func250.trans (congrArg A (by kernel_rfl))
 f316:=Tryz.func231.trans (congrArg A (by kernel_rfl))
 f317:=Tryz.func195.trans (congrArg A (by kernel_rfl))
 f318:=Tryz.func197.trans (congrArg A (by kernel_rfl))
 f319:=Tryz.func198.trans (congrArg A (by kernel_rfl))
 f320:=Tryz.func199.trans (congrArg A (by kernel_rfl))
 f321:=Tryz.func258.trans (congrArg A (by kernel_rfl))
 f322:=Tryz.func259.trans (congrArg A (by kernel_rfl))
 f337:=Tryz.func229.trans (congrArg A (by kernel_rfl))
 f338:=Tryz.func230.trans (congrArg A (by kernel_rfl))
 t0:=Tryz.underlying0
 a0:=Tryz.isAgg0
 z0:=Tryz.sizeOf0
 v0:=Tryz.zeroValue0
 t2:=Tryz.underlying2
 a2:=Tryz.isAgg2
 z2:=Tryz.sizeOf2
 v2:=Tryz.zeroValue2
 t3:=Tryz.underlying3
 a3:=R
 z3:=O
 v3:=Tryz.zeroValue3
 t4:=Tryz.underlying4
 a4:=Tryz.isAgg4
 z4:=Tryz.sizeOf4
 v4:=Tryz.zeroValue4
 t5:=Tryz.underlying5
 a5:=Tryz.isAgg5
 z5:=Tryz.sizeOf5
 v5:=Tryz.zeroValue5
 t9:=Tryz.underlying9
 a9:=Tryz.isAgg9
 z9:=Tryz.sizeOf9
 v9:=Tryz.zeroValue9
 t20:=Tryz.underlying20
 a20:=Tryz.isAgg20
 z20:=Tryz.sizeOf20
 v20:=Tryz.zeroValue20
 t21:=Tryz.underlying21
 a21:=Tryz.isAgg21
 z21:=Tryz.sizeOf21
 v21:=Tryz.zeroValue21
 t37:=Tryz.underlying49
 a37:=Tryz.isAgg49
 z37:=Tryz.sizeOf49
 v37:=Tryz.zeroValue49
 t46:=Tryz.underlying137
 a46:=Tryz.isAgg137
 z46:=Tryz.sizeOf137
 v46:=Tryz.zeroValue137
 t51:=Tryz.underlying171
 a51:=Tryz.isAgg171
 z51:=Tryz.sizeOf171
 v51:=Tryz.zeroValue171
 t53:=Tryz.underlying233
 a53:=Tryz.isAgg233
 z53:=Tryz.sizeOf233
 v53:=Tryz.zeroValue233
 t75:=Tryz.underlying33
 a75:=Tryz.isAgg33
 z75:=Tryz.sizeOf33
 v75:=Tryz.zeroValue33
 t85:=Tryz.underlying284
 a85:=Tryz.isAgg284
 z85:=Tryz.sizeOf284
 v85:=Tryz.zeroValue284
 t127:=Tryz.underlying108
 a127:=Tryz.isAgg108
 z127:=Tryz.sizeOf108
 v127:=Tryz.zeroValue108
 t143:=Tryz.underlying325
 a143:=Tryz.isAgg325
 z143:=Tryz.sizeOf325
 v143:=Tryz.zeroValue325
 t145:=Tryz.underlying327
 a145:=Tryz.isAgg327
 z145:=Tryz.sizeOf327
 v145:=Tryz.zeroValue327
 t167:=Tryz.underlying304
 a167:=Tryz.isAgg304
 z167:=Tryz.sizeOf304
 v167:=Tryz.zeroValue304
 t168:=Tryz.underlying306
 a168:=Tryz.isAgg306
 z168:=Tryz.sizeOf306
 v168:=Tryz.zeroValue306
 t171:=Tryz.underlying232
 a171:=Tryz.isAgg232
 z171:=Tryz.sizeOf232
 v171:=Tryz.zeroValue232
 t173:=Tryz.underlying236
 a173:=Tryz.isAgg236
 z173:=Tryz.sizeOf236
 v173:=Tryz.zeroValue236
 t175:=Tryz.underlying282
 a175:=Tryz.isAgg282
 z175:=Tryz.sizeOf282
 v175:=Tryz.zeroValue282
 t210:=Tryz.underlying321
 a210:=Tryz.isAgg321
 z210:=Tryz.sizeOf321
 v210:=Tryz.zeroValue321
 t212:=Tryz.underlying261
 a212:=Tryz.isAgg261
 z212:=Tryz.sizeOf261
 v212:=Tryz.zeroValue261
 t213:=Tryz.underlying262
 a213:=Tryz.isAgg262
 z213:=Tryz.sizeOf262
 t232:=Tryz.underlying296
 a232:=Tryz.isAgg296
 z232:=Tryz.sizeOf296
 v232:=Tryz.zeroValue296
 t233:=Tryz.underlying297
 a233:=Tryz.isAgg297
 z233:=Tryz.sizeOf297
 v233:=Tryz.zeroValue297
 g15:=by kernel_rfl
 g16:=by kernel_rfl
 g17:=by kernel_rfl
 g18:=by kernel_rfl
 g19:=by kernel_rfl
 t80:=Tryz.underlying36
 a80:=Tryz.isAgg36
 z80:=Tryz.sizeOf36
 v80:=Tryz.zeroValue36
 i0:=by kernel_rfl
 i2:=by kernel_rfl
 i3:=by kernel_rfl
 i4:=by kernel_rfl
 i5:=by kernel_rfl
 i9:=by kernel_rfl
 i20:=by kernel_rfl
 i21:=by kernel_rfl
 i37:=by kernel_rfl
 i46:=by kernel_rfl
 i51:=by kernel_rfl
 i53:=by kernel_rfl
 i75:=by kernel_rfl
 i80:=by kernel_rfl
 i85:=by kernel_rfl
 i127:=by kernel_rfl
 i143:=by kernel_rfl
 i145:=by kernel_rfl
 i167:=by kernel_rfl
 i168:=by kernel_rfl
 i171:=by kernel_rfl
 i173:=by kernel_rfl
 i175:=by kernel_rfl
 i210:=by kernel_rfl
 i212:=by kernel_rfl
 i232:=by kernel_rfl
 i233:=by kernel_rfl
 m15:=by kernel_rfl
 m16:=by kernel_rfl
 m17:=by kernel_rfl
 m18:=by kernel_rfl
 m19:=by kernel_rfl
 c0:=by kernel_rfl
 c2:=by kernel_rfl
 c3:=by kernel_rfl
 c4:=by kernel_rfl
 c5:=by kernel_rfl
 c9:=by kernel_rfl
 c20:=by kernel_rfl
 c21:=by kernel_rfl
 c37:=by kernel_rfl
 c46:=by kernel_rfl
 c51:=by kernel_rfl
 c53:=by kernel_rfl
 c75:=by kernel_rfl
 c80:=by kernel_rfl
 c85:=by kernel_rfl
 c127:=by kernel_rfl
 c143:=by kernel_rfl
 c145:=by kernel_rfl
 c167:=by kernel_rfl
 c168:=by kernel_rfl
 c171:=by kernel_rfl
 c173:=by kernel_rfl
 c175:=by kernel_rfl
 c210:=by kernel_rfl
 c212:=by kernel_rfl
 c213:=by kernel_rfl
 c232:=by kernel_rfl
 c233:=by kernel_rfl}
open Go.RowKit in
theorem Tryz.strconv_ParseInt_10_at64_ok(s:ByteArray)(b:s.size<=9223372036854775806)(v:Int)(h:Lib.parseIntB 64 s.data.toList= .ok v)(w:E):
  V F 236 #[G s,I J 10,I J 64] w fun e a=>e= M (Y #[I J v,Z])/\(a=w\/∃t,a=Lib.bytesWorld w 5 t):=Any.strconv_ParseInt_10_at64_ok Tryz.laysC174 s b v h w
open Go.RowKit in
theorem Tryz.strconv_ParseInt_10_at64_syntax(s:ByteArray)(d:s.size<=281474976710656)(h:Lib.parseIntB 64 s.data.toList= .«syntax»)(a:H)(w:E)(f:w.cell? ⟨12,0,C⟩=A a)(c:a= Z\/∃i g,a= y i g):
  V F 236 #[G s,I J 10,I J 64] w fun e b=>∃N,e= M (Y #[I J (0),y 306 (z (A ⟨N,0,C⟩))])/\w.heap.size<=N/\b.heap[N]?=A (S #[G ⟨#[80,97,114,115,101,73,110,116]⟩,G s,a] 321 (0,0))/\U w.heap.size w b:=Any.strconv_ParseInt_10_at64_syntax Tryz.laysC174 s d h a w f c
open Go.RowKit in
theorem Tryz.strconv_ParseInt_10_at64_range(s:ByteArray)(d:s.size<=281474976710656)(h:Lib.parseIntB 64 s.data.toList= .range)(a:H)(w:E)(f:w.cell? ⟨13,0,C⟩=A a)(c:a= Z\/∃i g,a= y i g):
  V F 236 #[G s,I J 10,I J 64] w fun e b=>∃N,e= M (Y #[I J (Lib.intSat 64 s.data.toList),y 306 (z (A ⟨N,0,C⟩))])/\w.heap.size<=N/\b.heap[N]?=A (S #[G ⟨#[80,97,114,115,101,73,110,116]⟩,G s,a] 321 (0,0))/\U w.heap.size w b:=Any.strconv_ParseInt_10_at64_range Tryz.laysC174 s d h a w f c
def Tryz.lays99_ren:K:=⟨fun|99=>124|206=>163|n=>n,fun|9=>9|4=>4|3=>3|n=>n,fun|n=>n⟩
theorem Tryz.lays99:Go.Proofs.Lays.n99 F Tryz.lays99_ren:={
 mixed:=by kernel_rfl
 f99:=Tryz.func124.trans (congrArg A (by kernel_rfl))
 f206:=Tryz.func163.trans (congrArg A (by kernel_rfl))
 t3:=Tryz.underlying3
 a3:=R
 z3:=O
 v3:=Tryz.zeroValue3
 t4:=Tryz.underlying4
 a4:=Tryz.isAgg4
 z4:=Tryz.sizeOf4
 v4:=Tryz.zeroValue4
 t9:=Tryz.underlying9
 a9:=Tryz.isAgg9
 z9:=Tryz.sizeOf9
 v9:=Tryz.zeroValue9}
open Go.RowKit Go.Lib in
theorem Tryz.strings_HasPrefix(s p:ByteArray)(w:E):
  V F 124 #[G s,G p] w fun e a=>e= M (.bool (Lib.hasPrefix s.data.toList p.data.toList))/\a=w:=Any.strings_HasPrefix Tryz.lays99 s p w
def Tryz.lays157_ren:K:=⟨fun|157=>226|229=>244|199=>245|261=>256|311=>265|312=>266|n=>n,fun|9=>9|31=>50|3=>3|5=>5|4=>4|119=>293|0=>0|40=>295|152=>299|21=>21|154=>301|51=>171|141=>303|196=>312|193=>309|198=>315|49=>313|194=>310|201=>318|226=>323|46=>137|227=>324|n=>n,fun|0=>8|6=>11|n=>n⟩
theorem Tryz.lays157:Go.Proofs.Lays.n157 F Tryz.lays157_ren:={
 mixed:=by kernel_rfl
 f157:=Tryz.func226.trans (congrArg A (by kernel_rfl))
 f199:=Tryz.func245.trans (congrArg A (by kernel_rfl))
 f229:=Tryz.func244.trans (congrArg A (by kernel_rfl))
 f261:=Tryz.func256.trans (congrArg A (by kernel_rfl))
 f311:=Tryz.func265.trans (congrArg A (by kernel_rfl))
 f312:=Tryz.func266.trans (congrArg A (by kernel_rfl))
 t0:=Tryz.underlying0
 a0:=Tryz.isAgg0
 z0:=Tryz.sizeOf0
 v0:=Tryz.zeroValue0
 t3:=Tryz.underlying3
 a3:=R
 z3:=O
 v3:=Tryz.zeroValue3
 t4:=Tryz.underlying4
 a4:=Tryz.isAgg4
 z4:=Tryz.sizeOf4
 v4:=Tryz.zeroValue4
 t5:=Tryz.underlying5
 a5:=Tryz.isAgg5
 z5:=Tryz.sizeOf5
 v5:=Tryz.zeroValue5
 t9:=Tryz.underlying9
 a9:=Tryz.isAgg9
 z9:=Tryz.sizeOf9
 v9:=Tryz.zeroValue9
 t21:=Tryz.underlying21
 a21:=Tryz.isAgg21
 z21:=Tryz.sizeOf21
 v21:=Tryz.zeroValue21
 t31:=Tryz.underlying50
 a31:=Tryz.isAgg50
 z31:=Tryz.sizeOf50
 v31:=Tryz.zeroValue50
 t40:=Tryz.underlying295
 a40:=Tryz.isAgg295
 z40:=Tryz.sizeOf295
 v40:=Tryz.zeroValue295
 t46:=Tryz.underlying137
 a46:=Tryz.isAgg137
 z46:=Tryz.sizeOf137
 v46:=Tryz.zeroValue137
 t49:=Tryz.underlying313
 a49:=Tryz.isAgg313
 z49:=Tryz.sizeOf313
 v49:=Tryz.zeroValue313
 t51:=Tryz.underlying171
 a51:=Tryz.isAgg171
 z51:=Tryz.sizeOf171
 v51:=Tryz.zeroValue171
 t119:=Tryz.underlying293
 a119:=Tryz.isAgg293
 z119:=Tryz.sizeOf293
 t141:=Tryz.underlying303
 a141:=Tryz.isAgg303
 z141:=Tryz.sizeOf303
 v141:=Tryz.zeroValue303
 t152:=Tryz.underlying299
 a152:=Tryz.isAgg299
 z152:=Tryz.sizeOf299
 v152:=Tryz.zeroValue299
 t154:=Tryz.underlying301
 a154:=Tryz.isAgg301
 z154:=Tryz.sizeOf301
 v154:=Tryz.zeroValue301
 t193:=Tryz.underlying309
 a193:=Tryz.isAgg309
 z193:=Tryz.sizeOf309
 v193:=Tryz.zeroValue309
 t194:=Tryz.underlying310
 a194:=Tryz.isAgg310
 z194:=Tryz.sizeOf310
 v194:=Tryz.zeroValue310
 t196:=Tryz.underlying312
 a196:=Tryz.isAgg312
 z196:=Tryz.sizeOf312
 v196:=Tryz.zeroValue312
 t198:=Tryz.underlying315
 a198:=Tryz.isAgg315
 z198:=Tryz.sizeOf315
 v198:=Tryz.zeroValue315
 t201:=Tryz.underlying318
 a201:=Tryz.isAgg318
 z201:=Tryz.sizeOf318
 v201:=Tryz.zeroValue318
 t226:=Tryz.underlying323
 a226:=Tryz.isAgg323
 z226:=Tryz.sizeOf323
 v226:=Tryz.zeroValue323
 t227:=Tryz.underlying324
 a227:=Tryz.isAgg324
 z227:=Tryz.sizeOf324
 v227:=Tryz.zeroValue324
 g0:=by kernel_rfl
 g6:=by kernel_rfl}
open Go.RowKit Go.Lib in
theorem Tryz.strings_Fields(s:ByteArray)(w:E)(c:s.size<4294967281)(a:∀(j:Nat) b,s.data.toList[j]?=A b->b.toNat<128)(d:Lib.TabIs F w "strings.asciiSpace" .u8 Lib.asciiSpaceTab):
  V F 226 #[G s] w fun e f=>
   e= M (L (A ⟨w.heap.size,0,C⟩) (Lib.fields s.data.toList).length (Lib.fields s.data.toList).length)/\f=w.alloc (S ((Lib.fields s.data.toList).map fun l=>u ⟨l.toArray⟩).toArray 9):=Any.strings_Fields Tryz.lays157 (by kernel_rfl) (by kernel_rfl) s w c a d
end Go.Proofs
namespace Go.Proofs.YthjpdjibdnecoaaGreatDoor
def ld(t:Int):Bool:=decide (t=25\/t=50\/t=62\/t=69)
def ia(t:Int):Bool:=decide (t=10\/t=26\/60<t)
def dG(t:Int):Bool:=decide (t=1\/t=2\/t=3\/t=4\/t=24\/t=29\/t=17\/t=49\/t=18\/t=40\/t=42)||ld t
def ik(t:Int):List Int×Bool:=if t=22 then([t,1,104,103],B) else if t=13 then([t,1,47,119],B) else if t=18 then([t,1,133],B) else if t=20 then([t,119,132,105],B) else if t=31 then([t,119,132],B) else if t=19 then([t,1,106],B) else if t=11 then([t],B) else if t=23 then([t],B) else if t=27 then([t,108],B) else if t=30 then([t,132,12,1,109,132],B) else if t=28 then([t,119],B) else if t=14 then([t,116],B) else if t=42 then([132],B) else if t=1 then([t,110],B) else if t=40 then([t,119,41,112],B) else([],Q)
def pz(t a c:Int):List Int:=if t=48 then [t,1,a] else if t=44 then [t,119,45,a] else if t=40 then [t,123,41,c] else []
def GH(t:Int):List Int×Bool:=if ld t=B then([t,120],B) else if t=1 then([t,122],B) else if t=40 then([t,119,41,122],B) else if t=42 then([t,129,43],B) else if t=18 then([t,133],B) else([t],dG t)
def aba(t:Int):List Int×Bool:=if t=5 then([t,100],B) else if(ik t).2=B then((ik t).1++[101],B) else([],B)
def af6(t:Int):List Int×Bool:=if t=5 then([t,100],B) else([],B)
def akx(t:Int):List Int×Bool:=([40,126,41,132],decide (t=40))
def af7(t:Int):List Int×Bool:=if t=47 then([t,124],B) else([],B)
def af8(t:Int):List Int×Bool:=if t=46 then([t,1,104],B) else([],B)
def acu(t:Int):List Int×Bool:=if t=15 then([t,119,132,105],B) else if t=16 then([t,132],B) else([],B)
def af9(t:Int):List Int×Bool:=if t=47 then([t,119,46,119,107,132],B) else([104,21,119,132],decide (t=46\/t=21))
def aga(t:Int):List Int×Bool:=if t=46 then([t,119],B) else([],B)
def agb(t:Int):List Int×Bool:=if dG t=B then([124],B) else([],B)
def agc(t:Int):List Int×Bool:=if t=46 then([t,1],B) else([],B)
def acv(t:Int):List Int×Bool:=if t=48 then([t,1,110],B) else if t=44 then([t,119,45,110],B) else if t=40 then([t,123,41,111],B) else if t=46 then([t,113],B) else if t=47 then([t,124],B) else([],Q)
def aix(t:Int):List Int×Bool:=if t=48 then([t,1,110],B) else if t=44 then([t,119,45,110],B) else if t=40 then([t,123,41,111],B) else([],B)
def aiy(t:Int):List Int×Bool:=if t=48 then([t,1,110],B) else if t=44 then([t,119,45,110],B) else if t=40 then([t,123,41,111],B) else([],Q)
def acw(t:Int):List Int×Bool:=if t=1 then([t,114],B) else if t=40 then([t,119,41,115],B) else([],Q)
def acx(t:Int):List Int×Bool:=if t=48 then([t,1,114],B) else if t=44 then([t,119,45,114],B) else if t=40 then([t,123,41,115],B) else if t=46 then([t,113],B) else if t=47 then([t,124],B) else([],Q)
def aiz(t:Int):List Int×Bool:=if t=48 then([t,1,114],B) else if t=44 then([t,119,45,114],B) else if t=40 then([t,123,41,115],B) else([],Q)
def acy(t:Int):List Int×Bool:=if t=1 then([t,117],B) else if t=40 then([t,119,41,117],B) else([],Q)
def aiA(t:Int):List Int×Bool:=if t=48 then([t,1,117],B) else if t=44 then([t,119,45,117],B) else if t=40 then([t,123,41,118],B) else([],Q)
def aiB(t:Int):List Int×Bool:=if t=48 then([t,1,117],B) else if t=44 then([t,119,45,117],B) else if t=40 then([t,123,41,118],B) else([],B)
def agd(t:Int):List Int×Bool:=([120,121],dG t)
def aky(t:Int):List Int×Bool:=GH t
def age(t:Int):List Int×Bool:=if ia t=B then([t,119],B) else([],B)
def agf(t:Int):List Int×Bool:=(pz t 122 122,B)
def agh(t:Int):List Int×Bool:=if dG t=B then([124],B) else([],B)
def aiC(t:Int):List Int×Bool:=([119,125],dG t)
def agi(t:Int):List Int×Bool:=if t=46 then([t,119,125],B) else([],B)
def acz(t:Int):List Int×Bool:=if t=1 then([t,127],B) else if t=49 then([t],B) else([],B)
def agj(t:Int):List Int×Bool:=if t=46 then([t,128],B) else([],B)
def acA(t:Int):List Int×Bool:=if t=1 then([t,127],B) else if t=49 then([t],B) else([],Q)
def agk(t:Int):List Int×Bool:=if dG t=B then([131,130],B) else if t=48 then([131,130],B) else if t=44 then([131,130],B) else([],B)
def agl(t:Int):List Int×Bool:=if t=46 then([t,129],B) else([],B)
def acB(t:Int):List Int×Bool:=if t=48 then([t,1,47,119],B) else if t=44 then([t,119,45,47,119],B) else([119],dG t)
def acC(t:Int):List Int×Bool:=([42,100,43],decide (t=42))
def agm(t:Int):List Int×Bool:=([40,126,41,132],decide (t=40))
def xE(s t:Int):List Int×Bool:=
 if s=100 then aba t else if s=101 then af6 t else if s=102 then akx t else if s=103 then af7 t else if s=104 then af8 t else if s=105 then acu t else if s=106 then af9 t else if s=107 then aga t else if s=108 then agb t else if s=109 then agc t else if s=110 then acv t else if s=111 then aix t else if s=112 then aiy t else if s=113 then acw t else if s=114 then acx t else if s=115 then aiz t else if s=116 then acy t else if s=117 then aiA t else if s=118 then aiB t else if s=119 then agd t else if s=120 then aky t else if s=121 then age t else if s=122 then agf t else if s=123 then agh t else if s=124 then aiC t else if s=125 then agi t else if s=126 then acz t else if s=127 then agj t else if s=128 then acA t else if s=129 then agk t else if s=130 then agl t else if s=131 then acB t else if s=132 then acC t else agm t
end Go.Proofs.YthjpdjibdnecoaaGreatDoor
namespace Go.Proofs.YthjpdjibdnecoaaGreatDoor
open Go.RowKit
structure Nd where
 k:Int
 f:Int
 t:Int
 l:Int
 op:Int
 n:Int
 x:ByteArray
 nm:List ByteArray
 ks:List Int
def cH(W:E)(v:H)(l:List ByteArray):Prop:=
 (l=[]/\∃a b,v= L a 0 b)\/∃a b,v= L (A a) l.length b/\∀c d,l[c]?=A d->W.cell? (a.add c)=A (G d)
def eo(W:E)(v:H)(l:List Int):Prop:=
 (l=[]/\∃a b,v= L a 0 b)\/∃a b,v= L (A a) l.length b/\∀c d,l[c]?=A d->W.cell? (a.add c)=A (I J d)
structure abb (W:E) (a:Addr) (N:Nd) (vn vk:H):Prop where
 c0:W.cell? a=A (.int .i64 N.k)
 c1:W.cell? ⟨a.block,a.off+1,C⟩=A (.int .i64 N.f)
 c2:W.cell? ⟨a.block,a.off+2,C⟩=A (.int .i64 N.t)
 c3:W.cell? ⟨a.block,a.off+3,C⟩=A (.int .i64 N.l)
 c4:W.cell? ⟨a.block,a.off+4,C⟩=A (.int .i64 N.op)
 c5:W.cell? ⟨a.block,a.off+5,C⟩=A (.int .i64 N.n)
 c6:W.cell? ⟨a.block,a.off+6,C⟩=A (.string N.x)
 c7:W.cell? ⟨a.block,a.off+7,C⟩=A vn
 c8:W.cell? ⟨a.block,a.off+8,C⟩=A vk
 hn:cH W vn N.nm
 hk:eo W vk N.ks
def fx(W:E)(v:H)(ns:List Nd):Prop:=
 (ns=[]/\∃a b,v= L a 0 b)\/∃a b,v= L (A a) ns.length b/\∀d c,ns[d]?=A c->∃f e,abb W (a.add (d*9)) c f e
theorem Ba{W:E}{a:Addr}{v:H}(h:W.cell? a=A v):a.block<W.heap.size:=by
 unfold World.cell? at h;rcases co a.block W.heap.size with g|g
 ·exact g
 ·rw[tE g]at h;simp at h
theorem ai{W b:E}(c:U W.heap.size W b){a:Addr}{v:H}(h:W.cell? a=A v):b.cell? a=A v:=by
 rw[<-h];unfold World.cell?;rw[c.block _ (Ba h)]
theorem cH.below{W a:E}{v:H}{l:List ByteArray}(h:cH W v l)(f:U W.heap.size W a):cH a v l:=by
 rcases h with h|⟨b,c,d,e⟩
 ·exact .inl h
 ·exact .inr ⟨b,c,d,fun i j g=>ai f (e i j g)⟩
theorem eo.below{W a:E}{v:H}{l:List Int}(h:eo W v l)(f:U W.heap.size W a):eo a v l:=by
 rcases h with h|⟨b,c,d,e⟩
 ·exact .inl h
 ·exact .inr ⟨b,c,d,fun i j g=>ai f (e i j g)⟩
theorem abb.below{W c:E}{a:Addr}{N:Nd}{vn vk:H}(h:abb W a N vn vk)(b:U W.heap.size W c):abb c a N vn vk:=
 ⟨ai b h.c0,ai b h.c1,ai b h.c2,ai b h.c3,ai b h.c4,ai b h.c5,ai b h.c6,ai b h.c7,ai b h.c8,h.hn.below b,h.hk.below b⟩
theorem fx.below{W a:E}{v:H}{ns:List Nd}(h:fx W v ns)(j:U W.heap.size W a):fx a v ns:=by
 rcases h with h|⟨c,d,f,g⟩
 ·exact .inl h
 ·exact .inr ⟨c,d,f,fun k b i=>by obtain⟨m,l,e⟩:=g k b i;exact⟨m,l,e.below j⟩⟩
theorem cH.form{W:E}{v:H}{l:List ByteArray}(h:cH W v l):∃a c,v= L a l.length c:=by
 rcases h with⟨rfl,a,c,h⟩|⟨a,c,b,d⟩
 ·exact⟨a,c,h⟩
 ·exact⟨_,_,b⟩
theorem eo.form{W:E}{v:H}{l:List Int}(h:eo W v l):∃a c,v= L a l.length c:=by
 rcases h with⟨rfl,a,c,h⟩|⟨a,c,b,d⟩
 ·exact⟨a,c,h⟩
 ·exact⟨_,_,b⟩
theorem fx.form{W:E}{v:H}{l:List Nd}(h:fx W v l):∃a c,v= L a l.length c:=by
 rcases h with⟨rfl,a,c,h⟩|⟨a,c,b,d⟩
 ·exact⟨a,c,h⟩
 ·exact⟨_,_,b⟩
theorem cH.get{W:E}{a:Option Addr}{n c:Nat}{l:List ByteArray}(h:cH W (L a n c) l){k:Nat}{s:ByteArray}(d:l[k]?=A s):∃b,a=A b/\W.cell? (b.add k)=A (G s):=by
 rcases h with⟨rfl,_⟩|⟨b,g,e,f⟩
 ·simp at d
 ·cases e;exact⟨b,rfl,f k s d⟩
theorem eo.get{W:E}{a:Option Addr}{n c:Nat}{l:List Int}(h:eo W (L a n c) l){k:Nat}{s:Int}(d:l[k]?=A s):∃b,a=A b/\W.cell? (b.add k)=A (I J s):=by
 rcases h with⟨rfl,_⟩|⟨b,g,e,f⟩
 ·simp at d
 ·cases e;exact⟨b,rfl,f k s d⟩
theorem fx.get{W:E}{a:Option Addr}{n c:Nat}{l:List Nd}(h:fx W (L a n c) l){k:Nat}{N:Nd}(d:l[k]?=A N):∃b,a=A b/\∃vn vk,abb W (b.add (k*9)) N vn vk:=by
 rcases h with⟨rfl,_⟩|⟨b,g,e,f⟩
 ·simp at d
 ·cases e;exact⟨b,rfl,f k N d⟩
theorem aE{w b:E}{base e size:Nat}{v:H}{n:Nat}{c:List H}(h:w.ownsRow base e size v n c)(a:U w.heap.size w b):b.ownsRow base e size v n c:=
 h.kept (row:=C) ⟨a.os,a.tape,a.output,a.size,fun f d _=>a.block f d⟩ (by cases v.ownBlock<;>simp)
theorem iE{w:E}{base b e size:Nat}{v:H}{n:Nat}{c:List H}(h:w.ownsRow base e size v n c)(j:b<=base):w.ownsRow b e size v n c:=by
 obtain⟨i,a⟩:=h;refine⟨i,?_⟩;rcases a with a|⟨g,d,f,l,k,m⟩
 ·exact .inl a
 ·exact .inr ⟨g,d,f,l,bF j k,m⟩
theorem bL{α:Type}{l:List α}{n k:Nat}(a:l.length=n)(h:k<n):∃s,l[k]?=A s:=⟨l[k]'(by omega),bJ _⟩
theorem eJ{b:Nat}{W:E}{t:X}{fr:Nat×Nat}{a c d e f g:H}(h:W.heap[b]?=A (S #[a,c,d,e,f,g] t fr)):W.cell? ⟨b,0,C⟩=A a/\W.cell? ⟨b,1,C⟩=A c/\W.cell? ⟨b,2,C⟩=A d/\W.cell? ⟨b,3,C⟩=A e/\W.cell? ⟨b,4,C⟩=A f/\W.cell? ⟨b,5,C⟩=A g:=by
 refine⟨?_,?_,?_,?_,?_,?_⟩<;>(rw[aq _ _ _ _ _ _ h];rfl)
theorem mu{b:Nat}{W:E}{t:X}{cs:Array H}(h:W.heap[b]?=A (S cs t (0,0))):W.frozen? ⟨b,0,C⟩=Q/\W.frozen? ⟨b,1,C⟩=Q/\W.frozen? ⟨b,2,C⟩=Q/\W.frozen? ⟨b,3,C⟩=Q/\W.frozen? ⟨b,4,C⟩=Q/\W.frozen? ⟨b,5,C⟩=Q:=
 ⟨cC _ _ _ _ _ h,cC _ _ _ _ _ h,cC _ _ _ _ _ h,cC _ _ _ _ _ h,cC _ _ _ _ _ h,cC _ _ _ _ _ h⟩
def uG(W:E)(b:Nat)(a c d e f g:H):E:=((((((W.setCell ⟨b,0,C⟩ a).setCell ⟨b,1,C⟩ c).setCell ⟨b,2,C⟩ d).setCell ⟨b,3,C⟩ e).setCell ⟨b,4,C⟩ f).setCell ⟨b,5,C⟩ g)
theorem yn{b:Nat}{W:E}{t:X}{s m l k i g:H}(h:W.heap[b]?=A (S #[s,m,l,k,i,g] t (0,0)))(a c d e f j:H):(uG W b a c d e f j).heap[b]?=A (S #[a,c,d,e,f,j] t (0,0)):=by
 unfold uG;have s0:(W.setCell ⟨b,0,C⟩ a).heap[b]?=A (S #[a,m,l,k,i,g] t (0,0)):=bi _ b 0 _ _ _ h;have n:((W.setCell ⟨b,0,C⟩ a).setCell ⟨b,1,C⟩ c).heap[b]?=A (S #[a,c,l,k,i,g] t (0,0)):=bi _ b 1 _ _ _ s0;have o:(((W.setCell ⟨b,0,C⟩ a).setCell ⟨b,1,C⟩ c).setCell ⟨b,2,C⟩ d).heap[b]?=A (S #[a,c,d,k,i,g] t (0,0)):=bi _ b 2 _ _ _ n;have p:((((W.setCell ⟨b,0,C⟩ a).setCell ⟨b,1,C⟩ c).setCell ⟨b,2,C⟩ d).setCell ⟨b,3,C⟩ e).heap[b]?=A (S #[a,c,d,e,i,g] t (0,0)):=bi _ b 3 _ _ _ o;have q:(((((W.setCell ⟨b,0,C⟩ a).setCell ⟨b,1,C⟩ c).setCell ⟨b,2,C⟩ d).setCell ⟨b,3,C⟩ e).setCell ⟨b,4,C⟩ f).heap[b]?=A (S #[a,c,d,e,f,g] t (0,0)):=bi _ b 4 _ _ _ p;have r:((((((W.setCell ⟨b,0,C⟩ a).setCell ⟨b,1,C⟩ c).setCell ⟨b,2,C⟩ d).setCell ⟨b,3,C⟩ e).setCell ⟨b,4,C⟩ f).setCell ⟨b,5,C⟩ j).heap[b]?=A (S #[a,c,d,e,f,j] t (0,0)):=bi _ b 5 _ _ _ q;exact r
theorem Bt{W:E}{b k:Nat}(h:k≠b)(a c d e f g:H):(uG W b a c d e f g).heap[k]?=W.heap[k]?:=by
 unfold uG;rw[aD _ _ _ _ h,aD _ _ _ _ h,aD _ _ _ _ h,aD _ _ _ _ h,aD _ _ _ _ h,aD _ _ _ _ h]
theorem oq(w:E):w.drew.heap=w.heap:=rfl
theorem lg{W:E}{b k:Nat}(h:k≠b)(j:Nat)(a c d e f g:H):(uG W b a c d e f g).drew.cell? ⟨k,j,C⟩=W.cell? ⟨k,j,C⟩:=by
 unfold World.cell?;rw[oq,Bt h]
theorem Dr{c W:E}{b base:Nat}(h:U base c W)(a:base<=b)(d e f g i j:H):U base c (uG W b d e f g i j):=by
 unfold uG;exact(((((h.setCell a _).setCell a _).setCell a _).setCell a _).setCell a _).setCell a _
theorem xp(W:E)(b:Nat)(c d e f g h:H):W.grownBy (uG W b c d e f g h).drew (A b):=by
 have a:=(Dr (ag b W) (ae b) c d e f g h).drew;exact⟨a.os,a.tape,a.output,a.size,fun l k j=>by rw[oq,Bt (fun i=>j (by rw[i]))]⟩
theorem rl:(Tryz.prog.info? 3).map (fun i=>(i.zero,i.size,i.bytes))=A (A (I J 0),1,8):=by kernel_rfl
theorem GI{W:E}{base g n c:Nat}{l:List ByteArray}(h:W.ownsRow base 9 1 (L (A ⟨g,0,C⟩) n c) n (l.map u))(e:l.length=n):cH W (L (A ⟨g,0,C⟩) n c) l:=by
 subst e;refine .inr ⟨⟨g,0,C⟩,c,rfl,fun a i b=>?_⟩;have f:a<l.length:=by rcases co a l.length with h|h;exact h;rw[jL h]at b;cases b
 have d:(⟨g,0,C⟩:Addr).add a=⟨g,a,C⟩:=by unfold Addr.add;split<;>simp_all
 rw[d,h.cellAt a (by omega),cA,b];rfl
theorem GJ{W:E}{base g n c:Nat}{l:List Int}(h:W.ownsRow base 3 1 (L (A ⟨g,0,C⟩) n c) n (l.map (Value.int J)))(e:l.length=n):eo W (L (A ⟨g,0,C⟩) n c) l:=by
 subst e;refine .inr ⟨⟨g,0,C⟩,c,rfl,fun a i b=>?_⟩;have f:a<l.length:=by rcases co a l.length with h|h;exact h;rw[jL h]at b;cases b
 have d:(⟨g,0,C⟩:Addr).add a=⟨g,a,C⟩:=by unfold Addr.add;split<;>simp_all
 rw[d,h.cellAt a (by omega),cA,b];rfl
def abc:List ByteArray->Nat
 |[]=>0
 |s::l=>s.size+abc l
def acD(l:List ByteArray):Nat:=l.length+abc l
def Ds(N:Nd):Nat:=N.x.size+(acD N.nm+N.ks.length)
def eC(N:Nd)(vn vk:H):H:= .agg #[I J N.k,I J N.f,I J N.t,I J N.l,I J N.op,I J N.n,G N.x,vn,vk]
def sw(b:Nat)(W:E)(t:X)(N:Nd)(vn vk:H):Prop:=
 W.heap[b]?=A (S #[I J N.k,I J N.f,I J N.t,I J N.l,I J N.op,I J N.n,G N.x,vn,vk] t (0,0))
theorem ax{b:Nat}{W:E}{t:X}{N:Nd}{vn vk:H}(h:sw b W t N vn vk):
  W.cell? ⟨b,0,C⟩=A (I J N.k)/\W.cell? ⟨b,1,C⟩=A (I J N.f)/\W.cell? ⟨b,2,C⟩=A (I J N.t)/\W.cell? ⟨b,3,C⟩=A (I J N.l)/\W.cell? ⟨b,4,C⟩=A (I J N.op)/\W.cell? ⟨b,5,C⟩=A (I J N.n)/\W.cell? ⟨b,6,C⟩=A (G N.x)/\W.cell? ⟨b,7,C⟩=A vn/\W.cell? ⟨b,8,C⟩=A vk/\(∀j,W.frozen? ⟨b,j,C⟩=Q):=by
 unfold sw at h;exact⟨by rw[aq _ _ _ _ _ _ h];rfl,by rw[aq _ _ _ _ _ _ h];rfl,by rw[aq _ _ _ _ _ _ h];rfl,by rw[aq _ _ _ _ _ _ h];rfl,by rw[aq _ _ _ _ _ _ h];rfl,by rw[aq _ _ _ _ _ _ h];rfl,by rw[aq _ _ _ _ _ _ h];rfl,by rw[aq _ _ _ _ _ _ h];rfl,by rw[aq _ _ _ _ _ _ h];rfl,fun j=>cC _ _ _ _ _ h⟩
def zNd:Nd:=⟨0,0,0,0,0,0,⟨#[]⟩,[],[]⟩
theorem sw.below{b:Nat}{W a:E}{t:X}{N:Nd}{vn vk:H}(h:sw b W t N vn vk)(c:U W.heap.size W a):sw b a t N vn vk:=(c.block _ (ah h)).trans h
structure Tk where
 k:Int
 f:Int
 t:Int
 l:Int
 n:Int
 x:ByteArray
def Jj(T:Tk):H:= .agg #[I J T.k,I J T.f,I J T.t,I J T.l,I J T.n,G T.x]
def cTk(T:Tk):List H:=[I J T.k,I J T.f,I J T.t,I J T.l,I J T.n,G T.x]
def Aa(ts:List Tk):List H:=ts.flatMap cTk
theorem sx(a:List Tk)(T:Tk):Aa (a++[T])=Aa a++cTk T:=by simp[Aa]
end Go.Proofs.YthjpdjibdnecoaaGreatDoor
namespace Go.Proofs.YthjpdjibdnecoaaGreatDoor
open Go.Maps Go.WideMaps
theorem nF{a b:Int}(h:a=b)(c:Int)(e:(b==c)=Q):(a==c)=Q:=by rw[h];exact e
theorem sn{a b:Int}(h:a=b)(c:Int)(e:(b==c)=B):(a==c)=B:=by rw[h];exact e
end Go.Proofs.YthjpdjibdnecoaaGreatDoor
