import Derived.Shelf.Strings.OnBuilder
import Derived.Shelf.Small.Wraps
import Derived.Shelf.Strings.BuilderK
import Derived.Shelf.Strconv.Itoa4
import Derived.Shelf.Strconv.ErrVarParseInt
import Derived.Shelf.Pu.ErrVarParseUint
import Derived.Shelf.Strings.Fields
import Derived.Shelf.Bits.Mul64
import Derived.Shelf.Unicode.IsSpaceAny
import Derived.Shelf.Unicode.ExclAny
import Derived.Shelf.Slices.Empties2
import Derived.ProofKit
import Derived.OneCell
import Derived.RangeFuncBox
import Derived.Deep.RegionHeld3
import Derived.Test.YtnoojdbdapljoaaGreatDoorHOk01
set_option linter.all false
open Option renaming some->A,none->B
open Go renaming World->C,Value->G,Calls->S,TypeId->U
open Go.Proofs.Tryz renaming prog->E,sizeOf3->M,isAgg3->O
open Go.Value renaming string->F,int->H,slice->K,tuple->V,nilIface->X,string->Y,iface->Z,pointer->y,bool->z
open Go.IntKind renaming i64->I
open Go.Shelf renaming Ren->J
open Go.Ending renaming returned->L
open Go.Obj renaming cells->Q
open Go.RowKit renaming Below->R
open Bool renaming false->T
namespace Go.Proofs
open Go.Shelf
def Tryz.lays103_ren:J:=⟨fun|103=>200|210=>206|206=>188|n=>n,fun|9=>9|4=>4|24=>192|3=>3|n=>n,fun|n=>n⟩
theorem Tryz.lays103:Go.Proofs.Lays.n103 E Tryz.lays103_ren:={
 mixed:=by kernel_rfl
 f103:=Tryz.func200.trans (congrArg A (by kernel_rfl))
 f206:=Tryz.func188.trans (congrArg A (by kernel_rfl))
 f210:=Tryz.func206.trans (congrArg A (by kernel_rfl))
 t3:=Tryz.underlying3
 a3:=O
 z3:=M
 v3:=Tryz.zeroValue3
 t4:=Tryz.underlying4
 a4:=Tryz.isAgg4
 z4:=Tryz.sizeOf4
 v4:=Tryz.zeroValue4
 t9:=Tryz.underlying9
 a9:=Tryz.isAgg9
 z9:=Tryz.sizeOf9
 v9:=Tryz.zeroValue9
 t24:=Tryz.underlying192
 a24:=Tryz.isAgg192
 z24:=Tryz.sizeOf192
 v24:=Tryz.zeroValue192}
open Go.RowKit in
theorem Tryz.strings_CutPrefix(s p:ByteArray)(w:C):
  S E 200 #[F s,F p] w fun e a=>e= L (V #[F ⟨(Lib.trimPrefix s.data.toList p.data.toList).toArray⟩,z (Lib.hasPrefix s.data.toList p.data.toList)])/\a=w:=Any.strings_CutPrefix Tryz.lays103 s p w
def Tryz.lays104_ren:J:=⟨fun|104=>167|211=>191|207=>204|n=>n,fun|9=>9|4=>4|24=>192|3=>3|n=>n,fun|n=>n⟩
theorem Tryz.lays104:Go.Proofs.Lays.n104 E Tryz.lays104_ren:={
 mixed:=by kernel_rfl
 f104:=Tryz.func167.trans (congrArg A (by kernel_rfl))
 f207:=Tryz.func204.trans (congrArg A (by kernel_rfl))
 f211:=Tryz.func191.trans (congrArg A (by kernel_rfl))
 t3:=Tryz.underlying3
 a3:=O
 z3:=M
 v3:=Tryz.zeroValue3
 t4:=Tryz.underlying4
 a4:=Tryz.isAgg4
 z4:=Tryz.sizeOf4
 v4:=Tryz.zeroValue4
 t9:=Tryz.underlying9
 a9:=Tryz.isAgg9
 z9:=Tryz.sizeOf9
 v9:=Tryz.zeroValue9
 t24:=Tryz.underlying192
 a24:=Tryz.isAgg192
 z24:=Tryz.sizeOf192
 v24:=Tryz.zeroValue192}
open Go.RowKit in
theorem Tryz.strings_CutSuffix(s p:ByteArray)(w:C)(a:s.size<=9223372036854775807):
  S E 167 #[F s,F p] w fun e b=>e= L (V #[F ⟨(Lib.trimSuffix s.data.toList p.data.toList).toArray⟩,z (Lib.hasSuffix s.data.toList p.data.toList)])/\b=w:=Any.strings_CutSuffix Tryz.lays104 s p w a
def Tryz.laysM173_ren:J:=⟨fun|173=>40|246=>73|283=>134|284=>135|285=>136|286=>137|129=>170|317=>169|318=>171|319=>172|320=>173|337=>193|338=>194|n=>n,fun|2=>2|3=>3|9=>9|4=>4|171=>195|0=>0|53=>48|37=>22|5=>5|173=>198|212=>211|51=>212|20=>20|213=>213|46=>141|232=>238|233=>239|n=>n,fun|17=>1|18=>5|19=>6|n=>n⟩
theorem Tryz.laysM173:Go.Proofs.LaysM.n173 E Tryz.laysM173_ren:={
 mixed:=by kernel_rfl
 f129:=Tryz.func170.trans (congrArg A (by kernel_rfl))
 f173:=Tryz.func40.trans (congrArg A (by kernel_rfl))
 f246:=Tryz.func73.trans (congrArg A (by kernel_rfl))
 f283:=Tryz.func134.trans (congrArg A (by kernel_rfl))
 f284:=Tryz.func135.trans (congrArg A (by kernel_rfl))
 f285:=Tryz.func136.trans (congrArg A (by kernel_rfl))
 f286:=Tryz.func137.trans (congrArg A (by kernel_rfl))
 f317:=Tryz.func169.trans (congrArg A (by kernel_rfl))
 f318:=Tryz.func171.trans (congrArg A (by kernel_rfl))
 f319:=Tryz.func172.trans (congrArg A (by kernel_rfl))
 f320:=Tryz.func173.trans (congrArg A (by kernel_rfl))
 f337:=Tryz.func193.trans (congrArg A (by kernel_rfl))
 f338:=Tryz.func194.trans (congrArg A (by kernel_rfl))
 t0:=Tryz.underlying0
 a0:=Tryz.isAgg0
 z0:=Tryz.sizeOf0
 v0:=Tryz.zeroValue0
 t2:=Tryz.underlying2
 a2:=Tryz.isAgg2
 z2:=Tryz.sizeOf2
 v2:=Tryz.zeroValue2
 t3:=Tryz.underlying3
 a3:=O
 z3:=M
 v3:=Tryz.zeroValue3
 t4:=Tryz.underlying4
 a4:=Tryz.isAgg4
 z4:=Tryz.sizeOf4
 v4:=Tryz.zeroValue4
 t5:=Tryz.underlying5
 a5:=Tryz.isAgg5
 z5:=Tryz.sizeOf5
 v5:=Tryz.zeroValue5
 t9:=Tryz.underlying9
 a9:=Tryz.isAgg9
 z9:=Tryz.sizeOf9
 v9:=Tryz.zeroValue9
 t20:=Tryz.underlying20
 a20:=Tryz.isAgg20
 z20:=Tryz.sizeOf20
 v20:=Tryz.zeroValue20
 t37:=Tryz.underlying22
 a37:=Tryz.isAgg22
 z37:=Tryz.sizeOf22
 v37:=Tryz.zeroValue22
 t46:=Tryz.underlying141
 a46:=Tryz.isAgg141
 z46:=Tryz.sizeOf141
 v46:=Tryz.zeroValue141
 t51:=Tryz.underlying212
 a51:=Tryz.isAgg212
 z51:=Tryz.sizeOf212
 v51:=Tryz.zeroValue212
 t53:=Tryz.underlying48
 a53:=Tryz.isAgg48
 z53:=Tryz.sizeOf48
 v53:=Tryz.zeroValue48
 t171:=Tryz.underlying195
 a171:=Tryz.isAgg195
 z171:=Tryz.sizeOf195
 v171:=Tryz.zeroValue195
 t173:=Tryz.underlying198
 a173:=Tryz.isAgg198
 z173:=Tryz.sizeOf198
 v173:=Tryz.zeroValue198
 t212:=Tryz.underlying211
 a212:=Tryz.isAgg211
 z212:=Tryz.sizeOf211
 v212:=Tryz.zeroValue211
 t213:=Tryz.underlying213
 a213:=Tryz.isAgg213
 z213:=Tryz.sizeOf213
 t232:=Tryz.underlying238
 a232:=Tryz.isAgg238
 z232:=Tryz.sizeOf238
 v232:=Tryz.zeroValue238
 t233:=Tryz.underlying239
 a233:=Tryz.isAgg239
 z233:=Tryz.sizeOf239
 v233:=Tryz.zeroValue239
 g17:=by kernel_rfl
 g18:=by kernel_rfl
 g19:=by kernel_rfl
 i0:=by kernel_rfl
 i2:=by kernel_rfl
 i3:=by kernel_rfl
 i4:=by kernel_rfl
 i5:=by kernel_rfl
 i9:=by kernel_rfl
 i20:=by kernel_rfl
 i37:=by kernel_rfl
 i46:=by kernel_rfl
 i51:=by kernel_rfl
 i53:=by kernel_rfl
 i171:=by kernel_rfl
 i173:=by kernel_rfl
 i212:=by kernel_rfl
 i232:=by kernel_rfl
 i233:=by kernel_rfl
 m17:=by kernel_rfl
 m18:=by kernel_rfl
 m19:=by kernel_rfl}
open Go.RowKit Go.Sort Go.Lib in
theorem Tryz.strconv_FormatInt_10(n:Int)(a: -9223372036854775808<=n)(b:n<=9223372036854775807)(w:C)(c:Lib.TabIs E w "internal/strconv.uint64pow10" .u64 Lib.pow10Tab):
  S E 40 #[H I n,H I 10] w fun e d=>e= L (F ⟨(Lib.itoa n).toArray⟩)/\∃k os,d=grow (w.drewN k) os:=Any.strconv_FormatInt_10 Tryz.laysM173 n a b w c
def Tryz.laysM316_ren:J:=⟨fun|316=>70|n=>n,fun|9=>9|3=>3|4=>4|37=>22|0=>0|127=>103|5=>5|n=>n,fun|n=>n⟩
theorem Tryz.laysM316:Go.Proofs.LaysM.n316 E Tryz.laysM316_ren:={
 mixed:=by kernel_rfl
 f316:=Tryz.func70.trans (congrArg A (by kernel_rfl))
 t0:=Tryz.underlying0
 a0:=Tryz.isAgg0
 z0:=Tryz.sizeOf0
 v0:=Tryz.zeroValue0
 t3:=Tryz.underlying3
 a3:=O
 z3:=M
 v3:=Tryz.zeroValue3
 t4:=Tryz.underlying4
 a4:=Tryz.isAgg4
 z4:=Tryz.sizeOf4
 v4:=Tryz.zeroValue4
 t9:=Tryz.underlying9
 a9:=Tryz.isAgg9
 z9:=Tryz.sizeOf9
 v9:=Tryz.zeroValue9
 t37:=Tryz.underlying22
 a37:=Tryz.isAgg22
 z37:=Tryz.sizeOf22
 v37:=Tryz.zeroValue22
 t127:=Tryz.underlying103
 a127:=Tryz.isAgg103
 z127:=Tryz.sizeOf103
 v127:=Tryz.zeroValue103
 t5:=Tryz.underlying5
 a5:=Tryz.isAgg5
 z5:=Tryz.sizeOf5
 v5:=Tryz.zeroValue5
 i0:=by kernel_rfl
 i3:=by kernel_rfl
 i4:=by kernel_rfl
 i5:=by kernel_rfl
 i9:=by kernel_rfl
 i37:=by kernel_rfl
 i127:=by kernel_rfl}
open Go.RowKit in
theorem Tryz.stringslite_Clone(s:ByteArray)(w:C)(a:s.size<=281474976710656):
  S E 70 #[F s] w fun e b=>e= L (F s)/\R w.heap.size w b:=Any.stringslite_Clone Tryz.laysM316 s w a
def Tryz.lays321_ren:J:=⟨fun|321=>212|n=>n,fun|5=>5|n=>n,fun|n=>n⟩
theorem Tryz.lays321:Go.Proofs.Lays.n321 E Tryz.lays321_ren:={
 mixed:=by kernel_rfl
 f321:=Tryz.func212.trans (congrArg A (by kernel_rfl))
 t5:=Tryz.underlying5
 a5:=Tryz.isAgg5
 z5:=Tryz.sizeOf5
 v5:=Tryz.zeroValue5}
open Go.RowKit in
theorem Tryz.internal_strconv_lower(c:Int)(w:C):
  S E 212 #[H .u8 c] w fun e a=>e= L (H .u8 (bits .or .u8 c 32))/\a=w:=Any.internal_strconv_lower Tryz.lays321 c w
def Tryz.laysC174_ren:J:=⟨fun|174=>202|247=>209|245=>208|287=>207|279=>214|280=>215|281=>216|282=>217|321=>212|322=>213|316=>70|171=>39|205=>218|243=>72|246=>73|283=>134|284=>135|285=>136|286=>137|129=>170|317=>169|318=>171|319=>172|320=>173|337=>193|338=>194|n=>n,fun|9=>9|3=>3|2=>2|75=>70|85=>231|4=>4|167=>252|5=>5|53=>48|175=>229|46=>141|168=>254|37=>22|0=>0|210=>260|21=>21|127=>103|145=>264|143=>262|171=>195|173=>198|212=>211|51=>212|20=>20|213=>213|232=>238|233=>239|80=>51|n=>n,fun|15=>7|16=>8|17=>1|18=>5|19=>6|n=>n⟩
theorem Tryz.laysC174:Go.Proofs.LaysC.n174 E Tryz.laysC174_ren:={
 mixed:=by kernel_rfl
 f129:=Tryz.func170.trans (congrArg A (by kernel_rfl))
 f171:=Tryz.func39.trans (congrArg A (by kernel_rfl))
 f174:=Tryz.func202.trans (congrArg A (by kernel_rfl))
 f205:=Tryz.func218.trans (congrArg A (by kernel_rfl))
 f243:=Tryz.func72.trans (congrArg A (by kernel_rfl))
 f245:=Tryz.func208.trans (congrArg A (by kernel_rfl))
 f246:=Tryz.func73.trans (congrArg A (by kernel_rfl))
 f247:=Tryz.func209.trans (congrArg A (by kernel_rfl))
 f279:=Tryz.func214.trans (congrArg A (by kernel_rfl))
 f280:=Tryz.func215.trans (congrArg A (by kernel_rfl))
 f281:=Tryz.func216.trans (congrArg A (by kernel_rfl))
 f282:=Tryz.func217.trans (congrArg A (by kernel_rfl))
 f283:=Tryz.func134.trans (congrArg A (by kernel_rfl))
 f284:=Tryz.func135.trans (congrArg A (by kernel_rfl))
 f285:=Tryz.func136.trans (congrArg A (by kernel_rfl))
 f286:=Tryz.func137.trans (congrArg A (by kernel_rfl))
 f287:=Tryz.func207.trans (congrArg A (by kernel_rfl))
 f316:=Tryz.func70.trans (congrArg A (by kernel_rfl))
 f317:=Tryz.func169.trans (congrArg A (by kernel_rfl))
 f318:=Tryz.func171.trans (congrArg A (by kernel_rfl))
 f319:=Tryz.func172.trans (congrArg A (by kernel_rfl))
 f320:=Tryz.func173.trans (congrArg A (by kernel_rfl))
 f321:=Tryz.func212.trans (congrArg A (by kernel_rfl))
 f322:=Tryz.func213.trans (congrArg A (by kernel_rfl))
 f337:=Tryz.func193.trans (congrArg A (by kernel_rfl))
 f338:=Tryz.func194.trans (congrArg A (by kernel_rfl))
 t0:=Tryz.underlying0
 a0:=Tryz.isAgg0
 z0:=Tryz.sizeOf0
 v0:=Tryz.zeroValue0
 t2:=Tryz.underlying2
 a2:=Tryz.isAgg2
 z2:=Tryz.sizeOf2
 v2:=Tryz.zeroValue2
 t3:=Tryz.underlying3
 a3:=O
 z3:=M
 v3:=Tryz.zeroValue3
 t4:=Tryz.underlying4
 a4:=Tryz.isAgg4
 z4:=Tryz.sizeOf4
 v4:=Tryz.zeroValue4
 t5:=Tryz.underlying5
 a5:=Tryz.isAgg5
 z5:=Tryz.sizeOf5
 v5:=Tryz.zeroValue5
 t9:=Tryz.underlying9
 a9:=Tryz.isAgg9
 z9:=Tryz.sizeOf9
 v9:=Tryz.zeroValue9
 t20:=Tryz.underlying20
 a20:=Tryz.isAgg20
 z20:=Tryz.sizeOf20
 v20:=Tryz.zeroValue20
 t21:=Tryz.underlying21
 a21:=Tryz.isAgg21
 z21:=Tryz.sizeOf21
 v21:=Tryz.zeroValue21
 t37:=Tryz.underlying22
 a37:=Tryz.isAgg22
 z37:=Tryz.sizeOf22
 v37:=Tryz.zeroValue22
 t46:=Tryz.underlying141
 a46:=Tryz.isAgg141
 z46:=Tryz.sizeOf141
 v46:=Tryz.zeroValue141
 t51:=Tryz.underlying212
 a51:=Tryz.isAgg212
 z51:=Tryz.sizeOf212
 v51:=Tryz.zeroValue212
 t53:=Tryz.underlying48
 a53:=Tryz.isAgg48
 z53:=Tryz.sizeOf48
 v53:=Tryz.zeroValue48
 t75:=Tryz.underlying70
 a75:=Tryz.isAgg70
 z75:=Tryz.sizeOf70
 v75:=Tryz.zeroValue70
 t85:=Tryz.underlying231
 a85:=Tryz.isAgg231
 z85:=Tryz.sizeOf231
 v85:=Tryz.zeroValue231
 t127:=Tryz.underlying103
 a127:=Tryz.isAgg103
 z127:=Tryz.sizeOf103
 v127:=Tryz.zeroValue103
 t143:=Tryz.underlying262
 a143:=Tryz.isAgg262
 z143:=Tryz.sizeOf262
 v143:=Tryz.zeroValue262
 t145:=Tryz.underlying264
 a145:=Tryz.isAgg264
 z145:=Tryz.sizeOf264
 v145:=Tryz.zeroValue264
 t167:=Tryz.underlying252
 a167:=Tryz.isAgg252
 z167:=Tryz.sizeOf252
 v167:=Tryz.zeroValue252
 t168:=Tryz.underlying254
 a168:=Tryz.isAgg254
 z168:=Tryz.sizeOf254
 v168:=Tryz.zeroValue254
 t171:=Tryz.underlying195
 a171:=Tryz.isAgg195
 z171:=Tryz.sizeOf195
 v171:=Tryz.zeroValue195
 t173:=Tryz.underlying198
 a173:=Tryz.isAgg198
 z173:=Tryz.sizeOf198
 v173:=Tryz.zeroValue198
 t175:=Tryz.underlying229
 a175:=Tryz.isAgg229
 z175:=Tryz.sizeOf229
 v175:=Tryz.zeroValue229
 t210:=Tryz.underlying260
 a210:=Tryz.isAgg260
 z210:=Tryz.sizeOf260
 v210:=Tryz.zeroValue260
 t212:=Tryz.underlying211
 a212:=Tryz.isAgg211
 z212:=Tryz.sizeOf211
 v212:=Tryz.zeroValue211
 t213:=Tryz.underlying213
 a213:=Tryz.isAgg213
 z213:=Tryz.sizeOf213
 t232:=Tryz.underlying238
 a232:=Tryz.isAgg238
 z232:=Tryz.sizeOf238
 v232:=Tryz.zeroValue238
 t233:=Tryz.underlying239
 a233:=Tryz.isAgg239
 z233:=Tryz.sizeOf239
 v233:=Tryz.zeroValue239
 g15:=by kernel_rfl
 g16:=by kernel_rfl
 g17:=by kernel_rfl
 g18:=by kernel_rfl
 g19:=by kernel_rfl
 t80:=Tryz.underlying51
 a80:=Tryz.isAgg51
 z80:=Tryz.sizeOf51
 v80:=Tryz.zeroValue51
 i0:=by kernel_rfl
 i2:=by kernel_rfl
 i3:=by kernel_rfl
 i4:=by kernel_rfl
 i5:=by kernel_rfl
 i9:=by kernel_rfl
 i20:=by kernel_rfl
 i21:=by kernel_rfl
 i37:=by kernel_rfl
 i46:=by kernel_rfl
 i51:=by kernel_rfl
 i53:=by kernel_rfl
 i75:=by kernel_rfl
 i80:=by kernel_rfl
 i85:=by kernel_rfl
 i127:=by kernel_rfl
 i143:=by kernel_rfl
 i145:=by kernel_rfl
 i167:=by kernel_rfl
 i168:=by kernel_rfl
 i171:=by kernel_rfl
 i173:=by kernel_rfl
 i175:=by kernel_rfl
 i210:=by kernel_rfl
 i212:=by kernel_rfl
 i232:=by kernel_rfl
 i233:=by kernel_rfl
 m15:=by kernel_rfl
 m16:=by kernel_rfl
 m17:=by kernel_rfl
 m18:=by kernel_rfl
 m19:=by kernel_rfl
 c0:=by kernel_rfl
 c2:=by kernel_rfl
 c3:=by kernel_rfl
 c4:=by kernel_rfl
 c5:=by kernel_rfl
 c9:=by kernel_rfl
 c20:=by kernel_rfl
 c21:=by kernel_rfl
 c37:=by kernel_rfl
 c46:=by kernel_rfl
 c51:=by kernel_rfl
 c53:=by kernel_rfl
 c75:=by kernel_rfl
 c80:=by kernel_rfl
 c85:=by kernel_rfl
 c127:=by kernel_rfl
 c143:=by kernel_rfl
 c145:=by kernel_rfl
 c167:=by kernel_rfl
 c168:=by kernel_rfl
 c171:=by kernel_rfl
 c173:=by kernel_rfl
 c175:=by kernel_rfl
 c210:=by kernel_rfl
 c212:=by kernel_rfl
 c213:=by kernel_rfl
 c232:=by kernel_rfl
 c233:=by kernel_rfl}
open Go.RowKit in
theorem Tryz.strconv_ParseInt_10_at64_ok(s:ByteArray)(b:s.size<=9223372036854775806)(v:Int)(h:Lib.parseIntB 64 s.data.toList= .ok v)(w:C):
  S E 202 #[F s,H I 10,H I 64] w fun e a=>e= L (V #[H I v,X])/\(a=w\/∃t,a=Lib.bytesWorld w 5 t):=Any.strconv_ParseInt_10_at64_ok Tryz.laysC174 s b v h w
open Go.RowKit in
theorem Tryz.strconv_ParseInt_10_at64_syntax(s:ByteArray)(d:s.size<=281474976710656)(h:Lib.parseIntB 64 s.data.toList= .«syntax»)(a:G)(w:C)(f:w.cell? ⟨7,0,B⟩=A a)(c:a= X\/∃i g,a= Z i g):
  S E 202 #[F s,H I 10,H I 64] w fun e b=>∃N,e= L (V #[H I (0),Z 254 (y (A ⟨N,0,B⟩))])/\w.heap.size<=N/\b.heap[N]?=A (Q #[F ⟨#[80,97,114,115,101,73,110,116]⟩,F s,a] 260 (0,0))/\R w.heap.size w b:=Any.strconv_ParseInt_10_at64_syntax Tryz.laysC174 s d h a w f c
open Go.RowKit in
theorem Tryz.strconv_ParseInt_10_at64_range(s:ByteArray)(d:s.size<=281474976710656)(h:Lib.parseIntB 64 s.data.toList= .range)(a:G)(w:C)(f:w.cell? ⟨8,0,B⟩=A a)(c:a= X\/∃i g,a= Z i g):
  S E 202 #[F s,H I 10,H I 64] w fun e b=>∃N,e= L (V #[H I (Lib.intSat 64 s.data.toList),Z 254 (y (A ⟨N,0,B⟩))])/\w.heap.size<=N/\b.heap[N]?=A (Q #[F ⟨#[80,97,114,115,101,73,110,116]⟩,F s,a] 260 (0,0))/\R w.heap.size w b:=Any.strconv_ParseInt_10_at64_range Tryz.laysC174 s d h a w f c
def Tryz.lays99_ren:J:=⟨fun|99=>164|206=>188|n=>n,fun|9=>9|4=>4|3=>3|n=>n,fun|n=>n⟩
theorem Tryz.lays99:Go.Proofs.Lays.n99 E Tryz.lays99_ren:={
 mixed:=by kernel_rfl
 f99:=Tryz.func164.trans (congrArg A (by kernel_rfl))
 f206:=Tryz.func188.trans (congrArg A (by kernel_rfl))
 t3:=Tryz.underlying3
 a3:=O
 z3:=M
 v3:=Tryz.zeroValue3
 t4:=Tryz.underlying4
 a4:=Tryz.isAgg4
 z4:=Tryz.sizeOf4
 v4:=Tryz.zeroValue4
 t9:=Tryz.underlying9
 a9:=Tryz.isAgg9
 z9:=Tryz.sizeOf9
 v9:=Tryz.zeroValue9}
open Go.RowKit Go.Lib in
theorem Tryz.strings_HasPrefix(s p:ByteArray)(w:C):
  S E 164 #[F s,F p] w fun e a=>e= L (z (Lib.hasPrefix s.data.toList p.data.toList))/\a=w:=Any.strings_HasPrefix Tryz.lays99 s p w
def Tryz.lays157_ren:J:=⟨fun|157=>166|229=>189|199=>190|261=>203|311=>210|312=>211|n=>n,fun|9=>9|31=>32|3=>3|5=>5|4=>4|119=>225|0=>0|40=>227|152=>233|21=>21|154=>235|51=>212|141=>237|196=>244|193=>241|198=>247|49=>245|194=>242|201=>250|226=>257|46=>141|227=>258|n=>n,fun|0=>2|6=>4|n=>n⟩
theorem Tryz.lays157:Go.Proofs.Lays.n157 E Tryz.lays157_ren:={
 mixed:=by kernel_rfl
 f157:=Tryz.func166.trans (congrArg A (by kernel_rfl))
 f199:=Tryz.func190.trans (congrArg A (by kernel_rfl))
 f229:=Tryz.func189.trans (congrArg A (by kernel_rfl))
 f261:=Tryz.func203.trans (congrArg A (by kernel_rfl))
 f311:=Tryz.func210.trans (congrArg A (by kernel_rfl))
 f312:=Tryz.func211.trans (congrArg A (by kernel_rfl))
 t0:=Tryz.underlying0
 a0:=Tryz.isAgg0
 z0:=Tryz.sizeOf0
 v0:=Tryz.zeroValue0
 t3:=Tryz.underlying3
 a3:=O
 z3:=M
 v3:=Tryz.zeroValue3
 t4:=Tryz.underlying4
 a4:=Tryz.isAgg4
 z4:=Tryz.sizeOf4
 v4:=Tryz.zeroValue4
 t5:=Tryz.underlying5
 a5:=Tryz.isAgg5
 z5:=Tryz.sizeOf5
 v5:=Tryz.zeroValue5
 t9:=Tryz.underlying9
 a9:=Tryz.isAgg9
 z9:=Tryz.sizeOf9
 v9:=Tryz.zeroValue9
 t21:=Tryz.underlying21
 a21:=Tryz.isAgg21
 z21:=Tryz.sizeOf21
 v21:=Tryz.zeroValue21
 t31:=Tryz.underlying32
 a31:=Tryz.isAgg32
 z31:=Tryz.sizeOf32
 v31:=Tryz.zeroValue32
 t40:=Tryz.underlying227
 a40:=Tryz.isAgg227
 z40:=Tryz.sizeOf227
 v40:=Tryz.zeroValue227
 t46:=Tryz.underlying141
 a46:=Tryz.isAgg141
 z46:=Tryz.sizeOf141
 v46:=Tryz.zeroValue141
 t49:=Tryz.underlying245
 a49:=Tryz.isAgg245
 z49:=Tryz.sizeOf245
 v49:=Tryz.zeroValue245
 t51:=Tryz.underlying212
 a51:=Tryz.isAgg212
 z51:=Tryz.sizeOf212
 v51:=Tryz.zeroValue212
 t119:=Tryz.underlying225
 a119:=Tryz.isAgg225
 z119:=Tryz.sizeOf225
 t141:=Tryz.underlying237
 a141:=Tryz.isAgg237
 z141:=Tryz.sizeOf237
 v141:=Tryz.zeroValue237
 t152:=Tryz.underlying233
 a152:=Tryz.isAgg233
 z152:=Tryz.sizeOf233
 v152:=Tryz.zeroValue233
 t154:=Tryz.underlying235
 a154:=Tryz.isAgg235
 z154:=Tryz.sizeOf235
 v154:=Tryz.zeroValue235
 t193:=Tryz.underlying241
 a193:=Tryz.isAgg241
 z193:=Tryz.sizeOf241
 v193:=Tryz.zeroValue241
 t194:=Tryz.underlying242
 a194:=Tryz.isAgg242
 z194:=Tryz.sizeOf242
 v194:=Tryz.zeroValue242
 t196:=Tryz.underlying244
 a196:=Tryz.isAgg244
 z196:=Tryz.sizeOf244
 v196:=Tryz.zeroValue244
 t198:=Tryz.underlying247
 a198:=Tryz.isAgg247
 z198:=Tryz.sizeOf247
 v198:=Tryz.zeroValue247
 t201:=Tryz.underlying250
 a201:=Tryz.isAgg250
 z201:=Tryz.sizeOf250
 v201:=Tryz.zeroValue250
 t226:=Tryz.underlying257
 a226:=Tryz.isAgg257
 z226:=Tryz.sizeOf257
 v226:=Tryz.zeroValue257
 t227:=Tryz.underlying258
 a227:=Tryz.isAgg258
 z227:=Tryz.sizeOf258
 v227:=Tryz.zeroValue258
 g0:=by kernel_rfl
 g6:=by kernel_rfl}
open Go.RowKit Go.Lib in
theorem Tryz.strings_Fields(s:ByteArray)(w:C)(c:s.size<4294967281)(a:∀(j:Nat) b,s.data.toList[j]?=A b->b.toNat<128)(d:Lib.TabIs E w "strings.asciiSpace" .u8 Lib.asciiSpaceTab):
  S E 166 #[F s] w fun e g=>
   e= L (K (A ⟨w.heap.size,0,B⟩) (Lib.fields s.data.toList).length (Lib.fields s.data.toList).length)/\g=w.alloc (Q ((Lib.fields s.data.toList).map fun f=>Y ⟨f.toArray⟩).toArray 9):=Any.strings_Fields Tryz.lays157 (by kernel_rfl) (by kernel_rfl) s w c a d
end Go.Proofs
namespace Go.Proofs.YtnoojdbdapljoaaGreatDoor
open Go.RowKit
structure Nd where
 k:Int
 f:Int
 t:Int
 l:Int
 op:Int
 n:Int
 x:ByteArray
 nm:List ByteArray
 ks:List Int
def bu(f:C)(v:G)(c:List ByteArray):Prop:=
 (c=[]/\∃a b,v= K a 0 b)\/∃a b,v= K (A a) c.length b/\∀d e,c[d]?=A e->f.cell? (a.add d)=A (F e)
def bi(f:C)(v:G)(c:List Int):Prop:=
 (c=[]/\∃a b,v= K a 0 b)\/∃a b,v= K (A a) c.length b/\∀d e,c[d]?=A e->f.cell? (a.add d)=A (H I e)
structure GI (W:C) (a:Addr) (N:Nd) (vn vk:G):Prop where
 c0:W.cell? a=A (.int .i64 N.k)
 c1:W.cell? ⟨a.block,a.off+1,B⟩=A (.int .i64 N.f)
 c2:W.cell? ⟨a.block,a.off+2,B⟩=A (.int .i64 N.t)
 c3:W.cell? ⟨a.block,a.off+3,B⟩=A (.int .i64 N.l)
 c4:W.cell? ⟨a.block,a.off+4,B⟩=A (.int .i64 N.op)
 c5:W.cell? ⟨a.block,a.off+5,B⟩=A (.int .i64 N.n)
 c6:W.cell? ⟨a.block,a.off+6,B⟩=A (.string N.x)
 c7:W.cell? ⟨a.block,a.off+7,B⟩=A vn
 c8:W.cell? ⟨a.block,a.off+8,B⟩=A vk
 hn:bu W vn N.nm
 hk:bi W vk N.ks
def cg(f:C)(v:G)(c:List Nd):Prop:=
 (c=[]/\∃a b,v= K a 0 b)\/∃a b,v= K (A a) c.length b/\∀e d,c[e]?=A d->∃h g,GI f (a.add (e*9)) d h g
theorem uh{b:C}{a:Addr}{v:G}(h:b.cell? a=A v):a.block<b.heap.size:=by
 unfold World.cell? at h;rcases cA a.block b.heap.size with g|g
 ·exact g
 ·rw[xJ g]at h;simp at h
theorem cell_kept{b c:C}(d:R b.heap.size b c){a:Addr}{v:G}(h:b.cell? a=A v):c.cell? a=A v:=by
 rw[<-h];unfold World.cell?;rw[d.block _ (uh h)]
theorem bu.below{a b:C}{v:G}{c:List ByteArray}(h:bu a v c)(i:R a.heap.size a b):bu b v c:=by
 rcases h with h|⟨d,e,f,g⟩
 ·exact .inl h
 ·exact .inr ⟨d,e,f,fun k l j=>cell_kept i (g k l j)⟩
theorem bi.below{a b:C}{v:G}{c:List Int}(h:bi a v c)(i:R a.heap.size a b):bi b v c:=by
 rcases h with h|⟨d,e,f,g⟩
 ·exact .inl h
 ·exact .inr ⟨d,e,f,fun k l j=>cell_kept i (g k l j)⟩
theorem GI.below{c d:C}{a:Addr}{N:Nd}{vn vk:G}(h:GI c a N vn vk)(b:R c.heap.size c d):GI d a N vn vk:=
 ⟨cell_kept b h.c0,cell_kept b h.c1,cell_kept b h.c2,cell_kept b h.c3,cell_kept b h.c4,cell_kept b h.c5,cell_kept b h.c6,cell_kept b h.c7,cell_kept b h.c8,h.hn.below b,h.hk.below b⟩
theorem cg.below{a b:C}{v:G}{c:List Nd}(h:cg a v c)(l:R a.heap.size a b):cg b v c:=by
 rcases h with h|⟨e,f,i,j⟩
 ·exact .inl h
 ·exact .inr ⟨e,f,i,fun m d k=>by obtain⟨o,n,g⟩:=j m d k;exact⟨o,n,g.below l⟩⟩
theorem bu.form{d:C}{v:G}{b:List ByteArray}(h:bu d v b):∃a c,v= K a b.length c:=by
 rcases h with⟨rfl,a,c,h⟩|⟨a,c,e,f⟩
 ·exact⟨a,c,h⟩
 ·exact⟨_,_,e⟩
theorem bi.form{d:C}{v:G}{b:List Int}(h:bi d v b):∃a c,v= K a b.length c:=by
 rcases h with⟨rfl,a,c,h⟩|⟨a,c,e,f⟩
 ·exact⟨a,c,h⟩
 ·exact⟨_,_,e⟩
theorem cg.form{d:C}{v:G}{b:List Nd}(h:cg d v b):∃a c,v= K a b.length c:=by
 rcases h with⟨rfl,a,c,h⟩|⟨a,c,e,f⟩
 ·exact⟨a,c,h⟩
 ·exact⟨_,_,e⟩
theorem bu.get{d:C}{a:Option Addr}{n c:Nat}{f:List ByteArray}(h:bu d (K a n c) f){k:Nat}{s:ByteArray}(e:f[k]?=A s):∃b,a=A b/\d.cell? (b.add k)=A (F s):=by
 rcases h with⟨rfl,_⟩|⟨b,j,g,i⟩
 ·simp at e
 ·cases g;exact⟨b,rfl,i k s e⟩
theorem bi.get{d:C}{a:Option Addr}{n c:Nat}{f:List Int}(h:bi d (K a n c) f){k:Nat}{s:Int}(e:f[k]?=A s):∃b,a=A b/\d.cell? (b.add k)=A (H I s):=by
 rcases h with⟨rfl,_⟩|⟨b,j,g,i⟩
 ·simp at e
 ·cases g;exact⟨b,rfl,i k s e⟩
theorem cg.get{d:C}{a:Option Addr}{n c:Nat}{f:List Nd}(h:cg d (K a n c) f){k:Nat}{N:Nd}(e:f[k]?=A N):∃b,a=A b/\∃vn vk,GI d (b.add (k*9)) N vn vk:=by
 rcases h with⟨rfl,_⟩|⟨b,j,g,i⟩
 ·simp at e
 ·cases g;exact⟨b,rfl,i k N e⟩
theorem aG{w b:C}{base e size:Nat}{v:G}{n:Nat}{c:List G}(h:w.ownsRow base e size v n c)(a:R w.heap.size w b):b.ownsRow base e size v n c:=
 h.kept (row:=B) ⟨a.os,a.tape,a.output,a.size,fun f d _=>a.block f d⟩ (by cases v.ownBlock<;>simp)
theorem jL{w:C}{base b e size:Nat}{v:G}{n:Nat}{c:List G}(h:w.ownsRow base e size v n c)(j:b<=base):w.ownsRow b e size v n c:=by
 obtain⟨i,a⟩:=h;refine⟨i,?_⟩;rcases a with a|⟨g,d,f,l,k,m⟩
 ·exact .inl a
 ·exact .inr ⟨g,d,f,l,bz j k,m⟩
theorem bj{b:Type}{a:List b}{n k:Nat}(c:a.length=n)(h:k<n):∃s,a[k]?=A s:=⟨a[k]'(by omega),aI _⟩
theorem sE{b:Nat}{a:C}{t:U}{fr:Nat×Nat}{c d e f g i:G}(h:a.heap[b]?=A (Q #[c,d,e,f,g,i] t fr)):a.cell? ⟨b,0,B⟩=A c/\a.cell? ⟨b,1,B⟩=A d/\a.cell? ⟨b,2,B⟩=A e/\a.cell? ⟨b,3,B⟩=A f/\a.cell? ⟨b,4,B⟩=A g/\a.cell? ⟨b,5,B⟩=A i:=by
 refine⟨?_,?_,?_,?_,?_,?_⟩<;>(rw[az _ _ _ _ _ _ h];rfl)
theorem Em{b:Nat}{a:C}{t:U}{cs:Array G}(h:a.heap[b]?=A (Q cs t (0,0))):a.frozen? ⟨b,0,B⟩=T/\a.frozen? ⟨b,1,B⟩=T/\a.frozen? ⟨b,2,B⟩=T/\a.frozen? ⟨b,3,B⟩=T/\a.frozen? ⟨b,4,B⟩=T/\a.frozen? ⟨b,5,B⟩=T:=
 ⟨du _ _ _ _ _ h,du _ _ _ _ _ h,du _ _ _ _ _ h,du _ _ _ _ _ h,du _ _ _ _ _ h,du _ _ _ _ _ h⟩
def Gz(a:C)(b:Nat)(c d e f g h:G):C:=((((((a.setCell ⟨b,0,B⟩ c).setCell ⟨b,1,B⟩ d).setCell ⟨b,2,B⟩ e).setCell ⟨b,3,B⟩ f).setCell ⟨b,4,B⟩ g).setCell ⟨b,5,B⟩ h)
theorem aa1{b:Nat}{e:C}{t:U}{u n m l j i:G}(h:e.heap[b]?=A (Q #[u,n,m,l,j,i] t (0,0)))(a c d f g k:G):(Gz e b a c d f g k).heap[b]?=A (Q #[a,c,d,f,g,k] t (0,0)):=by
 unfold Gz;have s0:(e.setCell ⟨b,0,B⟩ a).heap[b]?=A (Q #[a,n,m,l,j,i] t (0,0)):=cD _ b 0 _ _ _ h;have o:((e.setCell ⟨b,0,B⟩ a).setCell ⟨b,1,B⟩ c).heap[b]?=A (Q #[a,c,m,l,j,i] t (0,0)):=cD _ b 1 _ _ _ s0;have p:(((e.setCell ⟨b,0,B⟩ a).setCell ⟨b,1,B⟩ c).setCell ⟨b,2,B⟩ d).heap[b]?=A (Q #[a,c,d,l,j,i] t (0,0)):=cD _ b 2 _ _ _ o;have q:((((e.setCell ⟨b,0,B⟩ a).setCell ⟨b,1,B⟩ c).setCell ⟨b,2,B⟩ d).setCell ⟨b,3,B⟩ f).heap[b]?=A (Q #[a,c,d,f,j,i] t (0,0)):=cD _ b 3 _ _ _ p;have r:(((((e.setCell ⟨b,0,B⟩ a).setCell ⟨b,1,B⟩ c).setCell ⟨b,2,B⟩ d).setCell ⟨b,3,B⟩ f).setCell ⟨b,4,B⟩ g).heap[b]?=A (Q #[a,c,d,f,g,i] t (0,0)):=cD _ b 4 _ _ _ q;have s:((((((e.setCell ⟨b,0,B⟩ a).setCell ⟨b,1,B⟩ c).setCell ⟨b,2,B⟩ d).setCell ⟨b,3,B⟩ f).setCell ⟨b,4,B⟩ g).setCell ⟨b,5,B⟩ k).heap[b]?=A (Q #[a,c,d,f,g,k] t (0,0)):=cD _ b 5 _ _ _ r;exact s
theorem zh{a:C}{b k:Nat}(h:k≠b)(c d e f g i:G):(Gz a b c d e f g i).heap[k]?=a.heap[k]?:=by
 unfold Gz;rw[bh _ _ _ _ h,bh _ _ _ _ h,bh _ _ _ _ h,bh _ _ _ _ h,bh _ _ _ _ h,bh _ _ _ _ h]
theorem vw(w:C):w.drew.heap=w.heap:=rfl
theorem Eo{a:C}{b k:Nat}(h:k≠b)(j:Nat)(c d e f g i:G):(Gz a b c d e f g i).drew.cell? ⟨k,j,B⟩=a.cell? ⟨k,j,B⟩:=by
 unfold World.cell?;rw[vw,zh h]
theorem BA{d c:C}{b base:Nat}(h:R base d c)(a:base<=b)(e f g i j k:G):R base d (Gz c b e f g i j k):=by
 unfold Gz;exact(((((h.setCell a _).setCell a _).setCell a _).setCell a _).setCell a _).setCell a _
theorem aa2(c:C)(b:Nat)(d e f g h i:G):c.grownBy (Gz c b d e f g h i).drew (A b):=by
 have a:=(BA (aj b c) (ah b) d e f g h i).drew;exact⟨a.os,a.tape,a.output,a.size,fun m l k=>by rw[vw,zh (fun j=>k (by rw[j]))]⟩
theorem rz:(Tryz.prog.info? 3).map (fun i=>(i.zero,i.size,i.bytes))=A (A (H I 0),1,8):=by kernel_rfl
theorem Ep{e:C}{base g n c:Nat}{b:List ByteArray}(h:e.ownsRow base 9 1 (K (A ⟨g,0,B⟩) n c) n (b.map Y))(i:b.length=n):bu e (K (A ⟨g,0,B⟩) n c) b:=by
 subst i;refine .inr ⟨⟨g,0,B⟩,c,rfl,fun a k d=>?_⟩;have j:a<b.length:=by rcases cA a b.length with h|h;exact h;rw[fG h]at d;cases d
 have f:(⟨g,0,B⟩:Addr).add a=⟨g,a,B⟩:=by unfold Addr.add;split<;>simp_all
 rw[f,h.cellAt a (by omega),cj,d];rfl
theorem Er{e:C}{base g n c:Nat}{b:List Int}(h:e.ownsRow base 3 1 (K (A ⟨g,0,B⟩) n c) n (b.map (Value.int I)))(i:b.length=n):bi e (K (A ⟨g,0,B⟩) n c) b:=by
 subst i;refine .inr ⟨⟨g,0,B⟩,c,rfl,fun a k d=>?_⟩;have j:a<b.length:=by rcases cA a b.length with h|h;exact h;rw[fG h]at d;cases d
 have f:(⟨g,0,B⟩:Addr).add a=⟨g,a,B⟩:=by unfold Addr.add;split<;>simp_all
 rw[f,h.cellAt a (by omega),cj,d];rfl
def Ku:List ByteArray->Nat
 |[]=>0
 |s::a=>s.size+Ku a
def aa3(a:List ByteArray):Nat:=a.length+Ku a
def BB(N:Nd):Nat:=N.x.size+(aa3 N.nm+N.ks.length)
def dj(N:Nd)(vn vk:G):G:= .agg #[H I N.k,H I N.f,H I N.t,H I N.l,H I N.op,H I N.n,F N.x,vn,vk]
def de(b:Nat)(a:C)(t:U)(N:Nd)(vn vk:G):Prop:=
 a.heap[b]?=A (Q #[H I N.k,H I N.f,H I N.t,H I N.l,H I N.op,H I N.n,F N.x,vn,vk] t (0,0))
theorem au{b:Nat}{a:C}{t:U}{N:Nd}{vn vk:G}(h:de b a t N vn vk):
  a.cell? ⟨b,0,B⟩=A (H I N.k)/\a.cell? ⟨b,1,B⟩=A (H I N.f)/\a.cell? ⟨b,2,B⟩=A (H I N.t)/\a.cell? ⟨b,3,B⟩=A (H I N.l)/\a.cell? ⟨b,4,B⟩=A (H I N.op)/\a.cell? ⟨b,5,B⟩=A (H I N.n)/\a.cell? ⟨b,6,B⟩=A (F N.x)/\a.cell? ⟨b,7,B⟩=A vn/\a.cell? ⟨b,8,B⟩=A vk/\(∀j,a.frozen? ⟨b,j,B⟩=T):=by
 unfold de at h;exact⟨by rw[az _ _ _ _ _ _ h];rfl,by rw[az _ _ _ _ _ _ h];rfl,by rw[az _ _ _ _ _ _ h];rfl,by rw[az _ _ _ _ _ _ h];rfl,by rw[az _ _ _ _ _ _ h];rfl,by rw[az _ _ _ _ _ _ h];rfl,by rw[az _ _ _ _ _ _ h];rfl,by rw[az _ _ _ _ _ _ h];rfl,by rw[az _ _ _ _ _ _ h];rfl,fun j=>du _ _ _ _ _ h⟩
def AB:Nd:=⟨0,0,0,0,0,0,⟨#[]⟩,[],[]⟩
theorem de.below{b:Nat}{a c:C}{t:U}{N:Nd}{vn vk:G}(h:de b a t N vn vk)(d:R a.heap.size a c):de b c t N vn vk:=(d.block _ (ax h)).trans h
end Go.Proofs.YtnoojdbdapljoaaGreatDoor
namespace Go.Proofs.YtnoojdbdapljoaaGreatDoor
open Go.Maps Go.WideMaps
theorem cC{a b:Int}(h:a=b)(c:Int)(e:(b==c)=T):(a==c)=T:=by rw[h];exact e
theorem jd{a b:Int}(h:a=b)(c:Int)(e:(b==c)=true):(a==c)=true:=by rw[h];exact e
end Go.Proofs.YtnoojdbdapljoaaGreatDoor
