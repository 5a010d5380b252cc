import Derived.Shelf.Small.Wraps
import Derived.Shelf.Strings.BuilderK
import Derived.Shelf.Strconv.Itoa3
import Derived.Shelf.Strconv.ErrVarParseInt
import Derived.Shelf.Pu.ErrVarParseUint
import Derived.Shelf.Strings.Fields
import Derived.Shelf.Strings.Repeat
import Derived.Shelf.Unicode.IsSpaceAny
import Derived.Shelf.Unicode.ExclAny
import Derived.ProofKit
import Derived.OneCell
import Derived.RangeFuncBox
import Derived.Test.YtoahhnnflblfaaaGreatDoorHVk01
import Derived.Test.YtoahhnnflblfaaaGreatDoorHVk02
import Derived.Laws.AppendOwnNone
set_option linter.all false
set_option maxRecDepth 100000
set_option maxHeartbeats 1600000
open Option renaming some->M,none->U
open Bool renaming true->O,false->A3
open Go renaming World->Q,Value->Z,Calls->A8,TypeId->B0,Program->B1
open Go.Value renaming int->V,string->Ax,slice->A1,string->Br,bool->B2,tuple->B3,nilIface->B4,iface->B5,int->B6
open Go.IntKind renaming i64->X
open Go.Proofs.Tryz renaming prog->A0,sizeOf3->A7,isAgg3->A9
open Go.Ending renaming returned->A2
open Go.Obj renaming cells->A4
open Go.RowKit renaming Below->A5
open Go.Shelf renaming Ren->A6
namespace Go.Proofs
open Go.Shelf
def Tryz.lays103_ren:A6:=⟨fun|103=>171|210=>179|206=>158|n=>n,fun|9=>9|4=>4|24=>168|3=>3|n=>n,fun|n=>n⟩
theorem Tryz.lays103:Go.Proofs.Lays.n103 A0 Tryz.lays103_ren:={
 mixed:=by kernel_rfl
 f103:=Tryz.func171.trans (congrArg M (by kernel_rfl))
 f206:=Tryz.func158.trans (congrArg M (by kernel_rfl))
 f210:=Tryz.func179.trans (congrArg M (by kernel_rfl))
 t3:=Tryz.underlying3
 a3:=A9
 z3:=A7
 v3:=Tryz.zeroValue3
 t4:=Tryz.underlying4
 a4:=Tryz.isAgg4
 z4:=Tryz.sizeOf4
 v4:=Tryz.zeroValue4
 t9:=Tryz.underlying9
 a9:=Tryz.isAgg9
 z9:=Tryz.sizeOf9
 v9:=Tryz.zeroValue9
 t24:=Tryz.underlying168
 a24:=Tryz.isAgg168
 z24:=Tryz.sizeOf168
 v24:=Tryz.zeroValue168}
open Go.RowKit in
theorem Tryz.strings_CutPrefix(s p:ByteArray)(w:Q):
  A8 A0 171 #[Ax s,Ax p] w fun e a=>e= A2 (B3 #[Ax ⟨(Lib.trimPrefix s.data.toList p.data.toList).toArray⟩,B2 (Lib.hasPrefix s.data.toList p.data.toList)])/\a=w:=Any.strings_CutPrefix Tryz.lays103 s p w
def Tryz.lays104_ren:A6:=⟨fun|104=>142|211=>163|207=>177|n=>n,fun|9=>9|4=>4|24=>168|3=>3|n=>n,fun|n=>n⟩
theorem Tryz.lays104:Go.Proofs.Lays.n104 A0 Tryz.lays104_ren:={
 mixed:=by kernel_rfl
 f104:=Tryz.func142.trans (congrArg M (by kernel_rfl))
 f207:=Tryz.func177.trans (congrArg M (by kernel_rfl))
 f211:=Tryz.func163.trans (congrArg M (by kernel_rfl))
 t3:=Tryz.underlying3
 a3:=A9
 z3:=A7
 v3:=Tryz.zeroValue3
 t4:=Tryz.underlying4
 a4:=Tryz.isAgg4
 z4:=Tryz.sizeOf4
 v4:=Tryz.zeroValue4
 t9:=Tryz.underlying9
 a9:=Tryz.isAgg9
 z9:=Tryz.sizeOf9
 v9:=Tryz.zeroValue9
 t24:=Tryz.underlying168
 a24:=Tryz.isAgg168
 z24:=Tryz.sizeOf168
 v24:=Tryz.zeroValue168}
open Go.RowKit in
theorem Tryz.strings_CutSuffix(s p:ByteArray)(w:Q)(a:s.size<=9223372036854775807):
  A8 A0 142 #[Ax s,Ax p] w fun e b=>e= A2 (B3 #[Ax ⟨(Lib.trimSuffix s.data.toList p.data.toList).toArray⟩,B2 (Lib.hasSuffix s.data.toList p.data.toList)])/\b=w:=Any.strings_CutSuffix Tryz.lays104 s p w a
def Tryz.lays321_ren:A6:=⟨fun|321=>185|n=>n,fun|5=>5|n=>n,fun|n=>n⟩
theorem Tryz.lays321:Go.Proofs.Lays.n321 A0 Tryz.lays321_ren:={
 mixed:=by kernel_rfl
 f321:=Tryz.func185.trans (congrArg M (by kernel_rfl))
 t5:=Tryz.underlying5
 a5:=Tryz.isAgg5
 z5:=Tryz.sizeOf5
 v5:=Tryz.zeroValue5}
open Go.RowKit in
theorem Tryz.internal_strconv_lower(c:Int)(w:Q):
  A8 A0 185 #[V .u8 c] w fun e a=>e= A2 (V .u8 (bits .or .u8 c 32))/\a=w:=Any.internal_strconv_lower Tryz.lays321 c w
def Tryz.laysC174_ren:A6:=⟨fun|174=>173|247=>182|245=>181|287=>180|279=>187|280=>188|281=>189|282=>190|321=>185|322=>186|316=>191|171=>193|205=>192|243=>194|246=>195|283=>196|284=>197|285=>198|286=>199|129=>201|317=>200|318=>202|319=>203|320=>204|337=>205|338=>206|n=>n,fun|9=>9|3=>3|2=>2|75=>184|85=>207|4=>4|167=>229|5=>5|53=>39|175=>205|46=>171|168=>231|37=>22|0=>0|210=>237|21=>21|127=>201|145=>241|143=>239|171=>243|173=>246|212=>249|51=>196|20=>20|213=>250|232=>253|233=>254|80=>42|n=>n,fun|15=>4|16=>5|17=>6|18=>7|19=>8|n=>n⟩
theorem Tryz.laysC174:Go.Proofs.LaysC.n174 A0 Tryz.laysC174_ren:={
 mixed:=by kernel_rfl
 f129:=Tryz.func201.trans (congrArg M (by kernel_rfl))
 f171:=Tryz.func193.trans (congrArg M (by kernel_rfl))
 f174:=Tryz.func173.trans (congrArg M (by kernel_rfl))
 f205:=Tryz.func192.trans (congrArg M (by kernel_rfl))
 f243:=Tryz.func194.trans (congrArg M (by kernel_rfl))
 f245:=Tryz.func181.trans (congrArg M (by kernel_rfl))
 f246:=Tryz.func195.trans (congrArg M (by kernel_rfl))
 f247:=Tryz.func182.trans (congrArg M (by kernel_rfl))
 f279:=Tryz.func187.trans (congrArg M (by kernel_rfl))
 f280:=Tryz.func188.trans (congrArg M (by kernel_rfl))
 f281:=Tryz.func189.trans (congrArg M (by kernel_rfl))
 f282:=Tryz.func190.trans (congrArg M (by kernel_rfl))
 f283:=Tryz.func196.trans (congrArg M (by kernel_rfl))
 f284:=Tryz.func197.trans (congrArg M (by kernel_rfl))
 f285:=Tryz.func198.trans (congrArg M (by kernel_rfl))
 f286:=Tryz.func199.trans (congrArg M (by kernel_rfl))
 f287:=Tryz.func180.trans (congrArg M (by kernel_rfl))
 f316:=Tryz.func191.trans (congrArg M (by kernel_rfl))
 f317:=Tryz.func200.trans (congrArg M (by kernel_rfl))
 f318:=Tryz.func202.trans (congrArg M (by kernel_rfl))
 f319:=Tryz.func203.trans (congrArg M (by kernel_rfl))
 f320:=Tryz.func204.trans (congrArg M (by kernel_rfl))
 f321:=Tryz.func185.trans (congrArg M (by kernel_rfl))
 f322:=Tryz.func186.trans (congrArg M (by kernel_rfl))
 f337:=Tryz.func205.trans (congrArg M (by kernel_rfl))
 f338:=Tryz.func206.trans (congrArg M (by kernel_rfl))
 t0:=Tryz.underlying0
 a0:=Tryz.isAgg0
 z0:=Tryz.sizeOf0
 v0:=Tryz.zeroValue0
 t2:=Tryz.underlying2
 a2:=Tryz.isAgg2
 z2:=Tryz.sizeOf2
 v2:=Tryz.zeroValue2
 t3:=Tryz.underlying3
 a3:=A9
 z3:=A7
 v3:=Tryz.zeroValue3
 t4:=Tryz.underlying4
 a4:=Tryz.isAgg4
 z4:=Tryz.sizeOf4
 v4:=Tryz.zeroValue4
 t5:=Tryz.underlying5
 a5:=Tryz.isAgg5
 z5:=Tryz.sizeOf5
 v5:=Tryz.zeroValue5
 t9:=Tryz.underlying9
 a9:=Tryz.isAgg9
 z9:=Tryz.sizeOf9
 v9:=Tryz.zeroValue9
 t20:=Tryz.underlying20
 a20:=Tryz.isAgg20
 z20:=Tryz.sizeOf20
 v20:=Tryz.zeroValue20
 t21:=Tryz.underlying21
 a21:=Tryz.isAgg21
 z21:=Tryz.sizeOf21
 v21:=Tryz.zeroValue21
 t37:=Tryz.underlying22
 a37:=Tryz.isAgg22
 z37:=Tryz.sizeOf22
 v37:=Tryz.zeroValue22
 t46:=Tryz.underlying171
 a46:=Tryz.isAgg171
 z46:=Tryz.sizeOf171
 v46:=Tryz.zeroValue171
 t51:=Tryz.underlying196
 a51:=Tryz.isAgg196
 z51:=Tryz.sizeOf196
 v51:=Tryz.zeroValue196
 t53:=Tryz.underlying39
 a53:=Tryz.isAgg39
 z53:=Tryz.sizeOf39
 v53:=Tryz.zeroValue39
 t75:=Tryz.underlying184
 a75:=Tryz.isAgg184
 z75:=Tryz.sizeOf184
 v75:=Tryz.zeroValue184
 t85:=Tryz.underlying207
 a85:=Tryz.isAgg207
 z85:=Tryz.sizeOf207
 v85:=Tryz.zeroValue207
 t127:=Tryz.underlying201
 a127:=Tryz.isAgg201
 z127:=Tryz.sizeOf201
 v127:=Tryz.zeroValue201
 t143:=Tryz.underlying239
 a143:=Tryz.isAgg239
 z143:=Tryz.sizeOf239
 v143:=Tryz.zeroValue239
 t145:=Tryz.underlying241
 a145:=Tryz.isAgg241
 z145:=Tryz.sizeOf241
 v145:=Tryz.zeroValue241
 t167:=Tryz.underlying229
 a167:=Tryz.isAgg229
 z167:=Tryz.sizeOf229
 v167:=Tryz.zeroValue229
 t168:=Tryz.underlying231
 a168:=Tryz.isAgg231
 z168:=Tryz.sizeOf231
 v168:=Tryz.zeroValue231
 t171:=Tryz.underlying243
 a171:=Tryz.isAgg243
 z171:=Tryz.sizeOf243
 v171:=Tryz.zeroValue243
 t173:=Tryz.underlying246
 a173:=Tryz.isAgg246
 z173:=Tryz.sizeOf246
 v173:=Tryz.zeroValue246
 t175:=Tryz.underlying205
 a175:=Tryz.isAgg205
 z175:=Tryz.sizeOf205
 v175:=Tryz.zeroValue205
 t210:=Tryz.underlying237
 a210:=Tryz.isAgg237
 z210:=Tryz.sizeOf237
 v210:=Tryz.zeroValue237
 t212:=Tryz.underlying249
 a212:=Tryz.isAgg249
 z212:=Tryz.sizeOf249
 v212:=Tryz.zeroValue249
 t213:=Tryz.underlying250
 a213:=Tryz.isAgg250
 z213:=Tryz.sizeOf250
 t232:=Tryz.underlying253
 a232:=Tryz.isAgg253
 z232:=Tryz.sizeOf253
 v232:=Tryz.zeroValue253
 t233:=Tryz.underlying254
 a233:=Tryz.isAgg254
 z233:=Tryz.sizeOf254
 v233:=Tryz.zeroValue254
 g15:=by kernel_rfl
 g16:=by kernel_rfl
 g17:=by kernel_rfl
 g18:=by kernel_rfl
 g19:=by kernel_rfl
 t80:=Tryz.underlying42
 a80:=Tryz.isAgg42
 z80:=Tryz.sizeOf42
 v80:=Tryz.zeroValue42
 i0:=by kernel_rfl
 i2:=by kernel_rfl
 i3:=by kernel_rfl
 i4:=by kernel_rfl
 i5:=by kernel_rfl
 i9:=by kernel_rfl
 i20:=by kernel_rfl
 i21:=by kernel_rfl
 i37:=by kernel_rfl
 i46:=by kernel_rfl
 i51:=by kernel_rfl
 i53:=by kernel_rfl
 i75:=by kernel_rfl
 i80:=by kernel_rfl
 i85:=by kernel_rfl
 i127:=by kernel_rfl
 i143:=by kernel_rfl
 i145:=by kernel_rfl
 i167:=by kernel_rfl
 i168:=by kernel_rfl
 i171:=by kernel_rfl
 i173:=by kernel_rfl
 i175:=by kernel_rfl
 i210:=by kernel_rfl
 i212:=by kernel_rfl
 i232:=by kernel_rfl
 i233:=by kernel_rfl
 m15:=by kernel_rfl
 m16:=by kernel_rfl
 m17:=by kernel_rfl
 m18:=by kernel_rfl
 m19:=by kernel_rfl
 c0:=by kernel_rfl
 c2:=by kernel_rfl
 c3:=by kernel_rfl
 c4:=by kernel_rfl
 c5:=by kernel_rfl
 c9:=by kernel_rfl
 c20:=by kernel_rfl
 c21:=by kernel_rfl
 c37:=by kernel_rfl
 c46:=by kernel_rfl
 c51:=by kernel_rfl
 c53:=by kernel_rfl
 c75:=by kernel_rfl
 c80:=by kernel_rfl
 c85:=by kernel_rfl
 c127:=by kernel_rfl
 c143:=by kernel_rfl
 c145:=by kernel_rfl
 c167:=by kernel_rfl
 c168:=by kernel_rfl
 c171:=by kernel_rfl
 c173:=by kernel_rfl
 c175:=by kernel_rfl
 c210:=by kernel_rfl
 c212:=by kernel_rfl
 c213:=by kernel_rfl
 c232:=by kernel_rfl
 c233:=by kernel_rfl}
open Go.RowKit in
theorem Tryz.strconv_ParseInt_10_at64_ok(s:ByteArray)(b:s.size<=9223372036854775806)(v:Int)(h:Lib.parseIntB 64 s.data.toList= .ok v)(w:Q):
  A8 A0 173 #[Ax s,V X 10,V X 64] w fun e a=>e= A2 (B3 #[V X v,B4])/\(a=w\/∃t,a=Lib.bytesWorld w 5 t):=Any.strconv_ParseInt_10_at64_ok Tryz.laysC174 s b v h w
open Go.RowKit in
theorem Tryz.strconv_ParseInt_10_at64_syntax(s:ByteArray)(d:s.size<=281474976710656)(h:Lib.parseIntB 64 s.data.toList= .«syntax»)(a:Z)(w:Q)(f:w.cell? ⟨4,0,U⟩=M a)(c:a= B4\/∃i g,a= B5 i g):
  A8 A0 173 #[Ax s,V X 10,V X 64] w fun e b=>∃N,e= A2 (B3 #[V X (0),B5 231 (.pointer (M ⟨N,0,U⟩))])/\w.heap.size<=N/\b.heap[N]?=M (A4 #[Ax ⟨#[80,97,114,115,101,73,110,116]⟩,Ax s,a] 237 (0,0))/\A5 w.heap.size w b:=Any.strconv_ParseInt_10_at64_syntax Tryz.laysC174 s d h a w f c
open Go.RowKit in
theorem Tryz.strconv_ParseInt_10_at64_range(s:ByteArray)(d:s.size<=281474976710656)(h:Lib.parseIntB 64 s.data.toList= .range)(a:Z)(w:Q)(f:w.cell? ⟨5,0,U⟩=M a)(c:a= B4\/∃i g,a= B5 i g):
  A8 A0 173 #[Ax s,V X 10,V X 64] w fun e b=>∃N,e= A2 (B3 #[V X (Lib.intSat 64 s.data.toList),B5 231 (.pointer (M ⟨N,0,U⟩))])/\w.heap.size<=N/\b.heap[N]?=M (A4 #[Ax ⟨#[80,97,114,115,101,73,110,116]⟩,Ax s,a] 237 (0,0))/\A5 w.heap.size w b:=Any.strconv_ParseInt_10_at64_range Tryz.laysC174 s d h a w f c
def Tryz.lays99_ren:A6:=⟨fun|99=>136|206=>158|n=>n,fun|9=>9|4=>4|3=>3|n=>n,fun|n=>n⟩
theorem Tryz.lays99:Go.Proofs.Lays.n99 A0 Tryz.lays99_ren:={
 mixed:=by kernel_rfl
 f99:=Tryz.func136.trans (congrArg M (by kernel_rfl))
 f206:=Tryz.func158.trans (congrArg M (by kernel_rfl))
 t3:=Tryz.underlying3
 a3:=A9
 z3:=A7
 v3:=Tryz.zeroValue3
 t4:=Tryz.underlying4
 a4:=Tryz.isAgg4
 z4:=Tryz.sizeOf4
 v4:=Tryz.zeroValue4
 t9:=Tryz.underlying9
 a9:=Tryz.isAgg9
 z9:=Tryz.sizeOf9
 v9:=Tryz.zeroValue9}
open Go.RowKit Go.Lib in
theorem Tryz.strings_HasPrefix(s p:ByteArray)(w:Q):
  A8 A0 136 #[Ax s,Ax p] w fun e a=>e= A2 (B2 (Lib.hasPrefix s.data.toList p.data.toList))/\a=w:=Any.strings_HasPrefix Tryz.lays99 s p w
def Tryz.lays157_ren:A6:=⟨fun|157=>141|229=>161|199=>162|261=>176|311=>183|312=>184|n=>n,fun|9=>9|31=>34|3=>3|5=>5|4=>4|119=>202|0=>0|40=>204|152=>212|21=>21|154=>214|51=>196|141=>216|196=>221|193=>218|198=>224|49=>222|194=>219|201=>227|226=>234|46=>171|227=>235|n=>n,fun|0=>1|6=>2|n=>n⟩
theorem Tryz.lays157:Go.Proofs.Lays.n157 A0 Tryz.lays157_ren:={
 mixed:=by kernel_rfl
 f157:=Tryz.func141.trans (congrArg M (by kernel_rfl))
 f199:=Tryz.func162.trans (congrArg M (by kernel_rfl))
 f229:=Tryz.func161.trans (congrArg M (by kernel_rfl))
 f261:=Tryz.func176.trans (congrArg M (by kernel_rfl))
 f311:=Tryz.func183.trans (congrArg M (by kernel_rfl))
 f312:=Tryz.func184.trans (congrArg M (by kernel_rfl))
 t0:=Tryz.underlying0
 a0:=Tryz.isAgg0
 z0:=Tryz.sizeOf0
 v0:=Tryz.zeroValue0
 t3:=Tryz.underlying3
 a3:=A9
 z3:=A7
 v3:=Tryz.zeroValue3
 t4:=Tryz.underlying4
 a4:=Tryz.isAgg4
 z4:=Tryz.sizeOf4
 v4:=Tryz.zeroValue4
 t5:=Tryz.underlying5
 a5:=Tryz.isAgg5
 z5:=Tryz.sizeOf5
 v5:=Tryz.zeroValue5
 t9:=Tryz.underlying9
 a9:=Tryz.isAgg9
 z9:=Tryz.sizeOf9
 v9:=Tryz.zeroValue9
 t21:=Tryz.underlying21
 a21:=Tryz.isAgg21
 z21:=Tryz.sizeOf21
 v21:=Tryz.zeroValue21
 t31:=Tryz.underlying34
 a31:=Tryz.isAgg34
 z31:=Tryz.sizeOf34
 v31:=Tryz.zeroValue34
 t40:=Tryz.underlying204
 a40:=Tryz.isAgg204
 z40:=Tryz.sizeOf204
 v40:=Tryz.zeroValue204
 t46:=Tryz.underlying171
 a46:=Tryz.isAgg171
 z46:=Tryz.sizeOf171
 v46:=Tryz.zeroValue171
 t49:=Tryz.underlying222
 a49:=Tryz.isAgg222
 z49:=Tryz.sizeOf222
 v49:=Tryz.zeroValue222
 t51:=Tryz.underlying196
 a51:=Tryz.isAgg196
 z51:=Tryz.sizeOf196
 v51:=Tryz.zeroValue196
 t119:=Tryz.underlying202
 a119:=Tryz.isAgg202
 z119:=Tryz.sizeOf202
 t141:=Tryz.underlying216
 a141:=Tryz.isAgg216
 z141:=Tryz.sizeOf216
 v141:=Tryz.zeroValue216
 t152:=Tryz.underlying212
 a152:=Tryz.isAgg212
 z152:=Tryz.sizeOf212
 v152:=Tryz.zeroValue212
 t154:=Tryz.underlying214
 a154:=Tryz.isAgg214
 z154:=Tryz.sizeOf214
 v154:=Tryz.zeroValue214
 t193:=Tryz.underlying218
 a193:=Tryz.isAgg218
 z193:=Tryz.sizeOf218
 v193:=Tryz.zeroValue218
 t194:=Tryz.underlying219
 a194:=Tryz.isAgg219
 z194:=Tryz.sizeOf219
 v194:=Tryz.zeroValue219
 t196:=Tryz.underlying221
 a196:=Tryz.isAgg221
 z196:=Tryz.sizeOf221
 v196:=Tryz.zeroValue221
 t198:=Tryz.underlying224
 a198:=Tryz.isAgg224
 z198:=Tryz.sizeOf224
 v198:=Tryz.zeroValue224
 t201:=Tryz.underlying227
 a201:=Tryz.isAgg227
 z201:=Tryz.sizeOf227
 v201:=Tryz.zeroValue227
 t226:=Tryz.underlying234
 a226:=Tryz.isAgg234
 z226:=Tryz.sizeOf234
 v226:=Tryz.zeroValue234
 t227:=Tryz.underlying235
 a227:=Tryz.isAgg235
 z227:=Tryz.sizeOf235
 v227:=Tryz.zeroValue235
 g0:=by kernel_rfl
 g6:=by kernel_rfl}
open Go.RowKit Go.Lib in
theorem Tryz.strings_Fields(s:ByteArray)(w:Q)(c:s.size<4294967281)(a:∀(j:Nat) b,s.data.toList[j]?=M b->b.toNat<128)(d:Lib.TabIs A0 w "strings.asciiSpace" .u8 Lib.asciiSpaceTab):
  A8 A0 141 #[Ax s] w fun e f=>
   e= A2 (A1 (M ⟨w.heap.size,0,U⟩) (Lib.fields s.data.toList).length (Lib.fields s.data.toList).length)/\f=w.alloc (A4 ((Lib.fields s.data.toList).map fun l=>Br ⟨l.toArray⟩).toArray 9):=Any.strings_Fields Tryz.lays157 (by kernel_rfl) (by kernel_rfl) s w c a d
end Go.Proofs
namespace Go.Proofs.YtoahhnnflblfaaaGreatDoor
open Go.RowKit
structure Nd where
 k:Int
 f:Int
 t:Int
 l:Int
 op:Int
 n:Int
 x:ByteArray
 nm:List ByteArray
 ks:List Int
def bF(e:Q)(v:Z)(l:List ByteArray):Prop:=
 (l=[]/\∃a b,v= A1 a 0 b)\/∃a b,v= A1 (M a) l.length b/\∀c d,l[c]?=M d->e.cell? (a.add c)=M (Ax d)
def aK(e:Q)(v:Z)(l:List Int):Prop:=
 (l=[]/\∃a b,v= A1 a 0 b)\/∃a b,v= A1 (M a) l.length b/\∀c d,l[c]?=M d->e.cell? (a.add c)=M (V X d)
structure aa0 (W:Q) (a:Addr) (N:Nd) (vn vk:Z):Prop where
 c0:W.cell? a=M (.int .i64 N.k)
 c1:W.cell? ⟨a.block,a.off+1,U⟩=M (.int .i64 N.f)
 c2:W.cell? ⟨a.block,a.off+2,U⟩=M (.int .i64 N.t)
 c3:W.cell? ⟨a.block,a.off+3,U⟩=M (.int .i64 N.l)
 c4:W.cell? ⟨a.block,a.off+4,U⟩=M (.int .i64 N.op)
 c5:W.cell? ⟨a.block,a.off+5,U⟩=M (.int .i64 N.n)
 c6:W.cell? ⟨a.block,a.off+6,U⟩=M (.string N.x)
 c7:W.cell? ⟨a.block,a.off+7,U⟩=M vn
 c8:W.cell? ⟨a.block,a.off+8,U⟩=M vk
 hn:bF W vn N.nm
 hk:aK W vk N.ks
def co(e:Q)(v:Z)(ns:List Nd):Prop:=
 (ns=[]/\∃a b,v= A1 a 0 b)\/∃a b,v= A1 (M a) ns.length b/\∀d c,ns[d]?=M c->∃g f,aa0 e (a.add (d*9)) c g f
theorem vy{b:Q}{a:Addr}{v:Z}(h:b.cell? a=M v):a.block<b.heap.size:=by
 unfold World.cell? at h;rcases bv a.block b.heap.size with g|g
 ·exact g
 ·rw[yF g]at h;simp at h
theorem ah{b c:Q}(d:A5 b.heap.size b c){a:Addr}{v:Z}(h:b.cell? a=M v):c.cell? a=M v:=by
 rw[<-h];unfold World.cell?;rw[d.block _ (vy h)]
theorem bF.below{a b:Q}{v:Z}{l:List ByteArray}(h:bF a v l)(g:A5 a.heap.size a b):bF b v l:=by
 rcases h with h|⟨c,d,e,f⟩
 ·exact .inl h
 ·exact .inr ⟨c,d,e,fun j k i=>ah g (f j k i)⟩
theorem aK.below{a b:Q}{v:Z}{l:List Int}(h:aK a v l)(g:A5 a.heap.size a b):aK b v l:=by
 rcases h with h|⟨c,d,e,f⟩
 ·exact .inl h
 ·exact .inr ⟨c,d,e,fun j k i=>ah g (f j k i)⟩
theorem aa0.below{c d:Q}{a:Addr}{N:Nd}{vn vk:Z}(h:aa0 c a N vn vk)(b:A5 c.heap.size c d):aa0 d a N vn vk:=
 ⟨ah b h.c0,ah b h.c1,ah b h.c2,ah b h.c3,ah b h.c4,ah b h.c5,ah b h.c6,ah b h.c7,ah b h.c8,h.hn.below b,h.hk.below b⟩
theorem co.below{a b:Q}{v:Z}{ns:List Nd}(h:co a v ns)(k:A5 a.heap.size a b):co b v ns:=by
 rcases h with h|⟨d,e,g,i⟩
 ·exact .inl h
 ·exact .inr ⟨d,e,g,fun l c j=>by obtain⟨n,m,f⟩:=i l c j;exact⟨n,m,f.below k⟩⟩
theorem bF.form{b:Q}{v:Z}{l:List ByteArray}(h:bF b v l):∃a c,v= A1 a l.length c:=by
 rcases h with⟨rfl,a,c,h⟩|⟨a,c,d,e⟩
 ·exact⟨a,c,h⟩
 ·exact⟨_,_,d⟩
theorem aK.form{b:Q}{v:Z}{l:List Int}(h:aK b v l):∃a c,v= A1 a l.length c:=by
 rcases h with⟨rfl,a,c,h⟩|⟨a,c,d,e⟩
 ·exact⟨a,c,h⟩
 ·exact⟨_,_,d⟩
theorem co.form{b:Q}{v:Z}{l:List Nd}(h:co b v l):∃a c,v= A1 a l.length c:=by
 rcases h with⟨rfl,a,c,h⟩|⟨a,c,d,e⟩
 ·exact⟨a,c,h⟩
 ·exact⟨_,_,d⟩
theorem bF.get{d:Q}{a:Option Addr}{n c:Nat}{l:List ByteArray}(h:bF d (A1 a n c) l){k:Nat}{s:ByteArray}(e:l[k]?=M s):∃b,a=M b/\d.cell? (b.add k)=M (Ax s):=by
 rcases h with⟨rfl,_⟩|⟨b,i,f,g⟩
 ·simp at e
 ·cases f;exact⟨b,rfl,g k s e⟩
theorem aK.get{d:Q}{a:Option Addr}{n c:Nat}{l:List Int}(h:aK d (A1 a n c) l){k:Nat}{s:Int}(e:l[k]?=M s):∃b,a=M b/\d.cell? (b.add k)=M (V X s):=by
 rcases h with⟨rfl,_⟩|⟨b,i,f,g⟩
 ·simp at e
 ·cases f;exact⟨b,rfl,g k s e⟩
theorem co.get{d:Q}{a:Option Addr}{n c:Nat}{l:List Nd}(h:co d (A1 a n c) l){k:Nat}{N:Nd}(e:l[k]?=M N):∃b,a=M b/\∃vn vk,aa0 d (b.add (k*9)) N vn vk:=by
 rcases h with⟨rfl,_⟩|⟨b,i,f,g⟩
 ·simp at e
 ·cases f;exact⟨b,rfl,g k N e⟩
theorem aI{w b:Q}{base e size:Nat}{v:Z}{n:Nat}{c:List Z}(h:w.ownsRow base e size v n c)(a:A5 w.heap.size w b):b.ownsRow base e size v n c:=
 h.kept (row:=U) ⟨a.os,a.tape,a.output,a.size,fun f d _=>a.block f d⟩ (by cases v.ownBlock<;>simp)
theorem my{w:Q}{base b e size:Nat}{v:Z}{n:Nat}{c:List Z}(h:w.ownsRow base e size v n c)(j:b<=base):w.ownsRow b e size v n c:=by
 obtain⟨i,a⟩:=h;refine⟨i,?_⟩;rcases a with a|⟨g,d,f,l,k,m⟩
 ·exact .inl a
 ·exact .inr ⟨g,d,f,l,dh j k,m⟩
theorem bH{a:Type}{l:List a}{n k:Nat}(b:l.length=n)(h:k<n):∃s,l[k]?=M s:=⟨l[k]'(by omega),aE _⟩
theorem ur{b:Nat}{a:Q}{t:B0}{fr:Nat×Nat}{c d e f g i:Z}(h:a.heap[b]?=M (A4 #[c,d,e,f,g,i] t fr)):a.cell? ⟨b,0,U⟩=M c/\a.cell? ⟨b,1,U⟩=M d/\a.cell? ⟨b,2,U⟩=M e/\a.cell? ⟨b,3,U⟩=M f/\a.cell? ⟨b,4,U⟩=M g/\a.cell? ⟨b,5,U⟩=M i:=by
 refine⟨?_,?_,?_,?_,?_,?_⟩<;>(rw[ay _ _ _ _ _ _ h];rfl)
theorem F6{b:Nat}{a:Q}{t:B0}{cs:Array Z}(h:a.heap[b]?=M (A4 cs t (0,0))):a.frozen? ⟨b,0,U⟩=A3/\a.frozen? ⟨b,1,U⟩=A3/\a.frozen? ⟨b,2,U⟩=A3/\a.frozen? ⟨b,3,U⟩=A3/\a.frozen? ⟨b,4,U⟩=A3/\a.frozen? ⟨b,5,U⟩=A3:=
 ⟨dI _ _ _ _ _ h,dI _ _ _ _ _ h,dI _ _ _ _ _ h,dI _ _ _ _ _ h,dI _ _ _ _ _ h,dI _ _ _ _ _ h⟩
def Il(a:Q)(b:Nat)(c d e f g h:Z):Q:=((((((a.setCell ⟨b,0,U⟩ c).setCell ⟨b,1,U⟩ d).setCell ⟨b,2,U⟩ e).setCell ⟨b,3,U⟩ f).setCell ⟨b,4,U⟩ g).setCell ⟨b,5,U⟩ h)
theorem acz{b:Nat}{e:Q}{t:B0}{u n m l j i:Z}(h:e.heap[b]?=M (A4 #[u,n,m,l,j,i] t (0,0)))(a c d f g k:Z):(Il e b a c d f g k).heap[b]?=M (A4 #[a,c,d,f,g,k] t (0,0)):=by
 unfold Il;have s0:(e.setCell ⟨b,0,U⟩ a).heap[b]?=M (A4 #[a,n,m,l,j,i] t (0,0)):=cE _ b 0 _ _ _ h;have o:((e.setCell ⟨b,0,U⟩ a).setCell ⟨b,1,U⟩ c).heap[b]?=M (A4 #[a,c,m,l,j,i] t (0,0)):=cE _ b 1 _ _ _ s0;have p:(((e.setCell ⟨b,0,U⟩ a).setCell ⟨b,1,U⟩ c).setCell ⟨b,2,U⟩ d).heap[b]?=M (A4 #[a,c,d,l,j,i] t (0,0)):=cE _ b 2 _ _ _ o;have q:((((e.setCell ⟨b,0,U⟩ a).setCell ⟨b,1,U⟩ c).setCell ⟨b,2,U⟩ d).setCell ⟨b,3,U⟩ f).heap[b]?=M (A4 #[a,c,d,f,j,i] t (0,0)):=cE _ b 3 _ _ _ p;have r:(((((e.setCell ⟨b,0,U⟩ a).setCell ⟨b,1,U⟩ c).setCell ⟨b,2,U⟩ d).setCell ⟨b,3,U⟩ f).setCell ⟨b,4,U⟩ g).heap[b]?=M (A4 #[a,c,d,f,g,i] t (0,0)):=cE _ b 4 _ _ _ q;have s:((((((e.setCell ⟨b,0,U⟩ a).setCell ⟨b,1,U⟩ c).setCell ⟨b,2,U⟩ d).setCell ⟨b,3,U⟩ f).setCell ⟨b,4,U⟩ g).setCell ⟨b,5,U⟩ k).heap[b]?=M (A4 #[a,c,d,f,g,k] t (0,0)):=cE _ b 5 _ _ _ r;exact s
theorem zJ{a:Q}{b k:Nat}(h:k≠b)(c d e f g i:Z):(Il a b c d e f g i).heap[k]?=a.heap[k]?:=by
 unfold Il;rw[bh _ _ _ _ h,bh _ _ _ _ h,bh _ _ _ _ h,bh _ _ _ _ h,bh _ _ _ _ h,bh _ _ _ _ h]
theorem wJ(w:Q):w.drew.heap=w.heap:=rfl
theorem F7{a:Q}{b k:Nat}(h:k≠b)(j:Nat)(c d e f g i:Z):(Il a b c d e f g i).drew.cell? ⟨k,j,U⟩=a.cell? ⟨k,j,U⟩:=by
 unfold World.cell?;rw[wJ,zJ h]
theorem CG{d c:Q}{b base:Nat}(h:A5 base d c)(a:base<=b)(e f g i j k:Z):A5 base d (Il c b e f g i j k):=by
 unfold Il;exact(((((h.setCell a _).setCell a _).setCell a _).setCell a _).setCell a _).setCell a _
theorem acA(c:Q)(b:Nat)(d e f g h i:Z):c.grownBy (Il c b d e f g h i).drew (M b):=by
 have a:=(CG (ai b c) (ag b) d e f g h i).drew;exact⟨a.os,a.tape,a.output,a.size,fun m l k=>by rw[wJ,zJ (fun j=>k (by rw[j]))]⟩
theorem pJ:(Tryz.prog.info? 3).map (fun i=>(i.zero,i.size,i.bytes))=M (M (V X 0),1,8):=by kernel_rfl
theorem acB{d:Q}{base g n c:Nat}{l:List ByteArray}(h:d.ownsRow base 9 1 (A1 (M ⟨g,0,U⟩) n c) n (l.map Br))(f:l.length=n):bF d (A1 (M ⟨g,0,U⟩) n c) l:=by
 subst f;refine .inr ⟨⟨g,0,U⟩,c,rfl,fun a j b=>?_⟩;have i:a<l.length:=by rcases bv a l.length with h|h;exact h;rw[fm h]at b;cases b
 have e:(⟨g,0,U⟩:Addr).add a=⟨g,a,U⟩:=by unfold Addr.add;split<;>simp_all
 rw[e,h.cellAt a (by omega),cA,b];rfl
theorem acC{d:Q}{base g n c:Nat}{l:List Int}(h:d.ownsRow base 3 1 (A1 (M ⟨g,0,U⟩) n c) n (l.map (B6 X)))(f:l.length=n):aK d (A1 (M ⟨g,0,U⟩) n c) l:=by
 subst f;refine .inr ⟨⟨g,0,U⟩,c,rfl,fun a j b=>?_⟩;have i:a<l.length:=by rcases bv a l.length with h|h;exact h;rw[fm h]at b;cases b
 have e:(⟨g,0,U⟩:Addr).add a=⟨g,a,U⟩:=by unfold Addr.add;split<;>simp_all
 rw[e,h.cellAt a (by omega),cA,b];rfl
def dy(N:Nd)(vn vk:Z):Z:= .agg #[V X N.k,V X N.f,V X N.t,V X N.l,V X N.op,V X N.n,Ax N.x,vn,vk]
def dr(b:Nat)(a:Q)(t:B0)(N:Nd)(vn vk:Z):Prop:=
 a.heap[b]?=M (A4 #[V X N.k,V X N.f,V X N.t,V X N.l,V X N.op,V X N.n,Ax N.x,vn,vk] t (0,0))
theorem aq{b:Nat}{a:Q}{t:B0}{N:Nd}{vn vk:Z}(h:dr b a t N vn vk):
  a.cell? ⟨b,0,U⟩=M (V X N.k)/\a.cell? ⟨b,1,U⟩=M (V X N.f)/\a.cell? ⟨b,2,U⟩=M (V X N.t)/\a.cell? ⟨b,3,U⟩=M (V X N.l)/\a.cell? ⟨b,4,U⟩=M (V X N.op)/\a.cell? ⟨b,5,U⟩=M (V X N.n)/\a.cell? ⟨b,6,U⟩=M (Ax N.x)/\a.cell? ⟨b,7,U⟩=M vn/\a.cell? ⟨b,8,U⟩=M vk/\(∀j,a.frozen? ⟨b,j,U⟩=A3):=by
 unfold dr at h;exact⟨by rw[ay _ _ _ _ _ _ h];rfl,by rw[ay _ _ _ _ _ _ h];rfl,by rw[ay _ _ _ _ _ _ h];rfl,by rw[ay _ _ _ _ _ _ h];rfl,by rw[ay _ _ _ _ _ _ h];rfl,by rw[ay _ _ _ _ _ _ h];rfl,by rw[ay _ _ _ _ _ _ h];rfl,by rw[ay _ _ _ _ _ _ h];rfl,by rw[ay _ _ _ _ _ _ h];rfl,fun j=>dI _ _ _ _ _ h⟩
def nI:Nd:=⟨0,0,0,0,0,0,⟨#[]⟩,[],[]⟩
theorem dr.below{b:Nat}{a c:Q}{t:B0}{N:Nd}{vn vk:Z}(h:dr b a t N vn vk)(d:A5 a.heap.size a c):dr b c t N vn vk:=(d.block _ (au h)).trans h
theorem lH{b:Nat}{a w:Q}(h:A5 b a w)(n:Nat):A5 b a (w.drewN n):=⟨h.os,h.tape,h.output,h.size,h.block⟩
theorem be{b:Nat}{a w:Q}(h:A5 b a w):A5 b a w.drew:=⟨h.os,h.tape,h.output,h.size,h.block⟩
theorem cH{b:Q}{base e size n:Nat}{v:Z}{d:List Z}(h:b.ownsRow base e size v n d):∃a cap,v= A1 a n cap:=by
 rcases h.2 with⟨rfl,c⟩|⟨g,cap,f,rfl,_⟩
 ·exact⟨U,0,by rw[c]⟩
 ·exact⟨_,_,rfl⟩
theorem bK{a:Q}{base e size n:Nat}{v:Z}{c:List Z}(h:a.ownsRow base e size v n c):(n=0/\v= A1 U 0 0)\/∃g cap,v= A1 (M ⟨g,0,U⟩) n cap:=by
 rcases h.2 with⟨rfl,b⟩|⟨g,cap,d,rfl,_⟩
 ·exact .inl ⟨b,rfl⟩
 ·exact .inr ⟨_,_,rfl⟩
def eK(k:Int):Bool:=decide (20<=k/\k<=37)
def ja(k:Int):Bool:=decide (1<=k/\k<=16)
def rx(k:Int):Bool:=decide (k=26\/k=32\/k=33)
theorem Iu(k:Int)(w:Q):A8 A0 132 #[V X k] w fun e c=>e= A2 (B2 (eK k))/\c=w:=by
 unfold eK;rcases(show(20<=k/\k<=37)\/(20<=k/\¬k<=37)\/¬20<=k by omega) with⟨h1,b⟩|⟨h1,b⟩|h1
 ·rw[bg ⟨h1,b⟩];go_in;go_wp2;go_ret;exact⟨rfl,rfl⟩
 ·rw[az (fun a=>b a.2)];go_in;go_wp2;go_ret;exact⟨rfl,rfl⟩
 ·rw[az (fun a=>h1 a.1)];go_in;go_wp2;go_ret;exact⟨rfl,rfl⟩
theorem zK(k:Int)(w:Q):A8 A0 44 #[V X k] w fun e c=>e= A2 (B2 (ja k))/\c=w:=by
 unfold ja;rcases(show(1<=k/\k<=16)\/(1<=k/\¬k<=16)\/¬1<=k by omega) with⟨h1,b⟩|⟨h1,b⟩|h1
 ·rw[bg ⟨h1,b⟩];go_in;go_wp2;go_ret;exact⟨rfl,rfl⟩
 ·rw[az (fun a=>b a.2)];go_in;go_wp2;go_ret;exact⟨rfl,rfl⟩
 ·rw[az (fun a=>h1 a.1)];go_in;go_wp2;go_ret;exact⟨rfl,rfl⟩
theorem Eb(k:Int)(w:Q):A8 A0 100 #[V X k] w fun e d=>e= A2 (B2 (rx k))/\d=w:=by
 unfold rx;by_cases a:k=26
 ·subst a;go_in;go_wp2;go_ret;exact⟨rfl,rfl⟩
 have f:(k==26)=A3:=by rw[aL];exact a
 by_cases b:k=32
 ·subst b;go_in;go_wp2;go_ret;exact⟨rfl,rfl⟩
 have g:(k==32)=A3:=by rw[aL];exact b
 by_cases c:k=33
 ·subst c;go_in;go_wp2;go_ret;exact⟨rfl,rfl⟩
 have h:(k==33)=A3:=by rw[aL];exact c
 rw[az (by omega)];go_in;go_wp2;go_ret;exact⟨rfl,rfl⟩
theorem aa1(w:Q)(p:Z)(ns:List Nd)(N d:Nd)(vn vk:Z)(i:Nat)(a:Nat)(g:co w p ns)(o:bF w vn N.nm)(f:aK w vk N.ks)(c:N.ks[i]?=M (a:Int))(b:ns[a]?=M d)(t:ns.length<=1048576)(u:N.ks.length<=1048576):
  A8 A0 96 #[.agg #[p],dy N vn vk,V X i] w fun e z=>e= A2 (V X d.k)/\A5 w.heap.size w z:=by
 have s:∀j l,A5 w.heap.size w ((w.alloc j).alloc l):=fun j l=>((ai _ w).alloc (ag _) j).alloc (by simp) l;obtain⟨C,G,rfl⟩:=g.form;obtain⟨E,H,rfl⟩:=o.form;obtain⟨F,I,rfl⟩:=f.form;obtain⟨a7,rfl,ba,a9,n⟩:=g.get b;obtain⟨a8,rfl,r⟩:=f.get c;have x:a<ns.length:=by rcases bv a ns.length with h|h;exact h;rw[fm h]at b;cases b
 have v:i<N.ks.length:=by rcases bv i N.ks.length with h|h;exact h;rw[fm h]at c;cases c
 have m:=n.c0;have ak:=vy r;have al:=vy m;unfold dy;generalize ns.length=y at t x;generalize N.ks.length=q at u v;generalize N.nm.length=A;generalize d.k=B at m;have af:(a:Int)<(y:Int):=by omega
 have K:(i:Int)<(q:Int):=by omega
 have L:(0:Int)<=(a:Int):=by omega
 have J:(0:Int)<=(i:Int):=by omega
 clear g o f c b n;obtain⟨an,am,a5,ap,a4,av,a6,a0,ao⟩:=N;simp only;go_in;go_wp2_with fail;go_quiet (fail)
 go_wp2_with fail;go_ret;exact⟨rfl,lH (s _ _) _⟩
def eu(ns:List Nd)(N:Nd)(j:Nat):Int:=(ns.getD ((N.ks.getD j 0).toNat) nI).k
def iF(ns:List Nd)(N:Nd):Nat->Nat->Bool
 |0,_=>O
 |f+1,j=>eK (eu ns N j)&&iF ns N f (j+1)
structure ajt (ns:List Nd) (N:Nd) (f j:Nat) (R:Bool):Prop where
 out:iF ns N f j=R
structure wL (ns:List Nd) (N:Nd):Prop where
 ok:∀z∈N.ks,0<=z/\z<(ns.length:Int)
theorem wL.get{ns:List Nd}{N:Nd}(h:wL ns N){j:Nat}(e:j<N.ks.length):∃(a:Nat) (c:Nd),N.ks[j]?=M (a:Int)/\ns[a]?=M c/\eu ns N j=c.k/\a<ns.length:=by
 have d:N.ks[j]?=M N.ks[j]:=aE e;obtain⟨g,i⟩:=h.ok N.ks[j] (lG e);obtain⟨a,f⟩:∃a:Nat,N.ks[j]=(a:Int):=⟨N.ks[j].toNat,by omega⟩;have b:a<ns.length:=by omega
 refine⟨a,ns[a],by rw[d,f],aE b,?_,b⟩;unfold eu;rw[bc,bc,d,f];simp[b]
theorem dz(w:Q)(av:Z)(ns:List Nd)(N:Nd)(vn vk:Z)(i k:Nat)(C:co w av ns)(b:bF w vn N.nm)(B:aK w vk N.ks)(ba:wL ns N)(bj:k<=N.ks.length)(bb:ns.length<=1048576)(bd:N.ks.length<=1048576):
  A8 A0 99 #[.agg #[av],dy N vn vk,V X i,V X k] w fun e bl=>e= A2 (B2 (iF ns N (k-i) i))/\A5 w.heap.size w bl:=by
 obtain⟨r,A⟩:=aA (iF ns N (k-i) i);rw[A];have a4:ajt ns N (k-i) i r:=⟨A⟩;clear A;have ap:∀E F,A5 w.heap.size w ((w.alloc E).alloc F):=fun E F=>((ai _ w).alloc (ag _) E).alloc (by simp) F;have m:=eH C B;obtain⟨s,v,rfl⟩:=C.form;obtain⟨L,af,rfl⟩:=b.form;obtain⟨u,y,rfl⟩:=B.form;clear C b B;unfold dy;obtain⟨q,b⟩:=aA ns.length;obtain⟨n,z⟩:=aA N.ks.length;have I:=eH b z;rw[b]at m bb⊢;rw[z]at m bd bj⊢;clear b z;generalize N.nm.length=J;go_in;go_wp2_with fail;obtain⟨d,g⟩:=aA ((w.alloc (A4 #[A1 s q v] 26)).alloc (A4 #[V X N.k,V X N.f,V X N.t,V X N.l,V X N.op,V X N.n,Ax N.x,A1 L J af,A1 u n y] 36));have a5:d.cell? ⟨w.heap.size,0,U⟩=M (A1 s q v):=by
  rw[<-g,ay _ _ _ _ _ _ ((dt _ _ _ (by simp)).trans (ar w _))];rfl
 have a6:d.cell? ⟨w.heap.size+1,8,U⟩=M (A1 u n y):=by
  have:=ar (w.alloc (A4 #[A1 s q v] 26)) (A4 #[V X N.k,V X N.f,V X N.t,V X N.l,V X N.op,V X N.n,Ax N.x,A1 L J af,A1 u n y] 36);rw[bu]at this;rw[<-g,ay _ _ _ _ _ _ this];rfl
 have ao:A5 w.heap.size w d:=by rw[<-g];exact ap _ _
 rw[g];clear g ap;go_loopw [9] (fun G wr=>∃(j:Nat),G= V X j/\i<=j/\(i<=k->j<=k)/\ajt ns N (k-j) j r/\A5 d.heap.size d wr) (fun G _=>k-(intOf G).toNat)
 case atStart=>exact⟨i,rfl,ag _,fun a9=>a9,a4,ai _ _⟩
 case round=>
  obtain⟨j,rfl,bq,bs,H,o⟩:=hrel;have p:=ao.trans (o.mono ao.size);by_cases bw:j<k
  ·obtain⟨a0,K,ak,al,am,a7⟩:=ba.get (j:=j) (by rw[I.out.2];omega);rw[I.out.1]at a7;obtain⟨bD,rfl,b1,b0,an⟩:=(m.out.1.below p).get al;obtain⟨bE,rfl,bp⟩:=(m.out.2.below p).get ak;have bn:=ah o a5;have bo:=ah o a6;have a8:=an.c0;have a:=H.out;rw[show k-j=(k-(j+1))+1 by omega,iF,am]at a;have bf:(j:Int)<(k:Int):=by omega
   have bt:(j:Int)<(n:Int):=by omega
   have bA:(a0:Int)<(q:Int):=by omega
   have bx:(0:Int)<=(a0:Int):=by omega
   have br:(0:Int)<=(j:Int):=by omega
   have h:=fun w=>Iu K.k w;generalize K.k=bk at a8 a h;clear ak al am an;cases hx:eK bk with
   |true=>
    rw[hx,fC]at a;rw[hx]at h;have c:ajt ns N (k-(j+1)) (j+1) r:=⟨a⟩;clear a hx;go_wp2_with fail;go_quiet ((go_at_call 132;exact Calls.quiet_of_same (h _)))
    go_wp2_with fail;exact⟨⟨j+1,by go_num,by omega,fun _=>by omega,c,lH o _⟩,by simp[intOf];omega⟩
   |false=>
    rw[hx,eG]at a;rw[hx]at h;have c:=aj a;clear a hx;go_wp2_with fail;go_quiet ((go_at_call 132;exact Calls.quiet_of_same (h _)))
    go_wp2_with fail;go_ret;exact⟨by rw[<-c.out];rfl,lH p _⟩
  ·have a:=H.out;rw[show k-j=0 by omega,iF]at a;have c:=aj a;have bf:¬(j:Int)<(k:Int):=by omega
   clear a;go_wp2_with fail;go_ret;exact⟨by rw[<-c.out];rfl,p⟩
end Go.Proofs.YtoahhnnflblfaaaGreatDoor
namespace Go.Proofs.YtoahhnnflblfaaaGreatDoor
open Go.Maps Go.WideMaps
theorem ci{a b:Int}(h:a=b)(c:Int)(e:(b==c)=A3):(a==c)=A3:=by rw[h];exact e
theorem kH{a b:Int}(h:a=b)(c:Int)(e:(b==c)=O):(a==c)=O:=by rw[h];exact e
end Go.Proofs.YtoahhnnflblfaaaGreatDoor
namespace Go.Proofs.YtoahhnnflblfaaaGreatDoor
structure Mb where
 N:Nd
 vn:Z
 vk:Z
def cMb(x:Mb):List Z:=[V X x.N.k,V X x.N.f,V X x.N.t,V X x.N.l,V X x.N.op,V X x.N.n,Ax x.N.x,x.vn,x.vk]
def mi(l:List Mb):List Z:=l.flatMap cMb
theorem CH(a:Mb)(r:List Mb):mi (a::r)=cMb a++mi r:=by simp[mi]
theorem vz(a b:List Mb):mi (a++b)=mi a++mi b:=by simp[mi]
theorem acD(l:List Mb):(mi l).length=l.length*9:=by
 induction l with
 |nil=>rfl
 |cons a d b=>
  have c:(cMb a).length=9:=rfl;rw[CH,aF,b,c,cC];omega
theorem agC(b:List Mb)(i j:Nat)(T:Mb)(a:b[i]?=M T)(f:j<9):(mi b)[i*9+j]?=(cMb T)[j]?:=by
 induction b generalizing i with
 |nil=>simp at a
 |cons c g d=>
  have e:(cMb c).length=9:=rfl;rw[CH];cases i with
  |zero=>simp at a;subst a;rw[iD (by omega)];congr 1;omega
  |succ i=>
   rw[gF (by omega),e,show(i+1)*9+j-9=i*9+j by omega];exact d i (by simpa using a)
theorem aa2{a:Q}{base:Nat}{v:Z}{l:List ByteArray}(h:a.ownsRow base 9 1 v l.length (l.map Br)):bF a v l:=by
 rcases bK h with⟨b,rfl⟩|⟨d,c,rfl⟩
 ·exact .inl ⟨jr b,_,_,rfl⟩
 ·exact acB h rfl
theorem qw{a:Q}{base:Nat}{v:Z}{l:List Int}(h:a.ownsRow base 3 1 v l.length (l.map (B6 X))):aK a v l:=by
 rcases bK h with⟨b,rfl⟩|⟨d,c,rfl⟩
 ·exact .inl ⟨jr b,_,_,rfl⟩
 ·exact acC h rfl
theorem td{a:Q}{j g n cap:Nat}{L:List Mb}(h:a.ownsRow j 36 9 (A1 (M ⟨g,0,U⟩) n cap) n (mi L)){i:Nat}{x:Mb}(d:L[i]?=M x):
  a.cell? ⟨g,i*9,U⟩=M (V X x.N.k)/\a.cell? ⟨g,i*9+1,U⟩=M (V X x.N.f)/\a.cell? ⟨g,i*9+2,U⟩=M (V X x.N.t)/\a.cell? ⟨g,i*9+3,U⟩=M (V X x.N.l)/\a.cell? ⟨g,i*9+4,U⟩=M (V X x.N.op)/\a.cell? ⟨g,i*9+5,U⟩=M (V X x.N.n)/\a.cell? ⟨g,i*9+6,U⟩=M (Ax x.N.x)/\a.cell? ⟨g,i*9+7,U⟩=M x.vn/\a.cell? ⟨g,i*9+8,U⟩=M x.vk:=by
 have o:n*9=L.length*9:=by have:=h.1;rw[acD]at this;omega
 have m:i<L.length:=by rcases bv i L.length with g|g;exact g;rw[fm g]at d;cases d
 have b:∀c,c<9->a.cell? ⟨g,i*9+c,U⟩=(cMb x)[c]?:=fun c e=>by
  rw[h.cellAt (i*9+c) (by omega),agC L i c x d e]
 exact⟨b 0 (by omega),b 1 (by omega),b 2 (by omega),b 3 (by omega),b 4 (by omega),b 5 (by omega),b 6 (by omega),b 7 (by omega),b 8 (by omega)⟩
def nxt(a:Nat)(N:Nd):Nat:=a+7+N.nm.length+N.ks.length
def cnt:Nat->List Nd->Nat
 |K,[]=>K
 |K,N::r=>cnt (nxt K N) r
theorem acE(b c:List Nd):∀a,cnt a (b++c)=cnt (cnt a b) c:=by
 induction b with
 |nil=>intro a;rfl
 |cons f e d=>intro a;simp[cnt,d]
end Go.Proofs.YtoahhnnflblfaaaGreatDoor
namespace Go.Proofs.YtoahhnnflblfaaaGreatDoor
def wpU(P:B1)(e:Region.Mode)(c:Array Oper)(d:Exit->Act->Q->Prop)(S g:Q->Prop)(C:Nat->Bool):Nat->Array Bool->Act->Q->Prop
 |0,b,a,w=>Region.ready e c b=[]/\d .normal a w
 |fuel+1,b,a,w=>
  (Region.ready e c b=[]->d .normal a w)/\
  ∀i∈Region.ready e c b,wpOp P c d i (fun h f=>(g f/\(C i=O->S f))/\wpU P e c d S g C fuel (b.setIfInBounds i O) h f) a w
theorem zL{P:B1}{g:Array Oper}{b:Exit->Act->Q->Prop}{f:Region.Mode}{S c:Q->Prop}{C:Nat->Bool}:∀(fuel:Nat)(e:Array Bool)(a:Act)(w:Q),wpU P f g b S c C fuel e a w->wpAnyH P f g b c fuel e a w
 |0,_,_,_,h=>h
 |fuel+1,_,_,_,h=>⟨h.1,fun i k=>wpOp_mono (fun j l d=>⟨d.1.1,zL fuel _ j l d.2⟩) (h.2 i k)⟩
theorem xa{P:B1}{f:Array Oper}{t:Exit->Act->Q->Prop}{m:Region.Mode}{S z:Q->Prop}{C:Nat->Bool}{i:Nat}{n:Oper}{v:Z}(H:f[i]?=M n)(ak:∀(j:Nat) (o:Oper) cs b,f[j]?=M o->o.op≠ .select cs b)
  (av:∀c a w,t (.panic c) (a.put n.dst v) w->t (.panic c) a w) (ao:∀(j:Nat) d,f[j]?=M d->C j=A3->∃e∈d.after,Region.binds m e=O/\e.on=i):
  ∀(fuel:Nat)(g:Array Bool)(a:Act)(w:Q),
   (∀j d,f[j]?=M d->j≠i->g.getD j O=A3->(∀e∈d.after,Region.binds m e=O->e.on≠i)->n.apart f d=O)->
   i∈Region.ready m f g->YieldsIf P f S n v a->z w->S w->
   wpU P m f t S z C fuel (g.setIfInBounds i O) (a.put n.dst v) w->wpAnyH P m f t z (fuel+1) g a w:=by
 intro fuel
 induction fuel with
 |zero=>
  intro g a w _ l y B hS q;refine⟨fun A=>(by rw[A]at l;cases l),fun j u=>?_⟩;by_cases h:j=i
  ·subst h;exact y.wpOp H hS ⟨B,zL _ _ _ _ q⟩
  ·have:=ready_mono u h;rw[q.1]at this;cases this
 |succ fuel a5=>
  intro g a w J l y B hS q;refine⟨fun A=>(by rw[A]at l;cases l),fun j u=>?_⟩;by_cases h:j=i
  ·subst h;exact y.wpOp H hS ⟨B,zL _ _ _ _ q⟩
  ·have k:=q.2 j (ready_mono u h);obtain⟨L,d,x,a0⟩:=mem_ready.1 u;have af:∀e∈d.after,Region.binds m e=O->e.on≠i:=fun e F E G=>by
    have k:=a0 e F E;have I:=(mem_ready.1 l).1;rw[G]at k;rcases bv i g.size with h'|h'
    ·simp[h']at I k;rw[I]at k;cases k
    ·simp[yF h']at k
   have ap:C j=O:=by
    cases hc:C j with
    |true=>rfl
    |false=>
     obtain⟨e,F,E,G⟩:=ao j d x hc;exact absurd G (af e F E)
   have an:=wpOp_putIf x (J j d x h L af) (fun cs b=>ak i n cs b H) (fun cs b=>ak j d cs b x) av y k;have a1:∀p s,f[p]?=M s->p≠i->(g.setIfInBounds j O).getD p O=A3->
     (∀e∈s.after,Region.binds m e=O->e.on≠i)->n.apart f s=O:=fun p s a2 a3 al a4=>by
    refine J p s a2 a3 ?_ a4;by_cases K:j=p
    ·subst K;exact L
    ·rw[getD_set_ne O K]at al;exact al
   refine wpOp_mono (fun am a6 r=>⟨r.2.1.1,a5 (g.setIfInBounds j O) am a6 a1 (ready_mono l (iE h)) r.1 r.2.1.1 (r.2.1.2 ap) ?_⟩) an;rw[Array.setIfInBounds_comm _ _ h];exact r.2.2
theorem jj{P:B1}{b:Array Oper}{d:Exit->Act->Q->Prop}{g:Region.Mode}{S c:Q->Prop}{C:Nat->Bool}{i:Nat}{o:Oper}{fuel:Nat}{f:Array Bool}{a:Act}{w:Q}(q:Region.ready g b f=[i])(v:b[i]?=M o)
  (h:∀j:Act->Q->Prop,Shut (∀a w,c w->(C i=O->S w)->wpU P g b d S c C fuel (f.setIfInBounds i O) a w->j a w)->if Region.wanted o (yielded b a.tmps)=O then Oper.wp P o a w j d else j (a.put o.dst undef) w):wpU P g b d S c C (fuel+1) f a w:=by
 refine⟨fun n=>(by rw[q]at n;cases n),fun l p=>?_⟩;rw[q]at p;obtain rfl:l=i:=by simpa using p
 have e:=h (fun r m=>(c m/\(C l=O->S m))/\wpU P g b d S c C fuel (f.setIfInBounds l O) r m) (fun a w s t u=>⟨⟨s,t⟩,u⟩);unfold wpOp;simp only[v];split
 ·rename_i k;rw[ab k]at e;exact .inl e
 ·rename_i k;rw[aa k]at e;exact e
theorem Aa{P:B1}{f:Array Oper}{b:Exit->Act->Q->Prop}{e:Region.Mode}{S g:Q->Prop}{C:Nat->Bool}{d:Array Bool}{a:Act}{w:Q}(c:Region.ready e f d=[])(h:b .normal a w):
  ∀fuel,wpU P e f b S g C fuel d a w
 |0=>⟨c,h⟩
 |_+1=>⟨fun _=>h,by rw[c];simp⟩
def jk(t:Int):Bool:=decide (t=25\/t=50\/t=62\/t=69)
def ie(t:Int):Bool:=decide (t=10\/t=26\/60<t)
def dJ(t:Int):Bool:=decide (t=1\/t=2\/t=3\/t=4\/t=24\/t=29\/t=17\/t=49\/t=18\/t=40\/t=42)||jk t
def Ab(t:Int):List Int×Bool:=if t=22 then([t,1,104,103],O) else if t=13 then([t,1,47,119],O) else if t=18 then([t,1,133],O) else if t=20 then([t,119,132,105],O) else if t=31 then([t,119,132],O) else if t=19 then([t,1,106],O) else if t=11 then([t],O) else if t=23 then([t],O) else if t=27 then([t,108],O) else if t=30 then([t,132,12,1,109,132],O) else if t=28 then([t,119],O) else if t=14 then([t,116],O) else if t=42 then([132],O) else if t=1 then([t,110],O) else if t=40 then([t,119,41,112],O) else([],A3)
def Ec(t a c:Int):List Int:=if t=48 then [t,1,a] else if t=44 then [t,119,45,a] else if t=40 then [t,123,41,c] else []
def Ad(t:Int):List Int×Bool:=if jk t=O then([t,120],O) else if t=1 then([t,122],O) else if t=40 then([t,119,41,122],O) else if t=42 then([t,129,43],O) else if t=18 then([t,133],O) else([t],dJ t)
def aju(t:Int):List Int×Bool:=if t=5 then([t,100],O) else if(Ab t).2=O then((Ab t).1++[101],O) else([],O)
def alI(t:Int):List Int×Bool:=if t=5 then([t,100],O) else([],O)
def alJ(t:Int):List Int×Bool:=([40,126,41,132],decide (t=40))
def ajv(t:Int):List Int×Bool:=if t=47 then([t,124],O) else([],O)
def ajw(t:Int):List Int×Bool:=if t=46 then([t,1,104],O) else([],O)
def ajx(t:Int):List Int×Bool:=if t=15 then([t,119,132,105],O) else if t=16 then([t,132],O) else([],O)
def alK(t:Int):List Int×Bool:=if t=47 then([t,119,46,119,107,132],O) else([104,21,119,132],decide (t=46\/t=21))
def alL(t:Int):List Int×Bool:=if t=46 then([t,119],O) else([],O)
def agD(t:Int):List Int×Bool:=if dJ t=O then([124],O) else([],O)
def al0(t:Int):List Int×Bool:=if t=46 then([t,1],O) else([],O)
def al1(t:Int):List Int×Bool:=if t=48 then([t,1,110],O) else if t=44 then([t,119,45,110],O) else if t=40 then([t,123,41,111],O) else if t=46 then([t,113],O) else if t=47 then([t,124],O) else([],A3)
def al2(t:Int):List Int×Bool:=if t=48 then([t,1,110],O) else if t=44 then([t,119,45,110],O) else if t=40 then([t,123,41,111],O) else([],O)
def al3(t:Int):List Int×Bool:=if t=48 then([t,1,110],O) else if t=44 then([t,119,45,110],O) else if t=40 then([t,123,41,111],O) else([],A3)
def al4(t:Int):List Int×Bool:=if t=1 then([t,114],O) else if t=40 then([t,119,41,115],O) else([],A3)
def al5(t:Int):List Int×Bool:=if t=48 then([t,1,114],O) else if t=44 then([t,119,45,114],O) else if t=40 then([t,123,41,115],O) else if t=46 then([t,113],O) else if t=47 then([t,124],O) else([],A3)
def al6(t:Int):List Int×Bool:=if t=48 then([t,1,114],O) else if t=44 then([t,119,45,114],O) else if t=40 then([t,123,41,115],O) else([],A3)
def al7(t:Int):List Int×Bool:=if t=1 then([t,117],O) else if t=40 then([t,119,41,117],O) else([],A3)
def al8(t:Int):List Int×Bool:=if t=48 then([t,1,117],O) else if t=44 then([t,119,45,117],O) else if t=40 then([t,123,41,118],O) else([],A3)
def al9(t:Int):List Int×Bool:=if t=48 then([t,1,117],O) else if t=44 then([t,119,45,117],O) else if t=40 then([t,123,41,118],O) else([],O)
def ajy(t:Int):List Int×Bool:=([120,121],dJ t)
def ama(t:Int):List Int×Bool:=Ad t
def agE(t:Int):List Int×Bool:=if ie t=O then([t,119],O) else([],O)
def ajz(t:Int):List Int×Bool:=(Ec t 122 122,O)
def ajA(t:Int):List Int×Bool:=if dJ t=O then([124],O) else([],O)
def ajB(t:Int):List Int×Bool:=([119,125],dJ t)
def ajC(t:Int):List Int×Bool:=if t=46 then([t,119,125],O) else([],O)
def amb(t:Int):List Int×Bool:=if t=1 then([t,127],O) else if t=49 then([t],O) else([],O)
def amc(t:Int):List Int×Bool:=if t=46 then([t,128],O) else([],O)
def amd(t:Int):List Int×Bool:=if t=1 then([t,127],O) else if t=49 then([t],O) else([],A3)
def ajD(t:Int):List Int×Bool:=if dJ t=O then([131,130],O) else if t=48 then([131,130],O) else if t=44 then([131,130],O) else([],O)
def ame(t:Int):List Int×Bool:=if t=46 then([t,129],O) else([],O)
def ajE(t:Int):List Int×Bool:=if t=48 then([t,1,47,119],O) else if t=44 then([t,119,45,47,119],O) else([119],dJ t)
def amf(t:Int):List Int×Bool:=([42,100,43],decide (t=42))
def amg(t:Int):List Int×Bool:=([40,126,41,132],decide (t=40))
def xE(s t:Int):List Int×Bool:=
 if s=100 then aju t else if s=101 then alI t else if s=102 then alJ t else if s=103 then ajv t else if s=104 then ajw t else if s=105 then ajx t else if s=106 then alK t else if s=107 then alL t else if s=108 then agD t else if s=109 then al0 t else if s=110 then al1 t else if s=111 then al2 t else if s=112 then al3 t else if s=113 then al4 t else if s=114 then al5 t else if s=115 then al6 t else if s=116 then al7 t else if s=117 then al8 t else if s=118 then al9 t else if s=119 then ajy t else if s=120 then ama t else if s=121 then agE t else if s=122 then ajz t else if s=123 then ajA t else if s=124 then ajB t else if s=125 then ajC t else if s=126 then amb t else if s=127 then amc t else if s=128 then amd t else if s=129 then ajD t else if s=130 then ame t else if s=131 then ajE t else if s=132 then amf t else amg t
end Go.Proofs.YtoahhnnflblfaaaGreatDoor
namespace Go.Proofs.YtoahhnnflblfaaaGreatDoor
structure Tk where
 k:Int
 f:Int
 t:Int
 l:Int
 n:Int
 x:ByteArray
def vTk(T:Tk):Z:= .agg #[V X T.k,V X T.f,V X T.t,V X T.l,V X T.n,Ax T.x]
def cTk(T:Tk):List Z:=[V X T.k,V X T.f,V X T.t,V X T.l,V X T.n,Ax T.x]
def Ae(a:List Tk):List Z:=a.flatMap cTk
theorem Af(a:List Tk)(T:Tk):Ae (a++[T])=Ae a++cTk T:=by simp[Ae]
end Go.Proofs.YtoahhnnflblfaaaGreatDoor
namespace Go.Proofs.YtoahhnnflblfaaaGreatDoor
inductive Fo where
 |nil:Fo
 |cons:Nd->Fo->Fo->Fo
def Fo.sz:Fo->Nat
 | .nil=>0
 | .cons _ k r=>k.sz+1+r.sz
def Fo.len:Fo->Nat
 | .nil=>0
 | .cons _ _ r=>r.len+1
def Fo.tops:Fo->Nat->List Int
 | .nil,_=>[]
 | .cons _ k r,b=>((b+k.sz:Nat):Int)::r.tops (b+k.sz+1)
def Fo.flat:Fo->Nat->List Nd
 | .nil,_=>[]
 | .cons N k r,b=>k.flat b++({N with ks:=k.tops b}::r.flat (b+k.sz+1))
def Fo.app:Fo->Fo->Fo
 | .nil,c=>c
 | .cons N k r,c=> .cons N k (r.app c)
def one(N:Nd)(k:Fo):Fo:= .cons N k .nil
theorem Fo.app_nil:∀(a:Fo),a.app .nil=a
 | .nil=>rfl
 | .cons N k r=>by rw[Fo.app,r.app_nil]
theorem Fo.app_app:∀(a b c:Fo),(a.app b).app c=a.app (b.app c)
 | .nil,_,_=>rfl
 | .cons N k r,b,c=>by simp only[Fo.app];rw[r.app_app b c]
theorem Fo.sz_app:∀(a c:Fo),(a.app c).sz=a.sz+c.sz
 | .nil,c=>by simp[Fo.app,Fo.sz]
 | .cons N k r,c=>by simp only[Fo.app,Fo.sz,r.sz_app c];omega
theorem Fo.len_app:∀(a c:Fo),(a.app c).len=a.len+c.len
 | .nil,c=>by simp[Fo.app,Fo.len]
 | .cons N k r,c=>by simp only[Fo.app,Fo.len,r.len_app c];omega
theorem Fo.tops_app:∀(a c:Fo)(b:Nat),(a.app c).tops b=a.tops b++c.tops (b+a.sz)
 | .nil,c,b=>by simp[Fo.app,Fo.sz,Fo.tops]
 | .cons N k r,c,b=>by simp only[Fo.app,Fo.tops,Fo.sz,r.tops_app c,fy];rw[show b+k.sz+1+r.sz=b+(k.sz+1+r.sz) by omega]
theorem Fo.flat_app:∀(a c:Fo)(b:Nat),(a.app c).flat b=a.flat b++c.flat (b+a.sz)
 | .nil,c,b=>by simp[Fo.app,Fo.sz,Fo.flat]
 | .cons N k r,c,b=>by simp only[Fo.app,Fo.flat,Fo.sz,r.flat_app c,fy,dC];rw[show b+k.sz+1+r.sz=b+(k.sz+1+r.sz) by omega]
theorem Fo.flat_len:∀(a:Fo)(b:Nat),(a.flat b).length=a.sz
 | .nil,_=>rfl
 | .cons N k r,b=>by simp only[Fo.flat,Fo.sz,aF,cC,k.flat_len,r.flat_len];omega
theorem Fo.tops_len:∀(a:Fo)(b:Nat),(a.tops b).length=a.len
 | .nil,_=>rfl
 | .cons N k r,b=>by simp only[Fo.tops,Fo.len,cC,r.tops_len]
theorem aJ(N:Nd)(k:Fo):(one N k).sz=k.sz+1:=rfl
theorem rK(N:Nd)(k:Fo)(b:Nat):(one N k).tops b=[((b+k.sz:Nat):Int)]:=rfl
theorem Ah(N:Nd)(k:Fo)(b:Nat):(one N k).flat b=k.flat b++[{N with ks:=k.tops b}]:=rfl
theorem Fo.len_le:∀(a:Fo),a.len<=a.sz
 | .nil=>ag _
 | .cons N k r=>by have:=r.len_le;simp only[Fo.len,Fo.sz];omega
def z0:ByteArray:=⟨#[]⟩
def nd(k:Int)(s:Tk)(e op n:Int)(x:ByteArray)(nm:List ByteArray):Nd:=⟨k,s.f,e,s.l,op,n,x,nm,[]⟩
def iB(k:Int)(s:Tk)(e:Int):Nd:=nd k s e 0 0 z0 []
def qx(k:Int)(s:Tk)(e:Int):Nd:=if k=10 then iB 28 s e else if k=26 then iB 29 s e else nd 31 s e (k-60) 0 z0 []
def Iv(k:Int):Int:=if k=25 then 21 else if k=50 then 22 else if k=69 then 20 else 19
def B7(k:Int):Int:=if k=26 then 1 else if k=10 then 2 else if 73<=k then 3 else if k=72 then 4 else if k=68 then 5 else if k=69 then 6 else if k=67 then 7 else if k=70\/k=71 then 8 else if k=61\/k=62 then 9 else 10
def rpw(k:Int):Int:=if k=72 then 4 else B7 k+1
def vA(k:Int):Bool:=decide (k=48\/k=44\/k=40)
def mo(N:Nd)(ks:Fo)(s:Tk)(e:Int):Fo:=if N.k=34\/N.k=27 then one (iB 37 s e) (one N ks) else one N ks
inductive F8 (tk:Nat->Tk) (n:Nat):Nat->List ByteArray->Nat->Prop where
 |stop {k:Nat}:(tk k).k≠46->k<n->F8 tk n k [] k
 |go {k j:Nat}{ns:List ByteArray}:(tk k).k=46->k+1<n->(tk (k+1)).k=1->F8 tk n (k+2) ns j->F8 tk n k ((tk (k+1)).x::ns) j
inductive KA (tk:Nat->Tk) (n:Nat):Nat->List ByteArray->Bool->Nat->Prop where
 |close {k:Nat}:(tk k).k=41->k+1<n->KA tk n k [] false (k+1)
 |rest {k:Nat}:(tk k).k=49->(tk (k+1)).k=41->k+2<n->KA tk n k [] true (k+2)
 |last {k:Nat}:(tk k).k=1->(tk (k+1)).k=41->k+2<n->KA tk n k [(tk k).x] false (k+2)
 |go {k j:Nat}{ns:List ByteArray}{r:Bool}:(tk k).k=1->(tk (k+1)).k=46->k+2<n->KA tk n (k+2) ns r j->KA tk n k ((tk k).x::ns) r j
inductive wF where
 |unit:wF
 |expr:Int->wF
 |more:Int->Tk->Fo->wF
 |base:wF
 |post:Tk->Fo->wF
 |exprs:wF
 |moreE:wF
 |moreB:wF
 |stat:wF
 |stats:wF
 |block:wF
 |body:Tk->wF
 |entry:wF
 |entries:wF
 |branch:wF
inductive P (tk:Nat->Tk) (n:Nat):wF->Nat->Fo->Nat->Prop where
 |upre {i j:Nat}{x:Fo}:jk (tk i).k=true->i<n->P tk n .unit (i+1) x j->P tk n .unit i (one (nd 30 (tk i) (tk (j-1)).t (Iv (tk i).k) 0 z0 []) x) j
 |uint {i:Nat}:(tk i).k=2->i+1<n->P tk n .unit i (one (nd 23 (tk i) (tk i).t 0 (tk i).n z0 []) .nil) (i+1)
 |uflt {i:Nat}:(tk i).k=3->i+1<n->P tk n .unit i (one (nd 24 (tk i) (tk i).t 0 0 (tk i).x []) .nil) (i+1)
 |ustr {i:Nat}:(tk i).k=4->i+1<n->P tk n .unit i (one (nd 25 (tk i) (tk i).t 0 0 (tk i).x []) .nil) (i+1)
 |unil {i:Nat}:(tk i).k=24->i+1<n->P tk n .unit i (one (iB 20 (tk i) (tk i).t) .nil) (i+1)
 |utru {i:Nat}:(tk i).k=29->i+1<n->P tk n .unit i (one (iB 21 (tk i) (tk i).t) .nil) (i+1)
 |ufls {i:Nat}:(tk i).k=17->i+1<n->P tk n .unit i (one (iB 22 (tk i) (tk i).t) .nil) (i+1)
 |urst {i:Nat}:(tk i).k=49->i+1<n->P tk n .unit i (one (iB 27 (tk i) (tk i).t) .nil) (i+1)
 |ufn {i j:Nat}{R:Fo}:(tk i).k=18->i<n->P tk n (.body (tk i)) (i+1) R j->P tk n .unit i R j
 |utab {i j:Nat}{E:Fo}:(tk i).k=42->i<n->P tk n .entries (i+1) E j->(tk j).k=43->j+1<n->P tk n .unit i (one (iB 35 (tk i) (tk j).t) E) (j+1)
 |ubas {i j:Nat}{R:Fo}:(tk i).k=1\/(tk i).k=40->i<n->P tk n .base i R j->P tk n .unit i R j
 |ex {p:Int}{i k j:Nat}{x R:Fo}:(tk i).k≠6->i<n->P tk n .unit i x k->P tk n (.more p (tk i) x) k R j->P tk n (.expr p) i R j
 |mstop {p:Int}{s:Tk}{x:Fo}{k:Nat}:k<n->(ie (tk k).k=true->B7 (tk k).k<p)->P tk n (.more p s x) k x k
 |mgo {p:Int}{s:Tk}{x y R:Fo}{k k1 j:Nat}:k<n->ie (tk k).k=true->p<=B7 (tk k).k->P tk n (.expr (rpw (tk k).k)) (k+1) y k1->P tk n (.more p s (one (qx (tk k).k s (tk (k1-1)).t) (x.app y))) k1 R j->P tk n (.more p s x) k R j
 |bname {i j:Nat}{R:Fo}:(tk i).k=1->i<n->P tk n (.post (tk i) (one (nd 26 (tk i) (tk i).t 0 0 (tk i).x []) .nil)) (i+1) R j->P tk n .base i R j
 |bopen {i k j:Nat}{N:Nd}{ks R:Fo}:(tk i).k=40->i<n->P tk n (.expr 0) (i+1) (one N ks) k->(tk k).k=41->k<n->P tk n (.post (tk i) (mo N ks (tk i) (tk k).t)) (k+1) R j->P tk n .base i R j
 |pstop {s:Tk}{B:Fo}{k:Nat}:k<n->vA (tk k).k=false->P tk n (.post s B) k B k
 |pdot {s:Tk}{B R:Fo}{k j:Nat}:(tk k).k=48->(tk (k+1)).k=1->k+1<n->P tk n (.post s (one (nd 33 s (tk (k+1)).t 0 0 (tk (k+1)).x []) B)) (k+2) R j->P tk n (.post s B) k R j
 |psq {s:Tk}{B Y R:Fo}{k k1 j:Nat}:(tk k).k=44->k<n->P tk n (.expr 0) (k+1) Y k1->(tk k1).k=45->k1<n->P tk n (.post s (one (iB 32 s (tk k1).t) (B.app Y))) (k1+1) R j->P tk n (.post s B) k R j
 |pcall0 {s:Tk}{B R:Fo}{k j:Nat}:(tk k).k=40->(tk (k+1)).k=41->k+1<n->P tk n (.post s (one (iB 34 s (tk (k+1)).t) B)) (k+2) R j->P tk n (.post s B) k R j
 |pcall {s:Tk}{B Y R:Fo}{k k1 j:Nat}:(tk k).k=40->k+1<n->(tk (k+1)).k≠41->P tk n .exprs (k+1) Y k1->(tk k1).k=41->k1<n->P tk n (.post s (one (iB 34 s (tk k1).t) (B.app Y))) (k1+1) R j->P tk n (.post s B) k R j
 |es {i k j:Nat}{x R:Fo}:P tk n (.expr 0) i x k->P tk n .moreE k R j->P tk n .exprs i (x.app R) j
 |estop {k:Nat}:(tk k).k≠46->k<n->P tk n .moreE k .nil k
 |ego {k k1 j:Nat}{x R:Fo}:(tk k).k=46->k<n->P tk n (.expr 0) (k+1) x k1->P tk n .moreE k1 R j->P tk n .moreE k (x.app R) j
 |bstop {k:Nat}:(tk k).k≠46->k<n->P tk n .moreB k .nil k
 |bgo {k k1 j:Nat}{x R:Fo}:(tk k).k=46->k<n->P tk n .base (k+1) x k1->P tk n .moreB k1 R j->P tk n .moreB k (x.app R) j
 |body {i k j:Nat}{s:Tk}{nm:List ByteArray}{r:Bool}{B:Fo}:(tk i).k=40->i<n->KA tk n (i+1) nm r k->P tk n .block k B j->P tk n (.body s) i (one (nd 36 s (tk (j-1)).t (if r=true then 1 else 0) 0 z0 nm) B) j
 |block {i k:Nat}{S:Fo}:(tk i).k=42->i<n->P tk n .stats (i+1) S k->(tk k).k=43->k+1<n->P tk n .block i (one (iB 1 (tk i) (tk k).t) S) (k+1)
 |sstop {k:Nat}:(tk k).k=43\/(tk k).k=6->k<n->P tk n .stats k .nil k
 |ssep {k j:Nat}{R:Fo}:(tk k).k=5->k<n->P tk n .stats (k+1) R j->P tk n .stats k R j
 |sgo {k k1 j:Nat}{x R:Fo}:(tk k).k≠5->(tk k).k≠6->(tk k).k≠43->k<n->P tk n .stat k x k1->P tk n .stats k1 R j->P tk n .stats k (x.app R) j
 |nstop {k:Nat}:(tk k).k=43->k<n->P tk n .entries k .nil k
 |ncom {k k1 j:Nat}{x R:Fo}:(tk k).k≠43->k<n->P tk n .entry k x k1->(tk k1).k=46->k1<n->P tk n .entries (k1+1) R j->P tk n .entries k (x.app R) j
 |nlast {k k1 j:Nat}{x R:Fo}:(tk k).k≠43->k<n->P tk n .entry k x k1->(tk k1).k≠46->k1<n->P tk n .entries k1 R j->P tk n .entries k (x.app R) j
 |item {i j:Nat}{x:Fo}:(tk i).k≠48->(tk i).k≠44->(tk i).k≠6->i<n->P tk n (.expr 0) i x j->P tk n .entry i (one (iB 40 (tk i) (tk (j-1)).t) x) j
 |pair {i k j:Nat}{x y:Fo}:(tk i).k=44->i<n->P tk n (.expr 0) (i+1) x k->(tk k).k=45->(tk (k+1)).k=47->k+1<n->P tk n (.expr 0) (k+2) y j->P tk n .entry i (one (iB 41 (tk i) (tk (j-1)).t) (x.app y)) j
 |named {i j:Nat}{y:Fo}:(tk i).k=48->(tk (i+1)).k=1->(tk (i+2)).k=47->i+2<n->P tk n (.expr 0) (i+3) y j->P tk n .entry i (one (nd 42 (tk i) (tk (j-1)).t 0 0 (tk (i+1)).x []) y) j
 |belif {i k k1 j:Nat}{x b z:Fo}:(tk i).k=20\/(tk i).k=15->i<n->P tk n (.expr 0) (i+1) x k->P tk n .block k b k1->(tk k1).k=15->k1<n->P tk n .branch k1 z j->P tk n .branch i (one (iB 7 (tk i) (tk (j-1)).t) ((x.app b).app z)) j
 |belse {i k k1 j:Nat}{x b z:Fo}:(tk i).k=20\/(tk i).k=15->i<n->P tk n (.expr 0) (i+1) x k->P tk n .block k b k1->(tk k1).k=16->k1<n->P tk n .block (k1+1) z j->P tk n .branch i (one (iB 7 (tk i) (tk (j-1)).t) ((x.app b).app z)) j
 |bno {i k k1:Nat}{x b:Fo}:(tk i).k=20\/(tk i).k=15->i<n->P tk n (.expr 0) (i+1) x k->P tk n .block k b k1->(tk k1).k≠15->(tk k1).k≠16->k1<n->P tk n .branch i (one (iB 7 (tk i) (tk (k1-1)).t) (x.app b)) k1
 |tlet0 {i k:Nat}{ns:List ByteArray}:(tk i).k=22->i+1<n->(tk (i+1)).k=1->F8 tk n (i+2) ns k->(tk k).k≠47->P tk n .stat i (one (nd 2 (tk i) (tk (k-1)).t 0 0 z0 ((tk (i+1)).x::ns)) .nil) k
 |tlet {i k j:Nat}{ns:List ByteArray}{E:Fo}:(tk i).k=22->i+1<n->(tk (i+1)).k=1->F8 tk n (i+2) ns k->(tk k).k=47->P tk n .exprs (k+1) E j->P tk n .stat i (one (nd 2 (tk i) (tk (j-1)).t 0 0 z0 ((tk (i+1)).x::ns)) E) j
 |tcon {i j:Nat}{x:Fo}:(tk i).k=13->(tk (i+1)).k=1->(tk (i+2)).k=47->i+2<n->P tk n (.expr 0) (i+3) x j->P tk n .stat i (one (nd 3 (tk i) (tk (j-1)).t 0 0 z0 [(tk (i+1)).x]) x) j
 |tfn {i j:Nat}{B:Fo}:(tk i).k=18->(tk (i+1)).k=1->(tk (i+2)).k=40->i+2<n->P tk n (.body (tk (i+2))) (i+2) B j->P tk n .stat i (one (nd 4 (tk i) (tk (j-1)).t 0 0 z0 [(tk (i+1)).x]) B) j
 |tif {i j:Nat}{R:Fo}:(tk i).k=20->i<n->P tk n .branch i R j->P tk n .stat i R j
 |twhile {i k j:Nat}{x b:Fo}:(tk i).k=31->i<n->P tk n (.expr 0) (i+1) x k->P tk n .block k b j->P tk n .stat i (one (iB 8 (tk i) (tk (j-1)).t) (x.app b)) j
 |tfor {i k k1 j:Nat}{ns:List ByteArray}{E b:Fo}:(tk i).k=19->i+1<n->(tk (i+1)).k=1->F8 tk n (i+2) ns k->(tk k).k=47->P tk n .exprs (k+1) E k1->P tk n .block k1 b j->P tk n .stat i (one (nd 9 (tk i) (tk (j-1)).t 0 0 z0 ((tk (i+1)).x::ns)) (E.app b)) j
 |teach {i k k1 j:Nat}{ns:List ByteArray}{x b:Fo}:(tk i).k=19->i+1<n->(tk (i+1)).k=1->F8 tk n (i+2) ns k->(tk k).k=21->P tk n (.expr 0) (k+1) x k1->(tk k1).k=42->k1<n->P tk n .block k1 b j->P tk n .stat i (one (nd 10 (tk i) (tk (j-1)).t 0 0 z0 ((tk (i+1)).x::ns)) (x.app b)) j
 |tbreak {i:Nat}:(tk i).k=11->i+1<n->P tk n .stat i (one (iB 11 (tk i) (tk i).t) .nil) (i+1)
 |tnext {i:Nat}:(tk i).k=23->i+1<n->P tk n .stat i (one (iB 12 (tk i) (tk i).t) .nil) (i+1)
 |tret0 {i:Nat}:(tk i).k=27->i+1<n->(tk (i+1)).k=5\/(tk (i+1)).k=6\/(tk (i+1)).k=43->P tk n .stat i (one (iB 13 (tk i) (tk i).t) .nil) (i+1)
 |tret {i j:Nat}{E:Fo}:(tk i).k=27->i+1<n->dJ (tk (i+1)).k=true->P tk n .exprs (i+1) E j->P tk n .stat i (one (iB 13 (tk i) (tk (j-1)).t) E) j
 |ttry {i k k1 j:Nat}{ns:List ByteArray}{a b:Fo}:(tk i).k=30->i<n->P tk n .block (i+1) a k->(tk k).k=12->k+1<n->(tk (k+1)).k=1->F8 tk n (k+2) ns k1->P tk n .block k1 b j->P tk n .stat i (one (nd 14 (tk i) (tk (j-1)).t 0 0 z0 ((tk (k+1)).x::ns)) (a.app b)) j
 |tthrow {i j:Nat}{x:Fo}:(tk i).k=28->i<n->P tk n (.expr 0) (i+1) x j->P tk n .stat i (one (iB 15 (tk i) (tk (j-1)).t) x) j
 |tdefer {i j:Nat}{x:Fo}:(tk i).k=14->i<n->P tk n .base (i+1) x j->P tk n .stat i (one (iB 16 (tk i) (tk (j-1)).t) x) j
 |tblock {i j:Nat}{R:Fo}:(tk i).k=42->i<n->P tk n .block i R j->P tk n .stat i R j
 |tdo {i j:Nat}{x:Fo}:(tk i).k=1\/(tk i).k=40->i<n->P tk n .base i x j->(tk j).k≠46->(tk j).k≠47->j<n->P tk n .stat i (one (iB 6 (tk i) (tk (j-1)).t) x) j
 |tset {i k k1 j:Nat}{x R E:Fo}:(tk i).k=1\/(tk i).k=40->i<n->P tk n .base i x k->P tk n .moreB k R k1->(tk k1).k=47->k1<n->P tk n .exprs (k1+1) E j->P tk n .stat i (one (nd 5 (tk i) (tk (j-1)).t 0 ((x.app R).len:Nat) z0 []) ((x.app R).app E)) j
end Go.Proofs.YtoahhnnflblfaaaGreatDoor
namespace Go.Proofs.YtoahhnnflblfaaaGreatDoor
theorem acF:(Tryz.prog.info? 9).map (fun i=>(i.zero,i.size,i.bytes))=M (M (Ax ⟨#[]⟩),1,16):=by kernel_rfl
end Go.Proofs.YtoahhnnflblfaaaGreatDoor
