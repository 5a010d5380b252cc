import Derived.Shelf.Small.Strs
import Derived.Shelf.Small.Wraps
import Derived.Shelf.Strings.BuilderK
import Derived.Shelf.Strconv.Itoa3
import Derived.Shelf.Strconv.ErrVarParseInt
import Derived.Shelf.Pu.ErrVarParseUint
import Derived.Shelf.Strings.Fields
import Derived.Shelf.Strings.Repeat
import Derived.Shelf.Unicode.IsSpaceAny
import Derived.Shelf.Unicode.ExclAny
import Derived.Shelf.Slices.Empties2
import Derived.ProofKit
import Derived.OneCell
import Derived.RangeFuncBox
import Derived.Deep.RegionHeld3
import Derived.Test.YtnoembpaejlaeaaGreatDoorHLk01
set_option linter.all false
set_option maxRecDepth 100000
set_option maxHeartbeats 6400000
open Option renaming some->I,none->K
open Bool renaming true->J,false->Z
open Go.Value renaming int->L,string->O,slice->V,tuple->B1,iface->B2,nilIface->B3,string->B4,pointer->B5,bool->B6
open Go.IntKind renaming i64->M
open Go.Proofs.Tryz renaming prog->Q,sizeOf3->A2,isAgg3->A5
open Go renaming Value->U,World->X,TypeId->Br,Calls->B0
open Go.Ending renaming returned->Ax
open Go.Shelf renaming Ren->A0
open Go.RowKit renaming Below->A3
open Go.Obj renaming cells->A9
namespace Go.Proofs
open Go.Shelf
def Tryz.lays103_ren:A0:=⟨λ|103=>220|210=>242|206=>102|n=>n,λ|9=>9|4=>4|24=>238|3=>3|n=>n,λ|n=>n⟩
def Tryz.lays103:Go.Proofs.Lays.n103 Q Tryz.lays103_ren:={
 mixed:=by kernel_rfl
 f103:=Tryz.func220.trans (congrArg I (by kernel_rfl))
 f206:=Tryz.func102.trans (congrArg I (by kernel_rfl))
 f210:=Tryz.func242.trans (congrArg I (by kernel_rfl))
 t3:=Tryz.underlying3
 a3:=A5
 z3:=A2
 v3:=Tryz.zeroValue3
 t4:=Tryz.underlying4
 a4:=Tryz.isAgg4
 z4:=Tryz.sizeOf4
 v4:=Tryz.zeroValue4
 t9:=Tryz.underlying9
 a9:=Tryz.isAgg9
 z9:=Tryz.sizeOf9
 v9:=Tryz.zeroValue9
 t24:=Tryz.underlying238
 a24:=Tryz.isAgg238
 z24:=Tryz.sizeOf238
 v24:=Tryz.zeroValue238}
open Go.RowKit in
def Tryz.strings_CutPrefix(s p:ByteArray)(w:X):
  B0 Q 220 #[O s,O p] w λe a=>e= Ax (B1 #[O ⟨(Lib.trimPrefix s.data.toList p.data.toList).toArray⟩,B6 (Lib.hasPrefix s.data.toList p.data.toList)])/\a=w:=Any.strings_CutPrefix Tryz.lays103 s p w
def Tryz.lays104_ren:A0:=⟨λ|104=>235|211=>256|207=>269|n=>n,λ|9=>9|4=>4|24=>238|3=>3|n=>n,λ|n=>n⟩
def Tryz.lays104:Go.Proofs.Lays.n104 Q Tryz.lays104_ren:={
 mixed:=by kernel_rfl
 f104:=Tryz.func235.trans (congrArg I (by kernel_rfl))
 f207:=Tryz.func269.trans (congrArg I (by kernel_rfl))
 f211:=Tryz.func256.trans (congrArg I (by kernel_rfl))
 t3:=Tryz.underlying3
 a3:=A5
 z3:=A2
 v3:=Tryz.zeroValue3
 t4:=Tryz.underlying4
 a4:=Tryz.isAgg4
 z4:=Tryz.sizeOf4
 v4:=Tryz.zeroValue4
 t9:=Tryz.underlying9
 a9:=Tryz.isAgg9
 z9:=Tryz.sizeOf9
 v9:=Tryz.zeroValue9
 t24:=Tryz.underlying238
 a24:=Tryz.isAgg238
 z24:=Tryz.sizeOf238
 v24:=Tryz.zeroValue238}
open Go.RowKit in
def Tryz.strings_CutSuffix(s p:ByteArray)(w:X)(a:s.size<=9223372036854775807):
  B0 Q 235 #[O s,O p] w λe b=>e= Ax (B1 #[O ⟨(Lib.trimSuffix s.data.toList p.data.toList).toArray⟩,B6 (Lib.hasSuffix s.data.toList p.data.toList)])/\b=w:=Any.strings_CutSuffix Tryz.lays104 s p w a
def Tryz.laysM316_ren:A0:=⟨λ|316=>217|n=>n,λ|9=>9|3=>3|4=>4|37=>22|0=>0|127=>264|5=>5|n=>n,λ|n=>n⟩
def Tryz.laysM316:Go.Proofs.LaysM.n316 Q Tryz.laysM316_ren:={
 mixed:=by kernel_rfl
 f316:=Tryz.func217.trans (congrArg I (by kernel_rfl))
 t0:=Tryz.underlying0
 a0:=Tryz.isAgg0
 z0:=Tryz.sizeOf0
 v0:=Tryz.zeroValue0
 t3:=Tryz.underlying3
 a3:=A5
 z3:=A2
 v3:=Tryz.zeroValue3
 t4:=Tryz.underlying4
 a4:=Tryz.isAgg4
 z4:=Tryz.sizeOf4
 v4:=Tryz.zeroValue4
 t9:=Tryz.underlying9
 a9:=Tryz.isAgg9
 z9:=Tryz.sizeOf9
 v9:=Tryz.zeroValue9
 t37:=Tryz.underlying22
 a37:=Tryz.isAgg22
 z37:=Tryz.sizeOf22
 v37:=Tryz.zeroValue22
 t127:=Tryz.underlying264
 a127:=Tryz.isAgg264
 z127:=Tryz.sizeOf264
 v127:=Tryz.zeroValue264
 t5:=Tryz.underlying5
 a5:=Tryz.isAgg5
 z5:=Tryz.sizeOf5
 v5:=Tryz.zeroValue5
 i0:=by kernel_rfl
 i3:=by kernel_rfl
 i4:=by kernel_rfl
 i5:=by kernel_rfl
 i9:=by kernel_rfl
 i37:=by kernel_rfl
 i127:=by kernel_rfl}
open Go.RowKit in
def Tryz.stringslite_Clone(s:ByteArray)(w:X)(a:s.size<=281474976710656):
  B0 Q 217 #[O s] w λe b=>e= Ax (O s)/\A3 w.heap.size w b:=Any.stringslite_Clone Tryz.laysM316 s w a
def Tryz.lays321_ren:A0:=⟨λ|321=>258|n=>n,λ|5=>5|n=>n,λ|n=>n⟩
def Tryz.lays321:Go.Proofs.Lays.n321 Q Tryz.lays321_ren:={
 mixed:=by kernel_rfl
 f321:=Tryz.func258.trans (congrArg I (by kernel_rfl))
 t5:=Tryz.underlying5
 a5:=Tryz.isAgg5
 z5:=Tryz.sizeOf5
 v5:=Tryz.zeroValue5}
open Go.RowKit in
def Tryz.internal_strconv_lower(c:Int)(w:X):
  B0 Q 258 #[L .u8 c] w λe a=>e= Ax (L .u8 (bits .or .u8 c 32))/\a=w:=Any.internal_strconv_lower Tryz.lays321 c w
def Tryz.laysC174_ren:A0:=⟨λ|174=>222|247=>245|245=>244|287=>243|279=>260|280=>261|281=>262|282=>263|321=>258|322=>259|316=>217|171=>271|205=>270|243=>275|246=>276|283=>277|284=>278|285=>279|286=>280|129=>282|317=>281|318=>283|319=>284|320=>285|337=>286|338=>287|n=>n,λ|9=>9|3=>3|2=>2|75=>247|85=>250|4=>4|167=>276|5=>5|53=>34|175=>248|46=>204|168=>278|37=>22|0=>0|210=>290|21=>21|127=>264|145=>305|143=>303|171=>309|173=>312|212=>315|51=>268|20=>20|213=>316|232=>319|233=>320|80=>37|n=>n,λ|15=>6|16=>7|17=>9|18=>10|19=>11|n=>n⟩
def Tryz.laysC174:Go.Proofs.LaysC.n174 Q Tryz.laysC174_ren:={
 mixed:=by kernel_rfl
 f129:=Tryz.func282.trans (congrArg I (by kernel_rfl))
 f171:=Tryz.func271.trans (congrArg I (by kernel_rfl))
 f174:=Tryz.func222.trans (congrArg I (by kernel_rfl))
 f205:=Tryz.func270.trans (congrArg I (by kernel_rfl))
 f243:=Tryz.func275.trans (congrArg I (by kernel_rfl))
 f245:=Tryz.func244.trans (congrArg I (by kernel_rfl))
 f246:=Tryz.func276.trans (congrArg I (by kernel_rfl))
 f247:=Tryz.func245.trans (congrArg I (by kernel_rfl))
 f279:=Tryz.func260.trans (congrArg I (by kernel_rfl))
 f280:=Tryz.func261.trans (congrArg I (by kernel_rfl))
 f281:=Tryz.func262.trans (congrArg I (by kernel_rfl))
 f282:=Tryz.func263.trans (congrArg I (by kernel_rfl))
 f283:=Tryz.func277.trans (congrArg I (by kernel_rfl))
 f284:=Tryz.func278.trans (congrArg I (by kernel_rfl))
 f285:=Tryz.func279.trans (congrArg I (by kernel_rfl))
 f286:=Tryz.func280.trans (congrArg I (by kernel_rfl))
 f287:=Tryz.func243.trans (congrArg I (by kernel_rfl))
 f316:=Tryz.func217.trans (congrArg I (by kernel_rfl))
 f317:=Tryz.func281.trans (congrArg I (by kernel_rfl))
 f318:=Tryz.func283.trans (congrArg I (by kernel_rfl))
 f319:=Tryz.func284.trans (congrArg I (by kernel_rfl))
 f320:=Tryz.func285.trans (congrArg I (by kernel_rfl))
 f321:=Tryz.func258.trans (congrArg I (by kernel_rfl))
 f322:=Tryz.func259.trans (congrArg I (by kernel_rfl))
 f337:=Tryz.func286.trans (congrArg I (by kernel_rfl))
 f338:=Tryz.func287.trans (congrArg I (by kernel_rfl))
 t0:=Tryz.underlying0
 a0:=Tryz.isAgg0
 z0:=Tryz.sizeOf0
 v0:=Tryz.zeroValue0
 t2:=Tryz.underlying2
 a2:=Tryz.isAgg2
 z2:=Tryz.sizeOf2
 v2:=Tryz.zeroValue2
 t3:=Tryz.underlying3
 a3:=A5
 z3:=A2
 v3:=Tryz.zeroValue3
 t4:=Tryz.underlying4
 a4:=Tryz.isAgg4
 z4:=Tryz.sizeOf4
 v4:=Tryz.zeroValue4
 t5:=Tryz.underlying5
 a5:=Tryz.isAgg5
 z5:=Tryz.sizeOf5
 v5:=Tryz.zeroValue5
 t9:=Tryz.underlying9
 a9:=Tryz.isAgg9
 z9:=Tryz.sizeOf9
 v9:=Tryz.zeroValue9
 t20:=Tryz.underlying20
 a20:=Tryz.isAgg20
 z20:=Tryz.sizeOf20
 v20:=Tryz.zeroValue20
 t21:=Tryz.underlying21
 a21:=Tryz.isAgg21
 z21:=Tryz.sizeOf21
 v21:=Tryz.zeroValue21
 t37:=Tryz.underlying22
 a37:=Tryz.isAgg22
 z37:=Tryz.sizeOf22
 v37:=Tryz.zeroValue22
 t46:=Tryz.underlying204
 a46:=Tryz.isAgg204
 z46:=Tryz.sizeOf204
 v46:=Tryz.zeroValue204
 t51:=Tryz.underlying268
 a51:=Tryz.isAgg268
 z51:=Tryz.sizeOf268
 v51:=Tryz.zeroValue268
 t53:=Tryz.underlying34
 a53:=Tryz.isAgg34
 z53:=Tryz.sizeOf34
 v53:=Tryz.zeroValue34
 t75:=Tryz.underlying247
 a75:=Tryz.isAgg247
 z75:=Tryz.sizeOf247
 v75:=Tryz.zeroValue247
 t85:=Tryz.underlying250
 a85:=Tryz.isAgg250
 z85:=Tryz.sizeOf250
 v85:=Tryz.zeroValue250
 t127:=Tryz.underlying264
 a127:=Tryz.isAgg264
 z127:=Tryz.sizeOf264
 v127:=Tryz.zeroValue264
 t143:=Tryz.underlying303
 a143:=Tryz.isAgg303
 z143:=Tryz.sizeOf303
 v143:=Tryz.zeroValue303
 t145:=Tryz.underlying305
 a145:=Tryz.isAgg305
 z145:=Tryz.sizeOf305
 v145:=Tryz.zeroValue305
 t167:=Tryz.underlying276
 a167:=Tryz.isAgg276
 z167:=Tryz.sizeOf276
 v167:=Tryz.zeroValue276
 t168:=Tryz.underlying278
 a168:=Tryz.isAgg278
 z168:=Tryz.sizeOf278
 v168:=Tryz.zeroValue278
 t171:=Tryz.underlying309
 a171:=Tryz.isAgg309
 z171:=Tryz.sizeOf309
 v171:=Tryz.zeroValue309
 t173:=Tryz.underlying312
 a173:=Tryz.isAgg312
 z173:=Tryz.sizeOf312
 v173:=Tryz.zeroValue312
 t175:=Tryz.underlying248
 a175:=Tryz.isAgg248
 z175:=Tryz.sizeOf248
 v175:=Tryz.zeroValue248
 t210:=Tryz.underlying290
 a210:=Tryz.isAgg290
 z210:=Tryz.sizeOf290
 v210:=Tryz.zeroValue290
 t212:=Tryz.underlying315
 a212:=Tryz.isAgg315
 z212:=Tryz.sizeOf315
 v212:=Tryz.zeroValue315
 t213:=Tryz.underlying316
 a213:=Tryz.isAgg316
 z213:=Tryz.sizeOf316
 t232:=Tryz.underlying319
 a232:=Tryz.isAgg319
 z232:=Tryz.sizeOf319
 v232:=Tryz.zeroValue319
 t233:=Tryz.underlying320
 a233:=Tryz.isAgg320
 z233:=Tryz.sizeOf320
 v233:=Tryz.zeroValue320
 g15:=by kernel_rfl
 g16:=by kernel_rfl
 g17:=by kernel_rfl
 g18:=by kernel_rfl
 g19:=by kernel_rfl
 t80:=Tryz.underlying37
 a80:=Tryz.isAgg37
 z80:=Tryz.sizeOf37
 v80:=Tryz.zeroValue37
 i0:=by kernel_rfl
 i2:=by kernel_rfl
 i3:=by kernel_rfl
 i4:=by kernel_rfl
 i5:=by kernel_rfl
 i9:=by kernel_rfl
 i20:=by kernel_rfl
 i21:=by kernel_rfl
 i37:=by kernel_rfl
 i46:=by kernel_rfl
 i51:=by kernel_rfl
 i53:=by kernel_rfl
 i75:=by kernel_rfl
 i80:=by kernel_rfl
 i85:=by kernel_rfl
 i127:=by kernel_rfl
 i143:=by kernel_rfl
 i145:=by kernel_rfl
 i167:=by kernel_rfl
 i168:=by kernel_rfl
 i171:=by kernel_rfl
 i173:=by kernel_rfl
 i175:=by kernel_rfl
 i210:=by kernel_rfl
 i212:=by kernel_rfl
 i232:=by kernel_rfl
 i233:=by kernel_rfl
 m15:=by kernel_rfl
 m16:=by kernel_rfl
 m17:=by kernel_rfl
 m18:=by kernel_rfl
 m19:=by kernel_rfl
 c0:=by kernel_rfl
 c2:=by kernel_rfl
 c3:=by kernel_rfl
 c4:=by kernel_rfl
 c5:=by kernel_rfl
 c9:=by kernel_rfl
 c20:=by kernel_rfl
 c21:=by kernel_rfl
 c37:=by kernel_rfl
 c46:=by kernel_rfl
 c51:=by kernel_rfl
 c53:=by kernel_rfl
 c75:=by kernel_rfl
 c80:=by kernel_rfl
 c85:=by kernel_rfl
 c127:=by kernel_rfl
 c143:=by kernel_rfl
 c145:=by kernel_rfl
 c167:=by kernel_rfl
 c168:=by kernel_rfl
 c171:=by kernel_rfl
 c173:=by kernel_rfl
 c175:=by kernel_rfl
 c210:=by kernel_rfl
 c212:=by kernel_rfl
 c213:=by kernel_rfl
 c232:=by kernel_rfl
 c233:=by kernel_rfl}
open Go.RowKit in
def Tryz.strconv_ParseInt_10_at64_ok(s:ByteArray)(b:s.size<=9223372036854775806)(v:Int)(h:Lib.parseIntB 64 s.data.toList= .ok v)(w:X):
  B0 Q 222 #[O s,L M 10,L M 64] w λe a=>e= Ax (B1 #[L M v,B3])/\(a=w\/∃t,a=Lib.bytesWorld w 5 t):=Any.strconv_ParseInt_10_at64_ok Tryz.laysC174 s b v h w
open Go.RowKit in
def Tryz.strconv_ParseInt_10_at64_syntax(s:ByteArray)(d:s.size<=281474976710656)(h:Lib.parseIntB 64 s.data.toList= .«syntax»)(a:U)(w:X)(f:w.cell? ⟨6,0,K⟩=I a)(c:a= B3\/∃i g,a= B2 i g):
  B0 Q 222 #[O s,L M 10,L M 64] w λe b=>∃N,e= Ax (B1 #[L M (0),B2 278 (B5 (I ⟨N,0,K⟩))])/\w.heap.size<=N/\b.heap[N]?=I (A9 #[O ⟨#[80,97,114,115,101,73,110,116]⟩,O s,a] 290 (0,0))/\A3 w.heap.size w b:=Any.strconv_ParseInt_10_at64_syntax Tryz.laysC174 s d h a w f c
open Go.RowKit in
def Tryz.strconv_ParseInt_10_at64_range(s:ByteArray)(d:s.size<=281474976710656)(h:Lib.parseIntB 64 s.data.toList= .range)(a:U)(w:X)(f:w.cell? ⟨7,0,K⟩=I a)(c:a= B3\/∃i g,a= B2 i g):
  B0 Q 222 #[O s,L M 10,L M 64] w λe b=>∃N,e= Ax (B1 #[L M (Lib.intSat 64 s.data.toList),B2 278 (B5 (I ⟨N,0,K⟩))])/\w.heap.size<=N/\b.heap[N]?=I (A9 #[O ⟨#[80,97,114,115,101,73,110,116]⟩,O s,a] 290 (0,0))/\A3 w.heap.size w b:=Any.strconv_ParseInt_10_at64_range Tryz.laysC174 s d h a w f c
def Tryz.lays99_ren:A0:=⟨λ|99=>55|206=>102|n=>n,λ|9=>9|4=>4|3=>3|n=>n,λ|n=>n⟩
def Tryz.lays99:Go.Proofs.Lays.n99 Q Tryz.lays99_ren:={
 mixed:=by kernel_rfl
 f99:=Tryz.func55.trans (congrArg I (by kernel_rfl))
 f206:=Tryz.func102.trans (congrArg I (by kernel_rfl))
 t3:=Tryz.underlying3
 a3:=A5
 z3:=A2
 v3:=Tryz.zeroValue3
 t4:=Tryz.underlying4
 a4:=Tryz.isAgg4
 z4:=Tryz.sizeOf4
 v4:=Tryz.zeroValue4
 t9:=Tryz.underlying9
 a9:=Tryz.isAgg9
 z9:=Tryz.sizeOf9
 v9:=Tryz.zeroValue9}
open Go.RowKit Go.Lib in
def Tryz.strings_HasPrefix(s p:ByteArray)(w:X):
  B0 Q 55 #[O s,O p] w λe a=>e= Ax (B6 (Lib.hasPrefix s.data.toList p.data.toList))/\a=w:=Any.strings_HasPrefix Tryz.lays99 s p w
def Tryz.lays157_ren:A0:=⟨λ|157=>234|229=>254|199=>255|261=>268|311=>273|312=>274|n=>n,λ|9=>9|31=>59|3=>3|5=>5|4=>4|119=>273|0=>0|40=>275|152=>284|21=>21|154=>286|51=>268|141=>288|196=>295|193=>292|198=>298|49=>296|194=>293|201=>301|226=>306|46=>204|227=>307|n=>n,λ|0=>4|6=>5|n=>n⟩
def Tryz.lays157:Go.Proofs.Lays.n157 Q Tryz.lays157_ren:={
 mixed:=by kernel_rfl
 f157:=Tryz.func234.trans (congrArg I (by kernel_rfl))
 f199:=Tryz.func255.trans (congrArg I (by kernel_rfl))
 f229:=Tryz.func254.trans (congrArg I (by kernel_rfl))
 f261:=Tryz.func268.trans (congrArg I (by kernel_rfl))
 f311:=Tryz.func273.trans (congrArg I (by kernel_rfl))
 f312:=Tryz.func274.trans (congrArg I (by kernel_rfl))
 t0:=Tryz.underlying0
 a0:=Tryz.isAgg0
 z0:=Tryz.sizeOf0
 v0:=Tryz.zeroValue0
 t3:=Tryz.underlying3
 a3:=A5
 z3:=A2
 v3:=Tryz.zeroValue3
 t4:=Tryz.underlying4
 a4:=Tryz.isAgg4
 z4:=Tryz.sizeOf4
 v4:=Tryz.zeroValue4
 t5:=Tryz.underlying5
 a5:=Tryz.isAgg5
 z5:=Tryz.sizeOf5
 v5:=Tryz.zeroValue5
 t9:=Tryz.underlying9
 a9:=Tryz.isAgg9
 z9:=Tryz.sizeOf9
 v9:=Tryz.zeroValue9
 t21:=Tryz.underlying21
 a21:=Tryz.isAgg21
 z21:=Tryz.sizeOf21
 v21:=Tryz.zeroValue21
 t31:=Tryz.underlying59
 a31:=Tryz.isAgg59
 z31:=Tryz.sizeOf59
 v31:=Tryz.zeroValue59
 t40:=Tryz.underlying275
 a40:=Tryz.isAgg275
 z40:=Tryz.sizeOf275
 v40:=Tryz.zeroValue275
 t46:=Tryz.underlying204
 a46:=Tryz.isAgg204
 z46:=Tryz.sizeOf204
 v46:=Tryz.zeroValue204
 t49:=Tryz.underlying296
 a49:=Tryz.isAgg296
 z49:=Tryz.sizeOf296
 v49:=Tryz.zeroValue296
 t51:=Tryz.underlying268
 a51:=Tryz.isAgg268
 z51:=Tryz.sizeOf268
 v51:=Tryz.zeroValue268
 t119:=Tryz.underlying273
 a119:=Tryz.isAgg273
 z119:=Tryz.sizeOf273
 t141:=Tryz.underlying288
 a141:=Tryz.isAgg288
 z141:=Tryz.sizeOf288
 v141:=Tryz.zeroValue288
 t152:=Tryz.underlying284
 a152:=Tryz.isAgg284
 z152:=Tryz.sizeOf284
 v152:=Tryz.zeroValue284
 t154:=Tryz.underlying286
 a154:=Tryz.isAgg286
 z154:=Tryz.sizeOf286
 v154:=Tryz.zeroValue286
 t193:=Tryz.underlying292
 a193:=Tryz.isAgg292
 z193:=Tryz.sizeOf292
 v193:=Tryz.zeroValue292
 t194:=Tryz.underlying293
 a194:=Tryz.isAgg293
 z194:=Tryz.sizeOf293
 v194:=Tryz.zeroValue293
 t196:=Tryz.underlying295
 a196:=Tryz.isAgg295
 z196:=Tryz.sizeOf295
 v196:=Tryz.zeroValue295
 t198:=Tryz.underlying298
 a198:=Tryz.isAgg298
 z198:=Tryz.sizeOf298
 v198:=Tryz.zeroValue298
 t201:=Tryz.underlying301
 a201:=Tryz.isAgg301
 z201:=Tryz.sizeOf301
 v201:=Tryz.zeroValue301
 t226:=Tryz.underlying306
 a226:=Tryz.isAgg306
 z226:=Tryz.sizeOf306
 v226:=Tryz.zeroValue306
 t227:=Tryz.underlying307
 a227:=Tryz.isAgg307
 z227:=Tryz.sizeOf307
 v227:=Tryz.zeroValue307
 g0:=by kernel_rfl
 g6:=by kernel_rfl}
open Go.RowKit Go.Lib in
def Tryz.strings_Fields(s:ByteArray)(w:X)(c:s.size<4294967281)(a:∀(j:Nat) b,s.data.toList[j]?=I b->b.toNat<128)(d:Lib.TabIs Q w "strings.asciiSpace" .u8 Lib.asciiSpaceTab):
  B0 Q 234 #[O s] w λe f=>
   e= Ax (V (I ⟨w.heap.size,0,K⟩) (Lib.fields s.data.toList).length (Lib.fields s.data.toList).length)/\f=w.alloc (A9 ((Lib.fields s.data.toList).map λl=>B4 ⟨l.toArray⟩).toArray 9):=Any.strings_Fields Tryz.lays157 (by kernel_rfl) (by kernel_rfl) s w c a d
end Go.Proofs
namespace Go.Proofs.YtnoembpaejlaeaaGreatDoor
variable{W W' w:World}{a:Addr}{b base c k n:Nat}{l:List ByteArray}{lo r:List Int}{s t:Int}{v vk vn:Value}{xs:List Value}
def jt(t:Int):Bool:=decide (t=25\/t=50\/t=62\/t=69)
def gx(t:Int):Bool:=decide (t=10\/t=26\/60<t)
def eJ(t:Int):Bool:=decide (t=1\/t=2\/t=3\/t=4\/t=24\/t=29\/t=17\/t=49\/t=18\/t=40\/t=42)||jt t
def CC(t:Int):List Int×Bool:=if t=22 then([t,1,104,103],J) else if t=13 then([t,1,47,119],J) else if t=18 then([t,1,133],J) else if t=20 then([t,119,132,105],J) else if t=31 then([t,119,132],J) else if t=19 then([t,1,106],J) else if t=11 then([t],J) else if t=23 then([t],J) else if t=27 then([t,108],J) else if t=30 then([t,132,12,1,109,132],J) else if t=28 then([t,119],J) else if t=14 then([t,116],J) else if t=42 then([132],J) else if t=1 then([t,110],J) else if t=40 then([t,119,41,112],J) else([],Z)
def GD(t a c:Int):List Int:=if t=48 then [t,1,a] else if t=44 then [t,119,45,a] else if t=40 then [t,123,41,c] else []
def CD(t:Int):List Int×Bool:=if jt t=J then([t,120],J) else if t=1 then([t,122],J) else if t=40 then([t,119,41,122],J) else if t=42 then([t,129,43],J) else if t=18 then([t,133],J) else([t],eJ t)
def alL(t:Int):List Int×Bool:=if t=5 then([t,100],J) else if(CC t).2=J then((CC t).1++[101],J) else([],J)
def aox(t:Int):List Int×Bool:=if t=5 then([t,100],J) else([],J)
def aoy(t:Int):List Int×Bool:=([40,126,41,132],decide (t=40))
def al0(t:Int):List Int×Bool:=if t=47 then([t,124],J) else([],J)
def al3(t:Int):List Int×Bool:=if t=46 then([t,1,104],J) else([],J)
def al4(t:Int):List Int×Bool:=if t=15 then([t,119,132,105],J) else if t=16 then([t,132],J) else([],J)
def aoz(t:Int):List Int×Bool:=if t=47 then([t,119,46,119,107,132],J) else([104,21,119,132],decide (t=46\/t=21))
def aoA(t:Int):List Int×Bool:=if t=46 then([t,119],J) else([],J)
def aiF(t:Int):List Int×Bool:=if eJ t=J then([124],J) else([],J)
def aoB(t:Int):List Int×Bool:=if t=46 then([t,1],J) else([],J)
def aoC(t:Int):List Int×Bool:=if t=48 then([t,1,110],J) else if t=44 then([t,119,45,110],J) else if t=40 then([t,123,41,111],J) else if t=46 then([t,113],J) else if t=47 then([t,124],J) else([],Z)
def aoD(t:Int):List Int×Bool:=if t=48 then([t,1,110],J) else if t=44 then([t,119,45,110],J) else if t=40 then([t,123,41,111],J) else([],J)
def aoE(t:Int):List Int×Bool:=if t=48 then([t,1,110],J) else if t=44 then([t,119,45,110],J) else if t=40 then([t,123,41,111],J) else([],Z)
def aoF(t:Int):List Int×Bool:=if t=1 then([t,114],J) else if t=40 then([t,119,41,115],J) else([],Z)
def aoG(t:Int):List Int×Bool:=if t=48 then([t,1,114],J) else if t=44 then([t,119,45,114],J) else if t=40 then([t,123,41,115],J) else if t=46 then([t,113],J) else if t=47 then([t,124],J) else([],Z)
def aoH(t:Int):List Int×Bool:=if t=48 then([t,1,114],J) else if t=44 then([t,119,45,114],J) else if t=40 then([t,123,41,115],J) else([],Z)
def aoI(t:Int):List Int×Bool:=if t=1 then([t,117],J) else if t=40 then([t,119,41,117],J) else([],Z)
def aoJ(t:Int):List Int×Bool:=if t=48 then([t,1,117],J) else if t=44 then([t,119,45,117],J) else if t=40 then([t,123,41,118],J) else([],Z)
def aoK(t:Int):List Int×Bool:=if t=48 then([t,1,117],J) else if t=44 then([t,119,45,117],J) else if t=40 then([t,123,41,118],J) else([],J)
def al5(t:Int):List Int×Bool:=([120,121],eJ t)
def aoL(t:Int):List Int×Bool:=CD t
def aiG(t:Int):List Int×Bool:=if gx t=J then([t,119],J) else([],J)
def al6(t:Int):List Int×Bool:=(GD t 122 122,J)
def al7(t:Int):List Int×Bool:=if eJ t=J then([124],J) else([],J)
def al8(t:Int):List Int×Bool:=([119,125],eJ t)
def al9(t:Int):List Int×Bool:=if t=46 then([t,119,125],J) else([],J)
def ao0(t:Int):List Int×Bool:=if t=1 then([t,127],J) else if t=49 then([t],J) else([],J)
def ao1(t:Int):List Int×Bool:=if t=46 then([t,128],J) else([],J)
def ao2(t:Int):List Int×Bool:=if t=1 then([t,127],J) else if t=49 then([t],J) else([],Z)
def ama(t:Int):List Int×Bool:=if eJ t=J then([131,130],J) else if t=48 then([131,130],J) else if t=44 then([131,130],J) else([],J)
def ao3(t:Int):List Int×Bool:=if t=46 then([t,129],J) else([],J)
def amb(t:Int):List Int×Bool:=if t=48 then([t,1,47,119],J) else if t=44 then([t,119,45,47,119],J) else([119],eJ t)
def ao4(t:Int):List Int×Bool:=([42,100,43],decide (t=42))
def ao5(t:Int):List Int×Bool:=([40,126,41,132],decide (t=40))
def xE(s t:Int):List Int×Bool:=
 if s=100 then alL t else if s=101 then aox t else if s=102 then aoy t else if s=103 then al0 t else if s=104 then al3 t else if s=105 then al4 t else if s=106 then aoz t else if s=107 then aoA t else if s=108 then aiF t else if s=109 then aoB t else if s=110 then aoC t else if s=111 then aoD t else if s=112 then aoE t else if s=113 then aoF t else if s=114 then aoG t else if s=115 then aoH t else if s=116 then aoI t else if s=117 then aoJ t else if s=118 then aoK t else if s=119 then al5 t else if s=120 then aoL t else if s=121 then aiG t else if s=122 then al6 t else if s=123 then al7 t else if s=124 then al8 t else if s=125 then al9 t else if s=126 then ao0 t else if s=127 then ao1 t else if s=128 then ao2 t else if s=129 then ama t else if s=130 then ao3 t else if s=131 then amb t else if s=132 then ao4 t else ao5 t
def gj:Nat->List Int->Int->Nat->Option (List Int×Option Bool×Nat)
 |0,_,_,_=>K
 |_+1,[],_,n=>I ([],K,n)
 |f+1,s::r,t,n=>if s<100 then I (r,I (decide (s=t)),n) else if(xE s t).2=J then gj f ((xE s t).1++r) t (n+(xE s t).1.length) else I (r,I Z,n)
def dy:List Int->Int->List Int×Bool
 |[],_=>([],Z)
 |s::r,t=>if s<100 then(r,decide (s=t)) else if(xE s t).1=[]/\(xE s t).2=J then dy r t else match gj 8 [s] t 0 with|some (lo,some b,_)=>(lo++r,b)|_=>([],Z)
def aiH(s t:Int):Bool:=
 (xE s t).1.all (λa=>decide (a<=133))&&(decide ((xE s t).1.length<=7)&&
 (if(xE s t).1=[]/\(xE s t).2=J then J else match gj 8 [s] t 0 with|some (_,some _,n)=>decide (n<=20)|_=>Z))
def aiI:((List.range 34).all λs=>(List.range 78).all λt=>aiH ((s:Int)+100) ((t:Int)+1))=J:=by decide+kernel
def afb(e:100<=s)(f:s<=133)(g:1<=t)(h:t<=78):aiH s t=J:=by
 have d:=List.all_eq_true.1 aiI (s-100).toNat (by rw[mI];omega);have a:=List.all_eq_true.1 d (t-1).toNat (by rw[mI];omega);have b:(((s-100).toNat:Nat):Int)+100=s:=by omega
 have c:(((t-1).toNat:Nat):Int)+1=t:=by omega
 rw[b,c]at a;exact a
def abI(b:100<=s)(c:s<=133)(e:1<=t)(f:t<=78):(∀x∈(xE s t).1,x<=133)/\(xE s t).1.length<=7:=by
 have a:=afb b c e f;unfold aiH at a;rw[bI,bI]at a;exact⟨λx d=>aE (List.all_eq_true.1 a.1 x d),aE a.2.1⟩
def zl(e:100<=s)(f:s<=133)(h:1<=t)(i:t<=78)(g:¬((xE s t).1=[]/\(xE s t).2=J)):∃lo b n,gj 8 [s] t 0=I (lo,I b,n)/\n<=20:=by
 have a:=afb e f h i;unfold aiH at a;rw[bI,bI,aa g]at a;have c:=a.2.2;split at c
 .rename_i lo b n d;exact⟨lo,b,n,d,aE c⟩
 .cases c
def pF(b:100<=s)(a:(xE s t).1=[]/\(xE s t).2=J):dy (s::r) t=dy r t:=by
 rw[dy,aa (by omega),ab a]
def pG{b:Bool}(d:100<=s)(a:¬((xE s t).1=[]/\(xE s t).2=J))(c:gj 8 [s] t 0=I (lo,I b,n)):dy (s::r) t=(lo++r,b):=by
 rw[dy,aa (by omega),aa a,c]
def lC(a:s<100):dy (s::r) t=(r,decide (s=t)):=by
 rw[dy,ab a]
def lD{b:Option Bool}{f m:Nat}(h:gj (f+1) (s::r) t n=I (lo,b,m))(c:100<=s):((xE s t).2=J/\gj f ((xE s t).1++r) t (n+(xE s t).1.length)=I (lo,b,m))\/((xE s t).2=Z/\lo=r/\b=I Z/\m=n):=by
 rw[gj,aa (by omega)]at h;split at h
 .rename_i a;exact .inl ⟨a,h⟩
 .rename_i a;simp only[fi,jc]at h;exact .inr ⟨by simpa using a,h.1.symm,h.2.1.symm,h.2.2.symm⟩
def ru{b:Option Bool}{f m:Nat}(h:gj (f+1) (s::r) t n=I (lo,b,m))(a:s<100):lo=r/\b=I (decide (s=t))/\m=n:=by
 rw[gj,ab a]at h;simp only[fi,jc]at h;exact⟨h.1.symm,h.2.1.symm,h.2.2.symm⟩
def yd(st:List Int):Prop:=∀a∈st,a<=133
def abJ:∀{f:Nat}{st:List Int}{t:Int}{n:Nat}{lo:List Int}{b:Option Bool}{m:Nat},yd st->1<=t->t<=78->gj f st t n=I (lo,b,m)->yd lo
 |0,_,_,_,_,_,_,_,_,_,h=>by simp[gj]at h
 |f+1,[],t,n,lo,b,m,a,_,_,h=>by
  simp only[gj,fi,jc]at h;rw[<-h.1];exact a
 |f+1,s::r,t,n,lo,b,m,a,g,i,h=>by
  have e:yd r:=λc hx=>a c (dm _ hx);by_cases j:s<100
  .rw[(ru h j).1];exact e
  .rcases lD h (by omega) with⟨_,d⟩|⟨_,d,_⟩
   .refine abJ (λc hx=>?_) g i d;rcases List.mem_append.1 hx with hx|hx
    .exact(abI (by omega) (a s (bg ..)) g i).1 c hx
    .exact e c hx
   .rw[d];exact e
def ry:∀{st:List Int}{t:Int},yd st->1<=t->t<=78->yd (dy st t).1
 |[],t,a,_,_=>by rw[dy];exact a
 |s::r,t,a,e,f=>by
  have d:yd r:=λb hx=>a b (dm _ hx);by_cases i:s<100
  .rw[lC i];exact d
  .have h:=a s (bg ..);by_cases c:(xE s t).1=[]/\(xE s t).2=J
   .rw[pF (by omega) c];exact ry d e f
   .obtain⟨l,k,m,g,_⟩:=zl (by omega) h e f c;rw[pG (by omega) c g];intro b hx;rcases List.mem_append.1 hx with hx|hx
    .refine abJ (st:=[s]) ?_ e f g b hx;intro n j;obtain rfl:=List.mem_singleton.1 j;exact h
    .exact d b hx
end Go.Proofs.YtnoembpaejlaeaaGreatDoor
namespace Go.Proofs.YtnoembpaejlaeaaGreatDoor
open Go.RowKit
variable{W W' w:World}{a:Addr}{b base c k n:Nat}{l:List ByteArray}{lo r:List Int}{s t:Int}{v vk vn:Value}{xs:List Value}
structure Nd where
 k:Int
 f:Int
 t:Int
 l:Int
 op:Int
 n:Int
 x:ByteArray
 nm:List ByteArray
 ks:List Int
def dk(W:X)(v:U)(l:List ByteArray):Prop:=
 (l=[]/\∃a c,v= V a 0 c)\/∃a c,v= V (I a) l.length c/\∀b s,l[b]?=I s->W.cell? (a.add b)=I (O s)
def dB(W:X)(v:U)(l:List Int):Prop:=
 (l=[]/\∃a c,v= V a 0 c)\/∃a c,v= V (I a) l.length c/\∀b d,l[b]?=I d->W.cell? (a.add b)=I (L M d)
structure ado (W:X) (a:Addr) (N:Nd) (vn vk:U):Prop where
 c0:W.cell? a=I (.int .i64 N.k)
 c1:W.cell? ⟨a.block,a.off+1,K⟩=I (.int .i64 N.f)
 c2:W.cell? ⟨a.block,a.off+2,K⟩=I (.int .i64 N.t)
 c3:W.cell? ⟨a.block,a.off+3,K⟩=I (.int .i64 N.l)
 c4:W.cell? ⟨a.block,a.off+4,K⟩=I (.int .i64 N.op)
 c5:W.cell? ⟨a.block,a.off+5,K⟩=I (.int .i64 N.n)
 c6:W.cell? ⟨a.block,a.off+6,K⟩=I (.string N.x)
 c7:W.cell? ⟨a.block,a.off+7,K⟩=I vn
 c8:W.cell? ⟨a.block,a.off+8,K⟩=I vk
 hn:dk W vn N.nm
 hk:dB W vk N.ks
def eK(W:X)(v:U)(ns:List Nd):Prop:=
 (ns=[]/\∃a c,v= V a 0 c)\/∃a c,v= V (I a) ns.length c/\∀d b,ns[d]?=I b->∃vn vk,ado W (a.add (d*9)) b vn vk
def BC(h:W.cell? a=I v):a.block<W.heap.size:=by
 unfold World.cell? at h;rcases bC a.block W.heap.size with g|g
 .exact g
 .rw[xB g]at h;simp at h
def ah(b:A3 W.heap.size W W')(h:W.cell? a=I v):W'.cell? a=I v:=by
 rw[<-h];unfold World.cell?;rw[b.block _ (BC h)]
def dk.below(h:dk W v l)(e:A3 W.heap.size W W'):dk W' v l:=by
 rcases h with h|⟨a,b,c,d⟩
 .exact .inl h
 .exact .inr ⟨a,b,c,λg i f=>ah e (d g i f)⟩
def dB.below{l:List Int}(h:dB W v l)(e:A3 W.heap.size W W'):dB W' v l:=by
 rcases h with h|⟨a,b,c,d⟩
 .exact .inl h
 .exact .inr ⟨a,b,c,λg i f=>ah e (d g i f)⟩
def ado.below{N:Nd}(h:ado W a N vn vk)(b:A3 W.heap.size W W'):ado W' a N vn vk:=
 ⟨ah b h.c0,ah b h.c1,ah b h.c2,ah b h.c3,ah b h.c4,ah b h.c5,ah b h.c6,ah b h.c7,ah b h.c8,h.hn.below b,h.hk.below b⟩
def eK.below{ns:List Nd}(h:eK W v ns)(i:A3 W.heap.size W W'):eK W' v ns:=by
 rcases h with h|⟨b,c,e,f⟩
 .exact .inl h
 .exact .inr ⟨b,c,e,λj a g=>by obtain⟨l,k,d⟩:=f j a g;exact⟨l,k,d.below i⟩⟩
def dk.form(h:dk W v l):∃a c,v= V a l.length c:=by
 rcases h with⟨rfl,a,c,h⟩|⟨a,c,b,d⟩
 .exact⟨a,c,h⟩
 .exact⟨_,_,b⟩
def dB.form{l:List Int}(h:dB W v l):∃a c,v= V a l.length c:=by
 rcases h with⟨rfl,a,c,h⟩|⟨a,c,b,d⟩
 .exact⟨a,c,h⟩
 .exact⟨_,_,b⟩
def eK.form{l:List Nd}(h:eK W v l):∃a c,v= V a l.length c:=by
 rcases h with⟨rfl,a,c,h⟩|⟨a,c,b,d⟩
 .exact⟨a,c,h⟩
 .exact⟨_,_,b⟩
def dk.get{a:Option Addr}(h:dk W (V a n c) l){s:ByteArray}(d:l[k]?=I s):∃b,a=I b/\W.cell? (b.add k)=I (O s):=by
 rcases h with⟨rfl,_⟩|⟨b,g,e,f⟩
 .simp at d
 .cases e;exact⟨b,rfl,f k s d⟩
def dB.get{a:Option Addr}{l:List Int}(h:dB W (V a n c) l)(d:l[k]?=I s):∃b,a=I b/\W.cell? (b.add k)=I (L M s):=by
 rcases h with⟨rfl,_⟩|⟨b,g,e,f⟩
 .simp at d
 .cases e;exact⟨b,rfl,f k s d⟩
def eK.get{a:Option Addr}{l:List Nd}(h:eK W (V a n c) l){N:Nd}(d:l[k]?=I N):∃b,a=I b/\∃vn vk,ado W (b.add (k*9)) N vn vk:=by
 rcases h with⟨rfl,_⟩|⟨b,g,e,f⟩
 .simp at d
 .cases e;exact⟨b,rfl,f k N d⟩
def cJ{b:X}{e size:Nat}(h:w.ownsRow base e size v n xs)(a:A3 w.heap.size w b):b.ownsRow base e size v n xs:=
 h.kept (row:=K) ⟨a.os,a.tape,a.output,a.size,λd c _=>a.block d c⟩ (by cases v.ownBlock<;>simp)
def qL{b e size:Nat}(h:w.ownsRow base e size v n xs)(i:b<=base):w.ownsRow b e size v n xs:=by
 obtain⟨g,a⟩:=h;refine⟨g,?_⟩;rcases a with a|⟨f,c,d,k,j,l⟩
 .exact .inl a
 .exact .inr ⟨f,c,d,k,bG i j,l⟩
def cA{α:Type}{l:List α}(a:l.length=n)(h:k<n):∃s,l[k]?=I s:=⟨l[k]'(by omega),aA _⟩
def ik{t:Br}{fr:Nat×Nat}{a c d e f g:U}(h:W.heap[b]?=I (A9 #[a,c,d,e,f,g] t fr)):W.cell? ⟨b,0,K⟩=I a/\W.cell? ⟨b,1,K⟩=I c/\W.cell? ⟨b,2,K⟩=I d/\W.cell? ⟨b,3,K⟩=I e/\W.cell? ⟨b,4,K⟩=I f/\W.cell? ⟨b,5,K⟩=I g:=by
 refine⟨?_,?_,?_,?_,?_,?_⟩<;>(rw[am _ _ _ _ _ _ h];rfl)
def pK{t:Br}{cs:Array U}(h:W.heap[b]?=I (A9 cs t (0,0))):W.frozen? ⟨b,0,K⟩=Z/\W.frozen? ⟨b,1,K⟩=Z/\W.frozen? ⟨b,2,K⟩=Z/\W.frozen? ⟨b,3,K⟩=Z/\W.frozen? ⟨b,4,K⟩=Z/\W.frozen? ⟨b,5,K⟩=Z:=
 ⟨ch _ _ _ _ _ h,ch _ _ _ _ _ h,ch _ _ _ _ _ h,ch _ _ _ _ _ h,ch _ _ _ _ _ h,ch _ _ _ _ _ h⟩
def six(W:X)(b:Nat)(a c d e f g:U):X:=((((((W.setCell ⟨b,0,K⟩ a).setCell ⟨b,1,K⟩ c).setCell ⟨b,2,K⟩ d).setCell ⟨b,3,K⟩ e).setCell ⟨b,4,K⟩ f).setCell ⟨b,5,K⟩ g)
def GF{t:Br}{m n o p q r:U}(h:W.heap[b]?=I (A9 #[m,n,o,p,q,r] t (0,0)))(c d e f g i:U):(six W b c d e f g i).heap[b]?=I (A9 #[c,d,e,f,g,i] t (0,0)):=by
 have a:=λj k {W l}=>aL W b j l t k;simpa [six] using a 5 i (a 4 g (a 3 f (a 2 e (a 1 d (a 0 c h)))))
def Jd(h:k≠b)(a c d e f g:U):(six W b a c d e f g).heap[k]?=W.heap[k]?:=by
 unfold six;rw[aC _ _ _ _ h,aC _ _ _ _ h,aC _ _ _ _ h,aC _ _ _ _ h,aC _ _ _ _ h,aC _ _ _ _ h]
def rz(w:X):w.drew.heap=w.heap:=rfl
def ye(h:k≠b)(j:Nat)(a c d e f g:U):(six W b a c d e f g).drew.cell? ⟨k,j,K⟩=W.cell? ⟨k,j,K⟩:=by
 unfold World.cell?;rw[rz,Jd h]
def adp{c:X}(h:A3 base c W)(a:base<=b)(d e f g i j:U):A3 base c (six W b d e f g i j):=by
 unfold six;exact(((((h.setCell a _).setCell a _).setCell a _).setCell a _).setCell a _).setCell a _
def CE(W:X)(b:Nat)(c d e f g h:U):W.grownBy (six W b c d e f g h).drew (I b):=by
 have a:=(adp (ai b W) (ag b) c d e f g h).drew;exact⟨a.os,a.tape,a.output,a.size,λl k j=>by rw[rz,Jd (λi=>j (by rw[i]))]⟩
def aiJ:(Tryz.prog.info? 9).map (λi=>(i.zero,i.size,i.bytes))=I (I (O ⟨#[]⟩),1,16):=by kernel_rfl
def vA:(Tryz.prog.info? 3).map (λi=>(i.zero,i.size,i.bytes))=I (I (L M 0),1,8):=by kernel_rfl
def afc{g:Nat}(h:W.ownsRow base 9 1 (V (I ⟨g,0,K⟩) n c) n (l.map B4))(e:l.length=n):dk W (V (I ⟨g,0,K⟩) n c) l:=by
 subst e;refine .inr ⟨⟨g,0,K⟩,c,rfl,λa i b=>?_⟩;have f:a<l.length:=by rcases bC a l.length with h|h;exact h;rw[jr h]at b;cases b
 have d:(⟨g,0,K⟩:Addr).add a=⟨g,a,K⟩:=by unfold Addr.add;split<;>simp_all
 rw[d,h.cellAt a (by omega),cH,b];rfl
def afd{g:Nat}{l:List Int}(h:W.ownsRow base 3 1 (V (I ⟨g,0,K⟩) n c) n (l.map (Value.int M)))(e:l.length=n):dB W (V (I ⟨g,0,K⟩) n c) l:=by
 subst e;refine .inr ⟨⟨g,0,K⟩,c,rfl,λa i b=>?_⟩;have f:a<l.length:=by rcases bC a l.length with h|h;exact h;rw[jr h]at b;cases b
 have d:(⟨g,0,K⟩:Addr).add a=⟨g,a,K⟩:=by unfold Addr.add;split<;>simp_all
 rw[d,h.cellAt a (by omega),cH,b];rfl
def jl(N:Nd)(vn vk:U):U:= .agg #[L M N.k,L M N.f,L M N.t,L M N.l,L M N.op,L M N.n,O N.x,vn,vk]
def mD(b:Nat)(W:X)(t:Br)(N:Nd)(vn vk:U):Prop:=
 W.heap[b]?=I (A9 #[L M N.k,L M N.f,L M N.t,L M N.l,L M N.op,L M N.n,O N.x,vn,vk] t (0,0))
def be{t:Br}{N:Nd}(h:mD b W t N vn vk):
  W.cell? ⟨b,0,K⟩=I (L M N.k)/\W.cell? ⟨b,1,K⟩=I (L M N.f)/\W.cell? ⟨b,2,K⟩=I (L M N.t)/\W.cell? ⟨b,3,K⟩=I (L M N.l)/\W.cell? ⟨b,4,K⟩=I (L M N.op)/\W.cell? ⟨b,5,K⟩=I (L M N.n)/\W.cell? ⟨b,6,K⟩=I (O N.x)/\W.cell? ⟨b,7,K⟩=I vn/\W.cell? ⟨b,8,K⟩=I vk/\(∀j,W.frozen? ⟨b,j,K⟩=Z):=by
 unfold mD at h;exact⟨by rw[am _ _ _ _ _ _ h];rfl,by rw[am _ _ _ _ _ _ h];rfl,by rw[am _ _ _ _ _ _ h];rfl,by rw[am _ _ _ _ _ _ h];rfl,by rw[am _ _ _ _ _ _ h];rfl,by rw[am _ _ _ _ _ _ h];rfl,by rw[am _ _ _ _ _ _ h];rfl,by rw[am _ _ _ _ _ _ h];rfl,by rw[am _ _ _ _ _ _ h];rfl,λj=>ch _ _ _ _ _ h⟩
def Fi:Nd:=⟨0,0,0,0,0,0,⟨#[]⟩,[],[]⟩
def mD.below{t:Br}{N:Nd}(h:mD b W t N vn vk)(a:A3 W.heap.size W W'):mD b W' t N vn vk:=(a.block _ (aj h)).trans h
def Je(W:X)(b:Nat)(N:Nd)(vn vk:U):X:=(((((((((W.setCell ⟨b,0,K⟩ (L M N.k)).setCell ⟨b,1,K⟩ (L M N.f)).setCell ⟨b,2,K⟩ (L M N.t)).setCell ⟨b,3,K⟩ (L M N.l)).setCell ⟨b,4,K⟩ (L M N.op)).setCell ⟨b,5,K⟩ (L M N.n)).setCell ⟨b,6,K⟩ (O N.x)).setCell ⟨b,7,K⟩ (vn)).setCell ⟨b,8,K⟩ (vk))
def aiK{t:Br}{c:Nd}{i g:U}(h:mD b W t c i g)(N:Nd)(vn vk:U):mD b (Je W b N vn vk) t N vn vk:=by
 have a:=λd e {W j}=>aL W b d j t e;simpa [Je,mD] using a 8 vk (a 7 vn (a 6 (O N.x) (a 5 (L M N.n) (a 4 (L M N.op) (a 3 (L M N.l) (a 2 (L M N.t) (a 1 (L M N.f) (a 0 (L M N.k) h))))))))
def Jf{e size:Nat}(h:W.ownsRow base e size v n xs)(a:b<base)(N:Nd)(vn vk:U):(Je W b N vn vk).ownsRow base e size v n xs:=by
 unfold Je
 iterate 9 refine iF ?_ a _
 exact h
def LJ(h:A3 base w W)(a:base<=b)(N:Nd)(vn vk:U):A3 base w (Je W b N vn vk):=by
 unfold Je
 iterate 9 refine fK ?_ a _
 exact h
structure Tk where
 k:Int
 f:Int
 t:Int
 l:Int
 n:Int
 x:ByteArray
def vTk(T:Tk):U:= .agg #[L M T.k,L M T.f,L M T.t,L M T.l,L M T.n,O T.x]
def cTk(T:Tk):List U:=[L M T.k,L M T.f,L M T.t,L M T.l,L M T.n,O T.x]
def zm(ts:List Tk):List U:=ts.flatMap cTk
def yg(a:List Tk)(T:Tk):zm (a++[T])=zm a++cTk T:=by simp[zm]
end Go.Proofs.YtnoembpaejlaeaaGreatDoor
namespace Go.Proofs.YtnoembpaejlaeaaGreatDoor
variable{W W' w:World}{a:Addr}{b base c k n:Nat}{l:List ByteArray}{lo r:List Int}{s t:Int}{v vk vn:Value}{xs:List Value}
inductive Fo where
 |nil:Fo
 |cons:Nd->Fo->Fo->Fo
def Fo.sz:Fo->Nat
 | .nil=>0
 | .cons _ k r=>k.sz+1+r.sz
def Fo.len:Fo->Nat
 | .nil=>0
 | .cons _ _ r=>r.len+1
def Fo.tops:Fo->Nat->List Int
 | .nil,_=>[]
 | .cons _ k r,b=>((b+k.sz:Nat):Int)::r.tops (b+k.sz+1)
def Fo.flat:Fo->Nat->List Nd
 | .nil,_=>[]
 | .cons N k r,b=>k.flat b++({N with ks:=k.tops b}::r.flat (b+k.sz+1))
def Fo.app:Fo->Fo->Fo
 | .nil,c=>c
 | .cons N k r,c=> .cons N k (r.app c)
def one(N:Nd)(k:Fo):Fo:= .cons N k .nil
def Fo.app_nil:∀(a:Fo),a.app .nil=a
 | .nil=>rfl
 | .cons N k r=>by rw[Fo.app,r.app_nil]
def Fo.app_app:∀(a b c:Fo),(a.app b).app c=a.app (b.app c)
 | .nil,_,_=>rfl
 | .cons N k r,b,c=>by simp only[Fo.app];rw[r.app_app b c]
def Fo.sz_app:∀(a c:Fo),(a.app c).sz=a.sz+c.sz
 | .nil,c=>by simp[Fo.app,Fo.sz]
 | .cons N k r,c=>by simp only[Fo.app,Fo.sz,r.sz_app c];omega
def Fo.len_app:∀(a c:Fo),(a.app c).len=a.len+c.len
 | .nil,c=>by simp[Fo.app,Fo.len]
 | .cons N k r,c=>by simp only[Fo.app,Fo.len,r.len_app c];omega
def Fo.tops_app:∀(a c:Fo)(b:Nat),(a.app c).tops b=a.tops b++c.tops (b+a.sz)
 | .nil,c,b=>by simp[Fo.app,Fo.sz,Fo.tops]
 | .cons N k r,c,b=>by simp only[Fo.app,Fo.tops,Fo.sz,r.tops_app c,ez];rw[show b+k.sz+1+r.sz=b+(k.sz+1+r.sz) by omega]
def Fo.flat_app:∀(a c:Fo)(b:Nat),(a.app c).flat b=a.flat b++c.flat (b+a.sz)
 | .nil,c,b=>by simp[Fo.app,Fo.sz,Fo.flat]
 | .cons N k r,c,b=>by simp only[Fo.app,Fo.flat,Fo.sz,r.flat_app c,ez,cg];rw[show b+k.sz+1+r.sz=b+(k.sz+1+r.sz) by omega]
def Fo.flat_len:∀(a:Fo)(b:Nat),(a.flat b).length=a.sz
 | .nil,_=>rfl
 | .cons N k r,b=>by simp only[Fo.flat,Fo.sz,aJ,bm,k.flat_len,r.flat_len];omega
def Fo.tops_len:∀(a:Fo)(b:Nat),(a.tops b).length=a.len
 | .nil,_=>rfl
 | .cons N k r,b=>by simp only[Fo.tops,Fo.len,bm,r.tops_len]
def di(N:Nd)(k:Fo):(one N k).sz=k.sz+1:=rfl
def Jg(N:Nd)(k:Fo)(b:Nat):(one N k).tops b=[((b+k.sz:Nat):Int)]:=rfl
def yh(N:Nd)(k:Fo)(b:Nat):(one N k).flat b=k.flat b++[{N with ks:=k.tops b}]:=rfl
def Fo.len_le:∀(a:Fo),a.len<=a.sz
 | .nil=>ag _
 | .cons N k r=>by have:=r.len_le;simp only[Fo.len,Fo.sz];omega
def z0:ByteArray:=⟨#[]⟩
def nd(k:Int)(s:Tk)(e op n:Int)(x:ByteArray)(nm:List ByteArray):Nd:=⟨k,s.f,e,s.l,op,n,x,nm,[]⟩
def jm(k:Int)(s:Tk)(e:Int):Nd:=nd k s e 0 0 z0 []
def ue(k:Int)(s:Tk)(e:Int):Nd:=if k=10 then jm 28 s e else if k=26 then jm 29 s e else nd 31 s e (k-60) 0 z0 []
def LK(k:Int):Int:=if k=25 then 21 else if k=50 then 22 else if k=69 then 20 else 19
def As(k:Int):Int:=if k=26 then 1 else if k=10 then 2 else if 73<=k then 3 else if k=72 then 4 else if k=68 then 5 else if k=69 then 6 else if k=67 then 7 else if k=70\/k=71 then 8 else if k=61\/k=62 then 9 else 10
def Jh(k:Int):Int:=if k=72 then 4 else As k+1
def yi(k:Int):Bool:=decide (k=48\/k=44\/k=40)
def lJ(N:Nd)(ks:Fo)(s:Tk)(e:Int):Fo:=if N.k=34\/N.k=27 then one (jm 37 s e) (one N ks) else one N ks
inductive GG (tk:Nat->Tk) (n:Nat):Nat->List ByteArray->Nat->Prop where
 |stop {k:Nat}:(tk k).k≠46->k<n->GG tk n k [] k
 |go {k j:Nat}{ns:List ByteArray}:(tk k).k=46->k+1<n->(tk (k+1)).k=1->GG tk n (k+2) ns j->GG tk n k ((tk (k+1)).x::ns) j
inductive Lx (tk:Nat->Tk) (n:Nat):Nat->List ByteArray->Bool->Nat->Prop where
 |close {k:Nat}:(tk k).k=41->k+1<n->Lx tk n k [] false (k+1)
 |rest {k:Nat}:(tk k).k=49->(tk (k+1)).k=41->k+2<n->Lx tk n k [] true (k+2)
 |last {k:Nat}:(tk k).k=1->(tk (k+1)).k=41->k+2<n->Lx tk n k [(tk k).x] false (k+2)
 |go {k j:Nat}{ns:List ByteArray}{r:Bool}:(tk k).k=1->(tk (k+1)).k=46->k+2<n->Lx tk n (k+2) ns r j->Lx tk n k ((tk k).x::ns) r j
inductive xz where
 |unit:xz
 |expr:Int->xz
 |more:Int->Tk->Fo->xz
 |base:xz
 |post:Tk->Fo->xz
 |exprs:xz
 |moreE:xz
 |moreB:xz
 |stat:xz
 |stats:xz
 |block:xz
 |body:Tk->xz
 |entry:xz
 |entries:xz
 |branch:xz
inductive P (tk:Nat->Tk) (n:Nat):xz->Nat->Fo->Nat->Prop where
 |upre {i j:Nat}{x:Fo}:jt (tk i).k=true->i<n->P tk n .unit (i+1) x j->P tk n .unit i (one (nd 30 (tk i) (tk (j-1)).t (LK (tk i).k) 0 z0 []) x) j
 |uint {i:Nat}:(tk i).k=2->i+1<n->P tk n .unit i (one (nd 23 (tk i) (tk i).t 0 (tk i).n z0 []) .nil) (i+1)
 |uflt {i:Nat}:(tk i).k=3->i+1<n->P tk n .unit i (one (nd 24 (tk i) (tk i).t 0 0 (tk i).x []) .nil) (i+1)
 |ustr {i:Nat}:(tk i).k=4->i+1<n->P tk n .unit i (one (nd 25 (tk i) (tk i).t 0 0 (tk i).x []) .nil) (i+1)
 |unil {i:Nat}:(tk i).k=24->i+1<n->P tk n .unit i (one (jm 20 (tk i) (tk i).t) .nil) (i+1)
 |utru {i:Nat}:(tk i).k=29->i+1<n->P tk n .unit i (one (jm 21 (tk i) (tk i).t) .nil) (i+1)
 |ufls {i:Nat}:(tk i).k=17->i+1<n->P tk n .unit i (one (jm 22 (tk i) (tk i).t) .nil) (i+1)
 |urst {i:Nat}:(tk i).k=49->i+1<n->P tk n .unit i (one (jm 27 (tk i) (tk i).t) .nil) (i+1)
 |ufn {i j:Nat}{R:Fo}:(tk i).k=18->i<n->P tk n (.body (tk i)) (i+1) R j->P tk n .unit i R j
 |utab {i j:Nat}{E:Fo}:(tk i).k=42->i<n->P tk n .entries (i+1) E j->(tk j).k=43->j+1<n->P tk n .unit i (one (jm 35 (tk i) (tk j).t) E) (j+1)
 |ubas {i j:Nat}{R:Fo}:(tk i).k=1\/(tk i).k=40->i<n->P tk n .base i R j->P tk n .unit i R j
 |ex {p:Int}{i k j:Nat}{x R:Fo}:(tk i).k≠6->i<n->P tk n .unit i x k->P tk n (.more p (tk i) x) k R j->P tk n (.expr p) i R j
 |mstop {p:Int}{s:Tk}{x:Fo}{k:Nat}:k<n->(gx (tk k).k=true->As (tk k).k<p)->P tk n (.more p s x) k x k
 |mgo {p:Int}{s:Tk}{x y R:Fo}{k k1 j:Nat}:k<n->gx (tk k).k=true->p<=As (tk k).k->P tk n (.expr (Jh (tk k).k)) (k+1) y k1->P tk n (.more p s (one (ue (tk k).k s (tk (k1-1)).t) (x.app y))) k1 R j->P tk n (.more p s x) k R j
 |bname {i j:Nat}{R:Fo}:(tk i).k=1->i<n->P tk n (.post (tk i) (one (nd 26 (tk i) (tk i).t 0 0 (tk i).x []) .nil)) (i+1) R j->P tk n .base i R j
 |bopen {i k j:Nat}{N:Nd}{ks R:Fo}:(tk i).k=40->i<n->P tk n (.expr 0) (i+1) (one N ks) k->(tk k).k=41->k<n->P tk n (.post (tk i) (lJ N ks (tk i) (tk k).t)) (k+1) R j->P tk n .base i R j
 |pstop {s:Tk}{B:Fo}{k:Nat}:k<n->yi (tk k).k=false->P tk n (.post s B) k B k
 |pdot {s:Tk}{B R:Fo}{k j:Nat}:(tk k).k=48->(tk (k+1)).k=1->k+1<n->P tk n (.post s (one (nd 33 s (tk (k+1)).t 0 0 (tk (k+1)).x []) B)) (k+2) R j->P tk n (.post s B) k R j
 |psq {s:Tk}{B Y R:Fo}{k k1 j:Nat}:(tk k).k=44->k<n->P tk n (.expr 0) (k+1) Y k1->(tk k1).k=45->k1<n->P tk n (.post s (one (jm 32 s (tk k1).t) (B.app Y))) (k1+1) R j->P tk n (.post s B) k R j
 |pcall0 {s:Tk}{B R:Fo}{k j:Nat}:(tk k).k=40->(tk (k+1)).k=41->k+1<n->P tk n (.post s (one (jm 34 s (tk (k+1)).t) B)) (k+2) R j->P tk n (.post s B) k R j
 |pcall {s:Tk}{B Y R:Fo}{k k1 j:Nat}:(tk k).k=40->k+1<n->(tk (k+1)).k≠41->P tk n .exprs (k+1) Y k1->(tk k1).k=41->k1<n->P tk n (.post s (one (jm 34 s (tk k1).t) (B.app Y))) (k1+1) R j->P tk n (.post s B) k R j
 |es {i k j:Nat}{x R:Fo}:P tk n (.expr 0) i x k->P tk n .moreE k R j->P tk n .exprs i (x.app R) j
 |estop {k:Nat}:(tk k).k≠46->k<n->P tk n .moreE k .nil k
 |ego {k k1 j:Nat}{x R:Fo}:(tk k).k=46->k<n->P tk n (.expr 0) (k+1) x k1->P tk n .moreE k1 R j->P tk n .moreE k (x.app R) j
 |bstop {k:Nat}:(tk k).k≠46->k<n->P tk n .moreB k .nil k
 |bgo {k k1 j:Nat}{x R:Fo}:(tk k).k=46->k<n->P tk n .base (k+1) x k1->P tk n .moreB k1 R j->P tk n .moreB k (x.app R) j
 |body {i k j:Nat}{s:Tk}{nm:List ByteArray}{r:Bool}{B:Fo}:(tk i).k=40->i<n->Lx tk n (i+1) nm r k->P tk n .block k B j->P tk n (.body s) i (one (nd 36 s (tk (j-1)).t (if r=true then 1 else 0) 0 z0 nm) B) j
 |block {i k:Nat}{S:Fo}:(tk i).k=42->i<n->P tk n .stats (i+1) S k->(tk k).k=43->k+1<n->P tk n .block i (one (jm 1 (tk i) (tk k).t) S) (k+1)
 |sstop {k:Nat}:(tk k).k=43\/(tk k).k=6->k<n->P tk n .stats k .nil k
 |ssep {k j:Nat}{R:Fo}:(tk k).k=5->k<n->P tk n .stats (k+1) R j->P tk n .stats k R j
 |sgo {k k1 j:Nat}{x R:Fo}:(tk k).k≠5->(tk k).k≠6->(tk k).k≠43->k<n->P tk n .stat k x k1->P tk n .stats k1 R j->P tk n .stats k (x.app R) j
 |nstop {k:Nat}:(tk k).k=43->k<n->P tk n .entries k .nil k
 |ncom {k k1 j:Nat}{x R:Fo}:(tk k).k≠43->k<n->P tk n .entry k x k1->(tk k1).k=46->k1<n->P tk n .entries (k1+1) R j->P tk n .entries k (x.app R) j
 |nlast {k k1 j:Nat}{x R:Fo}:(tk k).k≠43->k<n->P tk n .entry k x k1->(tk k1).k≠46->k1<n->P tk n .entries k1 R j->P tk n .entries k (x.app R) j
 |item {i j:Nat}{x:Fo}:(tk i).k≠48->(tk i).k≠44->(tk i).k≠6->i<n->P tk n (.expr 0) i x j->P tk n .entry i (one (jm 40 (tk i) (tk (j-1)).t) x) j
 |pair {i k j:Nat}{x y:Fo}:(tk i).k=44->i<n->P tk n (.expr 0) (i+1) x k->(tk k).k=45->(tk (k+1)).k=47->k+1<n->P tk n (.expr 0) (k+2) y j->P tk n .entry i (one (jm 41 (tk i) (tk (j-1)).t) (x.app y)) j
 |named {i j:Nat}{y:Fo}:(tk i).k=48->(tk (i+1)).k=1->(tk (i+2)).k=47->i+2<n->P tk n (.expr 0) (i+3) y j->P tk n .entry i (one (nd 42 (tk i) (tk (j-1)).t 0 0 (tk (i+1)).x []) y) j
 |belif {i k k1 j:Nat}{x b z:Fo}:(tk i).k=20\/(tk i).k=15->i<n->P tk n (.expr 0) (i+1) x k->P tk n .block k b k1->(tk k1).k=15->k1<n->P tk n .branch k1 z j->P tk n .branch i (one (jm 7 (tk i) (tk (j-1)).t) ((x.app b).app z)) j
 |belse {i k k1 j:Nat}{x b z:Fo}:(tk i).k=20\/(tk i).k=15->i<n->P tk n (.expr 0) (i+1) x k->P tk n .block k b k1->(tk k1).k=16->k1<n->P tk n .block (k1+1) z j->P tk n .branch i (one (jm 7 (tk i) (tk (j-1)).t) ((x.app b).app z)) j
 |bno {i k k1:Nat}{x b:Fo}:(tk i).k=20\/(tk i).k=15->i<n->P tk n (.expr 0) (i+1) x k->P tk n .block k b k1->(tk k1).k≠15->(tk k1).k≠16->k1<n->P tk n .branch i (one (jm 7 (tk i) (tk (k1-1)).t) (x.app b)) k1
 |tlet0 {i k:Nat}{ns:List ByteArray}:(tk i).k=22->i+1<n->(tk (i+1)).k=1->GG tk n (i+2) ns k->(tk k).k≠47->P tk n .stat i (one (nd 2 (tk i) (tk (k-1)).t 0 0 z0 ((tk (i+1)).x::ns)) .nil) k
 |tlet {i k j:Nat}{ns:List ByteArray}{E:Fo}:(tk i).k=22->i+1<n->(tk (i+1)).k=1->GG tk n (i+2) ns k->(tk k).k=47->P tk n .exprs (k+1) E j->P tk n .stat i (one (nd 2 (tk i) (tk (j-1)).t 0 0 z0 ((tk (i+1)).x::ns)) E) j
 |tcon {i j:Nat}{x:Fo}:(tk i).k=13->(tk (i+1)).k=1->(tk (i+2)).k=47->i+2<n->P tk n (.expr 0) (i+3) x j->P tk n .stat i (one (nd 3 (tk i) (tk (j-1)).t 0 0 z0 [(tk (i+1)).x]) x) j
 |tfn {i j:Nat}{B:Fo}:(tk i).k=18->(tk (i+1)).k=1->(tk (i+2)).k=40->i+2<n->P tk n (.body (tk (i+2))) (i+2) B j->P tk n .stat i (one (nd 4 (tk i) (tk (j-1)).t 0 0 z0 [(tk (i+1)).x]) B) j
 |tif {i j:Nat}{R:Fo}:(tk i).k=20->i<n->P tk n .branch i R j->P tk n .stat i R j
 |twhile {i k j:Nat}{x b:Fo}:(tk i).k=31->i<n->P tk n (.expr 0) (i+1) x k->P tk n .block k b j->P tk n .stat i (one (jm 8 (tk i) (tk (j-1)).t) (x.app b)) j
 |tfor {i k k1 j:Nat}{ns:List ByteArray}{E b:Fo}:(tk i).k=19->i+1<n->(tk (i+1)).k=1->GG tk n (i+2) ns k->(tk k).k=47->P tk n .exprs (k+1) E k1->P tk n .block k1 b j->P tk n .stat i (one (nd 9 (tk i) (tk (j-1)).t 0 0 z0 ((tk (i+1)).x::ns)) (E.app b)) j
 |teach {i k k1 j:Nat}{ns:List ByteArray}{x b:Fo}:(tk i).k=19->i+1<n->(tk (i+1)).k=1->GG tk n (i+2) ns k->(tk k).k=21->P tk n (.expr 0) (k+1) x k1->(tk k1).k=42->k1<n->P tk n .block k1 b j->P tk n .stat i (one (nd 10 (tk i) (tk (j-1)).t 0 0 z0 ((tk (i+1)).x::ns)) (x.app b)) j
 |tbreak {i:Nat}:(tk i).k=11->i+1<n->P tk n .stat i (one (jm 11 (tk i) (tk i).t) .nil) (i+1)
 |tnext {i:Nat}:(tk i).k=23->i+1<n->P tk n .stat i (one (jm 12 (tk i) (tk i).t) .nil) (i+1)
 |tret0 {i:Nat}:(tk i).k=27->i+1<n->(tk (i+1)).k=5\/(tk (i+1)).k=6\/(tk (i+1)).k=43->P tk n .stat i (one (jm 13 (tk i) (tk i).t) .nil) (i+1)
 |tret {i j:Nat}{E:Fo}:(tk i).k=27->i+1<n->eJ (tk (i+1)).k=true->P tk n .exprs (i+1) E j->P tk n .stat i (one (jm 13 (tk i) (tk (j-1)).t) E) j
 |ttry {i k k1 j:Nat}{ns:List ByteArray}{a b:Fo}:(tk i).k=30->i<n->P tk n .block (i+1) a k->(tk k).k=12->k+1<n->(tk (k+1)).k=1->GG tk n (k+2) ns k1->P tk n .block k1 b j->P tk n .stat i (one (nd 14 (tk i) (tk (j-1)).t 0 0 z0 ((tk (k+1)).x::ns)) (a.app b)) j
 |tthrow {i j:Nat}{x:Fo}:(tk i).k=28->i<n->P tk n (.expr 0) (i+1) x j->P tk n .stat i (one (jm 15 (tk i) (tk (j-1)).t) x) j
 |tdefer {i j:Nat}{x:Fo}:(tk i).k=14->i<n->P tk n .base (i+1) x j->P tk n .stat i (one (jm 16 (tk i) (tk (j-1)).t) x) j
 |tblock {i j:Nat}{R:Fo}:(tk i).k=42->i<n->P tk n .block i R j->P tk n .stat i R j
 |tdo {i j:Nat}{x:Fo}:(tk i).k=1\/(tk i).k=40->i<n->P tk n .base i x j->(tk j).k≠46->(tk j).k≠47->j<n->P tk n .stat i (one (jm 6 (tk i) (tk (j-1)).t) x) j
 |tset {i k k1 j:Nat}{x R E:Fo}:(tk i).k=1\/(tk i).k=40->i<n->P tk n .base i x k->P tk n .moreB k R k1->(tk k1).k=47->k1<n->P tk n .exprs (k1+1) E j->P tk n .stat i (one (nd 5 (tk i) (tk (j-1)).t 0 ((x.app R).len:Nat) z0 []) ((x.app R).app E)) j
end Go.Proofs.YtnoembpaejlaeaaGreatDoor
namespace Go.Proofs.YtnoembpaejlaeaaGreatDoor
open Go.Maps Go.WideMaps
variable{W W' w:World}{a:Addr}{b base c k n:Nat}{l:List ByteArray}{lo r:List Int}{s t:Int}{v vk vn:Value}{xs:List Value}
def kqf{a b:Int}(h:a=b)(c:Int)(e:(b==c)=Z):(a==c)=Z:=by rw[h];exact e
def kqt{a b:Int}(h:a=b)(c:Int)(e:(b==c)=J):(a==c)=J:=by rw[h];exact e
def kqs{a b:Int}(h:a=b):(a==b)=J:=by rw[h];exact beq_self_eq_true b
end Go.Proofs.YtnoembpaejlaeaaGreatDoor
namespace Go.Proofs.YtnoembpaejlaeaaGreatDoor
variable{W W' w:World}{a:Addr}{b base c k n:Nat}{l:List ByteArray}{lo r:List Int}{s t:Int}{v vk vn:Value}{xs:List Value}
def fC(k:Int):Nat:=
 if k=2\/k=3\/k=4\/k=9\/k=10\/k=14 then 0
 else if k=5 then 1
 else if k=23 then 2
 else if k=24\/k=25\/k=26\/k=33\/k=42 then 3
 else if k=30\/k=31 then 4
 else if k=36 then 5
 else 6
def po:Nat->Br
 |0=>145
 |1=>148
 |2=>151
 |3=>154
 |4=>157
 |5=>160
 |_=>93
def xb:Nat->Br
 |0=>147
 |1=>150
 |2=>153
 |3=>156
 |4=>159
 |5=>162
 |_=>96
def exT(N:Nd)(vn:U):Nat->List U
 |0=>[vn]
 |1=>[L M N.n]
 |2=>[L M N.n]
 |3=>[O N.x]
 |4=>[L M N.op]
 |5=>[vn,B6 (decide (N.op=1))]
 |_=>[]
def gJ(W:X)(b:Nat)(N:Nd)(vn:U)(c:Int)(a:U):Prop:=
 W.heap[b]?=I (A9 ([L M N.k,L M N.f,L M N.t,L M N.l,L M c,a]++exT N vn (fC N.k)).toArray (xb (fC N.k)) (0,0))
def gg(k:Int)(b:Nat):U:= B2 (po (fC k)) (B5 (I ⟨b,0,K⟩))
def LL(w:X)(N:Nd)(vn vk:U)(r:∃a n c,vn= V a n c)(q:∃a n c,vk= V a n c):
  B0 Q 126 #[jl N vn vk] w λe o=>e= Ax (gg N.k (w.heap.size+1+1))/\gJ o (w.heap.size+1+1) N vn 0 (V K 0 0)/\A3 w.heap.size w o:=by
 obtain⟨s,x,u,rfl⟩:=r;obtain⟨t,y,v,rfl⟩:=q;unfold jl;obtain⟨b,z,G,B,F,C,H,E,A⟩:=N;have l:∀d f j,A3 w.heap.size w (((w.alloc d).alloc f).alloc j):=λd f j=>(((ai _ w).alloc (ag _) d).alloc (by simp) f).alloc (by simp;omega) j;have m:∀d f (g:Array U) (h:Br),(((w.alloc d).alloc f).alloc (A9 g h)).heap[w.heap.size+1+1]?=I (A9 g h (0,0)):=λd f g h=>by
  have:=aB ((w.alloc d).alloc f) (A9 g h);rw[de,de]at this;exact this
 unfold gJ gg;simp only;by_cases i:b=2\/b=3\/b=4\/b=9\/b=10\/b=14\/b=5\/b=23\/b=24\/b=25\/b=26\/b=33\/b=42\/b=30\/b=31\/b=36
 .rcases i with rfl|rfl|rfl|rfl|rfl|rfl|rfl|rfl|rfl|rfl|rfl|rfl|rfl|rfl|rfl|rfl;all_goals
   go_in;go_wp2;go_ret;exact⟨rfl,m _ _ _ _,l _ _ _⟩
 .have p:fC b=6:=by unfold fC;rw[aa (by omega),aa (by omega),aa (by omega),aa (by omega),aa (by omega),aa (by omega)]
  simp only[not_or]at i;obtain⟨_,_,_,_,_,_,_,_,_,_,_,_,_,_,_,_⟩:=i;rw[p];go_in;go_wp2;go_ret;exact⟨rfl,m _ _ _ _,l _ _ _⟩
end Go.Proofs.YtnoembpaejlaeaaGreatDoor
