import Derived.Shelf.Small.Strs
import Derived.Shelf.Small.Wraps
import Derived.Shelf.Strconv.Itoa4
import Derived.Shelf.Strconv.ErrVarParseInt
import Derived.Shelf.Pu.ErrVarParseUint
import Derived.ProofKit
import Derived.OneCell
import Derived.RangeFuncBox
import Derived.Deep.RegionHeld3
import Derived.Test.YtkdijoogonigpaaGreatDoorHUk01
set_option linter.all false
open Option renaming some->A,none->I
open Bool renaming true->B,false->S
open Go.Value renaming string->C,int->E,slice->K,nilIface->U,tuple->V,iface->X,pointer->Z,string->o,int->q
open Go.IntKind renaming i64->F
open Go renaming World->G,Value->J,Calls->T,TypeId->Y
open Go.Proofs.Tryz renaming prog->H,sizeOf3->O,isAgg3->Q
open Go.Shelf renaming Ren->L
open Go.Ending renaming returned->M
open Go.RowKit renaming Below->R
namespace Go.Proofs
open Go.Shelf
def Tryz.lays103_ren:L:=⟨fun|103=>72|210=>89|206=>61|n=>n,fun|9=>9|4=>4|24=>83|3=>3|n=>n,fun|n=>n⟩
theorem Tryz.lays103:Go.Proofs.Lays.n103 H Tryz.lays103_ren:={
 mixed:=by kernel_rfl
 f103:=Tryz.func72.trans (congrArg A (by kernel_rfl))
 f206:=Tryz.func61.trans (congrArg A (by kernel_rfl))
 f210:=Tryz.func89.trans (congrArg A (by kernel_rfl))
 t3:=Tryz.underlying3
 a3:=Q
 z3:=O
 v3:=Tryz.zeroValue3
 t4:=Tryz.underlying4
 a4:=Tryz.isAgg4
 z4:=Tryz.sizeOf4
 v4:=Tryz.zeroValue4
 t9:=Tryz.underlying9
 a9:=Tryz.isAgg9
 z9:=Tryz.sizeOf9
 v9:=Tryz.zeroValue9
 t24:=Tryz.underlying83
 a24:=Tryz.isAgg83
 z24:=Tryz.sizeOf83
 v24:=Tryz.zeroValue83}
open Go.RowKit in
theorem Tryz.strings_CutPrefix(s p:ByteArray)(w:G):
  T H 72 #[C s,C p] w fun e a=>e= M (V #[C ⟨(Lib.trimPrefix s.data.toList p.data.toList).toArray⟩,.bool (Lib.hasPrefix s.data.toList p.data.toList)])/\a=w:=Any.strings_CutPrefix Tryz.lays103 s p w
def Tryz.laysM173_ren:L:=⟨fun|173=>52|246=>69|283=>84|284=>85|285=>86|286=>87|129=>115|317=>114|318=>116|319=>117|320=>118|337=>145|338=>146|n=>n,fun|2=>2|3=>3|9=>9|4=>4|171=>110|0=>0|53=>33|37=>22|5=>5|173=>113|212=>134|51=>135|20=>20|213=>136|46=>73|232=>167|233=>168|n=>n,fun|17=>3|18=>6|19=>7|n=>n⟩
theorem Tryz.laysM173:Go.Proofs.LaysM.n173 H Tryz.laysM173_ren:={
 mixed:=by kernel_rfl
 f129:=Tryz.func115.trans (congrArg A (by kernel_rfl))
 f173:=Tryz.func52.trans (congrArg A (by kernel_rfl))
 f246:=Tryz.func69.trans (congrArg A (by kernel_rfl))
 f283:=Tryz.func84.trans (congrArg A (by kernel_rfl))
 f284:=Tryz.func85.trans (congrArg A (by kernel_rfl))
 f285:=Tryz.func86.trans (congrArg A (by kernel_rfl))
 f286:=Tryz.func87.trans (congrArg A (by kernel_rfl))
 f317:=Tryz.func114.trans (congrArg A (by kernel_rfl))
 f318:=Tryz.func116.trans (congrArg A (by kernel_rfl))
 f319:=Tryz.func117.trans (congrArg A (by kernel_rfl))
 f320:=Tryz.func118.trans (congrArg A (by kernel_rfl))
 f337:=Tryz.func145.trans (congrArg A (by kernel_rfl))
 f338:=Tryz.func146.trans (congrArg A (by kernel_rfl))
 t0:=Tryz.underlying0
 a0:=Tryz.isAgg0
 z0:=Tryz.sizeOf0
 v0:=Tryz.zeroValue0
 t2:=Tryz.underlying2
 a2:=Tryz.isAgg2
 z2:=Tryz.sizeOf2
 v2:=Tryz.zeroValue2
 t3:=Tryz.underlying3
 a3:=Q
 z3:=O
 v3:=Tryz.zeroValue3
 t4:=Tryz.underlying4
 a4:=Tryz.isAgg4
 z4:=Tryz.sizeOf4
 v4:=Tryz.zeroValue4
 t5:=Tryz.underlying5
 a5:=Tryz.isAgg5
 z5:=Tryz.sizeOf5
 v5:=Tryz.zeroValue5
 t9:=Tryz.underlying9
 a9:=Tryz.isAgg9
 z9:=Tryz.sizeOf9
 v9:=Tryz.zeroValue9
 t20:=Tryz.underlying20
 a20:=Tryz.isAgg20
 z20:=Tryz.sizeOf20
 v20:=Tryz.zeroValue20
 t37:=Tryz.underlying22
 a37:=Tryz.isAgg22
 z37:=Tryz.sizeOf22
 v37:=Tryz.zeroValue22
 t46:=Tryz.underlying73
 a46:=Tryz.isAgg73
 z46:=Tryz.sizeOf73
 v46:=Tryz.zeroValue73
 t51:=Tryz.underlying135
 a51:=Tryz.isAgg135
 z51:=Tryz.sizeOf135
 v51:=Tryz.zeroValue135
 t53:=Tryz.underlying33
 a53:=Tryz.isAgg33
 z53:=Tryz.sizeOf33
 v53:=Tryz.zeroValue33
 t171:=Tryz.underlying110
 a171:=Tryz.isAgg110
 z171:=Tryz.sizeOf110
 v171:=Tryz.zeroValue110
 t173:=Tryz.underlying113
 a173:=Tryz.isAgg113
 z173:=Tryz.sizeOf113
 v173:=Tryz.zeroValue113
 t212:=Tryz.underlying134
 a212:=Tryz.isAgg134
 z212:=Tryz.sizeOf134
 v212:=Tryz.zeroValue134
 t213:=Tryz.underlying136
 a213:=Tryz.isAgg136
 z213:=Tryz.sizeOf136
 t232:=Tryz.underlying167
 a232:=Tryz.isAgg167
 z232:=Tryz.sizeOf167
 v232:=Tryz.zeroValue167
 t233:=Tryz.underlying168
 a233:=Tryz.isAgg168
 z233:=Tryz.sizeOf168
 v233:=Tryz.zeroValue168
 g17:=by kernel_rfl
 g18:=by kernel_rfl
 g19:=by kernel_rfl
 i0:=by kernel_rfl
 i2:=by kernel_rfl
 i3:=by kernel_rfl
 i4:=by kernel_rfl
 i5:=by kernel_rfl
 i9:=by kernel_rfl
 i20:=by kernel_rfl
 i37:=by kernel_rfl
 i46:=by kernel_rfl
 i51:=by kernel_rfl
 i53:=by kernel_rfl
 i171:=by kernel_rfl
 i173:=by kernel_rfl
 i212:=by kernel_rfl
 i232:=by kernel_rfl
 i233:=by kernel_rfl
 m17:=by kernel_rfl
 m18:=by kernel_rfl
 m19:=by kernel_rfl}
open Go.RowKit Go.Sort Go.Lib in
theorem Tryz.strconv_FormatInt_10(n:Int)(a: -9223372036854775808<=n)(b:n<=9223372036854775807)(w:G)(c:Lib.TabIs H w "internal/strconv.uint64pow10" .u64 Lib.pow10Tab):
  T H 52 #[E F n,E F 10] w fun e d=>e= M (C ⟨(Lib.itoa n).toArray⟩)/\∃k os,d=grow (w.drewN k) os:=Any.strconv_FormatInt_10 Tryz.laysM173 n a b w c
def Tryz.laysM316_ren:L:=⟨fun|316=>50|n=>n,fun|9=>9|3=>3|4=>4|37=>22|0=>0|127=>82|5=>5|n=>n,fun|n=>n⟩
theorem Tryz.laysM316:Go.Proofs.LaysM.n316 H Tryz.laysM316_ren:={
 mixed:=by kernel_rfl
 f316:=Tryz.func50.trans (congrArg A (by kernel_rfl))
 t0:=Tryz.underlying0
 a0:=Tryz.isAgg0
 z0:=Tryz.sizeOf0
 v0:=Tryz.zeroValue0
 t3:=Tryz.underlying3
 a3:=Q
 z3:=O
 v3:=Tryz.zeroValue3
 t4:=Tryz.underlying4
 a4:=Tryz.isAgg4
 z4:=Tryz.sizeOf4
 v4:=Tryz.zeroValue4
 t9:=Tryz.underlying9
 a9:=Tryz.isAgg9
 z9:=Tryz.sizeOf9
 v9:=Tryz.zeroValue9
 t37:=Tryz.underlying22
 a37:=Tryz.isAgg22
 z37:=Tryz.sizeOf22
 v37:=Tryz.zeroValue22
 t127:=Tryz.underlying82
 a127:=Tryz.isAgg82
 z127:=Tryz.sizeOf82
 v127:=Tryz.zeroValue82
 t5:=Tryz.underlying5
 a5:=Tryz.isAgg5
 z5:=Tryz.sizeOf5
 v5:=Tryz.zeroValue5
 i0:=by kernel_rfl
 i3:=by kernel_rfl
 i4:=by kernel_rfl
 i5:=by kernel_rfl
 i9:=by kernel_rfl
 i37:=by kernel_rfl
 i127:=by kernel_rfl}
open Go.RowKit in
theorem Tryz.stringslite_Clone(s:ByteArray)(w:G)(a:s.size<=281474976710656):
  T H 50 #[C s] w fun e b=>e= M (C s)/\R w.heap.size w b:=Any.stringslite_Clone Tryz.laysM316 s w a
def Tryz.lays321_ren:L:=⟨fun|321=>119|n=>n,fun|5=>5|n=>n,fun|n=>n⟩
theorem Tryz.lays321:Go.Proofs.Lays.n321 H Tryz.lays321_ren:={
 mixed:=by kernel_rfl
 f321:=Tryz.func119.trans (congrArg A (by kernel_rfl))
 t5:=Tryz.underlying5
 a5:=Tryz.isAgg5
 z5:=Tryz.sizeOf5
 v5:=Tryz.zeroValue5}
open Go.RowKit in
theorem Tryz.internal_strconv_lower(c:Int)(w:G):
  T H 119 #[E .u8 c] w fun e a=>e= M (E .u8 (bits .or .u8 c 32))/\a=w:=Any.internal_strconv_lower Tryz.lays321 c w
def Tryz.laysC174_ren:L:=⟨fun|174=>74|247=>92|245=>91|287=>90|279=>121|280=>122|281=>123|282=>124|321=>119|322=>120|316=>50|171=>148|205=>147|243=>164|246=>69|283=>84|284=>85|285=>86|286=>87|129=>115|317=>114|318=>116|319=>117|320=>118|337=>145|338=>146|n=>n,fun|9=>9|3=>3|2=>2|75=>86|85=>89|4=>4|167=>138|5=>5|53=>33|175=>87|46=>73|168=>140|37=>22|0=>0|210=>156|21=>21|127=>82|145=>171|143=>169|171=>110|173=>113|212=>134|51=>135|20=>20|213=>136|232=>167|233=>168|80=>37|n=>n,fun|15=>4|16=>5|17=>3|18=>6|19=>7|n=>n⟩
theorem Tryz.laysC174:Go.Proofs.LaysC.n174 H Tryz.laysC174_ren:={
 mixed:=by kernel_rfl
 f129:=Tryz.func115.trans (congrArg A (by kernel_rfl))
 f171:=Tryz.func148.trans (congrArg A (by kernel_rfl))
 f174:=Tryz.func74.trans (congrArg A (by kernel_rfl))
 f205:=Tryz.func147.trans (congrArg A (by kernel_rfl))
 f243:=Tryz.func164.trans (congrArg A (by kernel_rfl))
 f245:=Tryz.func91.trans (congrArg A (by kernel_rfl))
 f246:=Tryz.func69.trans (congrArg A (by kernel_rfl))
 f247:=Tryz.func92.trans (congrArg A (by kernel_rfl))
 f279:=Tryz.func121.trans (congrArg A (by kernel_rfl))
 f280:=Tryz.func122.trans (congrArg A (by kernel_rfl))
 f281:=Tryz.func123.trans (congrArg A (by kernel_rfl))
 f282:=Tryz.func124.trans (congrArg A (by kernel_rfl))
 f283:=Tryz.func84.trans (congrArg A (by kernel_rfl))
 f284:=Tryz.func85.trans (congrArg A (by kernel_rfl))
 f285:=Tryz.func86.trans (congrArg A (by kernel_rfl))
 f286:=Tryz.func87.trans (congrArg A (by kernel_rfl))
 f287:=Tryz.func90.trans (congrArg A (by kernel_rfl))
 f316:=Tryz.func50.trans (congrArg A (by kernel_rfl))
 f317:=Tryz.func114.trans (congrArg A (by kernel_rfl))
 f318:=Tryz.func116.trans (congrArg A (by kernel_rfl))
 f319:=Tryz.func117.trans (congrArg A (by kernel_rfl))
 f320:=Tryz.func118.trans (congrArg A (by kernel_rfl))
 f321:=Tryz.func119.trans (congrArg A (by kernel_rfl))
 f322:=Tryz.func120.trans (congrArg A (by kernel_rfl))
 f337:=Tryz.func145.trans (congrArg A (by kernel_rfl))
 f338:=Tryz.func146.trans (congrArg A (by kernel_rfl))
 t0:=Tryz.underlying0
 a0:=Tryz.isAgg0
 z0:=Tryz.sizeOf0
 v0:=Tryz.zeroValue0
 t2:=Tryz.underlying2
 a2:=Tryz.isAgg2
 z2:=Tryz.sizeOf2
 v2:=Tryz.zeroValue2
 t3:=Tryz.underlying3
 a3:=Q
 z3:=O
 v3:=Tryz.zeroValue3
 t4:=Tryz.underlying4
 a4:=Tryz.isAgg4
 z4:=Tryz.sizeOf4
 v4:=Tryz.zeroValue4
 t5:=Tryz.underlying5
 a5:=Tryz.isAgg5
 z5:=Tryz.sizeOf5
 v5:=Tryz.zeroValue5
 t9:=Tryz.underlying9
 a9:=Tryz.isAgg9
 z9:=Tryz.sizeOf9
 v9:=Tryz.zeroValue9
 t20:=Tryz.underlying20
 a20:=Tryz.isAgg20
 z20:=Tryz.sizeOf20
 v20:=Tryz.zeroValue20
 t21:=Tryz.underlying21
 a21:=Tryz.isAgg21
 z21:=Tryz.sizeOf21
 v21:=Tryz.zeroValue21
 t37:=Tryz.underlying22
 a37:=Tryz.isAgg22
 z37:=Tryz.sizeOf22
 v37:=Tryz.zeroValue22
 t46:=Tryz.underlying73
 a46:=Tryz.isAgg73
 z46:=Tryz.sizeOf73
 v46:=Tryz.zeroValue73
 t51:=Tryz.underlying135
 a51:=Tryz.isAgg135
 z51:=Tryz.sizeOf135
 v51:=Tryz.zeroValue135
 t53:=Tryz.underlying33
 a53:=Tryz.isAgg33
 z53:=Tryz.sizeOf33
 v53:=Tryz.zeroValue33
 t75:=Tryz.underlying86
 a75:=Tryz.isAgg86
 z75:=Tryz.sizeOf86
 v75:=Tryz.zeroValue86
 t85:=Tryz.underlying89
 a85:=Tryz.isAgg89
 z85:=Tryz.sizeOf89
 v85:=Tryz.zeroValue89
 t127:=Tryz.underlying82
 a127:=Tryz.isAgg82
 z127:=Tryz.sizeOf82
 v127:=Tryz.zeroValue82
 t143:=Tryz.underlying169
 a143:=Tryz.isAgg169
 z143:=Tryz.sizeOf169
 v143:=Tryz.zeroValue169
 t145:=Tryz.underlying171
 a145:=Tryz.isAgg171
 z145:=Tryz.sizeOf171
 v145:=Tryz.zeroValue171
 t167:=Tryz.underlying138
 a167:=Tryz.isAgg138
 z167:=Tryz.sizeOf138
 v167:=Tryz.zeroValue138
 t168:=Tryz.underlying140
 a168:=Tryz.isAgg140
 z168:=Tryz.sizeOf140
 v168:=Tryz.zeroValue140
 t171:=Tryz.underlying110
 a171:=Tryz.isAgg110
 z171:=Tryz.sizeOf110
 v171:=Tryz.zeroValue110
 t173:=Tryz.underlying113
 a173:=Tryz.isAgg113
 z173:=Tryz.sizeOf113
 v173:=Tryz.zeroValue113
 t175:=Tryz.underlying87
 a175:=Tryz.isAgg87
 z175:=Tryz.sizeOf87
 v175:=Tryz.zeroValue87
 t210:=Tryz.underlying156
 a210:=Tryz.isAgg156
 z210:=Tryz.sizeOf156
 v210:=Tryz.zeroValue156
 t212:=Tryz.underlying134
 a212:=Tryz.isAgg134
 z212:=Tryz.sizeOf134
 v212:=Tryz.zeroValue134
 t213:=Tryz.underlying136
 a213:=Tryz.isAgg136
 z213:=Tryz.sizeOf136
 t232:=Tryz.underlying167
 a232:=Tryz.isAgg167
 z232:=Tryz.sizeOf167
 v232:=Tryz.zeroValue167
 t233:=Tryz.underlying168
 a233:=Tryz.isAgg168
 z233:=Tryz.sizeOf168
 v233:=Tryz.zeroValue168
 g15:=by kernel_rfl
 g16:=by kernel_rfl
 g17:=by kernel_rfl
 g18:=by kernel_rfl
 g19:=by kernel_rfl
 t80:=Tryz.underlying37
 a80:=Tryz.isAgg37
 z80:=Tryz.sizeOf37
 v80:=Tryz.zeroValue37
 i0:=by kernel_rfl
 i2:=by kernel_rfl
 i3:=by kernel_rfl
 i4:=by kernel_rfl
 i5:=by kernel_rfl
 i9:=by kernel_rfl
 i20:=by kernel_rfl
 i21:=by kernel_rfl
 i37:=by kernel_rfl
 i46:=by kernel_rfl
 i51:=by kernel_rfl
 i53:=by kernel_rfl
 i75:=by kernel_rfl
 i80:=by kernel_rfl
 i85:=by kernel_rfl
 i127:=by kernel_rfl
 i143:=by kernel_rfl
 i145:=by kernel_rfl
 i167:=by kernel_rfl
 i168:=by kernel_rfl
 i171:=by kernel_rfl
 i173:=by kernel_rfl
 i175:=by kernel_rfl
 i210:=by kernel_rfl
 i212:=by kernel_rfl
 i232:=by kernel_rfl
 i233:=by kernel_rfl
 m15:=by kernel_rfl
 m16:=by kernel_rfl
 m17:=by kernel_rfl
 m18:=by kernel_rfl
 m19:=by kernel_rfl
 c0:=by kernel_rfl
 c2:=by kernel_rfl
 c3:=by kernel_rfl
 c4:=by kernel_rfl
 c5:=by kernel_rfl
 c9:=by kernel_rfl
 c20:=by kernel_rfl
 c21:=by kernel_rfl
 c37:=by kernel_rfl
 c46:=by kernel_rfl
 c51:=by kernel_rfl
 c53:=by kernel_rfl
 c75:=by kernel_rfl
 c80:=by kernel_rfl
 c85:=by kernel_rfl
 c127:=by kernel_rfl
 c143:=by kernel_rfl
 c145:=by kernel_rfl
 c167:=by kernel_rfl
 c168:=by kernel_rfl
 c171:=by kernel_rfl
 c173:=by kernel_rfl
 c175:=by kernel_rfl
 c210:=by kernel_rfl
 c212:=by kernel_rfl
 c213:=by kernel_rfl
 c232:=by kernel_rfl
 c233:=by kernel_rfl}
open Go.RowKit in
theorem Tryz.strconv_ParseInt_10_at64_ok(s:ByteArray)(c:s.size<=9223372036854775806)(v:Int)(b:Lib.parseIntB 64 s.data.toList= .ok v)(w:G):
  T H 74 #[C s,E F 10,E F 64] w fun e a=>e= M (V #[E F v,U])/\(a=w\/∃t,a=Lib.bytesWorld w 5 t):=Any.strconv_ParseInt_10_at64_ok Tryz.laysC174 s c v b w
open Go.RowKit in
theorem Tryz.strconv_ParseInt_10_at64_syntax(s:ByteArray)(f:s.size<=281474976710656)(c:Lib.parseIntB 64 s.data.toList= .«syntax»)(a:J)(w:G)(g:w.cell? ⟨4,0,I⟩=A a)(d:a= U\/∃i h,a= X i h):
  T H 74 #[C s,E F 10,E F 64] w fun e b=>∃N,e= M (V #[E F (0),X 140 (Z (A ⟨N,0,I⟩))])/\w.heap.size<=N/\b.heap[N]?=A (.cells #[C ⟨#[80,97,114,115,101,73,110,116]⟩,C s,a] 156 (0,0))/\R w.heap.size w b:=Any.strconv_ParseInt_10_at64_syntax Tryz.laysC174 s f c a w g d
open Go.RowKit in
theorem Tryz.strconv_ParseInt_10_at64_range(s:ByteArray)(f:s.size<=281474976710656)(c:Lib.parseIntB 64 s.data.toList= .range)(a:J)(w:G)(g:w.cell? ⟨5,0,I⟩=A a)(d:a= U\/∃i h,a= X i h):
  T H 74 #[C s,E F 10,E F 64] w fun e b=>∃N,e= M (V #[E F (Lib.intSat 64 s.data.toList),X 140 (Z (A ⟨N,0,I⟩))])/\w.heap.size<=N/\b.heap[N]?=A (.cells #[C ⟨#[80,97,114,115,101,73,110,116]⟩,C s,a] 156 (0,0))/\R w.heap.size w b:=Any.strconv_ParseInt_10_at64_range Tryz.laysC174 s f c a w g d
def Tryz.lays99_ren:L:=⟨fun|99=>39|206=>61|n=>n,fun|9=>9|4=>4|3=>3|n=>n,fun|n=>n⟩
theorem Tryz.lays99:Go.Proofs.Lays.n99 H Tryz.lays99_ren:={
 mixed:=by kernel_rfl
 f99:=Tryz.func39.trans (congrArg A (by kernel_rfl))
 f206:=Tryz.func61.trans (congrArg A (by kernel_rfl))
 t3:=Tryz.underlying3
 a3:=Q
 z3:=O
 v3:=Tryz.zeroValue3
 t4:=Tryz.underlying4
 a4:=Tryz.isAgg4
 z4:=Tryz.sizeOf4
 v4:=Tryz.zeroValue4
 t9:=Tryz.underlying9
 a9:=Tryz.isAgg9
 z9:=Tryz.sizeOf9
 v9:=Tryz.zeroValue9}
open Go.RowKit Go.Lib in
theorem Tryz.strings_HasPrefix(s p:ByteArray)(w:G):
  T H 39 #[C s,C p] w fun e a=>e= M (.bool (Lib.hasPrefix s.data.toList p.data.toList))/\a=w:=Any.strings_HasPrefix Tryz.lays99 s p w
end Go.Proofs
namespace Go.Proofs.YtkdijoogonigpaaGreatDoor
open Go.RowKit
structure Tk where
 k:Int
 f:Int
 t:Int
 l:Int
 n:Int
 x:ByteArray
def vTk(a:Tk):J:= .agg #[E F a.k,E F a.f,E F a.t,E F a.l,E F a.n,C a.x]
def cTk(a:Tk):List J:=[E F a.k,E F a.f,E F a.t,E F a.l,E F a.n,C a.x]
def jB(a:List Tk):List J:=a.flatMap cTk
theorem mA(a:List Tk)(b:Tk):jB (a++[b])=jB a++cTk b:=by simp[jB]
end Go.Proofs.YtkdijoogonigpaaGreatDoor
namespace Go.Proofs.YtkdijoogonigpaaGreatDoor
def lJ(t:Int):Bool:=decide (t=25\/t=50\/t=62\/t=69)
def qd(t:Int):Bool:=decide (t=10\/t=26\/60<t)
def fH(t:Int):Bool:=decide (t=1\/t=2\/t=3\/t=4\/t=24\/t=29\/t=17\/t=49\/t=18\/t=40\/t=42)||lJ t
def uE(t:Int):List Int×Bool:=if t=22 then([t,1,104,103],B) else if t=13 then([t,1,47,119],B) else if t=18 then([t,1,133],B) else if t=20 then([t,119,132,105],B) else if t=31 then([t,119,132],B) else if t=19 then([t,1,106],B) else if t=11 then([t],B) else if t=23 then([t],B) else if t=27 then([t,108],B) else if t=30 then([t,132,12,1,109,132],B) else if t=28 then([t,119],B) else if t=14 then([t,116],B) else if t=42 then([132],B) else if t=1 then([t,110],B) else if t=40 then([t,119,41,112],B) else([],S)
def pa(t a c:Int):List Int:=if t=48 then [t,1,a] else if t=44 then [t,119,45,a] else if t=40 then [t,123,41,c] else []
def Ib(t:Int):List Int×Bool:=if lJ t=B then([t,120],B) else if t=1 then([t,122],B) else if t=40 then([t,119,41,122],B) else if t=42 then([t,129,43],B) else if t=18 then([t,133],B) else([t],fH t)
def ac0(t:Int):List Int×Bool:=if t=5 then([t,100],B) else if(uE t).2=B then((uE t).1++[101],B) else([],B)
def aeJ(t:Int):List Int×Bool:=if t=5 then([t,100],B) else([],B)
def aeK(t:Int):List Int×Bool:=([40,126,41,132],decide (t=40))
def aeL(t:Int):List Int×Bool:=if t=47 then([t,124],B) else([],B)
def aao(t:Int):List Int×Bool:=if t=46 then([t,1,104],B) else([],B)
def ae0(t:Int):List Int×Bool:=if t=15 then([t,119,132,105],B) else if t=16 then([t,132],B) else([],B)
def ae1(t:Int):List Int×Bool:=if t=47 then([t,119,46,119,107,132],B) else([104,21,119,132],decide (t=46\/t=21))
def ae2(t:Int):List Int×Bool:=if t=46 then([t,119],B) else([],B)
def ae3(t:Int):List Int×Bool:=if fH t=B then([124],B) else([],B)
def ae4(t:Int):List Int×Bool:=if t=46 then([t,1],B) else([],B)
def ae5(t:Int):List Int×Bool:=if t=48 then([t,1,110],B) else if t=44 then([t,119,45,110],B) else if t=40 then([t,123,41,111],B) else if t=46 then([t,113],B) else if t=47 then([t,124],B) else([],S)
def ae6(t:Int):List Int×Bool:=if t=48 then([t,1,110],B) else if t=44 then([t,119,45,110],B) else if t=40 then([t,123,41,111],B) else([],B)
def ae7(t:Int):List Int×Bool:=if t=48 then([t,1,110],B) else if t=44 then([t,119,45,110],B) else if t=40 then([t,123,41,111],B) else([],S)
def Ic(t:Int):List Int×Bool:=if t=1 then([t,114],B) else if t=40 then([t,119,41,115],B) else([],S)
def Id(t:Int):List Int×Bool:=if t=48 then([t,1,114],B) else if t=44 then([t,119,45,114],B) else if t=40 then([t,123,41,115],B) else if t=46 then([t,113],B) else if t=47 then([t,124],B) else([],S)
def ac1(t:Int):List Int×Bool:=if t=48 then([t,1,114],B) else if t=44 then([t,119,45,114],B) else if t=40 then([t,123,41,115],B) else([],S)
def ae8(t:Int):List Int×Bool:=if t=1 then([t,117],B) else if t=40 then([t,119,41,117],B) else([],S)
def ae9(t:Int):List Int×Bool:=if t=48 then([t,1,117],B) else if t=44 then([t,119,45,117],B) else if t=40 then([t,123,41,118],B) else([],S)
def afa(t:Int):List Int×Bool:=if t=48 then([t,1,117],B) else if t=44 then([t,119,45,117],B) else if t=40 then([t,123,41,118],B) else([],B)
def afb(t:Int):List Int×Bool:=([120,121],fH t)
def agk(t:Int):List Int×Bool:=Ib t
def afc(t:Int):List Int×Bool:=if qd t=B then([t,119],B) else([],B)
def afd(t:Int):List Int×Bool:=(pa t 122 122,B)
def aap(t:Int):List Int×Bool:=if fH t=B then([124],B) else([],B)
def afe(t:Int):List Int×Bool:=([119,125],fH t)
def aff(t:Int):List Int×Bool:=if t=46 then([t,119,125],B) else([],B)
def Ie(t:Int):List Int×Bool:=if t=1 then([t,127],B) else if t=49 then([t],B) else([],B)
def aaq(t:Int):List Int×Bool:=if t=46 then([t,128],B) else([],B)
def If(t:Int):List Int×Bool:=if t=1 then([t,127],B) else if t=49 then([t],B) else([],S)
def afg(t:Int):List Int×Bool:=if fH t=B then([131,130],B) else if t=48 then([131,130],B) else if t=44 then([131,130],B) else([],B)
def afh(t:Int):List Int×Bool:=if t=46 then([t,129],B) else([],B)
def afi(t:Int):List Int×Bool:=if t=48 then([t,1,47,119],B) else if t=44 then([t,119,45,47,119],B) else([119],fH t)
def ac2(t:Int):List Int×Bool:=([42,100,43],decide (t=42))
def afj(t:Int):List Int×Bool:=([40,126,41,132],decide (t=40))
def xE(s t:Int):List Int×Bool:=
 if s=100 then ac0 t else if s=101 then aeJ t else if s=102 then aeK t else if s=103 then aeL t else if s=104 then aao t else if s=105 then ae0 t else if s=106 then ae1 t else if s=107 then ae2 t else if s=108 then ae3 t else if s=109 then ae4 t else if s=110 then ae5 t else if s=111 then ae6 t else if s=112 then ae7 t else if s=113 then Ic t else if s=114 then Id t else if s=115 then ac1 t else if s=116 then ae8 t else if s=117 then ae9 t else if s=118 then afa t else if s=119 then afb t else if s=120 then agk t else if s=121 then afc t else if s=122 then afd t else if s=123 then aap t else if s=124 then afe t else if s=125 then aff t else if s=126 then Ie t else if s=127 then aaq t else if s=128 then If t else if s=129 then afg t else if s=130 then afh t else if s=131 then afi t else if s=132 then ac2 t else afj t
end Go.Proofs.YtkdijoogonigpaaGreatDoor
namespace Go.Proofs.YtkdijoogonigpaaGreatDoor
structure Nd where
 k:Int
 f:Int
 t:Int
 l:Int
 op:Int
 n:Int
 x:ByteArray
 nm:List ByteArray
 ks:List Int
def cj(e:G)(v:J)(l:List ByteArray):Prop:=
 (l=[]/\∃a b,v= K a 0 b)\/∃a b,v= K (A a) l.length b/\∀c d,l[c]?=A d->e.cell? (a.add c)=A (C d)
def aJ(e:G)(v:J)(l:List Int):Prop:=
 (l=[]/\∃a b,v= K a 0 b)\/∃a b,v= K (A a) l.length b/\∀c d,l[c]?=A d->e.cell? (a.add c)=A (E F d)
structure C3 (W:G) (a:Addr) (N:Nd) (vn vk:J):Prop where
 c0:W.cell? a=A (.int .i64 N.k)
 c1:W.cell? ⟨a.block,a.off+1,I⟩=A (.int .i64 N.f)
 c2:W.cell? ⟨a.block,a.off+2,I⟩=A (.int .i64 N.t)
 c3:W.cell? ⟨a.block,a.off+3,I⟩=A (.int .i64 N.l)
 c4:W.cell? ⟨a.block,a.off+4,I⟩=A (.int .i64 N.op)
 c5:W.cell? ⟨a.block,a.off+5,I⟩=A (.int .i64 N.n)
 c6:W.cell? ⟨a.block,a.off+6,I⟩=A (.string N.x)
 c7:W.cell? ⟨a.block,a.off+7,I⟩=A vn
 c8:W.cell? ⟨a.block,a.off+8,I⟩=A vk
 hn:cj W vn N.nm
 hk:aJ W vk N.ks
def bI(e:G)(v:J)(ns:List Nd):Prop:=
 (ns=[]/\∃a b,v= K a 0 b)\/∃a b,v= K (A a) ns.length b/\∀d c,ns[d]?=A c->∃g f,C3 e (a.add (d*9)) c g f
theorem ui{b:G}{a:Addr}{v:J}(c:b.cell? a=A v):a.block<b.heap.size:=by
 unfold World.cell? at c;rcases be a.block b.heap.size with g|g
 ·exact g
 ·rw[qx g]at c;simp at c
theorem bm{b c:G}(e:R b.heap.size b c){a:Addr}{v:J}(d:b.cell? a=A v):c.cell? a=A v:=by
 rw[<-d];unfold World.cell?;rw[e.block _ (ui d)]
theorem cj.below{a c:G}{v:J}{l:List ByteArray}(b:cj a v l)(h:R a.heap.size a c):cj c v l:=by
 rcases b with b|⟨d,e,f,g⟩
 ·exact .inl b
 ·exact .inr ⟨d,e,f,fun j k i=>bm h (g j k i)⟩
theorem aJ.below{a c:G}{v:J}{l:List Int}(b:aJ a v l)(h:R a.heap.size a c):aJ c v l:=by
 rcases b with b|⟨d,e,f,g⟩
 ·exact .inl b
 ·exact .inr ⟨d,e,f,fun j k i=>bm h (g j k i)⟩
theorem C3.below{d e:G}{a:Addr}{N:Nd}{vn vk:J}(b:C3 d a N vn vk)(c:R d.heap.size d e):C3 e a N vn vk:=
 ⟨bm c b.c0,bm c b.c1,bm c b.c2,bm c b.c3,bm c b.c4,bm c b.c5,bm c b.c6,bm c b.c7,bm c b.c8,b.hn.below c,b.hk.below c⟩
theorem bI.below{a c:G}{v:J}{ns:List Nd}(b:bI a v ns)(k:R a.heap.size a c):bI c v ns:=by
 rcases b with b|⟨e,f,h,i⟩
 ·exact .inl b
 ·exact .inr ⟨e,f,h,fun l d j=>by obtain⟨n,m,g⟩:=i l d j;exact⟨n,m,g.below k⟩⟩
theorem cj.form{d:G}{v:J}{l:List ByteArray}(b:cj d v l):∃a c,v= K a l.length c:=by
 rcases b with⟨rfl,a,c,b⟩|⟨a,c,e,f⟩
 ·exact⟨a,c,b⟩
 ·exact⟨_,_,e⟩
theorem aJ.form{d:G}{v:J}{l:List Int}(b:aJ d v l):∃a c,v= K a l.length c:=by
 rcases b with⟨rfl,a,c,b⟩|⟨a,c,e,f⟩
 ·exact⟨a,c,b⟩
 ·exact⟨_,_,e⟩
theorem bI.form{d:G}{v:J}{l:List Nd}(b:bI d v l):∃a c,v= K a l.length c:=by
 rcases b with⟨rfl,a,c,b⟩|⟨a,c,e,f⟩
 ·exact⟨a,c,b⟩
 ·exact⟨_,_,e⟩
theorem cj.get{d:G}{a:Option Addr}{n c:Nat}{l:List ByteArray}(g:cj d (K a n c) l){k:Nat}{s:ByteArray}(e:l[k]?=A s):∃b,a=A b/\d.cell? (b.add k)=A (C s):=by
 rcases g with⟨rfl,_⟩|⟨b,i,f,h⟩
 ·simp at e
 ·cases f;exact⟨b,rfl,h k s e⟩
theorem aJ.get{d:G}{a:Option Addr}{n c:Nat}{l:List Int}(g:aJ d (K a n c) l){k:Nat}{s:Int}(e:l[k]?=A s):∃b,a=A b/\d.cell? (b.add k)=A (E F s):=by
 rcases g with⟨rfl,_⟩|⟨b,i,f,h⟩
 ·simp at e
 ·cases f;exact⟨b,rfl,h k s e⟩
theorem bI.get{d:G}{a:Option Addr}{n c:Nat}{l:List Nd}(g:bI d (K a n c) l){k:Nat}{N:Nd}(e:l[k]?=A N):∃b,a=A b/\∃vn vk,C3 d (b.add (k*9)) N vn vk:=by
 rcases g with⟨rfl,_⟩|⟨b,i,f,h⟩
 ·simp at e
 ·cases f;exact⟨b,rfl,h k N e⟩
theorem ei{w b:G}{base e size:Nat}{v:J}{n:Nat}{c:List J}(d:w.ownsRow base e size v n c)(a:R w.heap.size w b):b.ownsRow base e size v n c:=
 d.kept (row:=I) ⟨a.os,a.tape,a.output,a.size,fun g f _=>a.block g f⟩ (by cases v.ownBlock<;>simp)
theorem uF{w:G}{base b e size:Nat}{v:J}{n:Nat}{c:List J}(h:w.ownsRow base e size v n c)(j:b<=base):w.ownsRow b e size v n c:=by
 obtain⟨i,a⟩:=h;refine⟨i,?_⟩;rcases a with a|⟨g,d,f,l,k,m⟩
 ·exact .inl a
 ·exact .inr ⟨g,d,f,l,bA j k,m⟩
theorem eA{α:Type}{l:List α}{n k:Nat}(b:l.length=n)(a:k<n):∃s,l[k]?=A s:=⟨l[k]'(by omega),aF _⟩
theorem C7{b:Nat}{a:G}{t:Y}{fr:Nat×Nat}{c d e f g h:J}(i:a.heap[b]?=A (.cells #[c,d,e,f,g,h] t fr)):a.cell? ⟨b,0,I⟩=A c/\a.cell? ⟨b,1,I⟩=A d/\a.cell? ⟨b,2,I⟩=A e/\a.cell? ⟨b,3,I⟩=A f/\a.cell? ⟨b,4,I⟩=A g/\a.cell? ⟨b,5,I⟩=A h:=by
 refine⟨?_,?_,?_,?_,?_,?_⟩<;>(rw[ay _ _ _ _ _ _ i];rfl)
theorem uj:(Tryz.prog.info? 3).map (fun i=>(i.zero,i.size,i.bytes))=A (A (E F 0),1,8):=by kernel_rfl
theorem A6{e:G}{base a n c:Nat}{l:List ByteArray}(h:e.ownsRow base 9 1 (K (A ⟨a,0,I⟩) n c) n (l.map o))(g:l.length=n):cj e (K (A ⟨a,0,I⟩) n c) l:=by
 subst g;refine .inr ⟨⟨a,0,I⟩,c,rfl,fun b j d=>?_⟩;have i:b<l.length:=by rcases be b l.length with h|h;exact h;rw[dL h]at d;cases d
 have f:(⟨a,0,I⟩:Addr).add b=⟨a,b,I⟩:=by unfold Addr.add;split<;>simp_all
 rw[f,h.cellAt b (by omega),dj,d];rfl
theorem A7{e:G}{base a n c:Nat}{l:List Int}(h:e.ownsRow base 3 1 (K (A ⟨a,0,I⟩) n c) n (l.map (q F)))(g:l.length=n):aJ e (K (A ⟨a,0,I⟩) n c) l:=by
 subst g;refine .inr ⟨⟨a,0,I⟩,c,rfl,fun b j d=>?_⟩;have i:b<l.length:=by rcases be b l.length with h|h;exact h;rw[dL h]at d;cases d
 have f:(⟨a,0,I⟩:Addr).add b=⟨a,b,I⟩:=by unfold Addr.add;split<;>simp_all
 rw[f,h.cellAt b (by omega),dj,d];rfl
def cE(N:Nd)(vn vk:J):J:= .agg #[E F N.k,E F N.f,E F N.t,E F N.l,E F N.op,E F N.n,C N.x,vn,vk]
def cw(b:Nat)(a:G)(t:Y)(N:Nd)(vn vk:J):Prop:=
 a.heap[b]?=A (.cells #[E F N.k,E F N.f,E F N.t,E F N.l,E F N.op,E F N.n,C N.x,vn,vk] t (0,0))
theorem aj{b:Nat}{a:G}{t:Y}{N:Nd}{vn vk:J}(c:cw b a t N vn vk):
  a.cell? ⟨b,0,I⟩=A (E F N.k)/\a.cell? ⟨b,1,I⟩=A (E F N.f)/\a.cell? ⟨b,2,I⟩=A (E F N.t)/\a.cell? ⟨b,3,I⟩=A (E F N.l)/\a.cell? ⟨b,4,I⟩=A (E F N.op)/\a.cell? ⟨b,5,I⟩=A (E F N.n)/\a.cell? ⟨b,6,I⟩=A (C N.x)/\a.cell? ⟨b,7,I⟩=A vn/\a.cell? ⟨b,8,I⟩=A vk/\(∀j,a.frozen? ⟨b,j,I⟩=S):=by
 unfold cw at c;exact⟨by rw[ay _ _ _ _ _ _ c];rfl,by rw[ay _ _ _ _ _ _ c];rfl,by rw[ay _ _ _ _ _ _ c];rfl,by rw[ay _ _ _ _ _ _ c];rfl,by rw[ay _ _ _ _ _ _ c];rfl,by rw[ay _ _ _ _ _ _ c];rfl,by rw[ay _ _ _ _ _ _ c];rfl,by rw[ay _ _ _ _ _ _ c];rfl,by rw[ay _ _ _ _ _ _ c];rfl,fun j=>dp _ _ _ _ _ c⟩
def zNd:Nd:=⟨0,0,0,0,0,0,⟨#[]⟩,[],[]⟩
theorem cw.below{b:Nat}{a c:G}{t:Y}{N:Nd}{vn vk:J}(d:cw b a t N vn vk)(e:R a.heap.size a c):cw b c t N vn vk:=(e.block _ (au d)).trans d
end Go.Proofs.YtkdijoogonigpaaGreatDoor
