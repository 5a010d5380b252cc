import Derived.Shelf.Small.Strs
import Derived.Shelf.Small.Wraps
import Derived.Shelf.Strings.BuilderK
import Derived.Shelf.Strconv.Itoa3
import Derived.Shelf.Strconv.ErrVarParseInt
import Derived.Shelf.Pu.ErrVarParseUint
import Derived.Shelf.Strings.Fields
import Derived.Shelf.Slices.Empties2
import Derived.ProofKit
import Derived.OneCell
import Derived.RangeFuncBox
import Derived.Deep.RegionHeld3
import Derived.Test.YtbkolnpplhbdmaaGreatDoorHPl01
import Derived.Shelf.Unicode.Latin
import Derived.Shelf.Strings.Repeat
import Derived.Shelf.Unicode.Is16White
import Derived.Shelf.Unicode.Is16Any
import Derived.Lib.Join
import Derived.Sort.LoopGhostIn
set_option linter.all false
set_option maxRecDepth 100000
set_option maxHeartbeats 3200000
open Go.Proofs.Tryz
open Option renaming some->M,none->Q
open Go.Proofs.Tryz renaming prog->O,sizeOf3->Ax,isAgg3->A0
open Go.Value renaming string->R,pointer->S,int->X,slice->Z,tuple->A5,nilIface->Bc,string->B0,iface->B1
open Go.Ending renaming returned->U
open Go renaming World->V,Value->Ak,Calls->A1,TypeId->Bn
open Go.IntKind renaming i64->Y
open Go.Shelf renaming Ren->Ad
open Go.RowKit renaming Below->A2
open Go.Obj renaming cells->A3
open Go.Lib renaming repeatL->A9,hasPrefix->Br
open Bool renaming false->Bk
namespace Go.Proofs
open Go.Shelf
def Tryz.lays103_ren:Ad:=⟨λ|103=>216|210=>238|206=>98|n=>n,λ|9=>9|4=>4|24=>235|3=>3|n=>n,λ|n=>n⟩
def Tryz.lays103:Go.Proofs.Lays.n103 O Tryz.lays103_ren:={
 mixed:=by kernel_rfl
 f103:=Tryz.func216.trans (congrArg M (by kernel_rfl))
 f206:=Tryz.func98.trans (congrArg M (by kernel_rfl))
 f210:=Tryz.func238.trans (congrArg M (by kernel_rfl))
 t3:=underlying3
 a3:=A0
 z3:=Ax
 v3:=zeroValue3
 t4:=underlying4
 a4:=isAgg4
 z4:=sizeOf4
 v4:=zeroValue4
 t9:=underlying9
 a9:=isAgg9
 z9:=sizeOf9
 v9:=zeroValue9
 t24:=underlying235
 a24:=isAgg235
 z24:=sizeOf235
 v24:=zeroValue235}
open Go.RowKit in
def Tryz.strings_CutPrefix(s p:ByteArray)(w:V):
  A1 O 216 #[R s,R p] w λe a=>e= U (A5 #[R ⟨(Lib.trimPrefix s.data.toList p.data.toList).toArray⟩,.bool (Br s.data.toList p.data.toList)])/\a=w:=Any.strings_CutPrefix Tryz.lays103 s p w
def Tryz.lays104_ren:Ad:=⟨λ|104=>231|211=>252|207=>265|n=>n,λ|9=>9|4=>4|24=>235|3=>3|n=>n,λ|n=>n⟩
def Tryz.lays104:Go.Proofs.Lays.n104 O Tryz.lays104_ren:={
 mixed:=by kernel_rfl
 f104:=Tryz.func231.trans (congrArg M (by kernel_rfl))
 f207:=Tryz.func265.trans (congrArg M (by kernel_rfl))
 f211:=Tryz.func252.trans (congrArg M (by kernel_rfl))
 t3:=underlying3
 a3:=A0
 z3:=Ax
 v3:=zeroValue3
 t4:=underlying4
 a4:=isAgg4
 z4:=sizeOf4
 v4:=zeroValue4
 t9:=underlying9
 a9:=isAgg9
 z9:=sizeOf9
 v9:=zeroValue9
 t24:=underlying235
 a24:=isAgg235
 z24:=sizeOf235
 v24:=zeroValue235}
open Go.RowKit in
def Tryz.strings_CutSuffix(s p:ByteArray)(w:V)(a:s.size<=9223372036854775807):
  A1 O 231 #[R s,R p] w λe b=>e= U (A5 #[R ⟨(Lib.trimSuffix s.data.toList p.data.toList).toArray⟩,.bool (Lib.hasSuffix s.data.toList p.data.toList)])/\b=w:=Any.strings_CutSuffix Tryz.lays104 s p w a
def Tryz.laysM316_ren:Ad:=⟨λ|316=>213|n=>n,λ|9=>9|3=>3|4=>4|37=>22|0=>0|127=>261|5=>5|n=>n,λ|n=>n⟩
def Tryz.laysM316:Go.Proofs.LaysM.n316 O Tryz.laysM316_ren:={
 mixed:=by kernel_rfl
 f316:=Tryz.func213.trans (congrArg M (by kernel_rfl))
 t0:=underlying0
 a0:=isAgg0
 z0:=sizeOf0
 v0:=zeroValue0
 t3:=underlying3
 a3:=A0
 z3:=Ax
 v3:=zeroValue3
 t4:=underlying4
 a4:=isAgg4
 z4:=sizeOf4
 v4:=zeroValue4
 t9:=underlying9
 a9:=isAgg9
 z9:=sizeOf9
 v9:=zeroValue9
 t37:=underlying22
 a37:=isAgg22
 z37:=sizeOf22
 v37:=zeroValue22
 t127:=underlying261
 a127:=isAgg261
 z127:=sizeOf261
 v127:=zeroValue261
 t5:=underlying5
 a5:=isAgg5
 z5:=sizeOf5
 v5:=zeroValue5
 i0:=by kernel_rfl
 i3:=by kernel_rfl
 i4:=by kernel_rfl
 i5:=by kernel_rfl
 i9:=by kernel_rfl
 i37:=by kernel_rfl
 i127:=by kernel_rfl}
open Go.RowKit in
def Tryz.stringslite_Clone(s:ByteArray)(w:V)(a:s.size<=281474976710656):
  A1 O 213 #[R s] w λe b=>e= U (R s)/\A2 w.heap.size w b:=Any.stringslite_Clone Tryz.laysM316 s w a
def Tryz.lays321_ren:Ad:=⟨λ|321=>254|n=>n,λ|5=>5|n=>n,λ|n=>n⟩
def Tryz.lays321:Go.Proofs.Lays.n321 O Tryz.lays321_ren:={
 mixed:=by kernel_rfl
 f321:=Tryz.func254.trans (congrArg M (by kernel_rfl))
 t5:=underlying5
 a5:=isAgg5
 z5:=sizeOf5
 v5:=zeroValue5}
open Go.RowKit in
def Tryz.internal_strconv_lower(c:Int)(w:V):
  A1 O 254 #[X .u8 c] w λe a=>e= U (X .u8 (bits .or .u8 c 32))/\a=w:=Any.internal_strconv_lower Tryz.lays321 c w
def Tryz.laysC174_ren:Ad:=⟨λ|174=>218|247=>241|245=>240|287=>239|279=>256|280=>257|281=>258|282=>259|321=>254|322=>255|316=>213|171=>267|205=>266|243=>271|246=>272|283=>273|284=>274|285=>275|286=>276|129=>278|317=>277|318=>279|319=>280|320=>281|337=>282|338=>283|n=>n,λ|9=>9|3=>3|2=>2|75=>244|85=>247|4=>4|167=>273|5=>5|53=>37|175=>245|46=>214|168=>275|37=>22|0=>0|210=>287|21=>21|127=>261|145=>302|143=>300|171=>306|173=>309|212=>312|51=>265|20=>20|213=>313|232=>316|233=>317|80=>40|n=>n,λ|15=>6|16=>7|17=>9|18=>10|19=>11|n=>n⟩
def Tryz.laysC174:Go.Proofs.LaysC.n174 O Tryz.laysC174_ren:={
 mixed:=by kernel_rfl
 f129:=Tryz.func278.trans (congrArg M (by kernel_rfl))
 f171:=Tryz.func267.trans (congrArg M (by kernel_rfl))
 f174:=Tryz.func218.trans (congrArg M (by kernel_rfl))
 f205:=Tryz.func266.trans (congrArg M (by kernel_rfl))
 f243:=Tryz.func271.trans (congrArg M (by kernel_rfl))
 f245:=Tryz.func240.trans (congrArg M (by kernel_rfl))
 f246:=Tryz.func272.trans (congrArg M (by kernel_rfl))
 f247:=Tryz.func241.trans (congrArg M (by kernel_rfl))
 f279:=Tryz.func256.trans (congrArg M (by kernel_rfl))
 f280:=Tryz.func257.trans (congrArg M (by kernel_rfl))
 f281:=Tryz.func258.trans (congrArg M (by kernel_rfl))
 f282:=Tryz.func259.trans (congrArg M (by kernel_rfl))
 f283:=Tryz.func273.trans (congrArg M (by kernel_rfl))
 f284:=Tryz.func274.trans (congrArg M (by kernel_rfl))
 f285:=Tryz.func275.trans (congrArg M (by kernel_rfl))
 f286:=Tryz.func276.trans (congrArg M (by kernel_rfl))
 f287:=Tryz.func239.trans (congrArg M (by kernel_rfl))
 f316:=Tryz.func213.trans (congrArg M (by kernel_rfl))
 f317:=Tryz.func277.trans (congrArg M (by kernel_rfl))
 f318:=Tryz.func279.trans (congrArg M (by kernel_rfl))
 f319:=Tryz.func280.trans (congrArg M (by kernel_rfl))
 f320:=Tryz.func281.trans (congrArg M (by kernel_rfl))
 f321:=Tryz.func254.trans (congrArg M (by kernel_rfl))
 f322:=Tryz.func255.trans (congrArg M (by kernel_rfl))
 f337:=Tryz.func282.trans (congrArg M (by kernel_rfl))
 f338:=Tryz.func283.trans (congrArg M (by kernel_rfl))
 t0:=underlying0
 a0:=isAgg0
 z0:=sizeOf0
 v0:=zeroValue0
 t2:=underlying2
 a2:=isAgg2
 z2:=sizeOf2
 v2:=zeroValue2
 t3:=underlying3
 a3:=A0
 z3:=Ax
 v3:=zeroValue3
 t4:=underlying4
 a4:=isAgg4
 z4:=sizeOf4
 v4:=zeroValue4
 t5:=underlying5
 a5:=isAgg5
 z5:=sizeOf5
 v5:=zeroValue5
 t9:=underlying9
 a9:=isAgg9
 z9:=sizeOf9
 v9:=zeroValue9
 t20:=underlying20
 a20:=isAgg20
 z20:=sizeOf20
 v20:=zeroValue20
 t21:=underlying21
 a21:=isAgg21
 z21:=sizeOf21
 v21:=zeroValue21
 t37:=underlying22
 a37:=isAgg22
 z37:=sizeOf22
 v37:=zeroValue22
 t46:=underlying214
 a46:=isAgg214
 z46:=sizeOf214
 v46:=zeroValue214
 t51:=underlying265
 a51:=isAgg265
 z51:=sizeOf265
 v51:=zeroValue265
 t53:=underlying37
 a53:=isAgg37
 z53:=sizeOf37
 v53:=zeroValue37
 t75:=underlying244
 a75:=isAgg244
 z75:=sizeOf244
 v75:=zeroValue244
 t85:=underlying247
 a85:=isAgg247
 z85:=sizeOf247
 v85:=zeroValue247
 t127:=underlying261
 a127:=isAgg261
 z127:=sizeOf261
 v127:=zeroValue261
 t143:=underlying300
 a143:=isAgg300
 z143:=sizeOf300
 v143:=zeroValue300
 t145:=underlying302
 a145:=isAgg302
 z145:=sizeOf302
 v145:=zeroValue302
 t167:=underlying273
 a167:=isAgg273
 z167:=sizeOf273
 v167:=zeroValue273
 t168:=underlying275
 a168:=isAgg275
 z168:=sizeOf275
 v168:=zeroValue275
 t171:=underlying306
 a171:=isAgg306
 z171:=sizeOf306
 v171:=zeroValue306
 t173:=underlying309
 a173:=isAgg309
 z173:=sizeOf309
 v173:=zeroValue309
 t175:=underlying245
 a175:=isAgg245
 z175:=sizeOf245
 v175:=zeroValue245
 t210:=underlying287
 a210:=isAgg287
 z210:=sizeOf287
 v210:=zeroValue287
 t212:=underlying312
 a212:=isAgg312
 z212:=sizeOf312
 v212:=zeroValue312
 t213:=underlying313
 a213:=isAgg313
 z213:=sizeOf313
 t232:=underlying316
 a232:=isAgg316
 z232:=sizeOf316
 v232:=zeroValue316
 t233:=underlying317
 a233:=isAgg317
 z233:=sizeOf317
 v233:=zeroValue317
 g15:=by kernel_rfl
 g16:=by kernel_rfl
 g17:=by kernel_rfl
 g18:=by kernel_rfl
 g19:=by kernel_rfl
 t80:=underlying40
 a80:=isAgg40
 z80:=sizeOf40
 v80:=zeroValue40
 i0:=by kernel_rfl
 i2:=by kernel_rfl
 i3:=by kernel_rfl
 i4:=by kernel_rfl
 i5:=by kernel_rfl
 i9:=by kernel_rfl
 i20:=by kernel_rfl
 i21:=by kernel_rfl
 i37:=by kernel_rfl
 i46:=by kernel_rfl
 i51:=by kernel_rfl
 i53:=by kernel_rfl
 i75:=by kernel_rfl
 i80:=by kernel_rfl
 i85:=by kernel_rfl
 i127:=by kernel_rfl
 i143:=by kernel_rfl
 i145:=by kernel_rfl
 i167:=by kernel_rfl
 i168:=by kernel_rfl
 i171:=by kernel_rfl
 i173:=by kernel_rfl
 i175:=by kernel_rfl
 i210:=by kernel_rfl
 i212:=by kernel_rfl
 i232:=by kernel_rfl
 i233:=by kernel_rfl
 m15:=by kernel_rfl
 m16:=by kernel_rfl
 m17:=by kernel_rfl
 m18:=by kernel_rfl
 m19:=by kernel_rfl
 c0:=by kernel_rfl
 c2:=by kernel_rfl
 c3:=by kernel_rfl
 c4:=by kernel_rfl
 c5:=by kernel_rfl
 c9:=by kernel_rfl
 c20:=by kernel_rfl
 c21:=by kernel_rfl
 c37:=by kernel_rfl
 c46:=by kernel_rfl
 c51:=by kernel_rfl
 c53:=by kernel_rfl
 c75:=by kernel_rfl
 c80:=by kernel_rfl
 c85:=by kernel_rfl
 c127:=by kernel_rfl
 c143:=by kernel_rfl
 c145:=by kernel_rfl
 c167:=by kernel_rfl
 c168:=by kernel_rfl
 c171:=by kernel_rfl
 c173:=by kernel_rfl
 c175:=by kernel_rfl
 c210:=by kernel_rfl
 c212:=by kernel_rfl
 c213:=by kernel_rfl
 c232:=by kernel_rfl
 c233:=by kernel_rfl}
open Go.RowKit in
def Tryz.strconv_ParseInt_10_at64_ok(s:ByteArray)(b:s.size<=9223372036854775806)(v:Int)(h:Lib.parseIntB 64 s.data.toList= .ok v)(w:V):
  A1 O 218 #[R s,X Y 10,X Y 64] w λe a=>e= U (A5 #[X Y v,Bc])/\(a=w\/∃t,a=Lib.bytesWorld w 5 t):=Any.strconv_ParseInt_10_at64_ok Tryz.laysC174 s b v h w
open Go.RowKit in
def Tryz.strconv_ParseInt_10_at64_syntax(s:ByteArray)(d:s.size<=281474976710656)(h:Lib.parseIntB 64 s.data.toList= .«syntax»)(a:Ak)(w:V)(f:w.cell? ⟨6,0,Q⟩=M a)(c:a= Bc\/∃i g,a= B1 i g):
  A1 O 218 #[R s,X Y 10,X Y 64] w λe b=>∃N,e= U (A5 #[X Y (0),B1 275 (S (M ⟨N,0,Q⟩))])/\w.heap.size<=N/\b.heap[N]?=M (A3 #[R ⟨#[80,97,114,115,101,73,110,116]⟩,R s,a] 287 (0,0))/\A2 w.heap.size w b:=Any.strconv_ParseInt_10_at64_syntax Tryz.laysC174 s d h a w f c
open Go.RowKit in
def Tryz.strconv_ParseInt_10_at64_range(s:ByteArray)(d:s.size<=281474976710656)(h:Lib.parseIntB 64 s.data.toList= .range)(a:Ak)(w:V)(f:w.cell? ⟨7,0,Q⟩=M a)(c:a= Bc\/∃i g,a= B1 i g):
  A1 O 218 #[R s,X Y 10,X Y 64] w λe b=>∃N,e= U (A5 #[X Y (Lib.intSat 64 s.data.toList),B1 275 (S (M ⟨N,0,Q⟩))])/\w.heap.size<=N/\b.heap[N]?=M (A3 #[R ⟨#[80,97,114,115,101,73,110,116]⟩,R s,a] 287 (0,0))/\A2 w.heap.size w b:=Any.strconv_ParseInt_10_at64_range Tryz.laysC174 s d h a w f c
def Tryz.lays99_ren:Ad:=⟨λ|99=>51|206=>98|n=>n,λ|9=>9|4=>4|3=>3|n=>n,λ|n=>n⟩
def Tryz.lays99:Go.Proofs.Lays.n99 O Tryz.lays99_ren:={
 mixed:=by kernel_rfl
 f99:=Tryz.func51.trans (congrArg M (by kernel_rfl))
 f206:=Tryz.func98.trans (congrArg M (by kernel_rfl))
 t3:=underlying3
 a3:=A0
 z3:=Ax
 v3:=zeroValue3
 t4:=underlying4
 a4:=isAgg4
 z4:=sizeOf4
 v4:=zeroValue4
 t9:=underlying9
 a9:=isAgg9
 z9:=sizeOf9
 v9:=zeroValue9}
open Go.RowKit Go.Lib in
def Tryz.strings_HasPrefix(s p:ByteArray)(w:V):
  A1 O 51 #[R s,R p] w λe a=>e= U (.bool (Br s.data.toList p.data.toList))/\a=w:=Any.strings_HasPrefix Tryz.lays99 s p w
def Tryz.lays157_ren:Ad:=⟨λ|157=>230|229=>250|199=>251|261=>264|311=>269|312=>270|n=>n,λ|9=>9|31=>31|3=>3|5=>5|4=>4|119=>270|0=>0|40=>272|152=>281|21=>21|154=>283|51=>265|141=>285|196=>292|193=>289|198=>295|49=>293|194=>290|201=>298|226=>303|46=>214|227=>304|n=>n,λ|0=>4|6=>5|n=>n⟩
def Tryz.lays157:Go.Proofs.Lays.n157 O Tryz.lays157_ren:={
 mixed:=by kernel_rfl
 f157:=Tryz.func230.trans (congrArg M (by kernel_rfl))
 f199:=Tryz.func251.trans (congrArg M (by kernel_rfl))
 f229:=Tryz.func250.trans (congrArg M (by kernel_rfl))
 f261:=Tryz.func264.trans (congrArg M (by kernel_rfl))
 f311:=Tryz.func269.trans (congrArg M (by kernel_rfl))
 f312:=Tryz.func270.trans (congrArg M (by kernel_rfl))
 t0:=underlying0
 a0:=isAgg0
 z0:=sizeOf0
 v0:=zeroValue0
 t3:=underlying3
 a3:=A0
 z3:=Ax
 v3:=zeroValue3
 t4:=underlying4
 a4:=isAgg4
 z4:=sizeOf4
 v4:=zeroValue4
 t5:=underlying5
 a5:=isAgg5
 z5:=sizeOf5
 v5:=zeroValue5
 t9:=underlying9
 a9:=isAgg9
 z9:=sizeOf9
 v9:=zeroValue9
 t21:=underlying21
 a21:=isAgg21
 z21:=sizeOf21
 v21:=zeroValue21
 t31:=underlying31
 a31:=isAgg31
 z31:=sizeOf31
 v31:=zeroValue31
 t40:=underlying272
 a40:=isAgg272
 z40:=sizeOf272
 v40:=zeroValue272
 t46:=underlying214
 a46:=isAgg214
 z46:=sizeOf214
 v46:=zeroValue214
 t49:=underlying293
 a49:=isAgg293
 z49:=sizeOf293
 v49:=zeroValue293
 t51:=underlying265
 a51:=isAgg265
 z51:=sizeOf265
 v51:=zeroValue265
 t119:=underlying270
 a119:=isAgg270
 z119:=sizeOf270
 t141:=underlying285
 a141:=isAgg285
 z141:=sizeOf285
 v141:=zeroValue285
 t152:=underlying281
 a152:=isAgg281
 z152:=sizeOf281
 v152:=zeroValue281
 t154:=underlying283
 a154:=isAgg283
 z154:=sizeOf283
 v154:=zeroValue283
 t193:=underlying289
 a193:=isAgg289
 z193:=sizeOf289
 v193:=zeroValue289
 t194:=underlying290
 a194:=isAgg290
 z194:=sizeOf290
 v194:=zeroValue290
 t196:=underlying292
 a196:=isAgg292
 z196:=sizeOf292
 v196:=zeroValue292
 t198:=underlying295
 a198:=isAgg295
 z198:=sizeOf295
 v198:=zeroValue295
 t201:=underlying298
 a201:=isAgg298
 z201:=sizeOf298
 v201:=zeroValue298
 t226:=underlying303
 a226:=isAgg303
 z226:=sizeOf303
 v226:=zeroValue303
 t227:=underlying304
 a227:=isAgg304
 z227:=sizeOf304
 v227:=zeroValue304
 g0:=by kernel_rfl
 g6:=by kernel_rfl}
open Go.RowKit Go.Lib in
def Tryz.strings_Fields(s:ByteArray)(w:V)(c:s.size<4294967281)(a:∀(j:Nat) b,s.data.toList[j]?=M b->b.toNat<128)(d:Lib.TabIs O w "strings.asciiSpace" .u8 Lib.asciiSpaceTab):
  A1 O 230 #[R s] w λe f=>
   e= U (Z (M ⟨w.heap.size,0,Q⟩) (Lib.fields s.data.toList).length (Lib.fields s.data.toList).length)/\f=w.alloc (A3 ((Lib.fields s.data.toList).map λl=>B0 ⟨l.toArray⟩).toArray 9):=Any.strings_Fields Tryz.lays157 (by kernel_rfl) (by kernel_rfl) s w c a d
end Go.Proofs
namespace Go.Proofs.YtbkolnpplhbdmaaGreatDoor
open Go.RowKit
variable{W W':World}{a:Addr}{b base c k n:Nat}{l:List ByteArray}{t:TypeId}{v vk vn:Value}
structure Nd where
 k:Int
 f:Int
 t:Int
 l:Int
 op:Int
 n:Int
 x:ByteArray
 nm:List ByteArray
 ks:List Int
def dz(W:V)(v:Ak)(l:List ByteArray):Prop:=
 (l=[]/\∃a c,v= Z a 0 c)\/∃a c,v= Z (M a) l.length c/\∀b d,l[b]?=M d->W.cell? (a.add b)=M (R d)
def dH(W:V)(v:Ak)(l:List Int):Prop:=
 (l=[]/\∃a c,v= Z a 0 c)\/∃a c,v= Z (M a) l.length c/\∀b d,l[b]?=M d->W.cell? (a.add b)=M (X Y d)
structure aed (W:V) (a:Addr) (N:Nd) (vn vk:Ak):Prop where
 c0:W.cell? a=M (.int .i64 N.k)
 c1:W.cell? ⟨a.block,a.off+1,Q⟩=M (.int .i64 N.f)
 c2:W.cell? ⟨a.block,a.off+2,Q⟩=M (.int .i64 N.t)
 c3:W.cell? ⟨a.block,a.off+3,Q⟩=M (.int .i64 N.l)
 c4:W.cell? ⟨a.block,a.off+4,Q⟩=M (.int .i64 N.op)
 c5:W.cell? ⟨a.block,a.off+5,Q⟩=M (.int .i64 N.n)
 c6:W.cell? ⟨a.block,a.off+6,Q⟩=M (.string N.x)
 c7:W.cell? ⟨a.block,a.off+7,Q⟩=M vn
 c8:W.cell? ⟨a.block,a.off+8,Q⟩=M vk
 hn:dz W vn N.nm
 hk:dH W vk N.ks
def gg(W:V)(v:Ak)(ns:List Nd):Prop:=
 (ns=[]/\∃a c,v= Z a 0 c)\/∃a c,v= Z (M a) ns.length c/\∀d b,ns[d]?=M b->∃vn vk,aed W (a.add (d*9)) b vn vk
def yw(h:W.cell? a=M v):a.block<W.heap.size:=by
 unfold World.cell? at h;rcases bg a.block W.heap.size with g|g
 .exact g
 .rw[yc g]at h;simp at h
def cell_kept(b:A2 W.heap.size W W')(h:W.cell? a=M v):W'.cell? a=M v:=by
 rw[<-h];unfold World.cell?;rw[b.block _ (yw h)]
def dz.below(h:dz W v l)(e:A2 W.heap.size W W'):dz W' v l:=by
 rcases h with h|⟨a,b,c,d⟩
 .exact .inl h
 .exact .inr ⟨a,b,c,λg i f=>cell_kept e (d g i f)⟩
def dH.below{l:List Int}(h:dH W v l)(e:A2 W.heap.size W W'):dH W' v l:=by
 rcases h with h|⟨a,b,c,d⟩
 .exact .inl h
 .exact .inr ⟨a,b,c,λg i f=>cell_kept e (d g i f)⟩
def aed.below{N:Nd}(h:aed W a N vn vk)(b:A2 W.heap.size W W'):aed W' a N vn vk:=
 ⟨cell_kept b h.c0,cell_kept b h.c1,cell_kept b h.c2,cell_kept b h.c3,cell_kept b h.c4,cell_kept b h.c5,cell_kept b h.c6,cell_kept b h.c7,cell_kept b h.c8,h.hn.below b,h.hk.below b⟩
def gg.below{ns:List Nd}(h:gg W v ns)(i:A2 W.heap.size W W'):gg W' v ns:=by
 rcases h with h|⟨b,c,e,f⟩
 .exact .inl h
 .exact .inr ⟨b,c,e,λj a g=>by have⟨l,k,d⟩:=f j a g;exact⟨l,k,d.below i⟩⟩
def dz.form(h:dz W v l):∃a c,v= Z a l.length c:=by
 rcases h with⟨rfl,a,c,h⟩|⟨a,c,b,d⟩
 .exact⟨a,c,h⟩
 .exact⟨_,_,b⟩
def dH.form{l:List Int}(h:dH W v l):∃a c,v= Z a l.length c:=by
 rcases h with⟨rfl,a,c,h⟩|⟨a,c,b,d⟩
 .exact⟨a,c,h⟩
 .exact⟨_,_,b⟩
def gg.form{l:List Nd}(h:gg W v l):∃a c,v= Z a l.length c:=by
 rcases h with⟨rfl,a,c,h⟩|⟨a,c,b,d⟩
 .exact⟨a,c,h⟩
 .exact⟨_,_,b⟩
def dz.get{a:Option Addr}(h:dz W (Z a n c) l){s:ByteArray}(d:l[k]?=M s):∃b,a=M b/\W.cell? (b.add k)=M (R s):=by
 rcases h with⟨rfl,_⟩|⟨b,g,e,f⟩
 .simp at d
 .cases e;exact⟨b,rfl,f k s d⟩
def dH.get{a:Option Addr}{l:List Int}(h:dH W (Z a n c) l){s:Int}(d:l[k]?=M s):∃b,a=M b/\W.cell? (b.add k)=M (X Y s):=by
 rcases h with⟨rfl,_⟩|⟨b,g,e,f⟩
 .simp at d
 .cases e;exact⟨b,rfl,f k s d⟩
def gg.get{a:Option Addr}{l:List Nd}(h:gg W (Z a n c) l){N:Nd}(d:l[k]?=M N):∃b,a=M b/\∃vn vk,aed W (b.add (k*9)) N vn vk:=by
 rcases h with⟨rfl,_⟩|⟨b,g,e,f⟩
 .simp at d
 .cases e;exact⟨b,rfl,f k N d⟩
def dA{w b:V}{e size:Nat}{xs:List Ak}(h:w.ownsRow base e size v n xs)(a:A2 w.heap.size w b):b.ownsRow base e size v n xs:=
 h.kept (row:=Q) ⟨a.os,a.tape,a.output,a.size,λd c _=>a.block d c⟩ (by cases v.ownBlock<;>simp)
def zL{w:V}{b e size:Nat}{xs:List Ak}(h:w.ownsRow base e size v n xs)(i:b<=base):w.ownsRow b e size v n xs:=by
 obtain⟨g,a⟩:=h;refine⟨g,?_⟩;rcases a with a|⟨f,c,d,k,j,l⟩
 .exact .inl a
 .exact .inr ⟨f,c,d,k,bG i j,l⟩
def cJ{α:Type}{l:List α}(a:l.length=n)(h:k<n):∃s,l[k]?=M s:=⟨l[k]'(by omega),aw _⟩
def iw{fr:Nat×Nat}{a c d e f g:Ak}(h:W.heap[b]?=M (A3 #[a,c,d,e,f,g] t fr)):W.cell? ⟨b,0,Q⟩=M a/\W.cell? ⟨b,1,Q⟩=M c/\W.cell? ⟨b,2,Q⟩=M d/\W.cell? ⟨b,3,Q⟩=M e/\W.cell? ⟨b,4,Q⟩=M f/\W.cell? ⟨b,5,Q⟩=M g:=by
 refine⟨?_,?_,?_,?_,?_,?_⟩<;>(rw[aj _ _ _ _ _ _ h];rfl)
def qk{cs:Array Ak}(h:W.heap[b]?=M (A3 cs t (0,0))):W.frozen? ⟨b,0,Q⟩=Bk/\W.frozen? ⟨b,1,Q⟩=Bk/\W.frozen? ⟨b,2,Q⟩=Bk/\W.frozen? ⟨b,3,Q⟩=Bk/\W.frozen? ⟨b,4,Q⟩=Bk/\W.frozen? ⟨b,5,Q⟩=Bk:=
 ⟨cH _ _ _ _ _ h,cH _ _ _ _ _ h,cH _ _ _ _ _ h,cH _ _ _ _ _ h,cH _ _ _ _ _ h,cH _ _ _ _ _ h⟩
def six(W:V)(b:Nat)(a c d e f g:Ak):V:=((((((W.setCell ⟨b,0,Q⟩ a).setCell ⟨b,1,Q⟩ c).setCell ⟨b,2,Q⟩ d).setCell ⟨b,3,Q⟩ e).setCell ⟨b,4,Q⟩ f).setCell ⟨b,5,Q⟩ g)
def Hu{m n o p q r:Ak}(h:W.heap[b]?=M (A3 #[m,n,o,p,q,r] t (0,0)))(c d e f g i:Ak):(six W b c d e f g i).heap[b]?=M (A3 #[c,d,e,f,g,i] t (0,0)):=by
 have a:=λj k {W l}=>bp W b j l t k;simpa [six] using a 5 i (a 4 g (a 3 f (a 2 e (a 1 d (a 0 c h)))))
def J4(h:k≠b)(a c d e f g:Ak):(six W b a c d e f g).heap[k]?=W.heap[k]?:=by
 unfold six;rw[ay _ _ _ _ h,ay _ _ _ _ h,ay _ _ _ _ h,ay _ _ _ _ h,ay _ _ _ _ h,ay _ _ _ _ h]
def rK(w:V):w.drew.heap=w.heap:=rfl
def yx(h:k≠b)(j:Nat)(a c d e f g:Ak):(six W b a c d e f g).drew.cell? ⟨k,j,Q⟩=W.cell? ⟨k,j,Q⟩:=by
 unfold World.cell?;rw[rK,J4 h]
def aee{c:V}(h:A2 base c W)(a:base<=b)(d e f g i j:Ak):A2 base c (six W b d e f g i j):=by
 unfold six;exact(((((h.setCell a _).setCell a _).setCell a _).setCell a _).setCell a _).setCell a _
def Dn(W:V)(b:Nat)(c d e f g h:Ak):W.grownBy (six W b c d e f g h).drew (M b):=by
 have a:=(aee (ah b W) (ag b) c d e f g h).drew;exact⟨a.os,a.tape,a.output,a.size,λl k j=>by rw[rK,J4 (λi=>j (by rw[i]))]⟩
def yy:(Tryz.prog.info? 3).map (λi=>(i.zero,i.size,i.bytes))=M (M (X Y 0),1,8):=by kernel_rfl
def af3{g:Nat}(h:W.ownsRow base 9 1 (Z (M ⟨g,0,Q⟩) n c) n (l.map B0))(e:l.length=n):dz W (Z (M ⟨g,0,Q⟩) n c) l:=by
 subst e;refine .inr ⟨⟨g,0,Q⟩,c,rfl,λa i b=>?_⟩;have f:a<l.length:=by rcases bg a l.length with h|h;exact h;rw[jC h]at b;cases b
 have d:(⟨g,0,Q⟩:Addr).add a=⟨g,a,Q⟩:=by unfold Addr.add;split<;>simp_all
 rw[d,h.cellAt a (by omega),cD,b];rfl
def af4{g:Nat}{l:List Int}(h:W.ownsRow base 3 1 (Z (M ⟨g,0,Q⟩) n c) n (l.map (Value.int Y)))(e:l.length=n):dH W (Z (M ⟨g,0,Q⟩) n c) l:=by
 subst e;refine .inr ⟨⟨g,0,Q⟩,c,rfl,λa i b=>?_⟩;have f:a<l.length:=by rcases bg a l.length with h|h;exact h;rw[jC h]at b;cases b
 have d:(⟨g,0,Q⟩:Addr).add a=⟨g,a,Q⟩:=by unfold Addr.add;split<;>simp_all
 rw[d,h.cellAt a (by omega),cD,b];rfl
def jI(N:Nd)(vn vk:Ak):Ak:= .agg #[X Y N.k,X Y N.f,X Y N.t,X Y N.l,X Y N.op,X Y N.n,R N.x,vn,vk]
def qK(b:Nat)(W:V)(t:Bn)(N:Nd)(vn vk:Ak):Prop:=
 W.heap[b]?=M (A3 #[X Y N.k,X Y N.f,X Y N.t,X Y N.l,X Y N.op,X Y N.n,R N.x,vn,vk] t (0,0))
def bK{N:Nd}(h:qK b W t N vn vk):
  W.cell? ⟨b,0,Q⟩=M (X Y N.k)/\W.cell? ⟨b,1,Q⟩=M (X Y N.f)/\W.cell? ⟨b,2,Q⟩=M (X Y N.t)/\W.cell? ⟨b,3,Q⟩=M (X Y N.l)/\W.cell? ⟨b,4,Q⟩=M (X Y N.op)/\W.cell? ⟨b,5,Q⟩=M (X Y N.n)/\W.cell? ⟨b,6,Q⟩=M (R N.x)/\W.cell? ⟨b,7,Q⟩=M vn/\W.cell? ⟨b,8,Q⟩=M vk/\(∀j,W.frozen? ⟨b,j,Q⟩=Bk):=by
 unfold qK at h;exact⟨by rw[aj _ _ _ _ _ _ h];rfl,by rw[aj _ _ _ _ _ _ h];rfl,by rw[aj _ _ _ _ _ _ h];rfl,by rw[aj _ _ _ _ _ _ h];rfl,by rw[aj _ _ _ _ _ _ h];rfl,by rw[aj _ _ _ _ _ _ h];rfl,by rw[aj _ _ _ _ _ _ h];rfl,by rw[aj _ _ _ _ _ _ h];rfl,by rw[aj _ _ _ _ _ _ h];rfl,λj=>cH _ _ _ _ _ h⟩
def Gk:Nd:=⟨0,0,0,0,0,0,⟨#[]⟩,[],[]⟩
def qK.below{N:Nd}(h:qK b W t N vn vk)(a:cg W W'):qK b W' t N vn vk:=(a.block _ (ai h)).trans h
def ndD:Nd:=⟨0,0,0,0,0,0,ByteArray.empty,[],[]⟩
def ae(ns:List Nd)(i:Int):Nd:=ns.getD i.toNat ndD
end Go.Proofs.YtbkolnpplhbdmaaGreatDoor
namespace Go.Proofs.YtbkolnpplhbdmaaGreatDoor
open Go.Maps Go.WideMaps
variable{W W':World}{a:Addr}{b base c k n:Nat}{l:List ByteArray}{t:TypeId}{v vk vn:Value}
def kqf{a b:Int}(h:a=b)(c:Int)(e:(b==c)=Bk):(a==c)=Bk:=by rw[h];exact e
def kqt{a b:Int}(h:a=b)(c:Int)(e:(b==c)=true):(a==c)=true:=by rw[h];exact e
def kqs{a b:Int}(h:a=b):(a==b)=true:=by rw[h];exact beq_self_eq_true b
abbrev BuF(B b:Nat)(a:List Ak)(w:V):Prop:=Lib.IsBuilderF 256 5 B b a w
abbrev BuA(B b:Nat)(a:List Ak)(w:V):Prop:=Lib.BuilderAtF 256 5 B b (S (M ⟨b,0,Q⟩)) a w
def uc(b:Nat)(w:V)(h:w.cell? ⟨b,0,Q⟩=M (S Q))(d:w.shape? b=M (256,2))(i:w.frozen? ⟨b,0,Q⟩=Bk):
  A1 O 248 #[S (M ⟨b,0,Q⟩)] w λe g=>e= U (A5 #[])/\g=w.setCell ⟨b,0,Q⟩ (S (M ⟨b,0,Q⟩)):=by
 have⟨j,c,f⟩:=Option.map_eq_some_iff.1 (show(Tryz.prog.info? 256).map (·.size)=M 2 by kernel_rfl);have k:=Lib.run_to_unsafe (P:=O) (w:=w) ⟨b,0,Q⟩ underlying254 underlying278 c (by rw[f];decide) d (Nat.zero_lt_succ 1);have l:=Lib.run_from_unsafe (P:=O) (w:=w) ⟨b,0,Q⟩ underlying278 underlying254 c d (by kernel_rfl);have m:∀a,(callFunc 262 #[a]).run O w= .ok (.value a) w:=λa=>by
  rw[acd func262 (by kernel_rfl) (by kernel_rfl) (by kernel_rfl) (e:=Extern.AbiNoEscape.same) (by kernel_rfl),Lib.run_noEscape];rfl
 go_in;go_wp2;go_end0
 exact⟨rfl,rfl⟩
def Do(b:Nat)(w:V)(d:w.cell? ⟨b,0,Q⟩=M (S (M ⟨b,0,Q⟩)))(g:w.shape? b=M (256,2)):
  A1 O 248 #[S (M ⟨b,0,Q⟩)] w λe c=>e= U (A5 #[])/\c=w:=by
 have⟨h,a,f⟩:=Option.map_eq_some_iff.1 (show(Tryz.prog.info? 256).map (·.size)=M 2 by kernel_rfl);have i:=Lib.run_neq_ptr_same (P:=O) w ⟨b,0,Q⟩ underlying254 a;go_in;go_wp2;go_end0
 exact⟨rfl,rfl⟩
def Fw(B b:Nat)(c:List Ak)(w:V)(h:BuF B b c w):
  A1 O 248 #[S (M ⟨b,0,Q⟩)] w λe a=>e= U (A5 #[])/\BuA B b c a/\A2 B w a:=by
 rcases h with h|h
 .refine(uc b w h.cell0 h.shape h.frozen0).mono ?_;rintro e a ⟨rfl,rfl⟩;exact⟨rfl,h.used _,(ah B w).setCell (p:=⟨b,0,Q⟩) h.1 _⟩
 .refine(Do b w h.cell0 h.shape).mono ?_;rintro e a ⟨rfl,rfl⟩;exact⟨rfl,h,ah B _⟩
def BH(B b:Nat)(a:List Ak)(s:ByteArray)(w:V)(h:BuF B b a w)(an:a.length+s.size<=140737488355328)(al:B<=w.heap.size):
  A1 O 227 #[S (M ⟨b,0,Q⟩),R s] w λe t=>e= U (A5 #[X Y s.size,Bc])/\BuA B b (a++Lib.strCells s) t/\A2 B w t:=by
 have⟨G,x,C,E,F⟩:=fh (show(Tryz.prog.info? 5).map (λi=>(i.zero,i.size,i.bytes))=M (M (X .u8 0),1,1) by kernel_rfl);go_in;go_wp2_with (go_at_call 248;refine(Fw B b a _ h).mono ?_);rintro e w1 ⟨rfl,v,m⟩;obtain⟨l,j,f,o,A⟩:=v;have J:w1.cell? ⟨b,1,Q⟩=M j:=by rw[Lib.cell_of_heap f];rfl
 have ap:=m.size;go_wp2_with (at_builtin;refine Lib.wpList_append_own_stringF _ rfl _ _ 22 9 rfl B 5 G underlying22 underlying9 x C E F _ _ _ rfl o s rfl (by unfold maxLen;omega) (by omega) (by omega) ?_);intro I u q n _;have z:=ai f;have d:u.heap[b]?=M (A3 #[S (M ⟨b,0,Q⟩),j] 256 (0,0)):=by
  rw[n.block b z (λe=>A e.symm)];exact f
 have L:u.cell? ⟨b,1,Q⟩=M j:=by rw[Lib.cell_of_heap d];rfl
 have ad:=Lib.frozen_of_heap d 1;obtain⟨k,r,c,rfl⟩:∃k r c,I= Z k r c:=by
  rcases q.2 with⟨g,_⟩|⟨ak,c,K,af,g,_⟩
  .exact⟨_,_,_,g⟩
  .exact⟨_,_,_,g⟩
 go_wp2;go_ret2;refine⟨rfl,?_,?_⟩
 .exact Lib.BuilderAtF.put (T:=256) (e:=5) l d (bs':=a++Lib.strCells s) (by simpa [Lib.strCells_length] using q) (by decide)
 .exact(m.grown n (by omega) (λH y=>(o.lt H y).1)).setCell (p:=⟨b,1,Q⟩) l _
end Go.Proofs.YtbkolnpplhbdmaaGreatDoor
namespace Go.Proofs
open Go.Shelf
def Tryz.lays170_ren:Ad:=⟨λ|170=>228|n=>n,λ|70=>254|3=>3|0=>0|72=>256|37=>22|5=>5|n=>n,λ|n=>n⟩
def Tryz.lays170:Go.Proofs.Lays.n170 O Tryz.lays170_ren:={
 mixed:=by kernel_rfl
 f170:=Tryz.func228.trans (congrArg M (by kernel_rfl))
 t0:=underlying0
 a0:=isAgg0
 z0:=sizeOf0
 v0:=zeroValue0
 t3:=underlying3
 a3:=A0
 z3:=Ax
 v3:=zeroValue3
 t37:=underlying22
 a37:=isAgg22
 z37:=sizeOf22
 v37:=zeroValue22
 t70:=underlying254
 a70:=isAgg254
 z70:=sizeOf254
 v70:=zeroValue254
 t72:=underlying256
 a72:=isAgg256
 z72:=sizeOf256
 v72:=zeroValue256}
def Tryz.lays169_ren:Ad:=⟨λ|169=>229|n=>n,λ|70=>254|9=>9|0=>0|72=>256|37=>22|127=>261|3=>3|5=>5|n=>n,λ|n=>n⟩
def Tryz.lays169:Go.Proofs.Lays.n169 O Tryz.lays169_ren:={
 mixed:=by kernel_rfl
 f169:=Tryz.func229.trans (congrArg M (by kernel_rfl))
 t0:=underlying0
 a0:=isAgg0
 z0:=sizeOf0
 v0:=zeroValue0
 t3:=underlying3
 a3:=A0
 z3:=Ax
 v3:=zeroValue3
 t9:=underlying9
 a9:=isAgg9
 z9:=sizeOf9
 v9:=zeroValue9
 t37:=underlying22
 a37:=isAgg22
 z37:=sizeOf22
 v37:=zeroValue22
 t70:=underlying254
 a70:=isAgg254
 z70:=sizeOf254
 v70:=zeroValue254
 t72:=underlying256
 a72:=isAgg256
 z72:=sizeOf256
 v72:=zeroValue256
 t127:=underlying261
 a127:=isAgg261
 z127:=sizeOf261
 v127:=zeroValue261}
def Tryz.Builder_Extra_169:Builder.Extra O Tryz.lays169_ren:={
 sizeBuilder:=by kernel_rfl
 liesBuilder:=by kernel_rfl
 t5:=underlying5
 a5:=isAgg5
 z5:=sizeOf5
 v5:=zeroValue5
 infoByte:=by kernel_rfl
 cellsByte:=by kernel_rfl
 sizeByte:=by kernel_rfl
 neB5:=by decide}
def Tryz.lays241_ren:Ad:=⟨λ|241=>249|277=>263|n=>n,λ|70=>254|3=>3|0=>0|72=>256|37=>22|5=>5|n=>n,λ|n=>n⟩
def Tryz.lays241:Go.Proofs.Lays.n241 O Tryz.lays241_ren:={
 mixed:=by kernel_rfl
 f241:=Tryz.func249.trans (congrArg M (by kernel_rfl))
 f277:=Tryz.func263.trans (congrArg M (by kernel_rfl))
 t0:=underlying0
 a0:=isAgg0
 z0:=sizeOf0
 v0:=zeroValue0
 t3:=underlying3
 a3:=A0
 z3:=Ax
 v3:=zeroValue3
 t37:=underlying22
 a37:=isAgg22
 z37:=sizeOf22
 v37:=zeroValue22
 t70:=underlying254
 a70:=isAgg254
 z70:=sizeOf254
 v70:=zeroValue254
 t72:=underlying256
 a72:=isAgg256
 z72:=sizeOf256
 v72:=zeroValue256}
def Tryz.Builder_Extra_241:Builder.Extra O Tryz.lays241_ren:={
 sizeBuilder:=by kernel_rfl
 liesBuilder:=by kernel_rfl
 t5:=underlying5
 a5:=isAgg5
 z5:=sizeOf5
 v5:=zeroValue5
 infoByte:=by kernel_rfl
 cellsByte:=by kernel_rfl
 sizeByte:=by kernel_rfl
 neB5:=by decide}
open Go.RowKit in
def Tryz.Builder_grow_fresh(B b n:Nat)(w:V)(c:B<=b)(f:w.heap[b]?=M (A3 #[S (M ⟨b,0,Q⟩),Z Q 0 0] 256 (0,0)))(d:B<=w.heap.size)(g:n<=281474976710656):
  A1 O 249 #[S (M ⟨b,0,Q⟩),X Y n] w λe a=>e= U (A5 #[])/\(Lib.BuilderAt 256 5 B b (S (M ⟨b,0,Q⟩)) [] a/\A2 B w a):=Any.Builder_grow_fresh Tryz.lays241 Tryz.Builder_Extra_241 B b n w c f d g
open Go.RowKit in
def Tryz.Builder_Len_f(B b:Nat)(a:List Ak)(w:V)(h:Lib.IsBuilderF 256 5 B b a w):
  A1 O 228 #[S (M ⟨b,0,Q⟩)] w λe c=>e= U (X Y a.length)/\c=w:=Any.Builder_Len_f Tryz.lays170 B b a w h
open Go.RowKit in
def Tryz.Builder_String_any_k(B b:Nat)(l:List UInt8)(w:V)(h:Lib.IsBuilderF 256 5 B b (Lib.byteCells l) w)(c:B<=w.heap.size):
  A1 O 229 #[S (M ⟨b,0,Q⟩)] w λe a=>e= U (R ⟨l.toArray⟩)/\(Lib.IsBuilderF 256 5 B b (Lib.byteCells l) a/\A2 B w a/\Lib.OthersKept 5 (M b) w a):=Any.Builder_String_any_k Tryz.lays169 Tryz.Builder_Extra_169 B b l w h c
end Go.Proofs
namespace Go.Proofs.YtbkolnpplhbdmaaGreatDoor
open Go.RowKit Go.Maps Go.WideMaps
variable{W W':World}{a:Addr}{b base c k n:Nat}{l:List ByteArray}{t:TypeId}{v vk vn:Value}
def af5(B b n:Nat)(w:V)(h:B<=b)(d:w.heap[b]?=M (A3 #[S Q,Z Q 0 0] 256 (0,0)))(s:B<=w.heap.size)(l:n<=281474976710656)(r:0<n):
  A1 O 226 #[S (M ⟨b,0,Q⟩),X Y n] w λe f=>e= U (A5 #[])/\BuA B b [] f/\A2 B w f:=by
 have g:(w.setCell ⟨b,0,Q⟩ (S (M ⟨b,0,Q⟩))).heap[b]?=M (A3 #[S (M ⟨b,0,Q⟩),Z Q 0 0] 256 (0,0)):=bp _ b 0 _ _ _ d;have a:A2 B w (w.setCell ⟨b,0,Q⟩ (S (M ⟨b,0,Q⟩))):=(ah B w).setCell (p:=⟨b,0,Q⟩) h _;have o:=uc b w (by rw[Lib.cell_of_heap d];rfl) (by simp[World.shape?,d]) (Lib.frozen_of_heap d 0);go_in;go_wp2_with (go_at_call 248;refine o.mono ?_;rintro e w1 ⟨rfl,rfl⟩);generalize w.setCell ⟨b,0,Q⟩ (S (M ⟨b,0,Q⟩))=c at g a⊢;have i:c.cell? ⟨b,1,Q⟩=M (Z Q 0 0):=by rw[Lib.cell_of_heap g];rfl
 have t:=a.size;go_region_held3 (λf=>f.cell? ⟨b,1,Q⟩=M (Z Q 0 0)) (first|go_keep|exact i) (fail)
 have q:=Tryz.Builder_grow_fresh B b n c.drew h g (by simpa using(show B<=c.heap.size by omega)) l;go_wp2_with (go_at_call 249;refine q.mono ?_;rintro e u ⟨rfl,j,k⟩);all_goals first
  |(rename_i m;rw[dr]at m;omega)
  |skip
 go_end0
 exact⟨rfl,Lib.BuilderAtF.of j,(⟨a.os,a.tape,a.output,a.size,a.block⟩:A2 B w c.drew).trans k⟩
def Bu(B b:Nat)(T:ByteArray)(w:V):Prop:=BuF B b (Lib.strCells T) w
def Fx(a b:ByteArray):Lib.strCells (a++b)=Lib.strCells a++Lib.strCells b:=by
 unfold Lib.strCells;rw[lg,Hk,eJ]
def Gl(B b:Nat)(T s:ByteArray)(w:V)(h:Bu B b T w)(g:T.size+s.size<=140737488355328)(f:B<=w.heap.size):
  A1 O 227 #[S (M ⟨b,0,Q⟩),R s] w λe a=>e= U (A5 #[X Y s.size,Bc])/\Bu B b (T++s) a/\A2 B w a:=by
 refine(BH B b _ s w h (by rw[Lib.strCells_length];exact g) f).mono ?_;rintro e a ⟨rfl,c,d⟩;exact⟨rfl,.inr (by rw[Fx];exact c),d⟩
def aav(B b:Nat)(T:ByteArray)(w:V)(h:Bu B b T w)(f:B<=w.heap.size):
  A1 O 229 #[S (M ⟨b,0,Q⟩)] w λe a=>e= U (R T)/\Bu B b T a/\A2 B w a:=by
 refine(Tryz.Builder_String_any_k B b T.data.toList w h f).mono ?_;rintro e a ⟨rfl,c,d,_⟩;exact⟨rfl,c,d⟩
end Go.Proofs.YtbkolnpplhbdmaaGreatDoor
namespace Go.Proofs
open Go.Shelf
def Tryz.lays212_ren:Ad:=⟨λ|212=>225|263=>246|264=>247|n=>n,λ|46=>214|51=>265|146=>266|53=>37|148=>268|n=>n,λ|n=>n⟩
def Tryz.lays212:Go.Proofs.Lays.n212 O Tryz.lays212_ren:={
 mixed:=by kernel_rfl
 f212:=Tryz.func225.trans (congrArg M (by kernel_rfl))
 f263:=Tryz.func246.trans (congrArg M (by kernel_rfl))
 f264:=Tryz.func247.trans (congrArg M (by kernel_rfl))
 t46:=underlying214
 a46:=isAgg214
 z46:=sizeOf214
 v46:=zeroValue214
 t51:=underlying265
 a51:=isAgg265
 z51:=sizeOf265
 v51:=zeroValue265
 t53:=underlying37
 a53:=isAgg37
 z53:=sizeOf37
 v53:=zeroValue37
 t146:=underlying266
 a146:=isAgg266
 z146:=sizeOf266
 v146:=zeroValue266
 t148:=underlying268
 a148:=isAgg268
 z148:=sizeOf268
 v148:=zeroValue268}
open Go.RowKit Go.Lib in
def Tryz.bits_Mul(x a:Nat)(b:x<18446744073709551616)(c:a<18446744073709551616)(w:V):
  A1 O 225 #[X .u64 x,X .u64 a] w λe d=>e= U (A5 #[X .u64 ((x*a / 18446744073709551616:Nat):Int),X .u64 ((x*a%18446744073709551616:Nat):Int)])/\d=w:=Any.bits_Mul Tryz.lays212 x a b c w
end Go.Proofs
namespace Go.Proofs.YtbkolnpplhbdmaaGreatDoor
open Go.RowKit Go.Maps Go.WideMaps
variable{W W':World}{a:Addr}{b base c k n:Nat}{l:List ByteArray}{t:TypeId}{v vk vn:Value}
def ap8:ByteArray:=⟨#[116,97,114,103,101,116,32]⟩
def uv(q:Nat):ByteArray:=⟨(A9 [116,97,114,103,101,116,32] q).toArray⟩
def vL(q:Nat):(uv q).size=7*q:=by
 have a:(uv q).size=(A9 [116,97,114,103,101,116,32] q).length:=by simp[uv,ByteArray.size]
 rw[a,Lib.repeatL_length];simp;omega
def J5(a b:Nat):uv (a+b)=uv a++uv b:=by
 apply kD;rw[lg];show(A9 _ (a+b)).toArray=(A9 _ a).toArray++(A9 _ b).toArray;rw[Lib.repeatL_add];simp
def aef(q d:Nat)(h:d<=q):(uv q).extract 0 (7*d)=uv d:=by
 obtain⟨b,rfl⟩:=Nat.exists_eq_add_of_le h;rw[J5];apply kD;rw[ByteArray.data_extract,lg];have a:(uv d).data.size=7*d:=vL d;rw[<-a];apply Array.ext';simp;apply dl;rw[fK];exact ag _
def asj(ts:Array Bn)(t:Bn)(x a z c:Int)(W:V)(h:(if z<(if a<x then a else x) then z else(if a<x then a else x))=c):
  (Builtin.min_ ts t #[X Y x,X Y a,X Y z]).run O W= .ok (X Y c) W:=by
 rw[<-h];simp[Builtin.min_,Builtin.min2]
def J6(m:Nat)(w:V)(ba:m+2<=200):
  A1 O 193 #[R ⟨#[116,97,114,103,101,116,32]⟩,X Y ((m+2:Nat):Int)] w (jf w (R (uv (m+2)))):=by
 have q:=Tryz.bits_Mul 7 (m+2) (by omega) (by omega) w;rw[Nat.div_eq_of_lt (by omega:7*(m+2)<18446744073709551616),Nat.mod_eq_of_lt (by omega:7*(m+2)<18446744073709551616)]at q;have⟨e,E⟩:=aC (7*(m+2));rw[E]at q;have l:=am E;have bf:(e:Int)<=1400:=by omega
 have bh:14<=e:=by omega
 go_in;go_wp2_with (go_at_call 225;refine q.mono ?_;rintro d a3 ⟨rfl,rfl⟩);obtain⟨a,rfl⟩:∃a,a=a3:=⟨_,rfl⟩;have a2:=af5 a.heap.size a.heap.size e (a.alloc (A3 #[S Q,Z Q 0 0] 256)) (ag _) (aA a _) (by simp) (by omega) (by omega);refine a2.mono ?_;rintro d G ⟨rfl,an,ar⟩;have a0:cg a (a.alloc (A3 #[S Q,Z Q 0 0] 256)):=(ah _ a).alloc (ag _) _;have z:=a0.trans ar;have af:Bu a.heap.size a.heap.size ⟨#[]⟩ G:= .inr an;have F:=Gl a.heap.size a.heap.size ⟨#[]⟩ ap8 G af (by decide) z.size;rw[show(⟨#[]⟩:ByteArray)++ap8=uv 1 from rfl]at F;have ad:=am z;go_wp21
 refine F.mono ?_;rintro d H ⟨rfl,ak,av⟩;have K:Hid (Bu a.heap.size a.heap.size (uv 1) H/\cg a H):=⟨ak,ad.out.trans av⟩;go_wp21
 go_loopg [] (m+1) (λB J=>∃b:Nat,1<=b/\b+B=m+2/\Hid (Bu a.heap.size a.heap.size (uv b) J/\cg a J))
 case atStart=>exact⟨1,ag _,by omega,K⟩
 case round=>
  obtain⟨b,bb,bd,g⟩:=hrel;have k:=Tryz.Builder_Len_f a.heap.size a.heap.size _ wr g.1;rw[Lib.strCells_length,vL]at k;have p:=aav a.heap.size a.heap.size _ wr g.1 g.2.size;have⟨f,r⟩:=aC (7*b);have i:=am r;rw[r]at k;have⟨o,hS⟩:=aC (uv b);have n:=am hS;have ap:o.size=f:=by rw[<-hS,vL,r]
  rw[hS]at p;cases gk with
  |zero=>
   obtain rfl:b=m+2:=by omega
   have ao:¬((f:Int)<(e:Int)):=by have:=l.out;have:=i.out;omega
   go_wp2_with (first|(go_at_call 228;refine k.mono ?_;rintro d a4 ⟨rfl,t⟩;rw[t])|(go_at_call 229;refine p.mono ?_;rintro d w5 ⟨rfl,y,s⟩));go_ret;exact⟨by rw[n.out];rfl,g.2.trans s⟩
  |succ B=>
   have⟨c,a6⟩:=aC (min (m+2-b) b);have a7:1<=c:=by omega
   have a1:c<=b:=by omega
   have a8:b+c<=m+2:=by omega
   have⟨h,C⟩:=aC (7*c);have ao:(f:Int)<(e:Int):=by have:=l.out;have:=i.out;omega
   have a5:h<=f:=by have:=i.out;omega
   have a9:∀(v:Array Bn)(u:Bn)(j:V),(Builtin.min_ v u #[X Y ((e:Int)-(f:Int)),X Y (f:Int),X Y (e:Int)]).run O j= .ok (X Y (h:Int)) j:=λv u j=>asj v u _ _ _ _ j (by
    have:=l.out;have:=i.out;split<;>split<;>omega)
   have x:Hid (7*c=h/\o.extract 0 h=uv c):=⟨C,by rw[<-C,<-n.out];exact aef b c a1⟩;go_wp2_with (first|(go_at_call 228;refine k.mono ?_;rintro d a4 ⟨rfl,t⟩;rw[t])|(go_at_call 229;refine p.mono ?_;rintro d w5 ⟨rfl,y,s⟩));rw[x.out.2];have A:=g.2.trans s;refine(Gl a.heap.size a.heap.size o (uv c) w5 y (by rw[ap,vL,x.out.1];omega) A.size).mono ?_;rintro d I ⟨rfl,al,aK⟩;have L:Hid (Bu a.heap.size a.heap.size (uv (b+c)) I/\cg a I):=⟨by rw[J5,n.out];exact al,A.trans aK⟩;go_wp21
   go_roundg (m+2-(b+c))
   case measure=>omega
   case rel=>exact⟨b+c,by omega,by omega,L⟩
def aaw(n:Nat)(w:V)(a:n<=200):
  A1 O 193 #[R ⟨#[116,97,114,103,101,116,32]⟩,X Y (n:Int)] w (jf w (R ⟨(A9 [116,97,114,103,101,116,32] n).toArray⟩)):=by
 match n,a with
 |0,_=>
  go_in;go_wp2;go_ret;exact⟨rfl,ah _ _⟩
 |1,_=>
  go_in;go_wp2;go_ret;exact⟨rfl,ah _ _⟩
 |m+2,a=>exact J6 m w a
end Go.Proofs.YtbkolnpplhbdmaaGreatDoor
