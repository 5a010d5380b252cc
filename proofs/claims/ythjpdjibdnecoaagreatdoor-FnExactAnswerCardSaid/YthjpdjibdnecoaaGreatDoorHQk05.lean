import Derived.Test.YthjpdjibdnecoaaGreatDoorRows
import Derived.LaidMore
import Derived.LaidSub
import Derived.OpenShut
import Derived.OpenVars
import Derived.Stop.Joined
import Derived.Test.YthjpdjibdnecoaaGreatDoorHQk02
import Derived.Test.YthjpdjibdnecoaaGreatDoorHQk04
import Derived.Stop.Asserts
set_option linter.all false
set_option maxHeartbeats 3200000
open Go.Value renaming pointer->M,int->T,iface->V,agg->X,string->A2,bool->A9,int->Bs
open Option renaming some->N,none->Q
open Go.Proofs.Tryz renaming prog->O,sizeOf3->A6,isAgg3->A8
open Go.Obj renaming cells->R
open Go renaming World->S,Value->Y,TypeId->A3,Calls->A7
open Go.Result renaming andThen->U
open Go.IntKind renaming u64->Z,i64->A0
open Go.RowKit renaming Below->Ax,intOf->A4
open Bool renaming false->A1,true->A5
namespace Go.Proofs.YthjpdjibdnecoaaGreatDoor
open Go.ChangeShapes Go.WideShapes Go.ChangeAt Go.WideMaps Go.WideElems Go.RowKit
theorem C3{H:Type}{enc:A3×Y->H}{P:Program}{w:S}{base:Nat}{B:Nat->Bool}{u:Bool}{fuel:Nat}{t e:A3}{n:Nat}{cs:List Y}{d:List (List UInt8)}{p:List MemPlace}
  (z:P.underlying t=N (.array n e)) (r:P.underlying e=N .string) (m:P.cellsOf e=1) (q:P.cellsOf t=n)
  (h:DataW.trod enc P w base B u fuel t cs=N (.agg (d.map fun b=> .lit (.string b)),p)):cs=d.map fun b=>Value.string ⟨b.toArray⟩:=by
 obtain⟨C,F,rfl,f,x,A,s⟩:=DataW.trod_array z h;simp only[gw,DataW.agg.injEq]at f;have y:d.length=n:=by have:=congrArg List.length f.1;simpa [A] using this
 apply List.ext_getElem (by simp[x,q,y]);intro a l E;have v:a<n:=by omega
 have g:=s a v;rw[m,rj,bJ (by omega)]at g;obtain⟨i,j,k,_⟩:=DataW.trod_string r g;have o:cs[a]= .string i:=by
  have:((cs.drop a).take 1)[0]?=N (.string i):=by rw[j];rfl
  simpa [kE,tH,bJ l] using this
 have c:(C.map (·.1))[a]?=(d.map fun b=>(DataW.lit (.string b):DataW H))[a]?:=by rw[f.1]
 rw[cA,cA,bJ (by omega),bJ (by omega)]at c;simp only[xc,dr]at c;rw[k]at c;simp only[DataW.lit.injEq,Lit.string.injEq]at c;rw[o,List.getElem_map,<-c]
theorem own:ownKnob Tryz.prog.godebug=Q:=by kernel_rfl
theorem Ly:laidOutB O=A5:=by kernel_rfl
end Go.Proofs.YthjpdjibdnecoaaGreatDoor
namespace Go.Proofs.YthjpdjibdnecoaaGreatDoor
open Go.RowKit
theorem abd(s:ByteArray)(ao:s.size<=4000)(w:S):
  A7 O 34 #[A2 s] w fun e u=>e= .returned (A2 (ic (EB s)))/\Ax w.heap.size w u:=by
 go_in;go_wp2_with fail;go_loopw [4,5] (fun B t wr=>∃b g:Nat,b<=s.size/\t= T A0 b/\wr.ownsRow w.heap.size 5 1 B g (B8 (qt s b))/\Ax w.heap.size w wr) (fun _ t _=>s.size-(A4 t).toNat)
 case atStart=>exact⟨0,1,aL _,rfl,ue w 34,(ag _ _).alloc (ae _) _⟩
 case round=>
  obtain⟨b,g,v,rfl,h,c⟩:=hrel;have y:=xl h;have A:=EA s b v;have an:g<=20000:=by omega
  clear y A;by_cases z:b<s.size
  ·have i:Hid (qt s (b+1)=qt s b++Do (s[b].toNat:Int)):=Ez s b z;obtain⟨a,r⟩:∃a:Int,a=(s[b].toNat:Int):=⟨_,rfl⟩;have ak:0<=a:=by omega
   have al:a<256:=by have:=s[b].toNat_lt;omega
   rw[<-r]at i;have am:∀w,(Instr.index 9 (A2 s) (T A0 (b:Int))).run O w= .ok (T .u8 a) w:=by
    intro w;rw[r];go_simp
   clear r;by_cases k:a=10
   ·subst k;go_wp2_with (at_builtin;refine gL rfl (.tmp 24) (.tmp 25) rfl w.heap.size _ g (qt s b) rfl h c.size (by omega) [92,110] 2 rfl (by decide) (by decide) _ rfl rfl ?_;intro m j n f d);go_roundw
    case rel=>exact⟨b+1,_,by omega,by go_num,by rw[i.out];exact f,c.trans d⟩
    case measure=>simp[A4];omega
   have J:(a==10)=A1:=by simp[k]
   by_cases l:a=9
   ·subst l;go_wp2_with (at_builtin;refine gL rfl (.tmp 30) (.tmp 31) rfl w.heap.size _ g (qt s b) rfl h c.size (by omega) [92,116] 2 rfl (by decide) (by decide) _ rfl rfl ?_;intro m j n f d);go_roundw
    case rel=>exact⟨b+1,_,by omega,by go_num,by rw[i.out];exact f,c.trans d⟩
    case measure=>simp[A4];omega
   have K:(a==9)=A1:=by simp[l]
   by_cases o:a=34
   ·subst o;go_wp2_with (at_builtin;refine gL rfl (.tmp 40) (.tmp 42) rfl w.heap.size _ g (qt s b) rfl h c.size (by omega) [92,34] 2 rfl (by decide) (by decide) _ rfl rfl ?_;intro m j n f d);go_roundw
    case rel=>exact⟨b+1,_,by omega,by go_num,by rw[i.out];exact f,c.trans d⟩
    case measure=>simp[A4];omega
   have L:(a==34)=A1:=by simp[o]
   by_cases p:a=92
   ·subst p;go_wp2_with (at_builtin;refine gL rfl (.tmp 40) (.tmp 42) rfl w.heap.size _ g (qt s b) rfl h c.size (by omega) [92,92] 2 rfl (by decide) (by decide) _ rfl rfl ?_;intro m j n f d);go_roundw
    case rel=>exact⟨b+1,_,by omega,by go_num,by rw[i.out];exact f,c.trans d⟩
    case measure=>simp[A4];omega
   have ad:(a==92)=A1:=by simp[p]
   by_cases e5:a<32\/126<a
   ·have q:Hid (Do a=[92,120,xm (a / 16),xm (a%16)]):=by unfold Do Hid;rw[aa k,aa l,aa (by omega),ab e5]
    clear k l o p;have ap:=ym (a / 16) (by omega) (by omega);have ar:=ym (a%16) (by omega) (by omega);have af:bits .and .u8 a 15=a%16:=air a (by omega) (by omega);have C:0<=a / 16:=by omega
    have E:a / 16<16:=by omega
    have F:0<=a%16:=by omega
    have G:a%16<16:=by omega
    rcases e5 with e5|e5;all_goals
     go_wp2_with fail;go_region_held3 (fun u=>True) (trivial) ((refine AL (by rfl) _ _ (by rfl) w.heap.size _ g (qt s b) (by rfl) h c.size (by omega) [92,120,_,_] 4 (by rfl) (by decide) (by decide) _ (by rfl) (by rfl) ?_;intro m j n f d))
     all_goals
      go_wp2;go_roundw
      case rel=>exact⟨b+1,_,by omega,by go_num,by rw[i.out,q.out];assumption,c.trans (by assumption)⟩
      case measure=>simp[A4];omega
   ·have q:Hid (Do a=[a]):=by unfold Do Hid;rw[aa k,aa l,aa (by omega),aa e5]
    have H:¬a<32:=by omega
    have I:¬126<a:=by omega
    clear k l o p e5;go_wp2_with (at_builtin;refine gL rfl (.tmp 17) (.tmp 19) rfl w.heap.size _ g (qt s b) rfl h c.size (by omega) [a] 1 rfl (by decide) (by decide) _ rfl rfl ?_;intro m j n f d);go_roundw
    case rel=>exact⟨b+1,_,by omega,by go_num,by rw[i.out,q.out];exact f,c.trans d⟩
    case measure=>simp[A4];omega
  ·have x:b=s.size:=by omega
   subst x;go_wp2_with (at_builtin;refine gL rfl (.tmp 62) (.tmp 63) rfl w.heap.size _ g (qt s s.size) rfl h c.size (by omega) [34] 1 rfl (by decide) (by decide) _ rfl rfl ?_;intro m j n f d;have av:=ou f);go_ret;exact⟨rfl,c.trans d⟩
end Go.Proofs.YthjpdjibdnecoaaGreatDoor
namespace Go.Proofs
open Go.Shelf
def Tryz.lays138_ren:Go.Shelf.Ren:=⟨fun|138=>26|195=>49|218=>50|143=>51|219=>85|217=>147|225=>148|224=>149|267=>150|266=>201|314=>202|n=>n,fun|9=>9|3=>3|4=>4|5=>5|0=>0|46=>137|146=>172|51=>171|n=>n,fun|1=>2|n=>n⟩
theorem Tryz.lays138:Go.Proofs.Lays.n138 O Tryz.lays138_ren:={
 mixed:=by kernel_rfl
 f138:=Tryz.func26.trans (congrArg N (by kernel_rfl))
 f143:=Tryz.func51.trans (congrArg N (by kernel_rfl))
 f195:=Tryz.func49.trans (congrArg N (by kernel_rfl))
 f217:=Tryz.func147.trans (congrArg N (by kernel_rfl))
 f218:=Tryz.func50.trans (congrArg N (by kernel_rfl))
 f219:=Tryz.func85.trans (congrArg N (by kernel_rfl))
 f224:=Tryz.func149.trans (congrArg N (by kernel_rfl))
 f225:=Tryz.func148.trans (congrArg N (by kernel_rfl))
 f266:=Tryz.func201.trans (congrArg N (by kernel_rfl))
 f267:=Tryz.func150.trans (congrArg N (by kernel_rfl))
 f314:=Tryz.func202.trans (congrArg N (by kernel_rfl))
 t0:=Tryz.underlying0
 a0:=Tryz.isAgg0
 z0:=Tryz.sizeOf0
 v0:=Tryz.zeroValue0
 t3:=Tryz.underlying3
 a3:=A8
 z3:=A6
 v3:=Tryz.zeroValue3
 t4:=Tryz.underlying4
 a4:=Tryz.isAgg4
 z4:=Tryz.sizeOf4
 v4:=Tryz.zeroValue4
 t5:=Tryz.underlying5
 a5:=Tryz.isAgg5
 z5:=Tryz.sizeOf5
 v5:=Tryz.zeroValue5
 t9:=Tryz.underlying9
 a9:=Tryz.isAgg9
 z9:=Tryz.sizeOf9
 v9:=Tryz.zeroValue9
 t46:=Tryz.underlying137
 a46:=Tryz.isAgg137
 z46:=Tryz.sizeOf137
 v46:=Tryz.zeroValue137
 t51:=Tryz.underlying171
 a51:=Tryz.isAgg171
 z51:=Tryz.sizeOf171
 v51:=Tryz.zeroValue171
 t146:=Tryz.underlying172
 a146:=Tryz.isAgg172
 z146:=Tryz.sizeOf172
 v146:=Tryz.zeroValue172
 g1:=by kernel_rfl}
open Go.RowKit Go.Lib in
theorem Tryz.strings_Count_one(s:ByteArray)(c:UInt8)(w:S):
  A7 O 26 #[A2 s,A2 ⟨#[c]⟩] w fun e a=>e= .returned (T A0 (Lib.countByte s.data.toList c))/\a=w:=Any.strings_Count_one Tryz.lays138 s c w
def Tryz.lays148_ren:Go.Shelf.Ren:=⟨fun|148=>27|222=>52|223=>53|269=>86|n=>n,fun|9=>9|3=>3|4=>4|5=>5|146=>172|51=>171|46=>137|n=>n,fun|n=>n⟩
theorem Tryz.lays148:Go.Proofs.Lays.n148 O Tryz.lays148_ren:={
 mixed:=by kernel_rfl
 f148:=Tryz.func27.trans (congrArg N (by kernel_rfl))
 f222:=Tryz.func52.trans (congrArg N (by kernel_rfl))
 f223:=Tryz.func53.trans (congrArg N (by kernel_rfl))
 f269:=Tryz.func86.trans (congrArg N (by kernel_rfl))
 t3:=Tryz.underlying3
 a3:=A8
 z3:=A6
 v3:=Tryz.zeroValue3
 t4:=Tryz.underlying4
 a4:=Tryz.isAgg4
 z4:=Tryz.sizeOf4
 v4:=Tryz.zeroValue4
 t5:=Tryz.underlying5
 a5:=Tryz.isAgg5
 z5:=Tryz.sizeOf5
 v5:=Tryz.zeroValue5
 t9:=Tryz.underlying9
 a9:=Tryz.isAgg9
 z9:=Tryz.sizeOf9
 v9:=Tryz.zeroValue9
 t46:=Tryz.underlying137
 a46:=Tryz.isAgg137
 z46:=Tryz.sizeOf137
 v46:=Tryz.zeroValue137
 t51:=Tryz.underlying171
 a51:=Tryz.isAgg171
 z51:=Tryz.sizeOf171
 v51:=Tryz.zeroValue171
 t146:=Tryz.underlying172
 a146:=Tryz.isAgg172
 z146:=Tryz.sizeOf172
 v146:=Tryz.zeroValue172}
open Go.RowKit Go.Lib in
theorem Tryz.strings_LastIndex_one(s a:ByteArray)(b:a.size=1)(c:s.size<4611686018427387904)(w:S):
  A7 O 27 #[A2 s,A2 a] w fun e d=>e= .returned (T A0 (Lib.lastIndexByte s ((a[0]'(by omega)).toNat:Int)))/\d=w:=Any.strings_LastIndex_one Tryz.lays148 s a b c w
end Go.Proofs
namespace Go.Proofs.YthjpdjibdnecoaaGreatDoor
open Go.RowKit Go.Maps Go.WideMaps Go.Extern.Stop Go.Stop Go.Extern
theorem raV(t:Addr)(w:S):(ReflectliteValue.unpack (V 40 (M (N t)))).run O w
  = .ok (X #[M (N ⟨22,40,Q⟩),M (N ⟨w.heap.size,0,Q⟩),T Z 150]) (w.alloc (R #[M (N t)] 40)):=by kernel_rfl
theorem raT(a:Addr)(w:S):(ReflectliteValue.methodAny (ReflectliteValue.valueError "reflectlite.Value.Type" 0) (fun t _ _ _=>ReflectliteType.toType t) #[X #[M (N ⟨22,40,Q⟩),M (N a),T Z 150]]).run O w
  = .ok (V 110 (X #[M (N ⟨22,40,Q⟩)])) w:=by kernel_rfl
theorem akz(h:Y)(w:S):(Go.method 466 110 (X #[h]) "Kind").run O w= .ok (282,h) w:=by kernel_rfl
theorem akA(h:Y)(w:S):(Go.method 466 110 (X #[h]) "Elem").run O w= .ok (293,X #[h]) w:=by kernel_rfl
theorem akB(h:Y)(w:S):(Go.method 466 110 (X #[h]) "Implements").run O w= .ok (294,X #[h]) w:=by kernel_rfl
theorem akC(h:Y)(w:S):(Go.method 466 110 (X #[h]) "AssignableTo").run O w= .ok (291,X #[h]) w:=by kernel_rfl
theorem akD(w:S):((ReflectliteType.abiMethod fun t=>(fun a:Nat=>Bs IntKind.u8 (a:Int))<$>Rtype.kind t) #[M (N ⟨22,40,Q⟩)]).run O w= .ok (T .u8 22) w:=by kernel_rfl
theorem akE(w:S):((ReflectliteType.abiMethod fun t=>(fun a:Nat=>Bs IntKind.u8 (a:Int))<$>Rtype.kind t) #[M (N ⟨22,38,Q⟩)]).run O w= .ok (T .u8 25) w:=by kernel_rfl
theorem akF(z:Sem Y)(f:A3->Addr->Nat->Nat->Sem Y)(v:Y):
  ReflectliteValue.method z f #[v]=(do match <-ReflectliteValue.parts v with|none=>z|some (t,a,b)=>f t a b (b%32)):=rfl
theorem akG(a:Addr)(w:S):(ReflectliteValue.parts (X #[M (N ⟨22,40,Q⟩),M (N a),T Z 150])).run O w= .ok (N (40,a,150)) w:=by kernel_rfl
theorem raN(a p:Addr)(W:S)(b:W.cell? a=N (.pointer (N p))):
  (ReflectliteValue.method (ReflectliteValue.valueError "reflectlite.Value.IsNil" 0) ReflectliteValue.isNil #[.agg #[.pointer (N ⟨22,40,Q⟩),.pointer (N a),.int .u64 150]]).run O W= .ok (.bool A1) W:=by
 rw[akF];simp only[rh,akG,U];simp[ReflectliteValue.isNil,loadVar,isAgg,underlying,Tryz.underlying40,b,U]
theorem akH(w:S):(ReflectliteType.method ReflectliteType.elem #[X #[M (N ⟨22,40,Q⟩)]]).run O w= .ok (V 110 (X #[M (N ⟨22,38,Q⟩)])) w:=by kernel_rfl
theorem akI(w:S):(ReflectliteType.relation "Implements" ReflectliteType.implements_ #[X #[M (N ⟨22,38,Q⟩)],V 110 (X #[M (N ⟨22,33,Q⟩)])]).run O w= .ok (A9 A5) w:=by kernel_rfl
theorem amd(v:Y)(w:S):(ReflectliteType.typeOf #[V 38 v]).run O w= .ok (V 110 (X #[M (N ⟨22,38,Q⟩)])) w:=by kernel_rfl
theorem ame(v:Y)(w:S):(ReflectliteType.typeOf #[V 325 v]).run O w= .ok (V 110 (X #[M (N ⟨22,325,Q⟩)])) w:=by kernel_rfl
theorem amf(w:S):(ReflectliteType.relation "AssignableTo" ReflectliteType.assignableTo #[X #[M (N ⟨22,38,Q⟩)],V 110 (X #[M (N ⟨22,38,Q⟩)])]).run O w= .ok (A9 A5) w:=by kernel_rfl
theorem amg(w:S):(ReflectliteType.relation "AssignableTo" ReflectliteType.assignableTo #[X #[M (N ⟨22,325,Q⟩)],V 110 (X #[M (N ⟨22,38,Q⟩)])]).run O w= .ok (A9 A1) w:=by kernel_rfl
theorem amh(z:Int)(w:S):(ReflectliteValue.unpack (V 38 (X #[T A0 z]))).run O w
  = .ok (X #[M (N ⟨22,38,Q⟩),M (N ⟨w.heap.size,0,Q⟩),T Z 153]) (w.alloc (R #[T A0 z] 38)):=by kernel_rfl
theorem ami(w:S):(Rtype.elem? 40).run O w= .ok (N 38) w:=by kernel_rfl
theorem amj(p:Addr)(w:S):(ReflectliteValue.mk 38 p ReflectliteValue.flagAddr).run O w= .ok (X #[M (N ⟨22,38,Q⟩),M (N p),T Z 409]) w:=by kernel_rfl
theorem amk(a p:Addr)(W:S)(b:W.cell? a=N (.pointer (N p))):
  (ReflectliteValue.method (ReflectliteValue.valueError "reflectlite.Value.Elem" 0) ReflectliteValue.elem #[.agg #[.pointer (N ⟨22,40,Q⟩),.pointer (N a),.int .u64 150]]).run O W
   = .ok (.agg #[.pointer (N ⟨22,38,Q⟩),.pointer (N p),.int .u64 409]) W:=by
 rw[akF];simp only[rh,akG,U];simp[ReflectliteValue.elem,loadVar,isAgg,underlying,Tryz.underlying40,b,U,ami,amj]
theorem aml(v x:Y):ReflectliteValue.set #[v,x]=(do
  let (N (dst,a,fl),N (src,b,_)):=(<-ReflectliteValue.parts v,<-ReflectliteValue.parts x)
   |unsupported (.noEntry "extern/(internal/reflectlite.Value).Set.zeroValue")
  if fl / ReflectliteValue.flagAddr%2==0 then unsupported (.noEntry "extern/(internal/reflectlite.Value).Set.unaddressable")
  let val <-loadVar src b
  if <-Rtype.directlyAssignable dst src then storeVar dst a val
  else if <-Rtype.implements dst src then
   if(<-Rtype.kind src)==20 then
    match val with
    | .nilIface=>unsupported (.noEntry "extern/reflectlite: a nil value of one interface type handed on as a value of another")
    |_=>storeVar dst a val
   else storeVar dst a (V src val)
  else panicString ("reflectlite.Set: value of type " ++(<-Rtype.spelt src)++ " is not assignable to type " ++(<-Rtype.spelt dst))
  pure (.tuple #[])):=rfl
theorem amm(a:Addr)(w:S):(ReflectliteValue.parts (X #[M (N ⟨22,38,Q⟩),M (N a),T Z 409])).run O w= .ok (N (38,a,409)) w:=by kernel_rfl
theorem amn(a:Addr)(w:S):(ReflectliteValue.parts (X #[M (N ⟨22,38,Q⟩),M (N a),T Z 153])).run O w= .ok (N (38,a,153)) w:=by kernel_rfl
theorem raD(w:S):(Rtype.directlyAssignable 38 38).run O w= .ok A5 w:=by kernel_rfl
theorem amo(w:S):(sizeOf 38).run O w= .ok 1 w:=by kernel_rfl
theorem raS(a b:Addr)(z:Int)(h:Y)(W:S)(c:W.cell? b=N (.int .i64 z))(g:W.cell? a=N h)(d:W.frozen? a=A1):
  (ReflectliteValue.set #[.agg #[.pointer (N ⟨22,38,Q⟩),.pointer (N a),.int .u64 409],.agg #[.pointer (N ⟨22,38,Q⟩),.pointer (N b),.int .u64 153]]).run O W
   = .ok (.tuple #[]) (W.setCell a (.int .i64 z)):=by
 have e:(loadVar 38 b).run O W= .ok (.agg #[.int .i64 z]) W:=by
  unfold loadVar;simp[isAgg,underlying,Tryz.underlying38,loadCells,loadCellsFrom,c,Addr.add,U]
 have f:(storeVar 38 a (.agg #[.int .i64 z])).run O W= .ok () (W.setCell a (.int .i64 z)):=by
  unfold storeVar;simp only[rh,amo,U];simp[Value.cells,storeCells,Addr.add];rw[run_store O W a _ _ (by rfl)];simp[g,d]
 rw[aml];simp only[rh,amm,amn,U];simp[ReflectliteValue.flagAddr,e,raD,f,U]
theorem amp(v:Y)(a:A3)(w:S):(Instr.typeAssert (.iface 325 v) a 115 A5).run O w= .ok (.tuple #[.nilIface,.bool A1]) w:=run_typeAssert_lacksB Tryz.underlying115 (by kernel_rfl) (by kernel_rfl) v a w
theorem amq(v:Y)(a:A3)(w:S):(Instr.typeAssert (.iface 325 v) a 118 A5).run O w= .ok (.tuple #[.nilIface,.bool A1]) w:=run_typeAssert_lacksB Tryz.underlying118 (by kernel_rfl) (by kernel_rfl) v a w
theorem amr(v:Y)(a:A3)(w:S):(Instr.typeAssert (.iface 325 v) a 120 A5).run O w= .ok (.tuple #[.nilIface,.bool A1]) w:=run_typeAssert_lacksB Tryz.underlying120 (by kernel_rfl) (by kernel_rfl) v a w
def Exn(f:FuncId)(e:Array Y->Sem Y):Prop:=∀(args:Array Y)(a:S),(callFunc f args).run O a=((e args).run O a).andThen fun b c=> .ok (.value b) c
theorem rh6:Exn 22 (fun args=>ReflectliteValue.unpack (args.getD 0 (.tuple #[]))):=jw Tryz.func22 (by kernel_rfl) (by kernel_rfl) (by kernel_rfl) (by kernel_rfl)
theorem rh7:Exn 23 (ReflectliteValue.methodAny (ReflectliteValue.valueError "reflectlite.Value.Type" 0) (fun t _ _ _=>ReflectliteType.toType t)):=jw Tryz.func23 (by kernel_rfl) (by kernel_rfl) (by kernel_rfl) (by kernel_rfl)
theorem rh8:Exn 24 (ReflectliteValue.method (ReflectliteValue.valueError "reflectlite.Value.IsNil" 0) ReflectliteValue.isNil):=jw Tryz.func24 (by kernel_rfl) (by kernel_rfl) (by kernel_rfl) (by kernel_rfl)
theorem akJ:Exn 282 (ReflectliteType.abiMethod fun t=>do pure (T .u8 (<-Rtype.kind t))):=jw Tryz.func282 (by kernel_rfl) (by kernel_rfl) (by kernel_rfl) (by kernel_rfl)
theorem akK:Exn 293 (ReflectliteType.method ReflectliteType.elem):=jw Tryz.func293 (by kernel_rfl) (by kernel_rfl) (by kernel_rfl) (by kernel_rfl)
theorem akL:Exn 294 (ReflectliteType.relation "Implements" ReflectliteType.implements_):=jw Tryz.func294 (by kernel_rfl) (by kernel_rfl) (by kernel_rfl) (by kernel_rfl)
theorem ak0:Exn 46 ReflectliteType.typeOf:=jw Tryz.func46 (by kernel_rfl) (by kernel_rfl) (by kernel_rfl) (by kernel_rfl)
theorem ak1:Exn 291 (ReflectliteType.relation "AssignableTo" ReflectliteType.assignableTo):=jw Tryz.func291 (by kernel_rfl) (by kernel_rfl) (by kernel_rfl) (by kernel_rfl)
theorem ak2:Exn 47 (ReflectliteValue.method (ReflectliteValue.valueError "reflectlite.Value.Elem" 0) ReflectliteValue.elem):=jw Tryz.func47 (by kernel_rfl) (by kernel_rfl) (by kernel_rfl) (by kernel_rfl)
theorem ak3:Exn 48 ReflectliteValue.set:=jw Tryz.func48 (by kernel_rfl) (by kernel_rfl) (by kernel_rfl) (by kernel_rfl)
theorem aiD(z:Int)(b:Nat)(r:Y)(w:S)(n:w.cell? ⟨1,0,Q⟩=N (V 110 (X #[M (N ⟨22,33,Q⟩)])))(q:w.heap[b]?=N (R #[r] 38 (0,0))):
  A7 O 11 #[V 38 (X #[T A0 z]),V 40 (M (N ⟨b,0,Q⟩))] w fun t s=>t= .returned (A9 A5)/\s.heap[b]?=N (R #[T A0 z] 38 (0,0))/\Ax b w s:=by
 have E:=rh6;have F:=rh7;have G:=rh8;have y:=akJ;have B:=akK;have C:=akL;have u:=ak0;have A:=ak1;have v:=ak2;have x:=ak3;unfold Exn at E F G y B C u A v x;have ad:=amd;have af:=akC;have ak:=amf;have al:=amh;have am:=raV;have an:=raT;have ao:=akz;have ap:=akA;have ar:=akB;have av:=akD;have a0:=akE;have a1:=akH;have a2:=akI;have l:b<w.heap.size:=(Array.getElem?_eq_some_iff.1 q).1;have I:1<w.heap.size:=by
  rcases co 1 w.heap.size with h|h
  ·exact h
  ·simp[World.cell?,tE h]at n
 have a:∀(c:S) j,Ax c.heap.size c (c.alloc j):=fun c j=>(ag _ c).alloc (ae _) j;have e:Ax w.heap.size w ((w.alloc (R #[M (N ⟨b,0,Q⟩)] 40)).alloc (R #[M (N ⟨22,40,Q⟩),M (N ⟨w.heap.size,0,Q⟩),T Z 150] 63)):=(a w _).trans ((a _ _).mono (a w _).size);have g:Ax w.heap.size w (((w.alloc (R #[M (N ⟨b,0,Q⟩)] 40)).alloc (R #[M (N ⟨22,40,Q⟩),M (N ⟨w.heap.size,0,Q⟩),T Z 150] 63)).alloc (R #[M (N ⟨22,40,Q⟩),M (N ⟨w.heap.size,0,Q⟩),T Z 150] 63)):=e.trans ((a _ _).mono e.size);have i:Ax w.heap.size w ((((w.alloc (R #[M (N ⟨b,0,Q⟩)] 40)).alloc (R #[M (N ⟨22,40,Q⟩),M (N ⟨w.heap.size,0,Q⟩),T Z 150] 63)).alloc (R #[M (N ⟨22,40,Q⟩),M (N ⟨w.heap.size,0,Q⟩),T Z 150] 63)).alloc (R #[T A0 z] 38)):=g.trans ((a _ _).mono g.size);have J:=ai e n;have f:(w.alloc (R #[M (N ⟨b,0,Q⟩)] 40)).cell? ⟨w.heap.size,0,Q⟩=N (M (N ⟨b,0,Q⟩)):=aq _ _ _ _ _ _ (aj w _);have K:=raN ⟨w.heap.size,0,Q⟩ ⟨b,0,Q⟩ ((w.alloc (R #[M (N ⟨b,0,Q⟩)] 40)).alloc (R #[M (N ⟨22,40,Q⟩),M (N ⟨w.heap.size,0,Q⟩),T Z 150] 63)) (ai (a _ _) f);have H:=amk ⟨w.heap.size,0,Q⟩ ⟨b,0,Q⟩ (((w.alloc (R #[M (N ⟨b,0,Q⟩)] 40)).alloc (R #[M (N ⟨22,40,Q⟩),M (N ⟨w.heap.size,0,Q⟩),T Z 150] 63)).alloc (R #[M (N ⟨22,40,Q⟩),M (N ⟨w.heap.size,0,Q⟩),T Z 150] 63)) (ai (a _ _) (ai (a _ _) f));have d:=(i.block b l).trans q;have L:=raS ⟨b,0,Q⟩ ⟨w.heap.size+1+1+1,0,Q⟩ z r ((((w.alloc (R #[M (N ⟨b,0,Q⟩)] 40)).alloc (R #[M (N ⟨22,40,Q⟩),M (N ⟨w.heap.size,0,Q⟩),T Z 150] 63)).alloc (R #[M (N ⟨22,40,Q⟩),M (N ⟨w.heap.size,0,Q⟩),T Z 150] 63)).alloc (R #[T A0 z] 38)) (by
  have:=aq _ _ 0 _ _ _ (aj (((w.alloc (R #[M (N ⟨b,0,Q⟩)] 40)).alloc (R #[M (N ⟨22,40,Q⟩),M (N ⟨w.heap.size,0,Q⟩),T Z 150] 63)).alloc (R #[M (N ⟨22,40,Q⟩),M (N ⟨w.heap.size,0,Q⟩),T Z 150] 63)) (R #[T A0 z] 38));simpa using this) (aq _ _ _ _ _ _ d) (cC _ _ _ _ _ d)
 have o:(((((w.alloc (R #[M (N ⟨b,0,Q⟩)] 40)).alloc (R #[M (N ⟨22,40,Q⟩),M (N ⟨w.heap.size,0,Q⟩),T Z 150] 63)).alloc (R #[M (N ⟨22,40,Q⟩),M (N ⟨w.heap.size,0,Q⟩),T Z 150] 63)).alloc (R #[T A0 z] 38)).setCell ⟨b,0,Q⟩ (T A0 z)).heap[b]?=N (R #[T A0 z] 38 (0,0)):=bi _ b 0 _ _ _ d;have m:Ax b w (((((w.alloc (R #[M (N ⟨b,0,Q⟩)] 40)).alloc (R #[M (N ⟨22,40,Q⟩),M (N ⟨w.heap.size,0,Q⟩),T Z 150] 63)).alloc (R #[M (N ⟨22,40,Q⟩),M (N ⟨w.heap.size,0,Q⟩),T Z 150] 63)).alloc (R #[T A0 z] 38)).setCell ⟨b,0,Q⟩ (T A0 z)):=(i.mono (rg l)).setCell (p:=⟨b,0,Q⟩) (ae _) _;have k:=gK o m;clear e g i a f o m d;go_in;go_wp2;refine mh 1 ?_;rw[gF];go_wp2;go_ret;exact⟨rfl,k.out.1,k.out.2⟩
theorem agn(v:Y)(b:Nat)(w:S)(t:w.cell? ⟨1,0,Q⟩=N (V 110 (X #[M (N ⟨22,33,Q⟩)]))):
  A7 O 11 #[V 325 v,V 40 (M (N ⟨b,0,Q⟩))] w fun i u=>i= .returned (A9 A1)/\Ax w.heap.size w u:=by
 have q:=rh6;have r:=rh7;have s:=rh8;have m:=akJ;have o:=akK;have p:=akL;have j:=ak0;have n:=ak1;have k:=ak2;have l:=ak3;unfold Exn at q r s m o p j n k l;have z:=ame;have A:=akC;have B:=amg;have C:=amp;have E:=raV;have F:=raT;have G:=akz;have H:=akA;have I:=akB;have J:=akD;have K:=akE;have L:=akH;have ad:=akI;have af:=amq;have ak:=amr;have a:∀(c:S) e,Ax c.heap.size c (c.alloc e):=fun c e=>(ag _ c).alloc (ae _) e;have d:Ax w.heap.size w ((w.alloc (R #[M (N ⟨b,0,Q⟩)] 40)).alloc (R #[M (N ⟨22,40,Q⟩),M (N ⟨w.heap.size,0,Q⟩),T Z 150] 63)):=(a w _).trans ((a _ _).mono (a w _).size);have g:Ax w.heap.size w (((w.alloc (R #[M (N ⟨b,0,Q⟩)] 40)).alloc (R #[M (N ⟨22,40,Q⟩),M (N ⟨w.heap.size,0,Q⟩),T Z 150] 63)).alloc (R #[M (N ⟨22,40,Q⟩),M (N ⟨w.heap.size,0,Q⟩),T Z 150] 63)):=d.trans ((a _ _).mono d.size);have x:=ai d t;have f:(w.alloc (R #[M (N ⟨b,0,Q⟩)] 40)).cell? ⟨w.heap.size,0,Q⟩=N (M (N ⟨b,0,Q⟩)):=aq _ _ _ _ _ _ (aj w _);have y:=raN ⟨w.heap.size,0,Q⟩ ⟨b,0,Q⟩ ((w.alloc (R #[M (N ⟨b,0,Q⟩)] 40)).alloc (R #[M (N ⟨22,40,Q⟩),M (N ⟨w.heap.size,0,Q⟩),T Z 150] 63)) (ai (a _ _) f);have h:=aw g;clear d g a f;go_in;go_wp2;refine mh 1 ?_;rw[gF];go_wp2;go_ret;exact⟨rfl,h.out⟩
