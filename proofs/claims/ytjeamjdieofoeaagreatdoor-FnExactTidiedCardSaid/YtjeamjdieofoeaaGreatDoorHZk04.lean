import Derived.Test.YtjeamjdieofoeaaGreatDoorRows
import Derived.LaidMore
import Derived.LaidSub
import Derived.OpenShut
import Derived.OpenVars
import Derived.Stop.Joined
import Derived.Test.YtjeamjdieofoeaaGreatDoorHZk02
import Derived.Test.YtjeamjdieofoeaaGreatDoorHZk03
import Derived.Shelf.Strings.OnBuilder
import Derived.Deep.Strs
import Derived.Lib.ItoaLen
set_option linter.all false
set_option maxRecDepth 100000
set_option maxHeartbeats 3200000
open Go.Proofs.Tryz renaming prog->M
open Go.Value renaming string->O,pointer->X,string->Y,slice->Z
open Option renaming some->Q,none->V
open Go.Ending renaming returned->R
open Go renaming World->S,Value->T,Calls->U
namespace Go.Proofs.YtjeamjdieofoeaaGreatDoor
open Go.ChangeShapes Go.WideShapes Go.ChangeAt Go.WideMaps Go.WideElems Go.RowKit
theorem DI{H:Type}{enc:TypeId×T->H}{P:Program}{w:S}{base:Nat}{B:Nat->Bool}{u:Bool}{fuel:Nat}{t e:TypeId}{n:Nat}{cs:List T}{d:List (List UInt8)}{p:List MemPlace}
  (z:P.underlying t=Q (.array n e)) (r:P.underlying e=Q .string) (m:P.cellsOf e=1) (q:P.cellsOf t=n)
  (h:DataW.trod enc P w base B u fuel t cs=Q (.agg (d.map fun b=> .lit (.string b)),p)):cs=d.map fun b=>Y ⟨b.toArray⟩:=by
 obtain⟨C,F,rfl,f,x,A,s⟩:=DataW.trod_array z h;simp only[ic,DataW.agg.injEq]at f;have y:d.length=n:=by have:=congrArg List.length f.1;simpa [A] using this
 apply List.ext_getElem (by simp[x,q,y]);intro a l E;have v:a<n:=by omega
 have g:=s a v;rw[m,sh,aJ (by omega)]at g;obtain⟨i,j,k,_⟩:=DataW.trod_string r g;have o:cs[a]= .string i:=by
  have:((cs.drop a).take 1)[0]?=Q (.string i):=by rw[j];rfl
  simpa [jH,pI,aJ l] using this
 have c:(C.map (·.1))[a]?=(d.map fun b=>(DataW.lit (.string b):DataW H))[a]?:=by rw[f.1]
 rw[ce,ce,aJ (by omega),aJ (by omega)]at c;simp only[uC,ee]at c;rw[k]at c;simp only[DataW.lit.injEq,Lit.string.injEq]at c;rw[o,List.getElem_map,<-c]
theorem own:ownKnob Tryz.prog.godebug=V:=by kernel_rfl
theorem abb:laidOutB M=true:=by kernel_rfl
end Go.Proofs.YtjeamjdieofoeaaGreatDoor
namespace Go.Proofs.YtjeamjdieofoeaaGreatDoor
open Go.RowKit
theorem KH(s:ByteArray)(af:s.size<=4100)(w:S):
  U M 181 #[O s] w fun e w'=>e= R (O (fG (oJ s)))/\Below w.heap.size w w':=by
 go_in;go_wp2_with fail;go_loopw [4,5] (fun A t wr=>∃b g:Nat,b<=s.size/\t= .int .i64 b/\wr.ownsRow w.heap.size 5 1 A g (B8 (qt s b))/\Below w.heap.size w wr) (fun _ t _=>s.size-(intOf t).toNat)
 case atStart=>exact⟨0,1,aL _,rfl,uG w 34,(ah _ _).alloc (ag _) _⟩
 case round=>
  obtain⟨b,g,u,rfl,h,c⟩:=hrel;have x:=xC h;have z:=FK s b u;have ad:g<=20000:=by omega
  clear x z;by_cases y:b<s.size
  ·have i:Hid (qt s (b+1)=qt s b++en (s[b].toNat:Int)):=FJ s b y;obtain⟨a,r⟩:∃a:Int,a=(s[b].toNat:Int):=⟨_,rfl⟩;have J:0<=a:=by omega
   have K:a<256:=by have:=s[b].toNat_lt;omega
   rw[<-r]at i;have L:∀w,(Instr.index 9 (O s) (.int .i64 (b:Int))).run M w= .ok (.int .u8 a) w:=by
    intro w;rw[r];go_simp
   clear r;by_cases k:a=10
   ·subst k;go_wp2_with (at_builtin;refine jc rfl (.tmp 24) (.tmp 25) rfl w.heap.size _ g (qt s b) rfl h c.size (by omega) [92,110] 2 rfl (by decide) (by decide) _ rfl rfl ?_;intro m j n f d);go_roundw
    case rel=>exact⟨b+1,_,by omega,by go_num,by rw[i.out];exact f,c.trans d⟩
    case measure=>simp[intOf];omega
   have E:(a==10)=false:=by simp[k]
   by_cases l:a=9
   ·subst l;go_wp2_with (at_builtin;refine jc rfl (.tmp 30) (.tmp 31) rfl w.heap.size _ g (qt s b) rfl h c.size (by omega) [92,116] 2 rfl (by decide) (by decide) _ rfl rfl ?_;intro m j n f d);go_roundw
    case rel=>exact⟨b+1,_,by omega,by go_num,by rw[i.out];exact f,c.trans d⟩
    case measure=>simp[intOf];omega
   have F:(a==9)=false:=by simp[l]
   by_cases o:a=34
   ·subst o;go_wp2_with (at_builtin;refine jc rfl (.tmp 40) (.tmp 42) rfl w.heap.size _ g (qt s b) rfl h c.size (by omega) [92,34] 2 rfl (by decide) (by decide) _ rfl rfl ?_;intro m j n f d);go_roundw
    case rel=>exact⟨b+1,_,by omega,by go_num,by rw[i.out];exact f,c.trans d⟩
    case measure=>simp[intOf];omega
   have G:(a==34)=false:=by simp[o]
   by_cases p:a=92
   ·subst p;go_wp2_with (at_builtin;refine jc rfl (.tmp 40) (.tmp 42) rfl w.heap.size _ g (qt s b) rfl h c.size (by omega) [92,92] 2 rfl (by decide) (by decide) _ rfl rfl ?_;intro m j n f d);go_roundw
    case rel=>exact⟨b+1,_,by omega,by go_num,by rw[i.out];exact f,c.trans d⟩
    case measure=>simp[intOf];omega
   have H:(a==92)=false:=by simp[p]
   by_cases e5:a<32\/126<a
   ·have q:Hid (en a=[92,120,nH (a / 16),nH (a%16)]):=by unfold en Hid;rw[aa k,aa l,aa (by omega),ab e5]
    clear k l o p;have ak:=yD (a / 16) (by omega) (by omega);have al:=yD (a%16) (by omega) (by omega);have I:=akz a (by omega) (by omega);rcases e5 with e5|e5;all_goals
     go_wp2_with fail;go_region_held3 (fun w'=>True) (trivial) ((refine Bd (by rfl) _ _ (by rfl) w.heap.size _ g (qt s b) (by rfl) h c.size (by omega) [92,120,_,_] 4 (by rfl) (by decide) (by decide) _ (by rfl) (by rfl) ?_;intro m j n f d))
     all_goals
      go_wp2;go_roundw
      case rel=>exact⟨b+1,_,by omega,by go_num,by rw[i.out,q.out];assumption,c.trans (by assumption)⟩
      case measure=>simp[intOf];omega
   ·have q:Hid (en a=[a]):=by unfold en Hid;rw[aa k,aa l,aa (by omega),aa e5]
    have B:¬a<32:=by omega
    have C:¬126<a:=by omega
    clear k l o p e5;go_wp2_with (at_builtin;refine jc rfl (.tmp 17) (.tmp 19) rfl w.heap.size _ g (qt s b) rfl h c.size (by omega) [a] 1 rfl (by decide) (by decide) _ rfl rfl ?_;intro m j n f d);go_roundw
    case rel=>exact⟨b+1,_,by omega,by go_num,by rw[i.out,q.out];exact f,c.trans d⟩
    case measure=>simp[intOf];omega
  ·have v:b=s.size:=by omega
   subst v;go_wp2_with (at_builtin;refine jc rfl (.tmp 62) (.tmp 63) rfl w.heap.size _ g (qt s s.size) rfl h c.size (by omega) [34] 1 rfl (by decide) (by decide) _ rfl rfl ?_;intro m j n f d;have am:=oI f);go_ret;exact⟨rfl,c.trans d⟩
theorem acG(s:ByteArray)(a:s.size<=4000)(w:S):
  U M 181 #[O s] w fun e w'=>e= R (O (fG (oJ s)))/\Below w.heap.size w w':=KH s (by omega) w
abbrev mv(b:Nat)(f:FuncId):T:= .func (.func f) #[X (Q ⟨b,0,V⟩)] #[]
def K6(b:Nat):Array T:=#[.nilFunc,mv b 40,mv b 41,mv b 42,mv b 43,mv b 44,mv b 45,mv b 46,mv b 47,mv b 48,mv b 49,mv b 50,mv b 51,mv b 52,mv b 53,mv b 54,mv b 55,.nilFunc,.nilFunc,.nilFunc,mv b 56,mv b 57,mv b 58,mv b 59,mv b 60,mv b 61,mv b 62,mv b 63,mv b 64,mv b 64,mv b 65,mv b 64,mv b 66,mv b 67,mv b 68,mv b 69,mv b 70,mv b 71,.nilFunc,.nilFunc,mv b 72,mv b 73,mv b 74]
theorem F6{base g:Nat}{w W:S}(h:Below base w W)(c:base<=g)(cs:Array T):Below base w (W.setRow g cs):=
 ⟨h.os,h.tape,h.output,by unfold World.setRow;simp;exact h.size,fun a b=>by
  unfold World.setRow;have:a≠g:=by omega
  simp only[Array.getElem?_modify];rw[aa (by omega)];exact h.block a b⟩
theorem BH(w:S):
  U M 16 #[] w fun e w'=>e= R (X (Q ⟨w.heap.size,0,V⟩))/\w'.heap[w.heap.size]?=Q (.cells (K6 w.heap.size) 100 (0,0))/\Below w.heap.size w w':=by
 have a:=aA w (.cells #[.nilFunc,.nilFunc,.nilFunc,.nilFunc,.nilFunc,.nilFunc,.nilFunc,.nilFunc,.nilFunc,.nilFunc,.nilFunc,.nilFunc,.nilFunc,.nilFunc,.nilFunc,.nilFunc,.nilFunc,.nilFunc,.nilFunc,.nilFunc,.nilFunc,.nilFunc,.nilFunc,.nilFunc,.nilFunc,.nilFunc,.nilFunc,.nilFunc,.nilFunc,.nilFunc,.nilFunc,.nilFunc,.nilFunc,.nilFunc,.nilFunc,.nilFunc,.nilFunc,.nilFunc,.nilFunc,.nilFunc,.nilFunc,.nilFunc,.nilFunc] 100);have c:Below w.heap.size w (w.alloc (.cells #[.nilFunc,.nilFunc,.nilFunc,.nilFunc,.nilFunc,.nilFunc,.nilFunc,.nilFunc,.nilFunc,.nilFunc,.nilFunc,.nilFunc,.nilFunc,.nilFunc,.nilFunc,.nilFunc,.nilFunc,.nilFunc,.nilFunc,.nilFunc,.nilFunc,.nilFunc,.nilFunc,.nilFunc,.nilFunc,.nilFunc,.nilFunc,.nilFunc,.nilFunc,.nilFunc,.nilFunc,.nilFunc,.nilFunc,.nilFunc,.nilFunc,.nilFunc,.nilFunc,.nilFunc,.nilFunc,.nilFunc,.nilFunc,.nilFunc,.nilFunc] 100)):=(ah _ w).alloc (ag _) _;go_enter Tryz.func16,Tryz.ntmps16;go_wp21
 have b:=run_storeVar_row (P:=M) _ w.heap.size 100 98 _ (K6 w.heap.size) a (by kernel_rfl) rfl (by kernel_rfl);simp[go_sem,K6,mv]at b;rw[b];go_wp2_with fail;go_ret;exact⟨rfl,setRow_heap _ _ _ _ _ _ a,F6 c (ag _) _⟩
end Go.Proofs.YtjeamjdieofoeaaGreatDoor
namespace Go.Proofs
open Go.Shelf
def Tryz.lays156_ren:Go.Shelf.Ren:=⟨fun|156=>190|165=>232|166=>233|169=>235|240=>264|241=>265|276=>284|277=>285|n=>n,fun|31=>42|9=>9|3=>3|4=>4|0=>0|20=>20|72=>248|76=>251|70=>246|37=>39|75=>250|127=>274|164=>290|5=>5|80=>253|n=>n,fun|n=>n⟩
theorem Tryz.lays156:Go.Proofs.Lays.n156 M Tryz.lays156_ren:={
 mixed:=by kernel_rfl
 f156:=Tryz.func190.trans (congrArg Q (by kernel_rfl))
 f165:=Tryz.func232.trans (congrArg Q (by kernel_rfl))
 f166:=Tryz.func233.trans (congrArg Q (by kernel_rfl))
 f169:=Tryz.func235.trans (congrArg Q (by kernel_rfl))
 f240:=Tryz.func264.trans (congrArg Q (by kernel_rfl))
 f241:=Tryz.func265.trans (congrArg Q (by kernel_rfl))
 f276:=Tryz.func284.trans (congrArg Q (by kernel_rfl))
 f277:=Tryz.func285.trans (congrArg Q (by kernel_rfl))
 t0:=Tryz.underlying0
 a0:=Tryz.isAgg0
 z0:=Tryz.sizeOf0
 v0:=Tryz.zeroValue0
 t3:=Tryz.underlying3
 a3:=Tryz.isAgg3
 z3:=Tryz.sizeOf3
 v3:=Tryz.zeroValue3
 t4:=Tryz.underlying4
 a4:=Tryz.isAgg4
 z4:=Tryz.sizeOf4
 v4:=Tryz.zeroValue4
 t9:=Tryz.underlying9
 a9:=Tryz.isAgg9
 z9:=Tryz.sizeOf9
 v9:=Tryz.zeroValue9
 t20:=Tryz.underlying20
 a20:=Tryz.isAgg20
 z20:=Tryz.sizeOf20
 v20:=Tryz.zeroValue20
 t31:=Tryz.underlying42
 a31:=Tryz.isAgg42
 z31:=Tryz.sizeOf42
 v31:=Tryz.zeroValue42
 t37:=Tryz.underlying39
 a37:=Tryz.isAgg39
 z37:=Tryz.sizeOf39
 v37:=Tryz.zeroValue39
 t70:=Tryz.underlying246
 a70:=Tryz.isAgg246
 z70:=Tryz.sizeOf246
 v70:=Tryz.zeroValue246
 t72:=Tryz.underlying248
 a72:=Tryz.isAgg248
 z72:=Tryz.sizeOf248
 v72:=Tryz.zeroValue248
 t75:=Tryz.underlying250
 a75:=Tryz.isAgg250
 z75:=Tryz.sizeOf250
 v75:=Tryz.zeroValue250
 t76:=Tryz.underlying251
 a76:=Tryz.isAgg251
 z76:=Tryz.sizeOf251
 v76:=Tryz.zeroValue251
 t127:=Tryz.underlying274
 a127:=Tryz.isAgg274
 z127:=Tryz.sizeOf274
 v127:=Tryz.zeroValue274
 t164:=Tryz.underlying290
 a164:=Tryz.isAgg290
 z164:=Tryz.sizeOf290
 v164:=Tryz.zeroValue290}
theorem Tryz.Builder_Extra_156:Builder.Extra M Tryz.lays156_ren:={
 sizeBuilder:=by kernel_rfl
 liesBuilder:=by kernel_rfl
 t5:=Tryz.underlying5
 a5:=Tryz.isAgg5
 z5:=Tryz.sizeOf5
 v5:=Tryz.zeroValue5
 infoByte:=by kernel_rfl
 cellsByte:=by kernel_rfl
 sizeByte:=by kernel_rfl
 neB5:=by decide}
open Go.RowKit in
theorem Tryz.strings_Join_none(a:Option Addr)(c:Nat)(b:ByteArray)(w:S):
  U M 190 #[Z a 0 c,O b] w fun e w'=>e= R (O ⟨#[]⟩)/\w'=w:=Any.strings_Join_none Tryz.lays156 Tryz.Builder_Extra_156 a c b w
open Go.RowKit in
theorem Tryz.strings_Join(a o c:Nat)(xs:List ByteArray)(b:ByteArray)(w:S)(h:∀(j:Nat) x,xs[j]?=Q x->w.cell? ⟨a,o+j,V⟩=Q (O x))(f:a<w.heap.size)(d:xs.length<=140737488355328)(g:xs.length<=c)(i:(Lib.join (xs.map (·.data.toList)) b.data.toList).length<=140737488355328):
  U M 190 #[Z (Q ⟨a,o,V⟩) xs.length c,O b] w fun e w'=>e= R (O ⟨(Lib.join (xs.map (·.data.toList)) b.data.toList).toArray⟩)/\Below w.heap.size w w':=Any.strings_Join Tryz.lays156 Tryz.Builder_Extra_156 a o c xs b w h f d g i
end Go.Proofs
namespace Go.Proofs.YtjeamjdieofoeaaGreatDoor
open Go.RowKit
def acH:List Nd->Nat
 |[]=>0
 |N::l=>Ek N+acH l
open Go.ChangeShapes Go.WideShapes Go.ChangeAt Go.WideMaps Go.WideElems Go.Deep
structure BI (N:Nd):Prop where
 k: -9223372036854775808<=N.k/\N.k<=9223372036854775807
 f: -9223372036854775808<=N.f/\N.f<=9223372036854775807
 t: -9223372036854775808<=N.t/\N.t<=9223372036854775807
 l: -9223372036854775808<=N.l/\N.l<=9223372036854775807
 op: -9223372036854775808<=N.op/\N.op<=9223372036854775807
 n: -9223372036854775808<=N.n/\N.n<=9223372036854775807
 ks:∀z∈N.ks, -9223372036854775808<=z/\z<=9223372036854775807
end Go.Proofs.YtjeamjdieofoeaaGreatDoor
namespace Go.Proofs.YtjeamjdieofoeaaGreatDoor
open Go.RowKit Go.Maps Go.WideMaps
def xJ(n:Int):ByteArray:=⟨(Lib.itoa n).toArray⟩
def BJ:ByteArray:=⟨#[32]⟩
def akL:ByteArray:=⟨#[10]⟩
def IA:List ByteArray->ByteArray
 |[]=>⟨#[]⟩
 |s::l=>(BJ++s)++IA l
def K8:List ByteArray->Nat
 |[]=>0
 |s::l=>s.size+K8 l
theorem BL(l:List ByteArray):(IA l).size=l.length+K8 l:=by
 induction l with
 |nil=>rfl
 |cons a l b=>show((BJ++a)++IA l).size=_;rw[ay,ay,b];show 1+a.size+_=(l.length+1)+(a.size+K8 l);omega
def akd(N:Nd):ByteArray:=
 (((((((⟨#[]⟩:ByteArray)++(xJ N.k++BJ))++(xJ N.f++BJ))++(xJ N.t++BJ))++(xJ N.l++BJ))++(xJ N.op++BJ))++(xJ N.n++BJ))
def aey(s:ByteArray):ByteArray:=fG (oJ s)
def aii(N:Nd):ByteArray:=
 (((akd N++((aey N.x++BJ)++xJ N.nm.length))++IA N.nm)++(BJ++xJ N.ks.length))++IA (N.ks.map xJ)
def abc:List Nd->ByteArray
 |[]=>⟨#[]⟩
 |N::l=>(aii N++akL)++abc l
theorem jI(n:Int)(a: -9223372036854775808<=n)(b:n<=9223372036854775807):(xJ n).size<=21:=by
 show(Lib.itoa n).toArray.size<=21;rw[gj];exact Lib.itoa_length_le n a b
theorem La(x:List Int):(fG x).size=x.length:=by
 have d:∀(x:List Int)(a:ByteArray),(x.foldl (fun b e=>b.push (UInt8.ofNat e.toNat)) a).size=a.size+x.length:=by
  intro x
  induction x with
  |nil=>intro a;rfl
  |cons f b c=>intro a;show(b.foldl _ (a.push _)).size=_;rw[c];simp;omega
 have:=d x ByteArray.empty;unfold fG;rw[this];simp
theorem yE(s:ByteArray):(aey s).size<=2+4*s.size:=by
 unfold aey;rw[La];unfold oJ;have:=FK s s.size (ag _);simp;omega
theorem aij(l:List ByteArray):K8 l=acE l:=by
 induction l with
 |nil=>rfl
 |cons a l b=>show a.size+K8 l=a.size+acE l;rw[b]
theorem aez(l:List Int)(h:∀z∈l, -9223372036854775808<=z/\z<=9223372036854775807):K8 (l.map xJ)<=21*l.length:=by
 induction l with
 |nil=>exact ag _
 |cons a l c=>
  have d:=c fun z b=>h z (dI _ b);have e:=jI a (h a (cE)).1 (h a (cE)).2;show(xJ a).size+K8 (l.map xJ)<=21*(l.length+1);omega
theorem acI{N:Nd}(h:BI N)(u:N.nm.length<=1048576)(s:N.ks.length<=1048576):(aii N).size<=220+22*Ek N:=by
 have b:=jI _ h.k.1 h.k.2;have c:=jI _ h.f.1 h.f.2;have d:=jI _ h.t.1 h.t.2;have e:=jI _ h.l.1 h.l.2;have g:=jI _ h.op.1 h.op.2;have i:=jI _ h.n.1 h.n.2;have j:=jI (N.nm.length:Int) (by omega) (by omega);have m:=jI (N.ks.length:Int) (by omega) (by omega);have o:=yE N.x;have p:=BL N.nm;have a:=BL (N.ks.map xJ);have q:=aez N.ks h.ks;have r:=aij N.nm;have v:BJ.size=1:=rfl;have s0:(⟨#[]⟩:ByteArray).size=0:=rfl;rw[cj]at a;unfold aii akd Ek aew;simp only[ay];omega
theorem Lb(l:List Nd)(h:∀N∈l,BI N)(a:∀N∈l,N.nm.length<=1048576/\N.ks.length<=1048576):(abc l).size<=221*l.length+22*acH l:=by
 induction l with
 |nil=>exact ag _
 |cons N l d=>
  have e:=d (fun c b=>h c (dI _ b)) fun c b=>a c (dI _ b);have f:=acI (h N (cE)) (a N (cE)).1 (a N (cE)).2;have g:akL.size=1:=rfl;show((aii N++akL)++abc l).size<=221*(l.length+1)+22*(Ek N+acH l);rw[ay,ay];omega
