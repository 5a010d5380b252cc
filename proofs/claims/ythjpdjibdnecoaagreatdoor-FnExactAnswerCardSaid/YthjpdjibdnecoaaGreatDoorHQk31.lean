import Derived.Test.YthjpdjibdnecoaaGreatDoorHQk14
import Derived.Test.YthjpdjibdnecoaaGreatDoorHQk27
import Derived.Test.YthjpdjibdnecoaaGreatDoorHQk09
import Derived.Test.YthjpdjibdnecoaaGreatDoorHQk30
import Derived.Stop.LaidErr
set_option linter.all false
set_option maxRecDepth 100000
set_option maxHeartbeats 1600000
open Go.Proofs.Tryz renaming prog->M
open Go.Value renaming int->O,slice->R,string->X,string->A1,agg->A4
open Go.IntKind renaming i64->Q
open Option renaming some->S,none->Ax
open Go.MakeChecks renaming laidMetH_plain->T
open Go.Obj renaming cells->U
open Go renaming World->Y,Value->A2,Calls->A3,TypeId->A5
open Go.Ending renaming returned->Z
open Go.RowKit renaming Below->A0
namespace Go.Proofs.YthjpdjibdnecoaaGreatDoor
open Go.ChangeShapes Go.WideShapes Go.ChangeAt Go.WideMaps Go.WideElems Go.RowKit
def ale(V:Array A2):List (List UInt8):=V.toList.map fun b=>match b with| .string a=>a.data.toList|_=>[]
theorem Ft{W:Y}{d:String}{c:DataW Unit}{g:Nat}{t:A5}{n:Nat}{V:Array A2}(v:([(d,c)].all fun x=>x.2.handleName?.isNone)=true)
  (s:Tryz.prog.globalNamed d=S g) (l:(Tryz.prog.globals[g]?).map (·.type)=S t) (w:Tryz.prog.underlying t=S (.array n 9)) (o:Tryz.prog.cellsOf 9=1) (p:Tryz.prog.cellsOf t=n)
  (q:c= .agg ((ale V).map fun b=> .lit (.string b))) (m:(ale V).map (fun b=>A1 ⟨b.toArray⟩)=V.toList) (h:laidMetH M [(d,c)] W):∃e fr,W.heap[g]?=S (.cells V e fr):=by
 rw[T _ _ _ v]at h;obtain⟨E,⟨B,G,i,A,C,F,f,y,a,r,_,_⟩,_,_⟩:=h;obtain rfl:=bu (s.symm.trans f);obtain rfl:=bu (l.symm.trans y);subst q;have j:=C3 w Tryz.underlying9 o p r;have k:i=V:=by
  apply Array.toList_inj.1;rw[j,m]
 simp only[World.var?,f,Ay]at a;split at a
 ·rename_i z e fr u;cases a;exact⟨e,fr,by rw[<-k];exact u⟩
 ·cases a
theorem aed{W:Y}{a nm:String}{b:DataW Unit}{g:Nat}{t:A5}{ms:Array (String×A5)}(n:([(a,DataW.iface nm b)].all fun x=>x.2.handleName?.isNone)=true)
  (m:Tryz.prog.globalNamed a=S g) (k:(Tryz.prog.globals[g]?).map (·.type)=S t) (o:Tryz.prog.underlying t=S (.interface ms)) (h:laidMetH M [(a,.iface nm b)] W):∃s r,W.cell? ⟨g,0,Ax⟩=S (.iface s r):=by
 rw[T _ _ _ n]at h;obtain⟨z,⟨w,B,f,v,y,A,c,p,q,l,_,_⟩,_,_⟩:=h;obtain rfl:=bu (m.symm.trans c);obtain rfl:=bu (k.symm.trans p);obtain⟨u,d,e,i,_,_⟩:=iface_of_trod o l;refine⟨d,e,?_⟩;have:=Ep c q 0;rw[this];have j:f.toList[0]?=S (.iface d e):=by rw[i];rfl
 simpa using j
def ajf:List Int:=[0,1,56,2,57,49,28,3,61,58,42,50,38,29,17,4,62,47,59,36,45,43,51,22,53,39,33,30,24,18,12,5,63,55,48,27,60,41,37,16,46,35,44,21,52,32,23,11,54,26,40,15,34,20,31,10,25,14,19,9,13,8,7,6]
theorem alf:Tryz.prog.globalNamed "math/bits.deBruijn64tab" =S 10:=by kernel_rfl
theorem amB:Tryz.prog.globalNamed "internal/strconv.uint64pow10" =S 5:=by kernel_rfl
theorem amC:Tryz.prog.globalNamed "strconv.ErrSyntax" =S 12:=by kernel_rfl
theorem amD:Tryz.prog.globalNamed "strconv.ErrRange" =S 13:=by kernel_rfl
theorem amE:Tryz.prog.globalNamed "loop.example/warp/impl.wordTexts" =S 3:=by kernel_rfl
theorem amF:Tryz.prog.globalNamed "loop.example/warp/impl.markTexts" =S 6:=by kernel_rfl
theorem amG:Tryz.prog.globalNamed "loop.example/warp/impl.binaryTexts" =S 7:=by kernel_rfl
theorem ahm{W:Y}(c:laidMetH M [("loop.example/warp/impl.wordTexts",Rows.laid_loop_example_warp_impl_wordTexts)] W)(d:laidMetH M [("loop.example/warp/impl.markTexts",Rows.laid_loop_example_warp_impl_markTexts)] W)(e:laidMetH M [("loop.example/warp/impl.binaryTexts",Rows.laid_loop_example_warp_impl_binaryTexts)] W)(f:laidMetH M [("strconv.ErrSyntax",Rows.laid_strconv_ErrSyntax)] W)(g:laidMetH M [("strconv.ErrRange",Rows.laid_strconv_ErrRange)] W)(a:laidMetH M [("internal/strconv.uint64pow10",Rows.laid_internal_strconv_uint64pow10)] W)(b:laidMetH M [("math/bits.deBruijn64tab",Rows.laid_math_bits_deBruijn64tab)] W):Hg W:=by
 refine⟨⟨?_,?_,?_⟩,⟨?_,?_⟩,?_,?_⟩
 ·exact Ft (V:=ez) (by kernel_rfl) amE (t:=192) (by kernel_rfl) Tryz.underlying192 (by kernel_rfl) (by kernel_rfl) rfl rfl c
 ·exact Ft (V:=iI) (by kernel_rfl) amF (t:=271) (by kernel_rfl) Tryz.underlying271 (by kernel_rfl) (by kernel_rfl) rfl rfl d
 ·exact Ft (V:=lC) (by kernel_rfl) amG (t:=272) (by kernel_rfl) Tryz.underlying272 (by kernel_rfl) (by kernel_rfl) rfl rfl e
 ·exact aed (by kernel_rfl) amC (t:=33) (by kernel_rfl) Tryz.underlying33 f
 ·exact aed (by kernel_rfl) amD (t:=33) (by kernel_rfl) Tryz.underlying33 g
 ·rw[T _ _ _ (by kernel_rfl)]at a;exact Lib.tabIs_of_head amB (t:=261) (by kernel_rfl) Tryz.underlying261 Tryz.underlying233 (by kernel_rfl) (by kernel_rfl) a
 ·rw[T _ _ _ (by kernel_rfl)]at b;have h:laidMet M [("math/bits.deBruijn64tab",Lib.tabData .u8 ajf)] W:=b;exact(Lib.tabIs_of_head alf (t:=297) (by kernel_rfl) Tryz.underlying297 Tryz.underlying5 (by kernel_rfl) (by kernel_rfl) h).cell alf 15 (by decide)
def ahn{H:Type}(x:Int×Int×Int):DataW H:= .agg [.lit (.int .i64 x.1),.lit (.int .i64 x.2.1),.lit (.int .i64 x.2.2)]
def aee(x:Int×Int×Int):List A2:=[O Q x.1,O Q x.2.1,O Q x.2.2]
theorem alg(l:List A2)(h:l.length=3):∃a b c,l=[a,b,c]:=by
 match l,h with
 |[a,b,c],_=>exact⟨a,b,c,rfl⟩
theorem aho{H:Type}{enc:A5×A2->H}{W:Y}{base:Nat}{r:Nat->Bool}{m:Bool}{fuel:Nat}{l:List A2}{x:Int×Int×Int}{p:List MemPlace}(h:DataW.trod enc M W base r m fuel 245 l=S (ahn x,p)):l=aee x:=by
 have j:Tryz.prog.cellsOf 3=1:=by kernel_rfl
 have k:Tryz.prog.cellsOf 245=3:=by kernel_rfl
 obtain⟨w,y,z,v,a,e,b,c,d⟩:=Go.Deep.trod_struct3 Tryz.underlying245 h;rw[k]at e;obtain⟨s,t,u,rfl⟩:=alg l e;simp[j]at b c d;obtain⟨z0,f,n,_⟩:=Eu Tryz.underlying3 b;obtain⟨A,g,o,_⟩:=Eu Tryz.underlying3 c;obtain⟨B,i,q,_⟩:=Eu Tryz.underlying3 d;simp at f g i;subst f g i;unfold ahn at a;rw[n,o,q]at a;simp at a;unfold aee;rw[a.1.1,a.1.2.1,a.1.2.2]
theorem DL:∀(a:List (Int×Int×Int))(cs:List A2),cs.length=3*a.length->(∀i x,a[i]?=S x->(cs.drop (i*3)).take 3=aee x)->cs=a.flatMap aee
 |[],cs,b,_=>by simpa using b
 |x::a,cs,b,h=>by
  have c:=h 0 x rfl;simp only[Nat.zero_mul,pn]at c;have e:=DL a (cs.drop 3) (by rw[jx,b];simp;omega) (fun i f d=>by
   have:=h (i+1) f (by simpa using d);rw[List.drop_drop];rw[show(i+1)*3=3+i*3 by omega]at this;exact this)
  rw[xg,<-e,<-c];exact(An 3 cs).symm
def aef:List (Int×Int×Int):=[(26,1,2),(10,2,3),(73,3,4),(74,3,4),(75,3,4),(76,3,4),(77,3,4),(78,3,4),(72,4,4),(68,5,6),(69,6,7),(67,7,8),(70,8,9),(71,8,9),(61,9,10),(62,9,10),(63,10,11),(64,10,11),(65,10,11),(66,10,11)]
theorem amH:Tryz.prog.globalNamed "loop.example/warp/impl.powers" =S 4:=by kernel_rfl
theorem ahp{W:Y}(h:laidMetH M [("loop.example/warp/impl.powers",Rows.laid_loop_example_warp_impl_powers)] W):∃e fr,W.heap[4]?=S (.cells Hx e fr):=by
 rw[T _ _ _ (by kernel_rfl)]at h;obtain⟨F,⟨A,H,c,q,E,G,g,y,b,r,_,_⟩,_,_⟩:=h;obtain rfl:=bu (amH.symm.trans g);obtain rfl:=bu ((show(Tryz.prog.globals[4]?).map (·.type)=S 246 by kernel_rfl).symm.trans y);have l:Tryz.prog.cellsOf 245=3:=by kernel_rfl
 have m:Tryz.prog.cellsOf 246=60:=by kernel_rfl
 have s:DataW.trod _ M W _ _ _ q 246 c.toList=S (.agg (aef.map ahn),_):=r;obtain⟨k,C,_,j,w,B,t⟩:=DataW.trod_array Tryz.underlying246 s;simp only[gw,DataW.agg.injEq]at j;have n:c.toList=aef.flatMap aee:=by
  refine DL aef _ (by rw[w,m];rfl) (fun a x i=>?_);have v:a<20:=by have:=(List.getElem?_eq_some_iff.1 i).1;simpa [aef] using this
  have f:=t a v;rw[l,bJ (by omega)]at f;have d:(k.map (·.1))[a]?=(aef.map ahn)[a]?:=by rw[j.1]
  rw[cA,cA,bJ (by omega),i]at d;simp only[xc,dr]at d;exact aho (x:=x) (p:=k[a].2) (by rw[f,<-d])
 have o:c=Hx:=by
  apply Array.toList_inj.1;rw[n];rfl
 simp only[World.var?,g,Ay]at b;split at b
 ·rename_i z e fr u;cases b;exact⟨e,fr,by rw[<-o];exact u⟩
 ·cases b
end Go.Proofs.YthjpdjibdnecoaaGreatDoor
namespace Go.Proofs.YthjpdjibdnecoaaGreatDoor
open Go
theorem ahq{P:Program}{l:List (String×DataW Unit)}{n f c:Nat}{os:Os}(args:Array A2)(h:doorLeaves P n f c l os (fun _ _=>0)=S (l.filter fun x=>x.2.handleName?.isNone,(funcsListed l).map (·.2.funcsOut))):laidMetH P l ((World.doorLaid P n os).forCall (fun _ _=>0) ⟨#[],args,[]⟩).memory:=by
 unfold doorLeaves at h;split at h
 ·rename_i m k g;simp only[Option.bind_eq_some_iff]at h;obtain⟨x,i,a⟩:=h;split at a
  ·rename_i b;simp only[be]at b;simp only[Option.map_eq_some_iff,gw]at a;obtain⟨o,j,d,e⟩:=a;refine laidMetH.of_heap ?_ (laidMetH_of_parts3 (fuel:=f) (laidMet_of_run (ps:=x.2) f (by rw[i,<-d]) (bC (nodupBits_sound b.1.1).1) b.1.2) b.2 (by rw[j,e]));show k.heap=(varsWorld P n (varsId P) os (fun _ _=>0)).heap;unfold varsWorld;rw[g]
  ·cases a
 ·cases h
theorem Fu(os:Os)(args:Array A2):laidMetH M Rows.fnExactAnswerRow.laid ((World.doorLaid M 400 os).forCall (fun _ _=>0) ⟨#[],args,[]⟩).memory:=ahq args (at1 os _)
end Go.Proofs.YthjpdjibdnecoaaGreatDoor
namespace Go.Proofs.YthjpdjibdnecoaaGreatDoor
open Go.RowKit Go.Maps Go.WideMaps
def uw(s:ByteArray):Nat->Nat×Nat
 |0=>(1,1)
 |k+1=>if az s k=10 then((uw s k).1+1,1) else((uw s k).1,(uw s k).2+1)
theorem aap(s:ByteArray):∀k,(uw s k).1<=k+1/\(uw s k).2<=k+1
 |0=>⟨ae _,ae _⟩
 |k+1=>by
  have:=aap s k;rw[uw];split<;>exact⟨by simp only;omega,by simp only;omega⟩
theorem ahr(s:ByteArray)(j:Nat)(h:j<s.size):((s.data[j]!).toNat:Int)=az s j:=by
 unfold az;rw[kJ h,getElem!_pos s.data j h];rfl
theorem aeg(s t:ByteArray)(c:Int):∀k,(∀j,j<k->((s.data[j]!).toNat:Int)=((t.data[j]!).toNat:Int))->Lib.lastIdx s c k=Lib.lastIdx t c k
 |0,_=>rfl
 |k+1,h=>by
  rw[Lib.lastIdx,Lib.lastIdx,h k (by omega),aeg s t c k fun j a=>h j (by omega)]
theorem aib(s:ByteArray):∀k,k<=s.size->1+Lib.countByte (s.data.toList.take k) 10=(uw s k).1/\(k:Int)-Lib.lastIdx s 10 k=((uw s k).2:Int)
 |0,_=>⟨rfl,rfl⟩
 |k+1,h=>by
  obtain⟨d,l⟩:=aib s k (by omega);have e:=ahr s k (by omega);have g:k<s.data.toList.length:=by rw[iv];exact h
  have f:s.data.toList[k]?=S (s.data[k]!):=by
   rw[bJ g,getElem!_pos s.data k h];rfl
  have i:s.data.toList.take (k+1)=s.data.toList.take k++[s.data[k]!]:=by rw[fK,f];rfl
  unfold Lib.countByte at d⊢;rw[i,Au,uw];by_cases a:az s k=10
  ·have c:(s.data[k]!).toNat=10:=by omega
   have b:s.data[k]! =10:=UInt8.toNat_inj.1 (by rw[c];rfl);rw[ab a,Lib.lastIdx_hit s 10 k (by omega),b];exact⟨by simp<;>omega,by simp<;>omega⟩
  ·have b:s.data[k]!≠10:=fun j=>a (by rw[<-e,j];rfl);rw[aa a,Lib.lastIdx_miss s 10 k (by omega),show List.count 10 [s.data[k]!]=0 from List.count_eq_zero_of_not_mem (by simpa using dD b)];exact⟨by simp<;>omega,by simp<;>omega⟩
theorem ajg(s:ByteArray)(k:Nat)(h:k<=s.size):1+Lib.countByte (s.extract 0 k).data.toList 10=(uw s k).1/\(k:Int)-Lib.lastIndexByte (s.extract 0 k) 10=((uw s k).2:Int):=by
 obtain⟨d,e⟩:=aib s k h;have a:(s.extract 0 k).data.toList=s.data.toList.take k:=by rw[<-fj,Lib.extract_toList];simp
 have g:=oE s 0 k h;refine⟨by rw[a];exact d,?_⟩;unfold Lib.lastIndexByte;rw[<-e,g,AJ,aeg (s.extract 0 k) s 10 k fun c f=>?_];have b:((s.extract 0 k).data.toList[c]?)=s.data.toList[c]?:=by rw[a,kE];simp[f]
 rw[pm,pm]at b;rw[getElem!_def,getElem!_def,b]
def abG(s:ByteArray)(k:Nat):ByteArray:=bB ((uw s k).1:Nat)++⟨#[58]⟩++bB ((uw s k).2:Nat)
def aeh(s:ByteArray)(c a:Int)(D:ByteArray):ByteArray:=if c=0 then⟨#[102,105,110,101,10]⟩++D else if c=2 then⟨#[108,97,114,103,101,10]⟩ else⟨#[102,97,117,108,116]⟩++(⟨#[32]⟩++abG s a.toNat)++⟨#[10]⟩
theorem yI(s:ByteArray)(k:Nat)(h:k<=2000000):(bB ((uw s k).1:Nat)).size<=21/\(bB ((uw s k).2:Nat)).size<=21:=by
 have:=aap s k;exact⟨fe _ (by omega) (by omega),fe _ (by omega) (by omega)⟩
theorem Ig(w:Y)(s:ByteArray)(k:Nat)(p:k<=s.size)(F:s.size<=65536)(l:∀(n:Int) (W:Y),0<=n->n<=1000000->A0 w.heap.size w W->A3 M 28 #[O Q n] W fun e c=>e= Z (X (bB n))/\A0 W.heap.size W c):
  A3 M 12 #[X s,O Q k] w fun e c=>e= Z (X (abG s k))/\A0 w.heap.size w c:=by
 obtain⟨h,d⟩:=ajg s k p;have i:=aap s k;have b:=yI s k (by omega);have q:=fun W=>Tryz.strings_Count_one (s.extract 0 k) 10 W;have r:∀W,A3 M 27 #[X (s.extract 0 k),X ⟨#[10]⟩] W fun e c=>e= Z (O Q (Lib.lastIndexByte (s.extract 0 k) 10))/\c=W:=fun W=>Tryz.strings_LastIndex_one (s.extract 0 k) ⟨#[10]⟩ rfl (by rw[oE s 0 k p];omega) W;unfold abG;generalize (uw s k).1=m at h i b⊢;generalize (uw s k).2=g at d i b⊢;generalize Lib.countByte (s.extract 0 k).data.toList 10=u at h q;generalize Lib.lastIndexByte (s.extract 0 k) 10=v at d r;have j:=fun W=>l ((m:Nat):Int) W (by omega) (by omega);have a:=fun W=>l ((g:Nat):Int) W (by omega) (by omega);generalize bB (m:Nat)=o at j b⊢;generalize bB (g:Nat)=t at a b⊢;have A:(1:Int)+(u:Int)=(m:Int):=by omega
 have B:(k:Int)-v=(g:Int):=d;have G:¬9223372036854775807<o.size+1:=by omega
 have H:¬9223372036854775807<o.size+1+t.size:=by omega
 have y:=aw a;obtain⟨C,E⟩:=i;clear h d l b a;go_in;go_wp2_with (first|(go_at_call 26;refine dK (q _) ?_)|(go_at_call 27;refine dK (r _) ?_));refine aJ (j _ (ag _ _)) fun z f=>?_;have a:=y.out z f;clear j;go_wp2_with fail;refine aJ a fun I x=>?_;clear a;go_wp2_with fail;go_ret;exact⟨rfl,f.trans (x.mono f.size)⟩
def erV(c a:Int)(E:A2):A2:=if c=0 then .nilIface else if c=1 then .iface 38 (A4 #[O Q a]) else E
theorem Fv(w:Y)(b:Nat)(v:A2)(h:w.heap[b]?=S (.cells #[v] 26 (0,0))):(loadVar 26 ⟨b,0,Ax⟩).run M w= .ok (.agg #[v]) w:=
 AD w b 26 26 _ _ _ h Tryz.underlying26 rfl (by kernel_rfl)
def TrP(w:Y)(c a:Int)(ns:List Nd)(E:A2)(e:Ending)(b:Y):Prop:=∃d f g,e= Z (.tuple #[A4 #[R d f g],erV c a E])/\(c=0->fx b (R d f g) ns)/\A0 w.heap.size w b
theorem Kg(w:Y)(s:ByteArray){c a:Int}{ns:List Nd}{E:A2}(L:c=0\/c=1\/c=2)(r:w.cell? ⟨0,0,Ax⟩=S E)
  (I:∀W,A0 w.heap.size w W->A3 M 17 #[X s] W fun e A=>∃v m,e= Z (A4 #[O Q c,O Q a,v])/\m.map Mb.N=ns/\lI A W.heap.size A.heap.size v m/\A0 W.heap.size W A):
  A3 M 9 #[X s] w (TrP w c a ns E):=by
 have av:∀w:Y,(zeroValue 28).run M w= .ok (A4 #[O Q 0,O Q 0,R Ax 0 0]) w:=fun w=>by kernel_rfl
 have a0:∀w:Y,(zeroValue 26).run M w= .ok (A4 #[R Ax 0 0]) w:=fun w=>by kernel_rfl
 have a1:∀w:Y,(zeroValue 38).run M w= .ok (A4 #[O Q 0]) w:=fun w=>by kernel_rfl
 have i:=bg w (U #[R Ax 0 0] 26);have o:=aj w (U #[R Ax 0 0] 26);have u:(w.alloc (U #[R Ax 0 0] 26)).heap.size=w.heap.size+1:=aF _ _;have x:=I _ i;clear I;go_in;go_wp2_with fail;generalize w.alloc (U #[R Ax 0 0] 26)=ad at i o u x⊢;refine x.mono ?_;rintro e f ⟨v,m,rfl,C,l,n⟩;have J:Lw f (w.heap.size+1) v m:=⟨u ▸ l.row,fun b G=>u ▸ ⟨(l.each b G).on,(l.each b G).ok⟩⟩;obtain⟨b,g,d,rfl⟩:∃b g d,v= R b g d:=by obtain⟨b,d,k⟩:=bz l.row;exact⟨b,_,d,k⟩
 have y:=bg f (U #[O Q c,O Q a,R b g d] 28);have z:=aj f (U #[O Q c,O Q a,R b g d] 28);have q:=(n.block _ (ah o)).trans o;have t:=(y.block _ (ah q)).trans q;have B:=(i.trans (n.mono i.size)).trans (y.mono (bF i.size n.size));have ao:=ai B r;have ar:w.heap.size≠f.heap.size:=by have:=ah q;omega
 have F:=y.block;have h:Hid (∀j:A2,((f.alloc (U #[O Q c,O Q a,R b g d] 28)).setCell ⟨w.heap.size,0,Ax⟩ j).heap[w.heap.size]?=S (U #[j] 26 (0,0))/\A0 w.heap.size w ((f.alloc (U #[O Q c,O Q a,R b g d] 28)).setCell ⟨w.heap.size,0,Ax⟩ j)/\fx ((f.alloc (U #[O Q c,O Q a,R b g d] 28)).setCell ⟨w.heap.size,0,Ax⟩ j) (R b g d) ns):=fun j=>⟨bi _ _ 0 _ _ _ t,B.setCell (p:=⟨w.heap.size,0,Ax⟩) (ae _) j,by rw[<-C];exact(J.mono fun H an K=>(aD _ _ _ _ (by show H≠w.heap.size;omega)).trans (F H K)).nds⟩;have af:(f.alloc (U #[O Q c,O Q a,R b g d] 28)).cell? ⟨f.heap.size,0,Ax⟩=S (O Q c):=by rw[aq _ _ _ _ _ _ z];rfl
 have ak:(f.alloc (U #[O Q c,O Q a,R b g d] 28)).cell? ⟨f.heap.size,1,Ax⟩=S (O Q a):=by rw[aq _ _ _ _ _ _ z];rfl
 have al:(f.alloc (U #[O Q c,O Q a,R b g d] 28)).cell? ⟨f.heap.size,2,Ax⟩=S (R b g d):=by rw[aq _ _ _ _ _ _ z];rfl
 have a2:(f.alloc (U #[O Q c,O Q a,R b g d] 28)).cell? ⟨w.heap.size,0,Ax⟩=S (R Ax 0 0):=by rw[aq _ _ _ _ _ _ t];rfl
 have am:(f.alloc (U #[O Q c,O Q a,R b g d] 28)).frozen? ⟨w.heap.size,0,Ax⟩=false:=cC _ _ _ _ _ t;have ap:=ai (h.out (R Ax 0 0)).2.1 r;clear x l J F C r o q i n;rcases L with rfl|rfl|rfl
 ·go_wp2_with fail;exact ba (oH rfl _ _ _ ⟨w.heap.size,0,Ax⟩ _ _ rfl rfl (Fv _ _ _ (h.out _).1)) rfl (show TrP w 0 a ns E _ _ from⟨_,_,_,rfl,fun _=>(h.out _).2.2,(h.out _).2.1⟩)
 ·go_wp2_with fail;go_region
  all_goals (go_wp2_with fail)
  all_goals exact ba (oH rfl _ _ _ ⟨w.heap.size,0,Ax⟩ _ _ rfl rfl (Fv _ _ _ (h.out _).1)) rfl (show TrP w 1 a ns E _ _ from⟨_,_,_,rfl,fun k=>by simp at k,cj (h.out _).2.1⟩)
 ·go_wp2_with fail;go_region
  all_goals (go_wp2_with fail)
  all_goals exact ba (oH rfl _ _ _ ⟨w.heap.size,0,Ax⟩ _ _ rfl rfl (Fv _ _ _ (h.out _).1)) rfl (show TrP w 2 a ns E _ _ from⟨_,_,_,rfl,fun k=>by simp at k,cj (h.out _).2.1⟩)
theorem amI(v:A2)(w:Y):(Go.method 466 38 v "Error").run M w= .ok (285,v) w:=by kernel_rfl
theorem amJ(v:A2)(w:Y):(Go.method 466 325 v "Error").run M w= .ok (318,v) w:=by kernel_rfl
theorem ajh(z:Int)(w:Y):A3 M 285 #[A4 #[O Q z]] w fun e a=>e= Z (X ⟨#[102,97,117,108,116]⟩)/\a=w.alloc (U #[O Q z] 38):=by
 go_in;go_wp2_with fail;go_ret;exact⟨rfl,rfl⟩
theorem aji(a:Addr)(t:ByteArray)(w:Y)(h:w.cell? a=S (X t)):A3 M 318 #[.pointer (S a)] w fun e b=>e= Z (X t)/\b=w:=by
 go_in;go_wp2_with fail;go_ret;exact⟨rfl,rfl⟩
structure AnL (w:Y):Prop where
 ty:w.cell? ⟨1,0,Ax⟩=S (.iface 110 (.agg #[.pointer (S ⟨22,33,Ax⟩)]))
 er:∃ea,w.cell? ⟨0,0,Ax⟩=S (.iface 325 (.pointer (S ea)))/\w.cell? ea=S (.string ⟨#[108,97,114,103,101]⟩)
theorem Ih(w:Y)(s:ByteArray){c a:Int}{ns:List Nd}{D:ByteArray}(L:c=0\/c=1\/c=2)(a9:0<=a)(bb:a<=(s.size:Int))(ap:c=1->s.size<=65536)(bd:D.size<=70368744177664)(q:AnL w)
  (ak:∀W,A0 w.heap.size w W->A3 M 17 #[X s] W fun e j=>∃v J,e= Z (A4 #[O Q c,O Q a,v])/\J.map Mb.N=ns/\lI j W.heap.size j.heap.size v J/\A0 W.heap.size W j)
  (ad:∀W v,A0 w.heap.size w W->fx W v ns->A3 M 10 #[A4 #[v]] W fun e j=>e= Z (X D)/\A0 W.heap.size W j)
  (af:∀(n:Int)(W:Y),0<=n->n<=1000000->A0 w.heap.size w W->A3 M 28 #[O Q n] W fun e j=>e= Z (X (bB n))/\A0 W.heap.size W j):
  A3 M 5 #[X s] w fun e j=>e= Z (X (aeh s c a D))/\A0 w.heap.size w j:=by
 obtain⟨f,rfl⟩:∃f:Nat,a=(f:Int):=⟨a.toNat,by omega⟩;obtain⟨K,av,a1⟩:=q.er;have h:=Kg w s L av ak;have I:=q.ty;have al:=aw ad;have am:=aw af;have bn:=amI;have bo:=amJ;have bl:∀w:Y,(zeroValue 38).run M w= .ok (A4 #[O Q 0]) w:=fun w=>by kernel_rfl
 have bk:∀w:Y,(zeroValue 26).run M w= .ok (A4 #[R Ax 0 0]) w:=fun w=>by kernel_rfl
 unfold TrP erV at h;obtain⟨an,B⟩:=ay (aeh s c (f:Int) D);rw[B];have y:=aw B;clear ak ad af q B;rcases L with rfl|rfl|rfl
 ·rw[ab rfl]at h;go_in;go_wp2_with fail;refine h.mono ?_;rintro e b ⟨r,t,g,rfl,p,d⟩;have F:=bg b (U #[R r t g] 26);have u:=gK ((p trivial).below F) (d.trans (F.mono d.size));have a5:¬9223372036854775807<5+D.size:=by omega
  clear h p;go_wp2_with fail;refine aJ (al.out _ _ u.out.2 u.out.1) fun a7 A=>?_;go_wp2_with fail;go_ret;exact⟨congrArg (fun g=>Ending.returned (A1 g)) y.out,u.out.2.trans (A.mono u.out.2.size)⟩
 ·rw[aa (by decide),ab rfl]at h;have ar:=ap rfl;have o:Hid (∀(b:Y)(i l E:Obj),A0 w.heap.size w b->A0 w.heap.size w (((b.alloc i).alloc l).alloc E)):=fun b i l E k=>((k.alloc k.size i).alloc (bF k.size (bg b i).size) l).alloc (bF k.size (bF (bg b i).size (bg _ l).size)) E;go_in;go_wp2_with fail;refine h.mono ?_;rintro e b ⟨r,t,g,rfl,p,d⟩;clear h p;go_wp2_with fail;refine(ajh _ _).mono ?_;rintro e j ⟨rfl,rfl⟩;go_wp2_with fail;refine(aiD f _ (O Q 0) _ (ai (o.out b _ _ _ d) I) ?_).mono ?_
  ·have:=aj ((b.alloc (U #[R r t g] 26)).alloc (U #[O Q f] 38)) (U #[O Q 0] 38);simpa using this
  rintro e G ⟨rfl,a6,z⟩;have bh:=d.size;have m:=(o.out b _ _ _ d).trans (z.mono (by omega));have a8:G.cell? ⟨b.heap.size+1+1,0,Ax⟩=S (O Q f):=by rw[aq _ _ _ _ _ _ a6];rfl
  have C:=Ig G s f (by omega) ar (fun n W a3 a4 a0=>am.out n W a3 a4 (m.trans (a0.mono m.size)));have a2:=yI s f (by omega);have q:(abG s f).size<=43:=by unfold abG;rw[cL,cL];have:(⟨#[58]⟩:ByteArray).size=1:=rfl;omega
  have H:Hid (⟨#[102,97,117,108,116]⟩++(⟨#[32]⟩++abG s f)++⟨#[10]⟩=an):=y.out;generalize abG s f=x at C q H;have a5:¬9223372036854775807<1+x.size:=by omega
  have F:¬9223372036854775807<5+(1+x.size):=by omega
  have br:¬9223372036854775807<5+(1+x.size)+1:=by omega
  clear a2 q;go_wp2_with fail;refine aJ C fun a7 A=>?_;clear C;go_wp2_with fail;go_ret;exact⟨congrArg (fun g=>Ending.returned (A1 g)) H.out,m.trans (A.mono m.size)⟩
 ·rw[aa (by decide),aa (by decide)]at h;have o:Hid (∀(b:Y)(i l:Obj),A0 w.heap.size w b->A0 w.heap.size w ((b.alloc i).alloc l)):=fun b i l k=>(k.alloc k.size i).alloc (bF k.size (bg b i).size) l;go_in;go_wp2_with fail;refine h.mono ?_;rintro e b ⟨r,t,g,rfl,p,d⟩;have ao:(b.alloc (U #[R r t g] 26)).cell? K=S (X ⟨#[108,97,114,103,101]⟩):=ai (d.trans ((bg b _).mono d.size)) a1;clear h p;go_wp2_with fail;refine dK (aji K _ _ ao) ?_;go_wp2_with fail;refine aJ (agn _ _ _ (ai (o.out b _ _ d) I)) fun G z=>?_;have m:=(o.out b _ _ d).trans (z.mono (o.out b _ _ d).size);go_wp2_with fail;go_ret;exact⟨congrArg (fun g=>Ending.returned (A1 g)) y.out,m⟩
theorem alh:Tryz.prog.globalNamed "loop.example/warp/impl.errLarge" =S 0:=by kernel_rfl
theorem amK:Tryz.prog.globalNamed "errors.errorType" =S 1:=by kernel_rfl
theorem aei: "*" ++ "errors.errorString" = "*errors.errorString" :=by decide
theorem ali(u:A5)(h:Tryz.prog.typeName? 3 u=S "*errors.errorString"):u=325:=
 typeName_ptr_named (nm:= "errors.errorString") (by rw[aei];kernel_rfl) (by kernel_rfl) (by decide) u (by rw[aei];exact h)
theorem amL{W:Y}(b:laidMetH M [("loop.example/warp/impl.errLarge",Rows.laid_loop_example_warp_impl_errLarge)] W):∃a,W.cell? ⟨0,0,Ax⟩=S (.iface 325 (.pointer (S a)))/\W.cell? a=S (.string ⟨#[108,97,114,103,101]⟩):=by
 rw[T _ _ _ (by kernel_rfl)]at b;obtain⟨c,h,f,d,e,_⟩:=laid_sentinel (ts:=9) b alh (ti:=33) (by kernel_rfl) Tryz.underlying33 ali Tryz.underlying325 Tryz.underlying327 rfl rfl Tryz.underlying9 (by kernel_rfl) (by kernel_rfl);refine⟨c,by simpa using Ep alh f 0,?_⟩;obtain⟨⟨g⟩⟩:=h;obtain rfl:g=[108,97,114,103,101]:=e;exact d
theorem am0{W:Y}(h:laidMetH M [("errors.errorType",Rows.laid_errors_errorType)] W):W.cell? ⟨1,0,Ax⟩=S (.iface 110 (.agg #[.pointer (S ⟨22,33,Ax⟩)])):=by
 have j:laidMet M [] W/\handlesMet M [("errors.errorType",Rows.laid_errors_errorType)] W:=h;obtain⟨n,p,o,d,e,f,g,b⟩:=j.2 _ (List.mem_singleton.2 rfl);have i:n=[101,114,114,111,114]:=(bu d).symm;subst i;obtain rfl:=bu ((show(Tryz.prog.cutTypes.find? (·.1== "internal/reflectlite.rtype")).map (·.2)=S 110 by kernel_rfl).symm.trans e);have m:Tryz.prog.types.size=366:=by kernel_rfl
 have l:((List.range 366).filter fun a=>Tryz.prog.rowNamed a [101,114,114,111,114])=[33]:=by kernel_rfl
 have c:o∈(List.range 366).filter fun a=>Tryz.prog.rowNamed a [101,114,114,111,114]:=List.mem_filter.2 ⟨List.mem_range.2 (by rw[<-m];exact f),g⟩;rw[l]at c;obtain rfl:=List.mem_singleton.1 c;have k:typeHandle M 33= .pointer (S ⟨22,33,Ax⟩):=by kernel_rfl
 rw[k]at b;simpa using Ep amK b 0
theorem ajj(a B:ByteArray):(⟨#[102,97,117,108,116,32]⟩++a++⟨#[58]⟩++B++⟨#[10]⟩:ByteArray)=⟨#[102,97,117,108,116]⟩++(⟨#[32]⟩++(a++⟨#[58]⟩++B))++⟨#[10]⟩:=by
 have b:(⟨#[102,97,117,108,116,32]⟩:ByteArray)=⟨#[102,97,117,108,116]⟩++⟨#[32]⟩:=by decide
 rw[b];simp only[jv]
theorem Ii(w:Y)(s:ByteArray)(bl:s.size<=1048576){c a:Int}{ns:List Nd}{D:ByteArray}(av:c=0\/c=1\/c=2)(a9:0<=a)(ar:a<=(s.size:Int))(bb:D.size<=70368744177664)
  (af:A3 M 6 #[X s] w fun e f=>∃v,e= Z (A4 #[O Q c,O Q a,v])/\fx f v ns/\A0 w.heap.size w f)
  (L:∀W v,fx W v ns->A3 M 7 #[A4 #[v]] W fun e f=>e= Z (X D)/\A0 W.heap.size W f)
  (ad:∀(n:Int)(W:Y),0<=n->n<=2000000->A3 M 8 #[O Q n] W fun e f=>e= Z (X (bB n))/\A0 W.heap.size W f):
  A3 M 4 #[X s] w fun e f=>e= Z (X (aeh s c a D))/\A0 w.heap.size w f:=by
 have bn:∀w:Y,(zeroValue 28).run M w= .ok (A4 #[O Q 0,O Q 0,R Ax 0 0]) w:=fun w=>by kernel_rfl
 obtain⟨d,rfl⟩:∃d:Nat,a=(d:Int):=⟨a.toNat,by omega⟩;have ar:d<=s.size:=by omega
 have ak:=aw L;have I:=aw ad;obtain⟨am,G⟩:=ay (aeh s c (d:Int) D);rw[G];have E:=aw G;clear L ad G;go_in;go_wp2_with fail;refine af.mono ?_;rintro e g ⟨v,rfl,F,J⟩;have x:=bg g (U #[O Q c,O Q d,v] 28);have y:=aj g (U #[O Q c,O Q d,v] 28);have h:=gK (F.below x) (J.trans (x.mono J.size));obtain⟨z,A,rfl⟩:=F.form;generalize ns.length=n at x y h⊢;clear af F;obtain⟨a6,a7,a8⟩:(g.alloc (U #[O Q c,O Q d,R z n A] 28)).cell? ⟨g.heap.size,0,Ax⟩=S (O Q c)/\(g.alloc (U #[O Q c,O Q d,R z n A] 28)).cell? ⟨g.heap.size,1,Ax⟩=S (O Q d)/\(g.alloc (U #[O Q c,O Q d,R z n A] 28)).cell? ⟨g.heap.size,2,Ax⟩=S (R z n A):=⟨by rw[aq _ _ _ _ _ _ y];rfl,by rw[aq _ _ _ _ _ _ y];rfl,by rw[aq _ _ _ _ _ _ y];rfl⟩;rcases av with rfl|rfl|rfl
 ·go_wp2_with fail;refine aJ (ak.out _ _ h.out.1) fun a5 r=>?_;have a2:¬9223372036854775807<5+D.size:=by omega
  go_wp2_with fail;go_ret;exact⟨congrArg (fun o=>Ending.returned (A1 o)) E.out,h.out.2.trans (r.mono h.out.2.size)⟩
 ·have k:Hid (⟨#[102,97,117,108,116,32]⟩++bB ((uw s d).1:Nat)++⟨#[58]⟩++bB ((uw s d).2:Nat)++⟨#[10]⟩=am):=by
   show _=_;rw[ajj,<-E.out];rfl
  go_wp2_with fail;go_loop [4,5,6] (fun a4 a3 H=>∃b:Nat,b<=d/\a4= O Q ((uw s b).1:Nat)/\a3= O Q ((uw s b).2:Nat)/\H= O Q b) (fun _ _ H=>d-(intOf H).toNat)
  case atStart=>exact⟨0,aL _,rfl,rfl,rfl⟩
  case round=>
   obtain⟨b,bd,rfl,rfl,rfl⟩:=hrel;have j:=aap s b;by_cases bk:b<d
   ·have K:=fun w=>cD (show b<s.size by omega) w;have bh:(b:Int)<(d:Int):=by omega
    have i:Hid (uw s (b+1)=if az s b=10 then((uw s b).1+1,1) else((uw s b).1,(uw s b).2+1)):=rfl;generalize (uw s b).1=q at j i⊢;generalize (uw s b).2=C at j i⊢;obtain⟨a0,a1⟩:=j;by_cases e:az s b=10
    ·rw[e]at K;have l:Hid (uw s (b+1)=(q+1,1)):=by show _=_;rw[i.out,ab e]
     clear i e;go_wp2_with fail;exact⟨⟨b+1,by omega,by rw[l.out];go_num,by rw[l.out];rfl,by go_num⟩,by simp[intOf];omega⟩
    ·have l:Hid (uw s (b+1)=(q,C+1)):=by show _=_;rw[i.out,aa e]
     have ap:(az s b==10)=false:=beq_eq_false_iff_ne.2 e;generalize az s b=B at K ap;clear i e;go_wp2_with fail;exact⟨⟨b+1,by omega,by rw[l.out],by rw[l.out];go_num,by go_num⟩,by simp[intOf];omega⟩
   ·obtain rfl:b=d:=by omega
    have m:=yI s b (by omega);have t:=fun W=>I.out ((uw s b).1:Nat) W (by omega) (by omega);have u:=fun W=>I.out ((uw s b).2:Nat) W (by omega) (by omega);generalize (uw s b).1=q at j m t k⊢;generalize (uw s b).2=C at j m u k⊢;generalize bB (q:Nat)=p at m t k;generalize bB (C:Nat)=B at m u k;have a2:¬9223372036854775807<6+p.size:=by omega
    have x:¬9223372036854775807<6+p.size+1:=by omega
    have bo:¬9223372036854775807<6+p.size+1+B.size:=by omega
    have br:¬9223372036854775807<6+p.size+1+B.size+1:=by omega
    obtain⟨a0,a1⟩:=j;have al:=aw u;clear m u;go_wp2_with fail;refine aJ (t _) fun a5 r=>?_;clear t;go_wp2_with fail;refine aJ (al.out _) fun bs ao=>?_;go_wp2_with fail;go_ret;have an:=r.trans (ao.mono r.size);exact⟨congrArg (fun o=>Ending.returned (A1 o)) k.out,h.out.2.trans (an.mono h.out.2.size)⟩
 ·go_wp2_with fail;go_ret;exact⟨congrArg (fun o=>Ending.returned (A1 o)) E.out,h.out.2⟩
