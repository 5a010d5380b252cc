import Derived.Test.YtbkolnpplhbdmaaGreatDoorHPl14
import Derived.Test.YtbkolnpplhbdmaaGreatDoorHPl15
import Derived.Test.YtbkolnpplhbdmaaGreatDoorHPl16
set_option linter.all false
set_option maxRecDepth 100000
set_option maxHeartbeats 25600000
open Go.Proofs.Tryz
open Go.Value renaming slice->O,int->Ak,pointer->A5,string->A9,tuple->Bc
open Option renaming some->Q,none->A0
open Go.Proofs.Tryz renaming prog->U
open Go.MakeChecks renaming laidMetH_plain->Ad
open Go.IntKind renaming i64->Ax
open Go renaming Value->A1,World->A2,Calls->Bk,TypeId->Br
open Bool renaming false->A3,true->Bn
namespace Go.Proofs.YtbkolnpplhbdmaaGreatDoor
open Go.ChangeShapes Go.WideShapes Go.ChangeAt Go.WideMaps Go.WideElems Go.RowKit
variable{L M c1 i n tab:Nat}{N:Nd}{W w0:World}{ak an:Option Addr}{p1:Addr}{s:ByteArray}
def aqL(V:Array A1):List (List UInt8):=V.toList.map λa=>match a with| .string s=>s.data.toList|_=>[]
def IH{c:String}{d:DataW Unit}{g:Nat}{t:Br}{V:Array A1}(u:([(c,d)].all λx=>x.2.handleName?.isNone)=Bn)
  (r:Tryz.prog.globalNamed c=Q g) (k:(Tryz.prog.globals[g]?).map (·.type)=Q t) (ht:Tryz.prog.underlying t=Q (.array n 9)) (m:Tryz.prog.cellsOf 9=1) (o:Tryz.prog.cellsOf t=n)
  (p:d= .agg ((aqL V).map λb=> .lit (.string b))) (l:(aqL V).map (λb=>Value.string ⟨b.toArray⟩)=V.toList) (h:laidMetH U [(c,d)] W):∃tt fr,W.heap[g]?=Q (.cells V tt fr):=by
 rw[Ad _ _ _ u]at h;obtain⟨B,⟨z,E,f,y,A,C,e,v,a,q,_,_⟩,_,_⟩:=h;obtain rfl:=aJ (r.symm.trans e);obtain rfl:=aJ (k.symm.trans v);subst p;have i:=FC ht underlying9 m o q;have j:f=V:=by
  apply Array.toList_inj.1;rw[i,l]
 simp only[World.var?,e,Cv]at a;split at a
 .rename_i w tt fr s;cases a;exact⟨tt,fr,by rw[<-j];exact s⟩
 .cases a
def ahj{a nm:String}{d:DataW Unit}{g:Nat}{t:Br}{ms:Array (String×Br)}(n:([(a,DataW.iface nm d)].all λx=>x.2.handleName?.isNone)=Bn)
  (m:Tryz.prog.globalNamed a=Q g) (k:(Tryz.prog.globals[g]?).map (·.type)=Q t) (ht:Tryz.prog.underlying t=Q (.interface ms)) (h:laidMetH U [(a,.iface nm d)] W):∃r q,W.cell? ⟨g,0,A0⟩=Q (.iface r q):=by
 rw[Ad _ _ _ n]at h;obtain⟨y,⟨v,A,f,u,w,z,b,o,p,l,_,_⟩,_,_⟩:=h;obtain rfl:=aJ (m.symm.trans b);obtain rfl:=aJ (k.symm.trans o);have⟨s,c,e,i,_,_⟩:=iface_of_trod ht l;refine⟨c,e,?_⟩;have:=World.var?_cell b p 0;rw[this];have j:f.toList[0]?=Q (.iface c e):=by rw[i];rfl
 simpa using j
def aof:List Int:=[0,1,56,2,57,49,28,3,61,58,42,50,38,29,17,4,62,47,59,36,45,43,51,22,53,39,33,30,24,18,12,5,63,55,48,27,60,41,37,16,46,35,44,21,52,32,23,11,54,26,40,15,34,20,31,10,25,14,19,9,13,8,7,6]
def aq0:Tryz.prog.globalNamed "math/bits.deBruijn64tab" =Q 11:=by kernel_rfl
def ass:Tryz.prog.globalNamed "internal/strconv.uint64pow10" =Q 9:=by kernel_rfl
def ast:Tryz.prog.globalNamed "strconv.ErrSyntax" =Q 6:=by kernel_rfl
def asu:Tryz.prog.globalNamed "strconv.ErrRange" =Q 7:=by kernel_rfl
def asv:Tryz.prog.globalNamed "loop.example/warp/impl.wordTexts" =Q 0:=by kernel_rfl
def asw:Tryz.prog.globalNamed "loop.example/warp/impl.markTexts" =Q 2:=by kernel_rfl
def asx:Tryz.prog.globalNamed "loop.example/warp/impl.binaryTexts" =Q 3:=by kernel_rfl
def akz(c:laidMetH U [("loop.example/warp/impl.wordTexts",Rows.laid_loop_example_warp_impl_wordTexts)] W)(d:laidMetH U [("loop.example/warp/impl.markTexts",Rows.laid_loop_example_warp_impl_markTexts)] W)(e:laidMetH U [("loop.example/warp/impl.binaryTexts",Rows.laid_loop_example_warp_impl_binaryTexts)] W)(f:laidMetH U [("strconv.ErrSyntax",Rows.laid_strconv_ErrSyntax)] W)(g:laidMetH U [("strconv.ErrRange",Rows.laid_strconv_ErrRange)] W)(a:laidMetH U [("internal/strconv.uint64pow10",Rows.laid_internal_strconv_uint64pow10)] W)(b:laidMetH U [("math/bits.deBruijn64tab",Rows.laid_math_bits_deBruijn64tab)] W):Lay W:=by
 refine⟨⟨?_,?_,?_⟩,⟨?_,?_⟩,?_,?_⟩
 .exact IH (V:=fD) (by kernel_rfl) asv (t:=124) (by kernel_rfl) underlying124 (by kernel_rfl) (by kernel_rfl) rfl rfl c
 .exact IH (V:=jr) (by kernel_rfl) asw (t:=223) (by kernel_rfl) underlying223 (by kernel_rfl) (by kernel_rfl) rfl rfl d
 .exact IH (V:=lH) (by kernel_rfl) asx (t:=224) (by kernel_rfl) underlying224 (by kernel_rfl) (by kernel_rfl) rfl rfl e
 .exact ahj (by kernel_rfl) ast (t:=244) (by kernel_rfl) underlying244 f
 .exact ahj (by kernel_rfl) asu (t:=244) (by kernel_rfl) underlying244 g
 .rw[Ad _ _ _ (by kernel_rfl)]at a;exact Lib.tabIs_of_head ass (t:=312) (by kernel_rfl) underlying312 underlying37 (by kernel_rfl) (by kernel_rfl) a
 .rw[Ad _ _ _ (by kernel_rfl)]at b;have h:laidMet U [("math/bits.deBruijn64tab",Lib.tabData .u8 aof)] W:=b;exact(Lib.tabIs_of_head aq0 (t:=317) (by kernel_rfl) underlying317 underlying5 (by kernel_rfl) (by kernel_rfl) h).cell aq0 15 (by decide)
def aog(h:laidMetH U [("math/bits.deBruijn32tab",Rows.laid_math_bits_deBruijn32tab),("math/bits.deBruijn64tab",Rows.laid_math_bits_deBruijn64tab),("internal/strconv.uint64pow10",Rows.laid_internal_strconv_uint64pow10),("strconv.ErrRange",Rows.laid_strconv_ErrRange),("strconv.ErrSyntax",Rows.laid_strconv_ErrSyntax),("loop.example/warp/impl.wordTexts",Rows.laid_loop_example_warp_impl_wordTexts),("loop.example/warp/impl.markTexts",Rows.laid_loop_example_warp_impl_markTexts),("loop.example/warp/impl.binaryTexts",Rows.laid_loop_example_warp_impl_binaryTexts)] W):Lay W:=
 akz (h.filter λa=>a.1== "loop.example/warp/impl.wordTexts") (h.filter λa=>a.1== "loop.example/warp/impl.markTexts") (h.filter λa=>a.1== "loop.example/warp/impl.binaryTexts") (h.filter λa=>a.1== "strconv.ErrSyntax") (h.filter λa=>a.1== "strconv.ErrRange") (h.filter λa=>a.1== "internal/strconv.uint64pow10") (h.filter λa=>a.1== "math/bits.deBruijn64tab")
def akA{H:Type}(x:Int×Int×Int):DataW H:= .agg [.lit (.int .i64 x.1),.lit (.int .i64 x.2.1),.lit (.int .i64 x.2.2)]
def ahk(x:Int×Int×Int):List A1:=[Ak Ax x.1,Ak Ax x.2.1,Ak Ax x.2.2]
def aq1(l:List A1)(h:l.length=3):∃a b c,l=[a,b,c]:=by
 match l,h with
 |[a,b,c],_=>exact⟨a,b,c,rfl⟩
def akB{H:Type}{enc:Br×A1->H}{base:Nat}{r:Nat->Bool}{m:Bool}{fuel:Nat}{l:List A1}{x:Int×Int×Int}{p:List MemPlace}(h:DataW.trod enc U W base r m fuel 186 l=Q (akA x,p)):l=ahk x:=by
 have j:Tryz.prog.cellsOf 3=1:=by kernel_rfl
 have k:Tryz.prog.cellsOf 186=3:=by kernel_rfl
 have⟨w,y,z,v,a,e,b,c,d⟩:=Go.Deep.trod_struct3 underlying186 h;rw[k]at e;obtain⟨s,t,u,rfl⟩:=aq1 l e;simp[j]at b c d;have⟨z0,f,n,_⟩:=Ho underlying3 b;have⟨A,g,o,_⟩:=Ho underlying3 c;have⟨B,i,q,_⟩:=Ho underlying3 d;simp at f g i;subst f g i;unfold akA at a;rw[n,o,q]at a;simp at a;unfold ahk;rw[a.1.1,a.1.2.1,a.1.2.2]
def GF:∀(a:List (Int×Int×Int))(cs:List A1),cs.length=3*a.length->(∀i x,a[i]?=Q x->(cs.drop (i*3)).take 3=ahk x)->cs=a.flatMap ahk
 |[],cs,b,_=>by simpa using b
 |x::a,cs,b,h=>by
  have c:=h 0 x rfl;simp only[Nat.zero_mul,kC]at c;have e:=GF a (cs.drop 3) (by rw[ir,b];simp;omega) (λi f d=>by
   have:=h (i+1) f (by simpa using d);rw[List.drop_drop];rw[show(i+1)*3=3+i*3 by omega]at this;exact this)
  rw[Cq,<-e,<-c];exact(vA 3 cs).symm
def ahl:List (Int×Int×Int):=[(26,1,2),(10,2,3),(73,3,4),(74,3,4),(75,3,4),(76,3,4),(77,3,4),(78,3,4),(72,4,4),(68,5,6),(69,6,7),(67,7,8),(70,8,9),(71,8,9),(61,9,10),(62,9,10),(63,10,11),(64,10,11),(65,10,11),(66,10,11)]
def asy:Tryz.prog.globalNamed "loop.example/warp/impl.powers" =Q 1:=by kernel_rfl
def akC(h:laidMetH U [("loop.example/warp/impl.powers",Rows.laid_loop_example_warp_impl_powers)] W):∃tt fr,W.heap[1]?=Q (.cells KA tt fr):=by
 rw[Ad _ _ _ (by kernel_rfl)]at h;obtain⟨E,⟨z,G,c,o,C,F,f,w,b,q,_,_⟩,_,_⟩:=h;obtain rfl:=aJ (asy.symm.trans f);obtain rfl:=aJ ((show(Tryz.prog.globals[1]?).map (·.type)=Q 187 by kernel_rfl).symm.trans w);have k:Tryz.prog.cellsOf 186=3:=by kernel_rfl
 have l:Tryz.prog.cellsOf 187=60:=by kernel_rfl
 have r:DataW.trod _ U W _ _ _ o 187 c.toList=Q (.agg (ahl.map akA),_):=q;have⟨j,B,_,i,v,A,s⟩:=DataW.trod_array underlying187 r;simp only[jo,DataW.agg.injEq]at i;have m:c.toList=ahl.flatMap ahk:=by
  refine GF ahl _ (by rw[v,l];rfl) (λa x g=>?_);have u:a<20:=by have:=(List.getElem?_eq_some_iff.1 g).1;simpa [ahl] using this
  have e:=s a u;rw[k,aw (by omega)]at e;have d:(j.map (·.1))[a]?=(ahl.map akA)[a]?:=by rw[i.1]
  rw[cD,cD,aw (by omega),g]at d;simp only[vD,fw]at d;exact akB (x:=x) (p:=j[a].2) (by rw[e,<-d])
 have n:c=KA:=by
  apply Array.toList_inj.1;rw[m];rfl
 simp only[World.var?,f,Cv]at b;split at b
 .rename_i y tt fr t;cases b;exact⟨tt,fr,by rw[<-n];exact t⟩
 .cases b
end Go.Proofs.YtbkolnpplhbdmaaGreatDoor
namespace Go.Proofs.YtbkolnpplhbdmaaGreatDoor
variable{L M c1 i n tab:Nat}{N:Nd}{W w0:World}{ak an:Option Addr}{p1:Addr}{s:ByteArray}
def Ej:List ByteArray:=[⟨#[32]⟩,⟨#[32,32]⟩,⟨#[9]⟩,⟨#[13]⟩,⟨#[32,9,32]⟩]
def F5:List ByteArray:=[⟨#[10]⟩,⟨#[32,45,45,122,10]⟩,⟨#[13,10,10]⟩]
def II:List ByteArray:=[⟨#[10]⟩,⟨#[59]⟩,⟨#[10,10]⟩,⟨#[32,59,32]⟩,⟨#[10,45,45,122,10]⟩,⟨#[59,59]⟩]
def PcT(s:ByteArray)(T:Tk)(b:ByteArray):Prop:=T.k≠6/\((T.k=5/\b∈II)\/(T.k≠5/\∃a,(a∈Ej\/(opn T.k=Bn/\a∈F5))/\b=s.extract T.f.toNat T.t.toNat++a))
inductive LoC (s:ByteArray):List Tk->ByteArray->Prop where
 |nil:LoC s [] ⟨#[]⟩
 |cons {T:Tk}{b y:ByteArray}{ts:List Tk}:PcT s T b->LoC s ts y->LoC s (T::ts) (b++y)
def LoC.no6{ts:List Tk}{c:ByteArray}(h:LoC s ts c):∀T∈ts,T.k≠6:=by
 induction h with
 |nil=>intro T hT;cases hT
 |cons a d b=>
  intro T hT;rcases List.mem_cons.1 hT with rfl|hT
  .exact a.1
  .exact b T hT
open Go.RowKit
def ae9(op:Int):4<=(Af op).2/\(Af op).2<=11:=by
 unfold Af
 repeat' split
 all_goals exact⟨by decide,by decide⟩
def ac8(k op:Int):2<=ui k op/\ui k op<=11:=by
 have:=ae9 op;unfold ui
 repeat' split
 all_goals omega
abbrev Cel(W:A2)(b:Nat)(N:Nd)(vn vk:A1):Prop:=W.cell? ⟨b,0,A0⟩=Q (Ak Ax N.k)/\W.cell? ⟨b,1,A0⟩=Q (Ak Ax N.f)/\W.cell? ⟨b,2,A0⟩=Q (Ak Ax N.t)/\W.cell? ⟨b,3,A0⟩=Q (Ak Ax N.l)/\W.cell? ⟨b,4,A0⟩=Q (Ak Ax N.op)/\W.cell? ⟨b,5,A0⟩=Q (Ak Ax N.n)/\W.cell? ⟨b,6,A0⟩=Q (A9 N.x)/\W.cell? ⟨b,7,A0⟩=Q vn/\W.cell? ⟨b,8,A0⟩=Q vk
def akD(ad:N.k≠29->N.k≠28->1<=N.op/\N.op<=18){e ck:Nat}(R:NdR w0 p1 i N an M e ak L ck)(ar:N.ks.length=2){q r:Nat}(A:N.ks[0]?=Q (q:Int))(h:N.ks[1]?=Q (r:Int)){f:Int}(a2:0<=f/\f<=50){sign E H:ByteArray}(x:Hid (Wr w0 (O (Q p1) n c1) tab 94 #[pW w0,Ak Ax (q:Int),Ak Ax (zi N f)] E))(ao:Hid (Wr w0 (O (Q p1) n c1) tab 94 #[pW w0,Ak Ax (r:Int),Ak Ax (ui N.k N.op)] H)):
  Wr w0 (O (Q p1) n c1) tab 166 #[pW w0,jI N (O an M e) (O ak L ck),A9 sign,Ak Ax f] (E++sign++H):=by
 intro I C z av;have K:=z.lt;have a1:=ac8 N.k N.op;obtain⟨b,rfl⟩:=R.ks.ptr;obtain rfl:L=2:=by have:=R.hL;omega
 have c:=am R;have w:=am λa0 aK=>Ko N a0 aK ad;unfold jI at w⊢;unfold zi at x;generalize ui N.k N.op=Rr at *;simp only[au]at av;have a:=am (Bx.new z N (O an M e) (O (Q b) 2 ck));have⟨j,l,m,o,p,s,t,u,v⟩:=a.cells;have af:=a.kid0 c.ks A;have al:=a.kid c.ks h (by decide);have B:Hid (∀{I:ByteArray}{d:A2},Bx w0 (O (Q p1) n c1) tab C N (O an M e) (O (Q b) 2 ck) I d->Cel d C.heap.size N (O an M e) (O (Q b) 2 ck)/\d.cell? ⟨b.block,b.off+1,A0⟩=Q (Ak Ax (r:Int))):=λa=>⟨a.cells,a.kid c.ks h (by decide)⟩;clear z R ad ar;by_cases g:Rr=f;all_goals
  first|have ap:=kqs g|have ap:(Rr==f)=A3:=by simpa using g
  first|rw[ab g]at x|rw[aa g]at x
  clear g;go_in
  repeat (go_wp2_with fail;(first|(go_at_call 209;refine dt (w _ _ _) λd y=>?_;have a:=am (a.below y);clear j l m o p s t u v;obtain⟨j,l,m,o,p,s,t,u,v⟩:=a.cells;have af:=a.kid0 c.ks A;have al:=a.kid c.ks h (by decide))|(refine Bx.stp a (ah _ _) (by with_reducible first|exact am (Ec _)|assumption) K (by(try simp only[au]);omega) ?_;intro d a;have a:=am a;clear j l m o p s t u v;obtain⟨j,l,m,o,p,s,t,u,v⟩:=a.cells;have af:=a.kid0 c.ks A;have al:=a.kid c.ks h (by decide))))
  go_wp2_with fail;go_region_held3 (λJ=>Cel J C.heap.size N (O an M e) (O (Q b) 2 ck)/\J.cell? ⟨b.block,b.off+1,A0⟩=Q (Ak Ax (r:Int))) (first|exact B G|exact B F|exact B (a.below (bF (ah _ _)))|go_keep) (first|(go_at_call 209;refine dt (w _ _ _) λd y=>?_;have F:=(a.below (bF (ah _ _))).below y)|(go_at_call 94;refine Bx.stp (am F) (ah _ _) ao K (by(try simp only[au]);omega) ?_;intro d G))
  go_wp2_with fail;go_end0
  exact Bx.fin (am G) (by simp only[de])
def ahm(J:n<=1048576)(E:i<n)(f:N.k=31->1<=N.op/\N.op<=18){c ck:Nat}(R:NdR w0 p1 i N an M c ak L ck)(d:N.k=31){least:Int}(I:¬iA N.k N.op<least)(K:(Dk (60+N.op)).size<=4){o:ByteArray}(l:Hid (Wr w0 (O (Q p1) n c1) tab 166 #[pW w0,jI N (O an M c) (O ak L ck),A9 (⟨#[32]⟩++Dk (60+N.op)++⟨#[32]⟩),Ak Ax (iA N.k N.op)] o)):
  Wr w0 (O (Q p1) n c1) tab 94 #[pW w0,Ak Ax (i:Int),Ak Ax least] o:=by
 intro z q b H;have t:=b.lt;have⟨z0,x,y⟩:=b.cells;have⟨ad,af,al,ao,ap,ar,av,aK,a0,_,_⟩:=R.rd q b.bel;have a:=am (Bx.new b N (O an M c) (O ak L ck));have F:(i:Int)<(n:Int):=by omega
 have G:(0:Int)<=(i:Int):=by omega
 have a4:=kqf d;have C:=kqs d;have j:=am λw v=>Bh N w v f;have r:=am (aas (60+N.op));have⟨a1,a2⟩:=f d;have u:IntKind.i64.wrap (60+N.op)=60+N.op:=by rw[dr];omega
 generalize Dk (60+N.op)=p at *;have A:¬9223372036854775807<1+p.size:=by omega
 have B:¬9223372036854775807<1+p.size+1:=by omega
 unfold jI at j l;generalize iA N.k N.op=a3 at *;clear b R d f y x;go_in;go_wp2_with (go_at_call 165;refine dt (j _ _ _) λm e=>?_;have a:=am (a.below e);obtain⟨a5,a6,a7,a8,a9,ba,bb,bd,bf⟩:=a.cells);go_region_held3 (λs=>Cel s q.heap.size N (O an M c) (O ak L ck)) (first|exact h.cells|exact g.cells|exact(a.below (bF (ah _ _))).cells|go_keep) (first|(go_at_call 167;(try rw[u]);refine dt (r _) λm e=>?_;have g:=(a.below (bF (ah _ _))).below e)|(go_at_call 166;refine Bx.stp (am g) (ah _ _) l t (by omega) ?_;intro m h))
 go_wp2_with fail;go_end0
 exact Bx.fin (am h) rfl
section
variable (w0 : World) (vt : Value) (t : Nat)
inductive GG (p1:Addr) (n i:Nat) (ns:List Nd) (N:Nd) (vn vk:Value):FuncId->Array Value->ByteArray->Prop
 |blk {Y:ByteArray}:Hid (N.k=1)->Hid (WB w0 vt t i Y)->GG p1 n i ns N vn vk 45 #[pW w0,.int .i64 (i:Int)] (Y)
 |let0:N.nm.length<=200->Hid (N.k=2)->N.ks.length=0->GG p1 n i ns N vn vk 45 #[pW w0,.int .i64 (i:Int)] (⟨#[108,101,116,32]⟩++eK N.nm)
 |let1 {X:ByteArray}:N.nm.length<=200->Hid (N.k=2)->0<N.ks.length->Hid (WX w0 vt t N.ks X)->GG p1 n i ns N vn vk 45 #[pW w0,.int .i64 (i:Int)] (⟨#[108,101,116,32]⟩++eK N.nm++(⟨#[32,61,32]⟩++X))
 |cst {s E:ByteArray}{q:Nat}:Hid (N.k=3)->N.ks.length=1->N.nm.length=1->N.nm[0]?=some s->N.ks[0]?=some (q:Int)->Hid (WE w0 vt t q E)->GG p1 n i ns N vn vk 45 #[pW w0,.int .i64 (i:Int)] (⟨#[99,111,110,115,116,32]⟩++s++⟨#[32,61,32]⟩++E)
 |fns {s Y:ByteArray}{q:Nat}:Hid (N.k=4)->N.ks.length=1->N.nm.length=1->N.nm[0]?=some s->N.ks[0]?=some (q:Int)->Hid (WD w0 vt t q Y)->GG p1 n i ns N vn vk 45 #[pW w0,.int .i64 (i:Int)] (⟨#[102,110,32]⟩++s++Y)
 |set {X Z:ByteArray}{m:Nat}:Hid (N.k=5)->1<=m/\m<N.ks.length->Hid (N.n=(m:Int))->Hid (WX w0 vt t (N.ks.take m) X)->Hid (WX w0 vt t (N.ks.drop m) Z)->GG p1 n i ns N vn vk 45 #[pW w0,.int .i64 (i:Int)] (X++⟨#[32,61,32]⟩++Z)
 |one {E:ByteArray}{q:Nat}:Hid (N.k=6)->N.ks.length=1->N.ks[0]?=some (q:Int)->Hid (WE w0 vt t q E)->GG p1 n i ns N vn vk 45 #[pW w0,.int .i64 (i:Int)] (E)
 |iff {Y:ByteArray}:Hid (N.k=7)->Hid (Wr w0 vt t 96 #[pW w0,jI N vn vk,.string ⟨#[105,102,32]⟩] Y)->GG p1 n i ns N vn vk 45 #[pW w0,.int .i64 (i:Int)] (Y)
 |whl {E Y:ByteArray}{q r:Nat}:Hid (N.k=8)->N.ks.length=2->N.ks[0]?=some (q:Int)->N.ks[1]?=some (r:Int)->Hid (WE w0 vt t q E)->Hid (WB w0 vt t r Y)->GG p1 n i ns N vn vk 45 #[pW w0,.int .i64 (i:Int)] (⟨#[119,104,105,108,101,32]⟩++E++⟨#[32]⟩++Y)
 |fr {X Y Z:ByteArray}{k q:Nat}:N.nm.length<=200->Hid (N.k=9)/\Z=⟨#[32,61,32]⟩/\(k=2\/k=3)\/Hid (N.k=10)/\Z=⟨#[32,105,110,32]⟩/\k=1->N.ks.length=k+1->N.ks[k]?=some (q:Int)->Hid (WX w0 vt t (N.ks.take k) X)->Hid (WB w0 vt t q Y)->GG p1 n i ns N vn vk 45 #[pW w0,.int .i64 (i:Int)] (⟨#[102,111,114,32]⟩++eK N.nm++Z++X++⟨#[32]⟩++Y)
 |brk:Hid (N.k=11)->GG p1 n i ns N vn vk 45 #[pW w0,.int .i64 (i:Int)] (⟨#[98,114,101,97,107]⟩)
 |nxt:Hid (N.k=12)->GG p1 n i ns N vn vk 45 #[pW w0,.int .i64 (i:Int)] (⟨#[110,101,120,116]⟩)
 |ret0:Hid (N.k=13)->N.ks.length=0->GG p1 n i ns N vn vk 45 #[pW w0,.int .i64 (i:Int)] (⟨#[114,101,116,117,114,110]⟩)
 |ret1 {X:ByteArray}:Hid (N.k=13)->0<N.ks.length->Hid (WX w0 vt t N.ks X)->GG p1 n i ns N vn vk 45 #[pW w0,.int .i64 (i:Int)] (⟨#[114,101,116,117,114,110]⟩++(⟨#[32]⟩++X))
 |try_ {X Y:ByteArray}{q r:Nat}:N.nm.length<=200->Hid (N.k=14)->N.ks.length=2->N.ks[0]?=some (q:Int)->N.ks[1]?=some (r:Int)->Hid (WB w0 vt t q X)->Hid (WB w0 vt t r Y)->GG p1 n i ns N vn vk 45 #[pW w0,.int .i64 (i:Int)] (⟨#[116,114,121,32]⟩++X++⟨#[32,99,97,116,99,104,32]⟩++eK N.nm++⟨#[32]⟩++Y)
 |thr {E:ByteArray}{q:Nat}:Hid (N.k=15)->N.ks.length=1->N.ks[0]?=some (q:Int)->Hid (WE w0 vt t q E)->GG p1 n i ns N vn vk 45 #[pW w0,.int .i64 (i:Int)] (⟨#[116,104,114,111,119,32]⟩++E)
 |dfr {E:ByteArray}{q:Nat}:Hid (N.k=16)->N.ks.length=1->N.ks[0]?=some (q:Int)->Hid (WE w0 vt t q E)->GG p1 n i ns N vn vk 45 #[pW w0,.int .i64 (i:Int)] (⟨#[100,101,102,101,114,32]⟩++E)
 |bod {Y Z:ByteArray}{q:Nat}:N.nm.length<=200->(N.op≠1/\Z=ByteArray.empty\/Hid (N.op=1)/\(N.nm.length=0/\Z=⟨#[46,46,46]⟩\/0<N.nm.length/\Z=⟨#[44,32]⟩++⟨#[46,46,46]⟩))->N.ks.length=1->N.ks[0]?=some (q:Int)->Hid (WB w0 vt t q Y)->GG p1 n i ns N vn vk 95 #[pW w0,.int .i64 (i:Int)] (⟨#[40]⟩++eK N.nm++Z++⟨#[41,32]⟩++Y)
 |br2 {word E Y:ByteArray}{q r:Nat}:N.ks.length=2->N.ks[0]?=some (q:Int)->N.ks[1]?=some (r:Int)->Hid (WE w0 vt t q E)->Hid (WB w0 vt t r Y)->GG p1 n i ns N vn vk 96 #[pW w0,jI N vn vk,.string word] (word++E++⟨#[32]⟩++Y)
end
def abe{e:A2}{g:Addr}{n m:Nat}{ns:List Nd}(bh:gg e (O (Q g) n m) ns)(bo:Ed e g ns)(bx:ns.length=n)(bw:n<=1048576){tab i:Nat}(br:i<n){N:Nd}(bv:N.ks.length<=1048576){s r:Option Addr}{M o L ck:Nat}(R:NdR e g i N s M o r L ck){f:FuncId}{args:Array A1}{x:ByteArray}(K:GG e (O (Q g) n m) tab g n i ns N (O s M o) (O r L ck) f args x):
  Wr e (O (Q g) n m) tab f args x:=by
 intro v a6 k t;have ao:=k.lt;have⟨z0,b0,b1⟩:=k.cells;have I:=R.hL;have J:=R.hM;have bj:=R.cap;have a:=am (Bx.new k N (O s M o) (O r L ck));have⟨ar,av,aK,a0,a1,a2,a3,a4,a5,_,_⟩:=R.rd a6 k.bel;have bs:(i:Int)<(n:Int):=by omega
 have bt:(0:Int)<=(i:Int):=by omega
 cases K
 case' let1|ret1=>have ap:(0:Int)<(L:Int):=by omega
 case' let1 hX=>have q:=am (hX _ R.ks)
 case' ret1 hX=>have q:=am (hX _ R.ks)
 case' iff hX=>unfold jI at hX
 case' set b _ hm _ hX hZ=>
  obtain⟨l,rfl⟩:=R.ks.ptr;have q:=am (hX (O (Q l) b ck) (R.ks.take b (by omega)));have bb:=am (hZ (O (Q (l.add b)) (L-b) (ck-b)) (R.ks.drop b _ (by omega) (by omega)));have ad:¬ck=0:=by omega
  have af:(b:Int)<=(ck:Int):=by omega
  have bk:(b:Int)<=(L:Int):=by omega
  have bl:¬ck=b:=by omega
  have bn:(0:Int)<=(b:Int):=by omega
 case' fr u _ _ d _ _ hX _=>
  obtain⟨l,rfl⟩:=R.ks.ptr;have q:=am (hX (O (Q l) u ck) (R.ks.take u (by omega)));have ad:¬ck=0:=by omega
  have af:(u:Int)<=(ck:Int):=by omega
  obtain⟨d,rfl,rfl|rfl⟩|⟨d,rfl,rfl⟩:=d
 case' bod d _ _ _=>
  obtain⟨d,rfl⟩|⟨d,⟨al,rfl⟩|⟨al,rfl⟩⟩:=d;all_goals first|have H:=kqs d.out|have H:(N.op==1)=A3:=by simpa using d
  all_goals try have ap:(0:Int)<(M:Int):=by omega
 all_goals
  try simp only[au]at t
  try (have h:=R.ks.ptr;obtain⟨l,rfl⟩:=h)
  try (have h:=R.nm.ptr;obtain⟨bA,rfl⟩:=h)
  try have bd:Hid (Wr e (O (Q g) n m) tab 92 #[pW e,O _ M o] (eK N.nm)):=λv w k t=>aep e _ _ N.nm v tab w k R.nm (by omega) t
  have c:=am R;try have bD:=kqf (by with_reducible assumption:Hid (N.k=_)).out
  try have bf:=kqs (by with_reducible assumption:Hid (N.k=_)).out
  try (have h:=I.symm.trans (by with_reducible assumption:N.ks.length=_);subst h)
  try (have h:=J.symm.trans (by with_reducible assumption:N.nm.length=_);subst h)
  have⟨y,z,A,B,C,p,E,F,G⟩:=a.cells
  (try have a7:=a.kid0 c.ks (by with_reducible assumption))
  (try have a8:=a.kid c.ks (j:=1) (by with_reducible assumption) (by decide))
  (try have a9:=a.kid c.ks (j:=2) (by with_reducible assumption) (by decide))
  (try have ba:=a.kid c.ks (j:=3) (by with_reducible assumption) (by decide))
  (try rw[(by with_reducible assumption:Hid (N.n=_)).out]at p)
  try have bE:=a.name0 c.nm (by with_reducible assumption)
  try unfold jI
  go_in
  repeat (go_wp2_with fail;refine Bx.stp a (ah _ _) (by with_reducible first|exact am (Ec _)|assumption) ao (by(try simp only[au]);omega) ?_;intro w a;have a:=am a;clear y z A B C p E F G;(try clear ar av aK a0 a1 a2 a3 a4 a5 z0);obtain⟨y,z,A,B,C,p,E,F,G⟩:=a.cells;(try have a7:=a.kid0 c.ks (by with_reducible assumption));(try have a8:=a.kid c.ks (j:=1) (by with_reducible assumption) (by decide));(try have a9:=a.kid c.ks (j:=2) (by with_reducible assumption) (by decide));(try have ba:=a.kid c.ks (j:=3) (by with_reducible assumption) (by decide));(try rw[(by with_reducible assumption:Hid (N.n=_)).out]at p))
  go_wp2_with fail;first|go_end0|refine aL (jp rfl _ _ _) rfl ?_
  exact Bx.fin a (by simp only[de,ByteArray.empty_append])
section
variable (w0 : World) (vt : Value) (t : Nat)
inductive ExO (n i:Nat) (ns:List Nd) (N:Nd) (vn vk:Value):FuncId->Array Value->ByteArray->Prop
 |par {Y:ByteArray}{least:Int}:iA N.k N.op<least->Hid (WE w0 vt t i Y)->ExO n i ns N vn vk 94 #[pW w0,.int .i64 (i:Int),.int .i64 least] (⟨#[40]⟩++Y++⟨#[41]⟩)
 |inf {S Y:ByteArray}{least:Int}:Hid (N.k=28)/\S=⟨#[32,97,110,100,32]⟩\/Hid (N.k=29)/\S=⟨#[32,111,114,32]⟩->¬iA N.k N.op<least->Hid (Wr w0 vt t 166 #[pW w0,jI N vn vk,.string S,.int .i64 (iA N.k N.op)] Y)->ExO n i ns N vn vk 94 #[pW w0,.int .i64 (i:Int),.int .i64 least] (Y)
 |nod {f:FuncId}{Y:ByteArray}{least:Int}:Hid (N.k=30)/\f=168\/Hid (N.k=35)/\f=170\/(20<=N.k/\N.k<=27)/\f=171->¬iA N.k N.op<least->Hid (Wr w0 vt t f #[pW w0,jI N vn vk] Y)->ExO n i ns N vn vk 94 #[pW w0,.int .i64 (i:Int),.int .i64 least] (Y)
 |idx {Y E:ByteArray}{q r:Nat}{least:Int}:Hid (N.k=32)->¬iA N.k N.op<least->N.ks.length=2->N.ks[0]?=some (q:Int)->N.ks[1]?=some (r:Int)->Hid (WA w0 vt t q Y)->Hid (WE w0 vt t r E)->ExO n i ns N vn vk 94 #[pW w0,.int .i64 (i:Int),.int .i64 least] (Y++⟨#[91]⟩++E++⟨#[93]⟩)
 |fld {Y:ByteArray}{q:Nat}{least:Int}:Hid (N.k=33)->¬iA N.k N.op<least->N.ks.length=1->N.ks[0]?=some (q:Int)->Hid (WA w0 vt t q Y)->ExO n i ns N vn vk 94 #[pW w0,.int .i64 (i:Int),.int .i64 least] (Y++(⟨#[46]⟩++N.x))
 |cal {Y X:ByteArray}{q:Nat}{least:Int}:Hid (N.k=34)->¬iA N.k N.op<least->0<N.ks.length->N.ks[0]?=some (q:Int)->Hid (WA w0 vt t q Y)->Hid (WX w0 vt t (N.ks.drop 1) X)->ExO n i ns N vn vk 94 #[pW w0,.int .i64 (i:Int),.int .i64 least] (Y++⟨#[40]⟩++X++⟨#[41]⟩)
 |fn {Y:ByteArray}{least:Int}:Hid (N.k=36)->¬iA N.k N.op<least->Hid (WD w0 vt t i Y)->ExO n i ns N vn vk 94 #[pW w0,.int .i64 (i:Int),.int .i64 least] (⟨#[102,110]⟩++Y)
 |one {E:ByteArray}{q:Nat}{least:Int}:Hid (N.k=37)->¬iA N.k N.op<least->N.ks.length=1->N.ks[0]?=some (q:Int)->Hid (WE w0 vt t q E)->ExO n i ns N vn vk 94 #[pW w0,.int .i64 (i:Int),.int .i64 least] (⟨#[40]⟩++E++⟨#[41]⟩)
 |un {A E:ByteArray}{q:Nat}:Hid (N.op=21)/\A=⟨#[110,111,116,32]⟩\/Hid (N.op=22)/\A=⟨#[35]⟩\/Hid (N.op=20)/\A=⟨#[126]⟩->N.ks.length=1->N.ks[0]?=some (q:Int)->Hid (Wr w0 vt t 94 #[pW w0,.int .i64 (q:Int),.int .i64 11] E)->ExO n i ns N vn vk 168 #[pW w0,jI N vn vk] (A++E)
end
def ahn{g:A2}{e:Addr}{n y:Nat}{ns:List Nd}(bb:gg g (O (Q e) n y) ns)(bj:Ed g e ns)(bs:ns.length=n)(br:n<=1048576){tab i:Nat}(bk:i<n){N:Nd}(bo:N.ks.length<=1048576)(ar:N.k=31->1<=N.op/\N.op<=18){w v:Option Addr}{M z L ck:Nat}(R:NdR g e i N w M z v L ck){f:FuncId}{args:Array A1}{E:ByteArray}(af:ExO g (O (Q e) n y) tab n i ns N (O w M z) (O v L ck) f args E):
  Wr g (O (Q e) n y) tab f args E:=by
 intro ba a9 d ao;have ap:=d.lt;have⟨z0,bx,bA⟩:=d.cells;have ad:=R.hL;have bd:=R.cap;have a:=am (Bx.new d N (O w M z) (O v L ck));have⟨av,aK,a0,a1,a2,a3,a4,a5,a6,_,_⟩:=R.rd a9 d.bel;have bl:(i:Int)<(n:Int):=by omega
 have bn:(0:Int)<=(i:Int):=by omega
 have C:=am λa8 a7=>Bh N a8 a7 ar;unfold jI at C;cases af
 case' inf b _ hX=>obtain⟨b,rfl⟩|⟨b,rfl⟩:=b
 case' nod b _ hX=>obtain⟨b,rfl⟩|⟨b,rfl⟩|⟨b,rfl⟩:=b
 case' un b _ _ _=>obtain⟨b,rfl⟩|⟨b,rfl⟩|⟨b,rfl⟩:=b
 case' cal A _ _ _ _ hX=>
  obtain⟨h,rfl⟩:=R.ks.ptr;have bh:(1:Int)<=(L:Int):=by omega
  have bf:1<=L:=by omega
  have bv:(0:Int)<(L:Int):=by omega
  by_cases al:ck=1
  case' pos=>
   subst al;obtain rfl:L=1:=by omega
   have H:=am (hX (O (Q h) 0 0) (.inl ⟨by rw[List.drop_eq_nil_iff];omega,_,_,rfl⟩))
  case' neg=>have H:=am (hX (O (Q ⟨h.block,h.off+1,A0⟩) (L-1) (ck-1)) (R.ks.drop 1 _ (by omega) (by omega)))
 all_goals
  generalize bt:iA N.k N.op=bw at *;try unfold jI at *
  try simp only[au]at ao
  try (have B:=R.ks.ptr;obtain⟨h,rfl⟩:=B)
  have c:=am R;first|have A:=kqf (by with_reducible assumption:Hid (N.k=_)).out;have K:=kqs (by with_reducible assumption:Hid (N.k=_)).out|have A:=kqf (by with_reducible assumption:Hid (N.op=_)).out;have K:=kqs (by with_reducible assumption:Hid (N.op=_)).out|have A:∀x:Int,28<=x->(N.k==x)=A3:=λx d=>by simp;omega|skip
  try (have B:=ad.symm.trans (by with_reducible assumption:N.ks.length=_);subst B)
  have⟨l,m,o,p,q,r,s,t,u⟩:=a.cells
  (try have F:=a.kid0 c.ks (by with_reducible assumption))
  (try have G:=a.kid c.ks (j:=1) (by with_reducible assumption) (by decide))
  go_in
  repeat (go_wp2_with fail;(first|(go_at_call 165;refine dt (C _ _ _) λI J=>?_;have a:=am (a.below J);clear l m o p q r s t u;obtain⟨l,m,o,p,q,r,s,t,u⟩:=a.cells;(try have F:=a.kid0 c.ks (by with_reducible assumption));(try have G:=a.kid c.ks (j:=1) (by with_reducible assumption) (by decide)))|(refine Bx.stp a (ah _ _) (by with_reducible first|exact am (Ec _)|assumption) ap (by(try simp only[au]);omega) ?_;intro I a;have a:=am a;clear l m o p q r s t u;(try clear av aK a0 a1 a2 a3 a4 a5 a6 z0);obtain⟨l,m,o,p,q,r,s,t,u⟩:=a.cells;(try have F:=a.kid0 c.ks (by with_reducible assumption));(try have G:=a.kid c.ks (j:=1) (by with_reducible assumption) (by decide)))))
  go_wp2_with fail;first|go_end0|refine aL (jp rfl _ _ _) rfl ?_
  exact Bx.fin a (by simp only[de,ByteArray.empty_append])
section
variable (w0 : World) (vt : Value) (t : Nat)
inductive BrO (p1:Addr) (n i:Nat) (ns:List Nd) (N:Nd) (vn vk:Value):FuncId->Array Value->ByteArray->Prop
 |br3 {word E Y Z:ByteArray}{q r c:Nat}:N.ks.length=3->N.ks[0]?=some (q:Int)->N.ks[1]?=some (r:Int)->N.ks[2]?=some (c:Int)->Hid (WE w0 vt t q E)->Hid (WB w0 vt t r Y)->c<n/\(ae ns c).k≠7->Hid (WB w0 vt t c Z)->BrO p1 n i ns N vn vk 96 #[pW w0,jI N vn vk,.string word] (word++E++⟨#[32]⟩++Y++⟨#[32,101,108,115,101,32]⟩++Z)
 |bre {word E Y Z:ByteArray}{q r c:Nat}:N.ks.length=3->N.ks[0]?=some (q:Int)->N.ks[1]?=some (r:Int)->N.ks[2]?=some (c:Int)->Hid (WE w0 vt t q E)->Hid (WB w0 vt t r Y)->c<n/\(ae ns c).k=7->Hid (∀an M cn ak L ck,NdR w0 p1 c (ae ns c) an M cn ak L ck->Wr w0 vt t 96 #[pW w0,jI (ae ns c) (.slice an M cn) (.slice ak L ck),.string ⟨#[32,101,108,105,102,32]⟩] Z)->BrO p1 n i ns N vn vk 96 #[pW w0,jI N vn vk,.string word] (word++E++⟨#[32]⟩++Y++Z)
 |neg {A E:ByteArray}{c:Nat}:N.ks.length=1->N.ks[0]?=some (c:Int)->Hid (N.op=19)->c<n/\((ae ns c).k=30/\((ae ns c).op=19/\A=⟨#[45]⟩++⟨#[32]⟩\/(ae ns c).op≠19/\A=⟨#[45]⟩)\/(ae ns c).k≠30/\A=⟨#[45]⟩)->Hid (Wr w0 vt t 94 #[pW w0,.int .i64 (c:Int),.int .i64 11] E)->BrO p1 n i ns N vn vk 168 #[pW w0,jI N vn vk] (A++E)
end
def Ek{ns:List Nd}(u:gg w0 (O (Q p1) n c1) ns)(v:Ed w0 p1 ns)(bh:ns.length=n)(bs:n<=1048576){av ck:Nat}(R:NdR w0 p1 i N an M av ak L ck){f:FuncId}{args:Array A1}{a4:ByteArray}(bd:BrO w0 (O (Q p1) n c1) tab p1 n i ns N (O an M av) (O ak L ck) f args a4):
  Wr w0 (O (Q p1) n c1) tab f args a4:=by
 intro bk a6 a0 bf;have a5:=a0.lt;have bb:=R.hL;have bn:=R.cap;have a:=am (Bx.new a0 N (O an M av) (O ak L ck));cases bd
 case' br3 b _ _ _ _ _ _ e hX=>
  have⟨q,o,s,p,m,r,h⟩:=zj u v (show b<ns.length by omega);obtain⟨e,t⟩:=e;have aK:((ae ns b).k==7)=A3:=by simpa using t
 case' bre b _ _ _ _ _ _ e hX=>
  obtain⟨q,o,s,p,m,r,h⟩:=zj u v (show b<ns.length by omega);obtain⟨e,t⟩:=e;have aK:=kqs t;clear t;have a8:=am (hX _ _ _ _ _ _ h);unfold jI at a8;clear hX
 case' neg b _ _ ho e hX=>
  obtain⟨q,o,s,p,m,r,h⟩:=zj u v (show b<ns.length by omega);have bl:=kqf ho.out;obtain⟨e,⟨w,⟨x,rfl⟩|⟨x,rfl⟩⟩|⟨w,rfl⟩⟩:=e;all_goals first|have aK:=kqs w|have aK:((ae ns b).k==30)=A3:=by simpa using w
  all_goals first|have ba:=kqs x|have ba:((ae ns b).op==19)=A3:=by simpa using x|skip
  all_goals clear w;try clear x
 all_goals
  try simp only[au]at bf
  have br:(b:Int)<(n:Int):=by omega
  have bo:(0:Int)<=(b:Int):=by omega
  generalize ae ns b=a3 at *;have ar:=am h;obtain⟨l,rfl⟩:=R.ks.ptr;have c:=am R;have bj:=bb.symm.trans (by with_reducible assumption:N.ks.length=_);subst bj;obtain⟨I,J,K,ad,af,al,ao,ap,g⟩:=a.cells;have a1:=a.kid0 c.ks (by with_reducible assumption)
  (try have a7:=a.kid c.ks (j:=1) (by with_reducible assumption) (by decide))
  (try have a2:=a.kid c.ks (j:=2) (by with_reducible assumption) (by decide))
  obtain⟨y,z,A,B,C,E,F,G,H,_,_⟩:=ar.rd _ a.pr.bel;have z0:=a.pr.cells.1;clear a0 R h u v bh;unfold jI;go_in
  repeat (go_wp2_with fail;refine Bx.stp a (by first|exact ah _ _|exact bF (dC _ _)) (by with_reducible first|exact am (Ec _)|assumption) a5 (by(try simp only[au]);omega) ?_;intro a9 a;have a:=am a;clear I J K ad af al ao ap g;obtain⟨I,J,K,ad,af,al,ao,ap,g⟩:=a.cells;have a1:=a.kid0 c.ks (by with_reducible assumption);(try have a7:=a.kid c.ks (j:=1) (by with_reducible assumption) (by decide));(try have a2:=a.kid c.ks (j:=2) (by with_reducible assumption) (by decide));obtain⟨y,z,A,B,C,E,F,G,H,_,_⟩:=ar.rd _ a.pr.bel;have z0:=a.pr.cells.1)
  go_wp2_with fail;first|go_region_held3 (λd=>d.cell? ⟨w0.heap.size,0,A0⟩=Q (O (Q p1) n c1)/\d.cell? ⟨a6.heap.size,8,A0⟩=Q (O (Q l) 1 ck)/\d.cell? l=Q (Ak Ax (b:Int))/\NdC d (p1.add (b*9)) a3 (O q o s) (O p m r)) (first|exact⟨z0,g,a1,y,z,A,B,C,E,F,G,H⟩|((repeat' refine And.intro ?_ ?_)<;>go_keep)) (fail)|go_region_held3 (λd=>d.cell? ⟨w0.heap.size,0,A0⟩=Q (O (Q p1) n c1)/\d.cell? ⟨a6.heap.size,8,A0⟩=Q (O (Q l) 3 ck)/\d.cell? ⟨l.block,l.off+2,A0⟩=Q (Ak Ax (b:Int))/\NdC d (p1.add (b*9)) a3 (O q o s) (O p m r)) (first|exact⟨z0,g,a2,y,z,A,B,C,E,F,G,H⟩|((repeat' refine And.intro ?_ ?_)<;>go_keep)) (fail)
  repeat (go_wp2_with fail;refine Bx.stp a (by first|exact ah _ _|exact bF (dC _ _)) (by with_reducible first|exact am (Ec _)|assumption) a5 (by(try simp only[au]);omega) ?_;intro a9 a;have a:=am a;clear I J K ad af al ao ap g;obtain⟨I,J,K,ad,af,al,ao,ap,g⟩:=a.cells;have a1:=a.kid0 c.ks (by with_reducible assumption);(try have a7:=a.kid c.ks (j:=1) (by with_reducible assumption) (by decide));(try have a2:=a.kid c.ks (j:=2) (by with_reducible assumption) (by decide));obtain⟨y,z,A,B,C,E,F,G,H,_,_⟩:=ar.rd _ a.pr.bel;have z0:=a.pr.cells.1)
  go_wp2_with fail;first|go_end0|refine aL (jp rfl _ _ _) rfl ?_
  exact Bx.fin a (by simp only[de])
def EnW(e:A2)(d:A1)(t:Nat)(X:Nd)(c:ByteArray):Prop:=
 (X.k=41/\X.ks.length=2/\∃(b g:Nat) (a f:ByteArray),X.ks[0]?=Q (b:Int)/\X.ks[1]?=Q (g:Int)/\Hid (WE e d t b a)/\Hid (WE e d t g f)/\c=⟨#[91]⟩++a++⟨#[93,32,61,32]⟩++f)
  \/(X.ks.length=1/\∃(b:Nat) (a:ByteArray),X.ks[0]?=Q (b:Int)/\Hid (WE e d t b a)/\(X.k=42/\c=⟨#[46]⟩++X.x++⟨#[32,61,32]⟩++a\/(X.k≠41/\X.k≠42)/\c=a))
def afa{ns:List Nd}(C:gg w0 (O (Q p1) n c1) ns)(F:Ed w0 p1 ns)(cq:ns.length=n)(cp:n<=1048576){E:Int->ByteArray}{vn vk:A1}(q:dH w0 vk N.ks)(ba:N.ks.length<=1048576)
  (B:∀z∈N.ks,∃k:Nat,z=(k:Int)/\k<ns.length/\EnW w0 (O (Q p1) n c1) tab (ae ns k) (wC ns E (ae ns k))):Wr w0 (O (Q p1) n c1) tab 170 #[pW w0,jI N vn vk] (ag6 ns E N):=by
 intro t bj u w;obtain⟨ap,a0,rfl⟩:=q.form;obtain⟨c,p⟩:=aC N.ks.length;rw[p]at q ba⊢;have bd:=u.lt;have a:=am (Bx.new u N vn (O ap c a0));unfold ag6 at w⊢;obtain⟨b,r⟩:∃b,(N.ks.map λk=>wC ns E (ae ns k))=b:=⟨_,rfl⟩;rw[r]at w⊢;have G:b.length=c:=by rw[<-r,bq];exact p
 simp only[au]at w;have b7:(⟨#[123]⟩:ByteArray).size=1:=rfl;have b9:iI.size=2:=rfl;have y:=gF C F;have g:=afC q B p r G;clear u C F q B p r G;unfold jI;go_in;go_wp2_with fail;refine Bx.stp a (ah _ _) (Ec _) bd (by omega) ?_;intro ao a;have a:=am a;have aK:=a.cells.2.2.2.2.2.2.2.2;go_wp2_with fail;go_loopw [12] (λx wr=>∃k:Nat,k<=c/\x= Ak Ax k/\Hid (Pr w0 (O (Q p1) n c1) (t++⟨#[123]⟩++eK (b.take k)) tab wr/\Kq w0.heap.size bj wr)) (λx _=>c-(intOf x).toNat)
 case atStart=>exact⟨0,by omega,rfl,by rw[show t++⟨#[123]⟩++eK (b.take 0)=t++⟨#[123]⟩ from ByteArray.append_empty];exact a.pr,a.kq⟩
 case round=>
  clear aK a;obtain⟨k,ce,rfl,f⟩:=hrel;by_cases a8:k<c
  .obtain⟨z,s⟩:=cJ g.2.2.1 a8;obtain⟨e,rfl,H,bf⟩:=g.2.1 z (dj s);obtain⟨b6,rfl,cb⟩:=(g.1.below f.1.bel).get s;have cl:(k:Int)<(c:Int):=by omega
   have cf:(0:Int)<=(k:Int):=by omega
   have i:=se b k (wC ns E (ae ns e)) (by rw[<-g.out.2.2.2.1,cD,s];rfl);have o:=CF b (k+1);have ct:(e:Int)<(n:Int):=by omega
   have cr:(0:Int)<=(e:Int):=by omega
   obtain⟨av,af,a3,ar,ad,a2,h⟩:=zj y.1 y.2 H;generalize ae ns e=m at *;generalize wC ns E m=b4 at *;obtain⟨b5,v⟩:=aC (eK (b.take (k+1)));rw[v]at i o;have L:=am v;clear v s;rcases oz k with h0|h0
   case' inl=>
    rw[ab h0]at i;have a9:¬(0:Int)<(k:Int):=by omega
    clear h0;have P:=f
   case' inr=>
    rw[aa (by omega)]at i;have a9:(0:Int)<(k:Int):=by omega
    subst i;simp only[au]at o;go_wp2_with fail;refine(gA w0 _ _ iI tab _ f.1 (by simp only[au];omega)).mono ?_;rintro a4 c3 ⟨rfl,J,I⟩;have P:=gF J (f.2.trans I);clear J I
   all_goals
    try subst i
    try simp only[au]at o
    have a7:=h.hL;obtain⟨z0,bD,bE⟩:=P.1.cells;have bb:=P.1.lt;obtain⟨cu,cv,cw,cx,cy,cz,cB,cF,cI,_,_⟩:=h.rd _ P.1.bel;have a:=am (Bx.new P.1 m (O av af a3) (O ar ad a2));rcases bf with⟨d,A,e,c2,E,b0,a5,cc,al,b3,rfl⟩|⟨A,e,E,a5,al,⟨d,rfl⟩|⟨d,rfl⟩⟩;all_goals
     try simp only[au]at o
     obtain⟨c0,rfl⟩:=h.ks.ptr;obtain rfl:=a7.symm.trans A;have l:=am h;first|have a6:=kqs d;have e:=kqf d|have a6:(m.k==41)=A3:=by simpa using d.1
     try have cd:(m.k==42)=A3:=by simpa using d.2
     clear d;obtain⟨bk,bl,bn,bo,br,bs,bt,bv,bw⟩:=a.cells
     (try have bx:=a.kid0 l.ks (by with_reducible assumption))
     (try have bA:=a.kid l.ks (j:=1) (by with_reducible assumption) (by decide))
     clear h bE bD H
     repeat (go_wp2_with fail;refine Bx.stp a (by first|exact ah _ _|exact dC _ _) (by with_reducible first|exact am (Ec _)|assumption) bb (by simp only[au];omega) ?_;intro ao a;have a:=am a;obtain⟨bk,bl,bn,bo,br,bs,bt,bv,bw⟩:=a.cells;(try have bx:=a.kid0 l.ks (by with_reducible assumption));(try have bA:=a.kid l.ks (j:=1) (by with_reducible assumption) (by decide)))
     go_wp2_with fail;exact⟨⟨k+1,by omega,by go_num,by rw[L.out];have:=a.pr;simpa only[de] using this,P.2.trans a.kq⟩,by simp[intOf];omega⟩
  .obtain rfl:k=c:=by omega
   go_wp2_with fail;refine(gA w0 _ _ ⟨#[125]⟩ _ _ f.1 (by have:=CF b k;simp only[au];omega)).mono ?_;rintro a4 c4 ⟨rfl,K,bh⟩;go_wp2_with fail;go_end0
   refine⟨rfl,?_,f.2.trans bh⟩;rw[dl (by rw[g.out.2.2.2.2];exact ag _)]at K;rw[<-de,<-de];exact K
def aho(ns:List Nd)(B:Nat)(b:List Int):Prop:=∀c∈b,∃a:Nat,c=(a:Int)/\a<B/\a<ns.length/\gE (ae ns a).k=Bn
def afb(c:A2)(l v:A1)(ns:List Nd)(E:Int->ByteArray)(t:Int)(B:Nat)(al:OkE c l ns E t B)(d:List Int)(H:dH c v d)(ak:aho ns B d)(ap:d.length<=1048576)(T:ByteArray)(w:A2)(h:Pr c l T t w)(an:T.size+(eK (d.map E)).size<=140737488355328):
  Bk U 93 #[A5 (Q ⟨c.heap.size,0,A0⟩),v] w λe I=>e= .returned (Bc #[])/\Pr c l (T++eK (d.map E)) t I/\Kq c.heap.size w I:=by
 have j:=Ft h H ak al;obtain⟨a3,a4,rfl⟩:=H.form;have⟨k,G⟩:=aC d.length;rw[G]at ap j⊢;have C:=am G;have⟨b,r⟩:=aC (d.map E);rw[r]at an⊢;have A:Hid (d.map E=b/\b.length=k):=⟨r,by rw[<-r,bq];exact C⟩;go_in;go_wp2;go_loopw [8] (λu wr=>∃a:Nat,a<=k/\u= Ak Ax a/\Hid (Pr c l (T++eK (b.take a)) t wr/\Kq c.heap.size w wr)) (λu _=>k-(intOf u).toNat)
 case atStart=>exact⟨0,by omega,rfl,by rw[show T++eK (b.take 0)=T from ByteArray.append_empty];exact j.1,Kq.refl _ _⟩
 case round=>
  obtain⟨a,a6,rfl,f⟩:=hrel;by_cases ao:a<k
  .obtain⟨a2,s⟩:=cJ C.out ao;obtain⟨g,rfl,ar,ba,av⟩:=j.2.2.1 a2 (dj s);obtain⟨J,rfl,K⟩:=(j.2.1.below f.1.bel).get s;have a8:(a:Int)<(k:Int):=by omega
   have a7:(0:Int)<=(a:Int):=by omega
   have aK:b[a]?=Q (E g):=by rw[<-A.out.1,cD,s];rfl
   have ad:=se b a (E g) aK;have af:=CF b (a+1);have p:=gF ad af;have q:=gF ar av;by_cases F:a=0
   .subst F;have n:eK (b.take (0+1))=eK (b.take 0)++E g:=by rw[p.out.1,ab rfl]
    have o:=p.2;rw[n,au]at o;have i:=gF n o;have a5:wr.cell? J=Q (Ak Ax (g:Int)):=by simpa [Addr.add] using K
    go_wp2_with fail;refine(j.2.2.2.zero g _ _ q.1 q.2 f.1 (by have:=i.2;rw[au];omega)).mono ?_;rintro e y ⟨rfl,p2,x⟩;have m:=gF p2 x;go_wp2_with fail;refine⟨⟨1,by omega,by go_num,?_,f.2.trans m.2⟩,by simp[intOf];omega⟩;rw[show(1:Nat)=0+1 from rfl,i.out.1,<-de];exact m.1
   .have n:eK (b.take (a+1))=eK (b.take a)++iI++E g:=by rw[p.out.1,aa F]
    have o:=p.2;rw[n,au,au]at o;have L:iI.size=2:=rfl;have i:=kK n o L;have a9:(0:Int)<(a:Int):=by omega
    go_wp2_with fail;refine(gA c l _ _ _ _ f.1 (by have:=i.2;rw[au];show _+iI.size<=_;omega)).mono ?_;rintro e y ⟨rfl,p2,x⟩;have m:Hid (Pr c l (T++eK (b.take a)++iI) t y/\Kq c.heap.size wr y):=⟨p2,x⟩;go_wp2_with fail;refine(j.2.2.2.zero g _ _ q.1 q.2 m.1 (by have:=i.2;rw[au,au];omega)).mono ?_;rintro e bb ⟨rfl,a1,a0⟩;have z:=gF a1 a0;go_wp2_with fail;refine⟨⟨a+1,by omega,by go_num,?_,(f.2.trans m.2).trans z.2⟩,by simp[intOf];omega⟩;rw[i.out.1,<-de,<-de];exact z.1
  .obtain rfl:a=k:=by omega
   go_wp2_with fail;go_end0
   refine⟨rfl,?_,f.2⟩;have:=f.1
   rwa [dl (by rw[A.out.2];exact ag _)]at this
def AE(l:List ByteArray)(k:Nat)(x:ByteArray)(c:l[k]?=Q x):ju (l.take (k+1))=ju (l.take k)++x:=by
 obtain⟨a,b⟩:=List.getElem?_eq_some_iff.1 c;unfold ju;rw[List.take_succ_eq_append_getElem a,List.foldl_append,b];rfl
def ahp(l:List ByteArray)(k:Nat):(ju (l.take k)).size<=(ju (l.take (k+1))).size:=by
 by_cases a:k<l.length
 .rw[AE l k _ (aw a),au];omega
 .rw[dl (by omega),dl (by omega)];exact ag _
def ac9(l:List ByteArray)(k:Nat):(ju (l.take k)).size<=(ju l).size:=by
 have b:∀a,(ju (l.take k)).size<=(ju (l.take (k+a))).size:=by
  intro a
  induction a with
  |zero=>exact ag _
  |succ a c=>exact bG c (ahp l (k+a))
 have:=b l.length
 rwa [dl (show l.length<=k+l.length by omega)]at this
def aq2(b:A2)(d:A1)(ns:List Nd)(S:Int->Nat->ByteArray)(B:Nat):Prop:=
 ∀(a tab:Nat)(c:ByteArray)(W:A2),a<B->iK (ae ns a).k=Bn->tab+B<=500000->Pr b d c tab W->c.size+(S a tab).size<=140737488355328->
  Bk U 45 #[A5 (Q ⟨b.heap.size,0,A0⟩),Ak Ax (a:Int)] W λf e=>f= .returned (Bc #[])/\Pr b d (c++S a tab) tab e/\Kq b.heap.size W e
def aq3(ns:List Nd)(B:Nat)(b:List Int):Prop:=∀c∈b,∃a:Nat,c=(a:Int)/\a<B/\a<ns.length/\iK (ae ns a).k=Bn
def afc(a:A2)(y:A1)(ns:List Nd)(S:Int->Nat->ByteArray)(B:Nat)(a0:aq2 a y ns S B)(aK:gg a y ns)(bn:ns.length<=1048576)(i:Nat)(a4:i<ns.length)(ar:aq3 ns B (ae ns i).ks)(a5:(ae ns i).ks.length<=1048576)(tab:Nat)(cv:tab+B<500000)
  (T:ByteArray) (w:A2) (h:Pr a y T tab w) (H:T.size+(Bo S (ae ns i).ks tab).size<=140737488355328):
  Bk U 91 #[A5 (Q ⟨a.heap.size,0,A0⟩),Ak Ax (i:Int)] w λe n=>e= .returned (Bc #[])/\Pr a y (T++Bo S (ae ns i).ks tab) tab n/\Kq a.heap.size w n:=by
 have bs:=IB a4;obtain⟨cb,k,rfl⟩:=aK.form;obtain⟨l,rfl,cy,cx,ao⟩:=aK.get bs;have⟨z0,cF,cI⟩:=h.cells;have bd:=cell_kept h.bel ao.c8;have v:=ao.hk;have⟨p,bo⟩:=aC ((ae ns i).ks);rw[bo]at ar a5 H v⊢;obtain⟨cc,cd,rfl⟩:=v.form;have⟨f,bk⟩:=aC ns.length;have⟨j,av⟩:=aC p.length;rw[bk]at z0 h a0 bn a4⊢;rw[av]at bd v a5;have g:=afC h v ar a0 av;have cr:(i:Int)<(f:Int):=by omega
 have ct:(0:Int)<=(i:Int):=by omega
 have⟨an,m⟩:=aC (Bo S p tab);rw[m]at H⊢;unfold Bo at m;by_cases u:p=[]
 .have bj:j=0:=by have:=g.2.2.2.2;rw[u]at this;simpa using this.symm
  rw[ab u]at m;subst m bj;go_in;go_wp2_with fail;refine(gA a _ T _ _ _ g.1 H).mono ?_;rintro e z ⟨rfl,x,K⟩;go_wp2;exact aL (jp rfl _ _ _) rfl ⟨rfl,x,K⟩
 .rw[aa u]at m;have ck:0<j:=by
   have:=g.2.2.2.2;cases p with
   |nil=>exact absurd rfl u
   |cons ca cw=>simp at this;omega
  have cl:((j:Int)==0)=A3:=by simp;omega
  obtain⟨c,I⟩:∃c,(p.map λb=>jc (tab+1)++S b (tab+1))=c:=⟨_,rfl⟩;rw[I]at m;have G:Hid (⟨#[123]⟩++ju c++jc tab++⟨#[125]⟩=an/\(p.map λb=>jc (tab+1)++S b (tab+1))=c/\c.length=j):=⟨m,I,by rw[<-I,bq];exact g.2.2.2.2⟩;have bx:T.size+(1+(ju c).size+(tab+1)+1)<=140737488355328:=by
   have e:an.size=1+(ju c).size+(tab+1)+1:=by rw[<-m,au,au,au,og];rfl
   omega
  have r:=am bx;go_in;go_wp2_with fail;refine(gA a _ T ⟨#[123]⟩ _ _ g.1 (by have:=r.out;show T.size+1<=_;omega)).mono ?_;rintro e z ⟨rfl,x,K⟩;have⟨b5,a9,ad⟩:=x.cells;have b6:=ad 2;have b0:=x.putTab ((tab:Int)+1);have A:Hid (Pr a (O (Q l) f k) (T++⟨#[123]⟩) ((tab+1:Nat):Int) (z.setCell ⟨a.heap.size,2,A0⟩ (Ak Ax ((tab:Int)+1)))/\Kq a.heap.size w (z.setCell ⟨a.heap.size,2,A0⟩ (Ak Ax ((tab:Int)+1)))):=⟨by rw[show((tab+1:Nat):Int)=(tab:Int)+1 by omega];exact b0,K.trans (Kq.putP _ _ _ _)⟩;go_wp2_with fail;generalize z.setCell ⟨a.heap.size,2,A0⟩ (Ak Ax ((tab:Int)+1))=b8 at A⊢;go_loopw [32] (λL wr=>∃b:Nat,b<=j/\L= Ak Ax b/\Hid (Pr a (O (Q l) f k) (T++⟨#[123]⟩++ju (c.take b)) ((tab+1:Nat):Int) wr/\Kq a.heap.size w wr)) (λL _=>j-(intOf L).toNat)
  case atStart=>exact⟨0,by omega,rfl,by rw[show T++⟨#[123]⟩++ju (c.take 0)=T++⟨#[123]⟩ from ByteArray.append_empty];exact A.1,A.2⟩
  case round=>
   obtain⟨b,cn,rfl,o⟩:=hrel;by_cases br:b<j
   .obtain⟨b7,J⟩:=cJ g.2.2.2.2 br;obtain⟨q,rfl,bt,cu,bv⟩:=g.2.2.1 b7 (dj J);obtain⟨ba,rfl,bb⟩:=(g.2.1.below o.1.bel).get J;have cq:(b:Int)<(j:Int):=by omega
    have cp:(0:Int)<=(b:Int):=by omega
    have bw:c[b]?=Q (jc (tab+1)++S q (tab+1)):=by rw[<-G.out.2.1,cD,J];rfl
    have ap:=AE c b _ bw;have bf:=ac9 c (b+1);have bh:(ju (c.take b)).size+(tab+2+(S q (tab+1)).size)<=(ju c).size:=by rw[ap,au,au,og]at bf;omega
    have F:=gF ap bh;have ak:=gF bt bv;have a3:b=0->wr.cell? ba=Q (Ak Ax (q:Int)):=λe=>by subst e;simpa [Addr.add] using bb
    have b4:∀d,Pr a (O (Q l) f k) (T++⟨#[123]⟩++ju (c.take b)++jc (tab+1)) ((tab+1:Nat):Int) d->Kq a.heap.size wr d->Bk U 45 #[A5 (Q ⟨a.heap.size,0,A0⟩),Ak Ax (q:Int)] d λe n=>e= .returned (Bc #[])/\Hid (Pr a (O (Q l) f k) (T++⟨#[123]⟩++ju (c.take (b+1))) ((tab+1:Nat):Int) n/\Kq a.heap.size w n):=by
     intro d t s;refine(g.2.2.2.1 q (tab+1) _ d ak.1 ak.2 (by omega) t (by have:=F.2;have:=r.out;rw[au,au,au,og];show T.size+1+_+_+_<=_;omega)).mono ?_;rintro e w5 ⟨rfl,b1,bA⟩;refine⟨rfl,?_,(o.2.trans s).trans bA⟩;rw[F.out.1,<-de,<-de];exact b1
    have al:Hid (∀d,Pr a (O (Q l) f k) (T++⟨#[123]⟩++ju (c.take b)++jc (tab+1)) ((tab+1:Nat):Int) d->Kq a.heap.size wr d->Bk U 45 #[A5 (Q ⟨a.heap.size,0,A0⟩),Ak Ax (q:Int)] d λe n=>e= .returned (Bc #[])/\Hid (Pr a (O (Q l) f k) (T++⟨#[123]⟩++ju (c.take (b+1))) ((tab+1:Nat):Int) n/\Kq a.heap.size w n)):=b4;have a6:=Kl a (O (Q l) f k) (T++⟨#[123]⟩++ju (c.take b)) (tab+1) wr o.1 (by omega) (by have:=F.2;have:=r.out;rw[au,au];show T.size+1+_+_<=_;omega);by_cases bl:b=0
    .subst bl;have ce:=a3 rfl;go_wp2_with fail;refine a6.mono ?_;rintro e d ⟨rfl,t,s⟩;have ks:=al.out d t s;go_wp2_with fail;refine ks.mono ?_;rintro e w5 ⟨rfl,C⟩;go_wp2;exact⟨⟨1,by omega,by go_num,C⟩,by simp[intOf];omega⟩
    .clear a3;go_wp2_with fail;refine a6.mono ?_;rintro e d ⟨rfl,t,s⟩;have ks:=al.out d t s;go_wp2_with fail;refine ks.mono ?_;rintro e w5 ⟨rfl,C⟩;go_wp2;exact⟨⟨b+1,by omega,by go_num,C⟩,by simp[intOf];omega⟩
   .obtain rfl:b=j:=by omega
    have⟨b5,a9,ad⟩:=o.1.cells;have cB:wr.cell? ⟨a.heap.size,2,A0⟩=Q (Ak Ax ((tab:Int)+1)):=by rw[a9];rw[show((tab+1:Nat):Int)=(tab:Int)+1 by omega]
    have b6:=ad 2;have a7:=o.1.putTab (tab:Int);rw[dl (by rw[G.out.2.2];exact ag _)]at a7;have E:Hid (Pr a (O (Q l) f k) (T++⟨#[123]⟩++ju c) (tab:Int) (wr.setCell ⟨a.heap.size,2,A0⟩ (Ak Ax (tab:Int)))/\Kq a.heap.size w (wr.setCell ⟨a.heap.size,2,A0⟩ (Ak Ax (tab:Int)))):=⟨a7,o.2.trans (Kq.putP _ _ _ _)⟩;have cf:(tab:Int)+1-1=(tab:Int):=by omega
    go_wp2_with fail;generalize wr.setCell ⟨a.heap.size,2,A0⟩ (Ak Ax (tab:Int))=b9 at E⊢;refine(Kl a _ _ tab _ E.1 (by omega) (by have:=r.out;rw[au,au];show T.size+1+_+_<=_;omega)).mono ?_;rintro e a8 ⟨rfl,b2,bD⟩;have af:Hid (Pr a (O (Q l) f k) (T++⟨#[123]⟩++ju c++jc tab) (tab:Int) a8/\Kq a.heap.size w a8):=⟨b2,E.2.trans bD⟩;go_wp2_with fail;refine(gA a _ _ ⟨#[125]⟩ _ _ af.1 (by have:=r.out;rw[au,au,au,og];show T.size+1+_+_+1<=_;omega)).mono ?_;rintro e cz ⟨rfl,b3,bE⟩;go_wp2_with fail;go_end0
    refine⟨rfl,?_,af.2.trans bE⟩;rw[<-G.out.1,<-de,<-de,<-de];exact b3
open Go.Maps Go.WideMaps
attribute [local go_sem] lG
def pJ(w:A2)(b i:Nat)(v:A1):w.grownBy (w.setCell ⟨b,i,A0⟩ v) (Q b):=
 ⟨rfl,rfl,rfl,by simp[World.setCell],λd c a=>ay _ _ _ _ (by simpa using a)⟩
def ahq(s:ByteArray)(p:Nat)(w:A2):Bk U 51 #[A9 (s.extract p s.size),A9 ⟨#[45,45]⟩] w (jt w (.bool (decide (aq s p=45/\aq s (p+1)=45)))):=by
 have a:=Tryz.strings_HasPrefix (s.extract p s.size) ⟨#[45,45]⟩ w;rw[show(⟨#[45,45]⟩:ByteArray).data.toList=[45,45] from rfl,Hv]at a;exact a
structure amr (q:Int->Bool) (s:ByteArray) (f p e:Nat):Prop where
 out:ix q s f p=e
attribute [local go_sem] lG
def ScX(b:Nat)(W:A2):Prop:=∃a c,W.heap[b]?=Q (.cells a 79 c)
def C1.x{b:Nat}{m:A1}{p l:Int}{k:Bool}(h:C1 b W s m p l k):ScX b W:=by obtain⟨a,h⟩:=h;exact⟨_,_,h⟩
structure Iw (b mb B:Nat) (s:ByteArray) (I:Nat->Int->A2->Prop) (W:A2) (q:Nat) (l2:Int) (p:Nat) (l:Int):Prop where
 sc:C1 b W s (.map (Q mb)) q l2 A3
 mp:W.ownsMap U 9 (plainElem (H:=Unit) U 3) mb 22 (zI 22)
 ly:Lay W
 ii:I p l W
 sz:B<=W.heap.size
def Iw.gr{b mb B:Nat}{I:Nat->Int->A2->Prop}{a:A2}{p q f g:Nat}{l n d e:Int}(h:Iw b mb B s I W q n p l)(i:∀p l W a,I p l W->ScX b W->W.grownBy a (Q b)->I p l a)(k:mb≠b)(r:12<=b)(o:12<=B)(c:W.grownBy a (Q b))(hS:C1 b a s (.map (Q mb)) g e A3)(j:I p l a->I f d a):Iw b mb B s I a g e f d:=
 ⟨hS,h.mp.kept c (by simp[k]),h.ly.blocks (λm t=>c.block m (by have:=h.sz;omega) (by simp;omega)),j (i _ _ _ _ h.ii h.sc.x c),bG h.sz c.size⟩
structure El (s:ByteArray) (p:Nat):Prop where
 lt:p<s.size
 nb:¬ja (aq s p)=Bn
 nd:¬(aq s p=45/\aq s (p+1)=45)
