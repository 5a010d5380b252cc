import Derived.Test.YthboboahkkhopaaGreatDoorHRo27
import Derived.Test.YthboboahkkhopaaGreatDoorHRo25
set_option linter.all false
set_option maxRecDepth 100000
set_option maxHeartbeats 25600000
open Go.Proofs.Tryz
open Go.Proofs.Tryz renaming prog->O
open Go.Value renaming slice->R,string->Y,int->A2,bool->B6,string->B7,agg->C2
open Option renaming some->S,none->A0
open Go.MakeChecks renaming laidMetH_plain->U
open ByteArray renaming empty->Ax
open Go.IntKind renaming i64->A5
open Go.Obj renaming cells->A9
open Go.RowKit renaming Hid->Br,intOf->B4
open Bool renaming true->B0,false->Ck
open Go renaming Value->B1,World->B2,Calls->B3,TypeId->Ce
namespace Go.Proofs.YthboboahkkhopaaGreatDoor
open Go.ChangeShapes Go.WideShapes Go.ChangeAt Go.WideMaps Go.WideElems Go.RowKit
variable{N:Nd}{W w:World}{i t:Nat}{ns:List Nd}{v:Value}
def arx(V:Array B1):List (List UInt8):=V.toList.map λv=>match v with| .string a=>a.data.toList|_=>[]
def J8{c:String}{d:DataW Unit}{g:Nat}{t:Ce}{n:Nat}{V:Array B1}(u:([(c,d)].all λx=>x.2.handleName?.isNone)=B0)
  (r:Tryz.prog.globalNamed c=S g) (k:(Tryz.prog.globals[g]?).map (·.type)=S t) (ht:Tryz.prog.underlying t=S (.array n 9)) (m:Tryz.prog.cellsOf 9=1) (o:Tryz.prog.cellsOf t=n)
  (p:d= .agg ((arx V).map λb=> .lit (.string b))) (l:(arx V).map (λb=>B7 ⟨b.toArray⟩)=V.toList) (h:laidMetH O [(c,d)] W):∃tt fr,W.heap[g]?=S (.cells V tt fr):=by
 rw[U _ _ _ u]at h;obtain⟨B,⟨z,E,f,y,A,C,e,v,a,q,_,_⟩,_,_⟩:=h;obtain rfl:=bz (r.symm.trans e);obtain rfl:=bz (k.symm.trans v);subst p;have i:=F8 ht underlying9 m o q;have j:f=V:=by
  apply Array.toList_inj.1;rw[i,l]
 simp only[World.var?,e,CF]at a;split at a
 .rename_i w tt fr s;cases a;exact⟨tt,fr,by rw[<-j];exact s⟩
 .cases a
def ajz{a nm:String}{d:DataW Unit}{g:Nat}{t:Ce}{ms:Array (String×Ce)}(n:([(a,DataW.iface nm d)].all λx=>x.2.handleName?.isNone)=B0)
  (m:Tryz.prog.globalNamed a=S g) (k:(Tryz.prog.globals[g]?).map (·.type)=S t) (ht:Tryz.prog.underlying t=S (.interface ms)) (h:laidMetH O [(a,.iface nm d)] W):∃r q,W.cell? ⟨g,0,A0⟩=S (.iface r q):=by
 rw[U _ _ _ n]at h;obtain⟨y,⟨v,A,f,u,w,z,b,o,p,l,_,_⟩,_,_⟩:=h;obtain rfl:=bz (m.symm.trans b);obtain rfl:=bz (k.symm.trans o);have⟨s,c,e,i,_,_⟩:=iface_of_trod ht l;refine⟨c,e,?_⟩;have:=World.var?_cell b p 0;rw[this];have j:f.toList[0]?=S (.iface c e):=by rw[i];rfl
 simpa using j
def apu:List Int:=[0,1,56,2,57,49,28,3,61,58,42,50,38,29,17,4,62,47,59,36,45,43,51,22,53,39,33,30,24,18,12,5,63,55,48,27,60,41,37,16,46,35,44,21,52,32,23,11,54,26,40,15,34,20,31,10,25,14,19,9,13,8,7,6]
def ary:Tryz.prog.globalNamed "math/bits.deBruijn64tab" =S 9:=by kernel_rfl
def ato:Tryz.prog.globalNamed "internal/strconv.uint64pow10" =S 6:=by kernel_rfl
def atp:Tryz.prog.globalNamed "strconv.ErrSyntax" =S 10:=by kernel_rfl
def atq:Tryz.prog.globalNamed "strconv.ErrRange" =S 11:=by kernel_rfl
def atr:Tryz.prog.globalNamed "loop.example/warp/impl.wordTexts" =S 0:=by kernel_rfl
def ats:Tryz.prog.globalNamed "loop.example/warp/impl.markTexts" =S 1:=by kernel_rfl
def att:Tryz.prog.globalNamed "loop.example/warp/impl.binaryTexts" =S 2:=by kernel_rfl
def amb(c:laidMetH O [("loop.example/warp/impl.wordTexts",Rows.laid_loop_example_warp_impl_wordTexts)] W)(d:laidMetH O [("loop.example/warp/impl.markTexts",Rows.laid_loop_example_warp_impl_markTexts)] W)(e:laidMetH O [("loop.example/warp/impl.binaryTexts",Rows.laid_loop_example_warp_impl_binaryTexts)] W)(f:laidMetH O [("strconv.ErrSyntax",Rows.laid_strconv_ErrSyntax)] W)(g:laidMetH O [("strconv.ErrRange",Rows.laid_strconv_ErrRange)] W)(a:laidMetH O [("internal/strconv.uint64pow10",Rows.laid_internal_strconv_uint64pow10)] W)(b:laidMetH O [("math/bits.deBruijn64tab",Rows.laid_math_bits_deBruijn64tab)] W):Lay W:=by
 refine⟨⟨?_,?_,?_⟩,⟨?_,?_⟩,?_,?_⟩
 .exact J8 (V:=gA) (by kernel_rfl) atr (t:=140) (by kernel_rfl) underlying140 (by kernel_rfl) (by kernel_rfl) rfl rfl c
 .exact J8 (V:=kD) (by kernel_rfl) ats (t:=222) (by kernel_rfl) underlying222 (by kernel_rfl) (by kernel_rfl) rfl rfl d
 .exact J8 (V:=ni) (by kernel_rfl) att (t:=223) (by kernel_rfl) underlying223 (by kernel_rfl) (by kernel_rfl) rfl rfl e
 .exact ajz (by kernel_rfl) atp (t:=243) (by kernel_rfl) underlying243 f
 .exact ajz (by kernel_rfl) atq (t:=243) (by kernel_rfl) underlying243 g
 .rw[U _ _ _ (by kernel_rfl)]at a;exact Lib.tabIs_of_head ato (t:=294) (by kernel_rfl) underlying294 underlying39 (by kernel_rfl) (by kernel_rfl) a
 .rw[U _ _ _ (by kernel_rfl)]at b;have h:laidMet O [("math/bits.deBruijn64tab",Lib.tabData .u8 apu)] W:=b;exact(Lib.tabIs_of_head ary (t:=319) (by kernel_rfl) underlying319 underlying5 (by kernel_rfl) (by kernel_rfl) h).cell ary 15 (by decide)
def apv(h:laidMetH O [("math/bits.deBruijn32tab",Rows.laid_math_bits_deBruijn32tab),("math/bits.deBruijn64tab",Rows.laid_math_bits_deBruijn64tab),("internal/strconv.uint64pow10",Rows.laid_internal_strconv_uint64pow10),("strconv.ErrRange",Rows.laid_strconv_ErrRange),("strconv.ErrSyntax",Rows.laid_strconv_ErrSyntax),("loop.example/warp/impl.wordTexts",Rows.laid_loop_example_warp_impl_wordTexts),("loop.example/warp/impl.markTexts",Rows.laid_loop_example_warp_impl_markTexts),("loop.example/warp/impl.binaryTexts",Rows.laid_loop_example_warp_impl_binaryTexts)] W):Lay W:=
 amb (h.filter λa=>a.1== "loop.example/warp/impl.wordTexts") (h.filter λa=>a.1== "loop.example/warp/impl.markTexts") (h.filter λa=>a.1== "loop.example/warp/impl.binaryTexts") (h.filter λa=>a.1== "strconv.ErrSyntax") (h.filter λa=>a.1== "strconv.ErrRange") (h.filter λa=>a.1== "internal/strconv.uint64pow10") (h.filter λa=>a.1== "math/bits.deBruijn64tab")
def amc{H:Type}(x:Int×Int×Int):DataW H:= .agg [.lit (.int .i64 x.1),.lit (.int .i64 x.2.1),.lit (.int .i64 x.2.2)]
def ajA(x:Int×Int×Int):List B1:=[A2 A5 x.1,A2 A5 x.2.1,A2 A5 x.2.2]
def arz(l:List B1)(h:l.length=3):∃a b c,l=[a,b,c]:=by
 match l,h with
 |[a,b,c],_=>exact⟨a,b,c,rfl⟩
def amd{H:Type}{enc:Ce×B1->H}{base:Nat}{r:Nat->Bool}{m:Bool}{fuel:Nat}{l:List B1}{x:Int×Int×Int}{p:List MemPlace}(h:DataW.trod enc O W base r m fuel 164 l=S (amc x,p)):l=ajA x:=by
 have j:Tryz.prog.cellsOf 3=1:=by kernel_rfl
 have k:Tryz.prog.cellsOf 164=3:=by kernel_rfl
 have⟨w,y,z,v,a,e,b,c,d⟩:=Go.Deep.trod_struct3 underlying164 h;rw[k]at e;obtain⟨s,t,u,rfl⟩:=arz l e;simp[j]at b c d;have⟨z0,f,n,_⟩:=Id underlying3 b;have⟨A,g,o,_⟩:=Id underlying3 c;have⟨B,i,q,_⟩:=Id underlying3 d;simp at f g i;subst f g i;unfold amc at a;rw[n,o,q]at a;simp at a;unfold ajA;rw[a.1.1,a.1.2.1,a.1.2.2]
def Hn:∀(ls:List (Int×Int×Int))(cs:List B1),cs.length=3*ls.length->(∀i x,ls[i]?=S x->(cs.drop (i*3)).take 3=ajA x)->cs=ls.flatMap ajA
 |[],cs,a,_=>by simpa using a
 |x::ls,cs,a,h=>by
  have b:=h 0 x rfl;simp only[Nat.zero_mul,ga]at b;have d:=Hn ls (cs.drop 3) (by rw[fJ,a];simp;omega) (λi e c=>by
   have:=h (i+1) e (by simpa using c);rw[List.drop_drop];rw[show(i+1)*3=3+i*3 by omega]at this;exact this)
  rw[CD,<-d,<-b];exact(ud 3 cs).symm
def ajB:List (Int×Int×Int):=[(26,1,2),(10,2,3),(73,3,4),(74,3,4),(75,3,4),(76,3,4),(77,3,4),(78,3,4),(72,4,4),(68,5,6),(69,6,7),(67,7,8),(70,8,9),(71,8,9),(61,9,10),(62,9,10),(63,10,11),(64,10,11),(65,10,11),(66,10,11)]
def atu:Tryz.prog.globalNamed "loop.example/warp/impl.powers" =S 3:=by kernel_rfl
def ame(h:laidMetH O [("loop.example/warp/impl.powers",Rows.laid_loop_example_warp_impl_powers)] W):∃tt fr,W.heap[3]?=S (.cells BL tt fr):=by
 rw[U _ _ _ (by kernel_rfl)]at h;obtain⟨E,⟨z,G,c,o,C,F,f,w,b,q,_,_⟩,_,_⟩:=h;obtain rfl:=bz (atu.symm.trans f);obtain rfl:=bz ((show(Tryz.prog.globals[3]?).map (·.type)=S 229 by kernel_rfl).symm.trans w);have k:Tryz.prog.cellsOf 164=3:=by kernel_rfl
 have l:Tryz.prog.cellsOf 229=60:=by kernel_rfl
 have r:DataW.trod _ O W _ _ _ o 229 c.toList=S (.agg (ajB.map amc),_):=q;have⟨j,B,_,i,v,A,s⟩:=DataW.trod_array underlying229 r;simp only[jJ,DataW.agg.injEq]at i;have m:c.toList=ajB.flatMap ajA:=by
  refine Hn ajB _ (by rw[v,l];rfl) (λa x g=>?_);have u:a<20:=by have:=(List.getElem?_eq_some_iff.1 g).1;simpa [ajB] using this
  have e:=s a u;rw[k,az (by omega)]at e;have d:(j.map (·.1))[a]?=(ajB.map amc)[a]?:=by rw[i.1]
  rw[ci,ci,az (by omega),g]at d;simp only[ug,fI]at d;exact amd (x:=x) (p:=j[a].2) (by rw[e,<-d])
 have n:c=BL:=by
  apply Array.toList_inj.1;rw[m];rfl
 simp only[World.var?,f,CF]at b;split at b
 .rename_i y tt fr t;cases b;exact⟨tt,fr,by rw[<-n];exact t⟩
 .cases b
end Go.Proofs.YthboboahkkhopaaGreatDoor
namespace Go.Proofs.YthboboahkkhopaaGreatDoor
open Go.RowKit Go.Maps Go.WideMaps
variable{N:Nd}{W w:World}{i t:Nat}{ns:List Nd}{v:Value}
def AK.strs{base:Nat}{c:List ByteArray}(h:AK base W v c):bi W v c/\uK v:=by
 have f:W.ownsRow base 9 1 v c.length (c.map B7):=h;rcases f.2 with⟨a,i⟩|⟨d,m,q,a,i,r,n,s,t,u⟩
 .exact⟨.inl ⟨jb i,A0,0,a⟩,λk p l b=>by rw[a]at b;cases b⟩
 .refine⟨.inr ⟨⟨d,0,A0⟩,m,a,λe x j=>?_⟩,λk p l b=>?_⟩
  .have w:=(List.getElem?_eq_some_iff.1 j).1;have g:=f;rw[a]at g;have o:(⟨d,0,A0⟩:Addr).add e=⟨d,e,A0⟩:=by unfold Addr.add;split<;>simp_all
   rw[o,g.cellAt e (by omega),ci,j];rfl
  .rw[a]at b;cases b;exact⟨n,rfl⟩
def acv(w:B2)(g:Nat)(H I:B1)(c:List ByteArray)(x:ByteArray)(j:bi w H c)(p:bi w I [x])(al:c.length<=1000)(h:w.cell? ⟨g,0,A0⟩=S H)(i:w.cell? ⟨g,1,A0⟩=S I):
  B3 O 228 #[R (S ⟨g,0,A0⟩) 2 2] w λe w'=>∃v,e= .returned v/\bi w' v (c++[x])/\uK v/\be w w':=by
 obtain⟨l,n,rfl⟩:=j.form;obtain⟨m,o,rfl⟩:=p.form;obtain⟨a,s⟩:∃a,c.length=a:=⟨_,rfl⟩;rw[s]at al j h;have f:Br (bi w (R l a n) c/\bi w (R m 1 o) [x]/\c.length=a/\w.cell? ⟨g,0,A0⟩=S (R l a n)/\w.cell? ⟨g,1,A0⟩=S (R m 1 o)):=⟨j,p,s,h,i⟩;have au:((a:Int)+1)<=2000:=by omega
 have u:=aiJ (a+1) (by omega) (by omega) w;rw[show((a+1:Nat):Int)=(a:Int)+1 by omega]at u;clear j p s h i;go_enter func228,ntmps228;go_wp2;go_loopw [3,11] (λy d wr=>Br (wr=w)/\((d= A2 A5 0/\y= A2 A5 0)\/(d= A2 A5 1/\y= A2 A5 (a:Int))\/(d= A2 A5 2/\y= A2 A5 ((a:Int)+1)))) (λ_ d _=>2-(B4 d).toNat)
 case atStart=>exact⟨rfl,.inl ⟨rfl,rfl⟩⟩
 case round=>
  obtain⟨ad,r⟩:=hrel;have ap:wr=w:=ad.out;subst wr;rcases r with⟨rfl,rfl⟩|⟨rfl,rfl⟩|⟨rfl,rfl⟩
  .have h:=f.out.2.2.2.1;have ao:¬(a:Int)<0:=by omega
   go_wp2_with fail;refine⟨⟨by first|exact True.intro|exact rfl,.inr (.inl ⟨rfl,by first|rfl|go_num⟩)⟩,by simp[B4]⟩
  .have i:=f.out.2.2.2.2;have ao:¬(a:Int)+1<0:=by omega
   have ap:IntKind.i64.wrap ((a:Int)+1)=(a:Int)+1:=by rw[fh];omega
   go_wp2_with fail;refine⟨⟨by first|exact True.intro|exact rfl,.inr (.inr ⟨rfl,by first|rfl|go_num⟩)⟩,by simp[B4]⟩
  .go_wp2_with (go_at_call 261;fail);refine u.mono ?_;rintro e J ⟨ak,rfl,K,F⟩;have L:Br (AK w.heap.size J (R (S ⟨w.heap.size,0,A0⟩) 0 ak) []/\be w J):=⟨K,F⟩;clear K F u;go_wp2;go_loopw [6,27] (λk d wr=>∃A G C,k= R A G C/\((d= A2 A5 0/\Br (AK w.heap.size wr k []/\be w wr))\/(d= A2 A5 1/\Br (AK w.heap.size wr k c/\be w wr))\/(d= A2 A5 2/\Br (AK w.heap.size wr k (c++[x])/\be w wr)))) (λ_ d _=>2-(B4 d).toNat)
   case atStart=>exact⟨_,_,_,rfl,.inl ⟨rfl,L.out⟩⟩
   case round=>
    obtain⟨A,G,C,rfl,r⟩:=hrel;rcases r with⟨rfl,b⟩|⟨rfl,b⟩|⟨rfl,b⟩
    .have h:wr.cell? ⟨g,0,A0⟩=S (R l a n):=ag b.out.2 f.out.2.2.2.1;have t:=b.out.2.size;have an:=f.out.2.2.1;go_wp2_with (at_builtin;refine G4 rfl _ _ rfl w.heap.size _ [] rfl b.out.1 t _ c rfl (f.out.1.below b.out.2) (by simp) (by omega) a (by simp;omega) ?_;intro B E w1 z q);have ar:AK w.heap.size w1 (R B a E) c:=by simpa using z
     exact⟨⟨_,_,_,rfl,.inr (.inl ⟨rfl,ar,b.out.2.trans q⟩)⟩,by simp[B4]⟩
    .have i:wr.cell? ⟨g,1,A0⟩=S (R m 1 o):=ag b.out.2 f.out.2.2.2.2;have t:=b.out.2.size;have an:=f.out.2.2.1;go_wp2_with (at_builtin;refine G4 rfl _ _ rfl w.heap.size _ c rfl b.out.1 t _ [x] rfl (f.out.2.1.below b.out.2) (by omega) (by simp) (a+1) (by simp;omega) ?_;intro B E w1 z q);exact⟨⟨_,_,_,rfl,.inr (.inr ⟨rfl,z,b.out.2.trans q⟩)⟩,by simp[B4]⟩
    .go_wp2;go_ret;exact⟨_,rfl,b.out.1.strs.1,b.out.1.strs.2,b.out.2⟩
def acw:ByteArray:=⟨#[46,46,46]⟩
def pF(N:Nd):List ByteArray:=if N.op=1 then N.nm++[acw] else N.nm
def NdQ.rest{f:B2}{L:List Im}{b:Nat}{e:B1}{a:Option Addr}{n c:Nat}(h:NdQ f L N b e a n c)(i:dF N.k=5)(g:be f W):W.cell? ⟨b,6,A0⟩=S e/\W.cell? ⟨b,7,A0⟩=S (B6 (decide (N.op=1))):=by
 obtain⟨j,d⟩:=h.rd W g;unfold ic at d;rw[i]at d;exact⟨by rw[aj _ _ _ _ _ _ d];rfl,by rw[aj _ _ _ _ _ _ d];rfl⟩
def acx(d:B2)(h:Nat)(L:List Im)(t:Nat)(N:Nd)(b:Nat)(I:B1)(a:Option Addr)(n c:Nat)(Q:NdQ d L N b I a n c)(ba:dF N.k=5)(bs:N.nm.length<=200)(bt:(bK (pF N)).size<=1000000):
  Pw d h 175 #[vP h,ju d t,.pointer (S ⟨b,0,A0⟩)] (⟨#[40]⟩++bK (pF N)++⟨#[41]⟩):=by
 intro j i E;have bx:=λi=>qz d.heap.size (gx t) i;have a0:Br (Pw d h 329 #[ph d t,Y ⟨#[40]⟩] ⟨#[40]⟩):=lK d h t _ (by decide);have ad:Br (Pw d h 329 #[ph d t,Y (bK (pF N))] (bK (pF N))):=lK d h t _ (by omega);have a1:Br (∀j i,Ps d h j i->∀H,CallsD O 329 #[ph d t,Y ⟨#[41]⟩] H i λq au bj=>au=H/\(q= .returned (.tuple #[])/\Ps d h (j++⟨#[41]⟩) bj/\Kq d.heap.size i bj)):=λj i E H=>ot d h t _ j (by decide) H i E;have B:Br (∀p A,bi p A (pF N)->uK A->B3 O 174 #[A,Y ⟨#[44,32]⟩] p (gy p (Y (bK (pF N))))):=λp A bo bp=>Hi p A _ bo bp (by unfold pF;split;rw[bm];show _+1<=_;omega;omega) (by omega);have l:Br (∀p,be d p->p.cell? ⟨b,6,A0⟩=S I/\p.cell? ⟨b,7,A0⟩=S (B6 (decide (N.op=1)))):=λp br=>Q.rest ba br;have ax:Br (Ps d h j i):=E;have K:Br (bi d I N.nm/\uK I/\N.nm.length<=200):=⟨Q.nm,Q.jn,bs⟩;obtain⟨C,a8⟩:∃C,bK (pF N)=C:=⟨_,rfl⟩;rw[a8]at ad B bt⊢;unfold ju ph at *;generalize gx t=bD at *;obtain⟨r,s,bb⟩:=Q.nm.form;generalize N.nm.length=u at bb;subst bb;clear E Q a8 ba;cases ho:decide (N.op=1) with
 |false=>
  have y:pF N=N.nm:=by unfold pF;rw[aa (mh ho)]
  rw[ho]at l;have bn:Br (bi d (R r u s) (pF N)):=by rw[y];exact K.out.1
  clear ho y;go_enter_defers func175,ntmps175
  go_wp2_with (go_at_call 329;fail);refine(a0.out _ _ ax.out).mono ?_;rintro q e ⟨rfl,g,m⟩;have o:Br (Ps d h (j++⟨#[40]⟩) e/\Kq d.heap.size i e):=⟨g,m⟩;obtain⟨bk,bl⟩:=l.out _ g.pg.bel;clear g m;go_wp2_with fail;go_region_held3 (λak=>ak.cell? ⟨b,6,A0⟩=S (R r u s)) (first|exact(l.out _ (o.out.1.below (aw (ah _ _))).pg.bel).1|exact(l.out _ ((o.out.1.below (aw (ah _ _))).below v).pg.bel).1|exact(l.out _ g.pg.bel).1|go_keep) (first|(go_at_call 174;refine(B.out _ _ (bn.out.below (o.out.1.below (aw (ah _ _))).pg.bel) K.out.2.1).mono ?_;rintro q bw ⟨rfl,v⟩)|(go_at_call 329;refine(ad.out _ _ ((o.out.1.below (aw (ah _ _))).below v)).mono ?_;rintro q z ⟨rfl,g,m⟩))
  all_goals
   have w:Br (Ps d h (j++⟨#[40]⟩++C) z/\Kq d.heap.size i z):=⟨g,((o.out.2.trans (Kq.of_below (aw (ah _ _)))).trans (Kq.of_below v)).trans m⟩;clear g m;go_wp2_with fail;refine rp (f:=329) (by simp) (uC _ _ _ _) ?_;refine(a1.out _ _ w.out.1 .returning).mono ?_;rintro q au bv ⟨rfl,rfl,ap,ao⟩;refine⟨_,fK rfl _ _ _,rfl,?_,w.out.2.trans ao⟩;simpa only[aK] using ap
 |true=>
  have y:pF N=N.nm++[acw]:=by unfold pF;rw[ae (aG ho)]
  rw[ho]at l;rw[y]at B;clear ho y;go_enter_defers func175,ntmps175
  go_wp2_with (go_at_call 329;fail);refine(a0.out _ _ ax.out).mono ?_;rintro q e ⟨rfl,g,m⟩;have o:Br (Ps d h (j++⟨#[40]⟩) e/\Kq d.heap.size i e):=⟨g,m⟩;obtain⟨bk,bl⟩:=l.out _ g.pg.bel;clear g m;go_wp2_with (go_at_call 228;fail);have a6:=aB e (A9 #[Y ⟨#[46,46,46]⟩] 9);have F:=aB (e.alloc (A9 #[Y ⟨#[46,46,46]⟩] 9)) (A9 #[R r u s,R (S ⟨e.heap.size,0,A0⟩) 1 1] 58);rw[dm]at F;have G:be e ((e.alloc (A9 #[Y ⟨#[46,46,46]⟩] 9)).alloc (A9 #[R r u s,R (S ⟨e.heap.size,0,A0⟩) 1 1] 58)):=((ah _ e).alloc (af _) _).alloc (by simp) _;have a7:((e.alloc (A9 #[Y ⟨#[46,46,46]⟩] 9)).alloc (A9 #[R r u s,R (S ⟨e.heap.size,0,A0⟩) 1 1] 58)).cell? ⟨e.heap.size,0,A0⟩=S (Y ⟨#[46,46,46]⟩):=ag ((ah _ _).alloc (af _) _) (by rw[aj _ _ _ _ _ _ a6];rfl);have bf:=acv ((e.alloc (A9 #[Y ⟨#[46,46,46]⟩] 9)).alloc (A9 #[R r u s,R (S ⟨e.heap.size,0,A0⟩) 1 1] 58)) (e.heap.size+1) (R r u s) (R (S ⟨e.heap.size,0,A0⟩) 1 1) N.nm acw (K.out.1.below (o.out.1.pg.bel.trans (G.mono o.out.1.pg.bel.size))) (.inr ⟨⟨e.heap.size,0,A0⟩,1,rfl,λbc bA an=>by
    cases bc with
    |zero=>simp at an;subst an;exact a7
    |succ bc=>simp at an⟩) (by omega) (by rw[aj _ _ _ _ _ _ F];rfl) (by rw[aj _ _ _ _ _ _ F];rfl)
  refine bf.mono ?_;rintro q J ⟨bE,rfl,ar,bd,a9⟩;have al:be e J:=G.trans (a9.mono G.size);have x:Br (Ps d h (j++⟨#[40]⟩) J/\Kq d.heap.size i J):=⟨o.out.1.below al,o.out.2.trans (Kq.of_below al)⟩;obtain⟨a2,a4,a5⟩:=ar.form;generalize (N.nm++[acw]).length=bh at a5;subst a5;have av:Br (bi J (R a2 bh a4) (N.nm++[acw])/\uK (R a2 bh a4)):=⟨ar,bd⟩;obtain⟨bk,bl⟩:=l.out _ x.out.1.pg.bel;clear a6 F a7 G bf a9 al ar bd;go_wp2_with fail;go_region_held3 (λak=>ak.cell? ⟨b,6,A0⟩=S (R r u s)) (first|exact(l.out _ (x.out.1.below (aw (ah _ _))).pg.bel).1|exact(l.out _ ((x.out.1.below (aw (ah _ _))).below v).pg.bel).1|exact(l.out _ g.pg.bel).1|go_keep) (first|(go_at_call 174;refine(B.out _ _ (av.out.1.below (aw (ah _ _))) av.out.2).mono ?_;rintro q bw ⟨rfl,v⟩)|(go_at_call 329;refine(ad.out _ _ ((x.out.1.below (aw (ah _ _))).below v)).mono ?_;rintro q z ⟨rfl,g,m⟩))
  all_goals
   have w:Br (Ps d h (j++⟨#[40]⟩++C) z/\Kq d.heap.size i z):=⟨g,((x.out.2.trans (Kq.of_below (aw (ah _ _)))).trans (Kq.of_below v)).trans m⟩;clear g m;go_wp2_with fail;refine rp (f:=329) (by simp) (uC _ _ _ _) ?_;refine(a1.out _ _ w.out.1 .returning).mono ?_;rintro q au bv ⟨rfl,rfl,ap,ao⟩;refine⟨_,fK rfl _ _ _,rfl,?_,w.out.2.trans ao⟩;simpa only[aK] using ap
def amf{op:Int}(h:1<=op/\op<=18):((qL op).2=(qL op).1+1/\(qL op).1≠4/\1<=(qL op).1/\(qL op).1<=10)\/((qL op).1=4/\(qL op).2=4):=by
 unfold qL
 (repeat' split)
 all_goals first|(left;exact⟨rfl,by decide,by decide,by decide⟩)|(right;exact⟨rfl,rfl⟩)
def Bm(h:jh N.k=B0):N.k=28\/N.k=29\/N.k=31:=by unfold jh at h;simp at h;omega
def wC(h:jh N.k=B0)(a:N.k=31->1<=N.op/\N.op<=18):((lj N=oz N+1/\oz N≠4/\1<=oz N/\oz N<=10)\/(oz N=4/\lj N=4))/\ij N.k N.op=oz N/\rL N.k N.op=lj N:=by
 unfold oz lj ij rL;rcases Bm h with e|e|e
 .rw[e];exact⟨.inl ⟨rfl,by simp,by simp,by simp⟩,rfl,rfl⟩
 .rw[e];exact⟨.inl ⟨rfl,by simp,by simp,by simp⟩,rfl,rfl⟩
 .rw[e];exact⟨amf (a e),rfl,rfl⟩
def ajC{M:Nd}(h:jh M.k=Ck):11<=ij M.k M.op:=by
 unfold jh at h;simp at h;unfold ij;rw[aa (by omega),aa (by omega),aa (by omega)];split<;>omega
def amg(ns:List Nd)(E:Int->ByteArray)(N:Nd)(a:Int)(f:jh N.k=B0)(h:N.k=31->1<=N.op/\N.op<=18)(g:(ab ns a).k=31->1<=(ab ns a).op/\(ab ns a).op<=18):
  (if aet N (ab ns a)=B0 then lB (E a) else E a)=iL ns E a (wh N (ij N.k N.op)):=by
 obtain⟨l,d,e⟩:=wC f h;unfold iL wh aet;rw[d,e];cases hM:jh (ab ns a).k with
 |false=>
  have:=ajC hM;rw[aa (by simp),aa];split<;>omega
 |true=>
  obtain⟨i,c,j⟩:=wC hM g;rw[c];by_cases b:lj (ab ns a)<=oz N
  .rw[ae (by simp[b]),ae];split<;>omega
  .rw[aa (by simp[b]),aa];split<;>omega
def ajD(ns:List Nd)(E:Int->ByteArray)(N:Nd)(a:Int)(e:jh N.k=B0)(g:N.k=31->1<=N.op/\N.op<=18)(f:(ab ns a).k=31->1<=(ab ns a).op/\(ab ns a).op<=18):
  (if J7 N (ab ns a)=B0 then lB (E a) else E a)=iL ns E a (rL N.k N.op):=by
 obtain⟨j,l,d⟩:=wC e g;unfold iL J7;rw[d];cases hM:jh (ab ns a).k with
 |false=>
  have:=ajC hM;rw[aa (by simp),aa (by omega)]
 |true=>
  obtain⟨h,c,i⟩:=wC hM f;rw[c];by_cases b:oz (ab ns a)<lj N
  .rw[ae (by simp[b]),ae b]
  .rw[aa (by simp[b]),aa b]
def arA(ns:List Nd)(E:Int->ByteArray)(N:Nd)(a:Nat)(b:dt N 0=(a:Int))(h:19<=N.op/\N.op<=22)(c:(ab ns a).k=31->1<=(ab ns a).op/\(ab ns a).op<=18):
  Gm N.op++(if(decide (N.op=19)&&vp (ab ns a))=B0 then⟨#[32]⟩ else Ax)++(if jh (ab ns a).k=B0 then lB (E a) else E a)=unB ns E N:=by
 unfold unB;rw[b]
 congr 1
 .unfold Gm unS;rw[b];rcases(show N.op=19\/N.op=20\/N.op=21\/N.op=22 by omega) with e|e|e|e
  .rw[e];cases hn:vp (ab ns a)<;>simp
  .rw[e];simp
  .rw[e];simp
  .rw[e];simp
 .unfold iL;cases hM:jh (ab ns a).k with
  |false=>
   have:=ajC hM;rw[aa (by simp),aa (by omega)]
  |true=>
   obtain⟨d,f,g⟩:=wC hM c;rw[ae rfl,ae (by omega)]
def aeu{op:Int}(h:1<=op/\op<=18):dG (60+op)=Am (60+op):=by
 obtain⟨a,b⟩:=h;rcases(show op=1\/op=2\/op=3\/op=4\/op=5\/op=6\/op=7\/op=8\/op=9\/op=10\/op=11\/op=12\/op=13\/op=14\/op=15\/op=16\/op=17\/op=18 by omega) with rfl|rfl|rfl|rfl|rfl|rfl|rfl|rfl|rfl|rfl|rfl|rfl|rfl|rfl|rfl|rfl|rfl|rfl;all_goals decide+kernel
def amh(h:N.k=28):Bl N=⟨#[32,97,110,100,32]⟩:=by unfold Bl mz;rw[ae h];decide+kernel
def apw(h:N.k=29):Bl N=⟨#[32,111,114,32]⟩:=by unfold Bl mz;rw[aa (by omega),ae h];decide+kernel
def ami(h:N.k=31)(a:1<=N.op/\N.op<=18):Bl N=⟨#[32]⟩++Am (60+N.op)++⟨#[32]⟩:=by unfold Bl mz;rw[aa (by omega),aa (by omega),ae h,aeu a]
def amj(b:N.k=31->1<=N.op/\N.op<=18):mz N<=100/\0<=mz N:=by
 unfold mz;by_cases a:N.k=31
 .have:=b a;rw[aa (by omega),aa (by omega),ae a];omega
 .split
  .omega
  .split
   .omega
   .omega
def af6(b:jh N.k=B0)(c:N.k=31->1<=N.op/\N.op<=18):(dG (mz N)).size<=100:=by
 rcases Bm b with e|e|e
 .unfold mz;rw[ae e];decide+kernel
 .unfold mz;rw[aa (by omega),ae e];decide+kernel
 .have a:=c e;unfold mz;rw[aa (by omega),aa (by omega),ae e,aeu a];have:=EC a;omega
def Fx(x:ByteArray):bK [x]=x:=by rw[Hh];show x++Ax=x;exact ByteArray.append_empty
def apx(N:Nd):⟨#[40]⟩++bK (pF N)++⟨#[41]⟩++⟨#[32]⟩=Cg N:=by
 unfold Cg pF;by_cases b:N.op=1
 .rw[ae b,ae b,af1];by_cases a:N.nm=[]
  .rw[ae a,ae a,a];show(⟨#[40]⟩++acw)++⟨#[41]⟩++⟨#[32]⟩=⟨#[40]⟩++Ax++⟨#[46,46,46]⟩++⟨#[41,32]⟩;decide+kernel
  .rw[aa a,aa a];have c:(⟨#[41]⟩:ByteArray)++⟨#[32]⟩=⟨#[41,32]⟩:=by decide+kernel
   rw[<-c];unfold acw;simp only[aK]
 .rw[aa b,aa b];have c:(⟨#[41]⟩:ByteArray)++⟨#[32]⟩=⟨#[41,32]⟩:=by decide+kernel
  rw[<-c,show ∀d:ByteArray,d++Ax=d from λd=>ByteArray.append_empty];simp only[aK]
def ajE(h:lg ns N=B0)(e:N.nm.length<=200):(bK (pF N)).size<=1000000:=by
 have b:∀a∈pF N,a.size<=4000:=by
  intro a hs;unfold pF at hs;split at hs
  .rcases List.mem_append.1 hs with hs|hs
   .exact Ez h a hs
   .obtain rfl:=List.mem_singleton.1 hs;decide
  .exact Ez h a hs
 have c:=aaq _ b;have d:(pF N).length<=201:=by
  unfold pF;split
  .rw[bm];show _+1<=_;omega
  .omega
 omega
def Af{ks:List Int}(E:Int->ByteArray){a:Int}(c:ks.length=1)(d:ks[0]?=S a):bK (ks.map E)=E a:=by
 match ks,c with
 |[b],_=>
  obtain rfl:b=a:=by simpa using d
  exact Fx _
def apy(a:B2)(c:Nat)(ns:List Nd)(L:List Im)(base:Nat)(a9:B1)(ax:Tp a ns L base a9)(t:Nat)(ht:t<=100000)(i:Nat)(a3:i<ns.length)(N:Nd)(a0:ab ns i=N)(ak:N.k=36)(bh:N.ks.length<=1048576)(a4:N.nm.length<=200)(a6:(bK (pF N)).size<=1000000)(z:Nat)(u:N.ks[0]?=S (z:Int))(m:ByteArray)(a1:FD a c L t (z:Int) m):
  Pw a c 117 #[vP c,ju a t,nV (ny L i)] (⟨#[40]⟩++bK (pF N)++⟨#[41]⟩++⟨#[32]⟩++m):=by
 intro n b r;obtain⟨f,A,bc,x,ad,v,e⟩:=xn ax a3;rw[a0]at v e;have q:=λb=>dw f b;have bl:=λb=>qz a.heap.size (gx t) b;have bk:=λb=>It a.heap.size (gx t) b;have bj:=λb=>ac7 a.heap.size (gx t) b;have a5:=e.hn;have al:=λb=>qH (dF N.k) f b;have s:dF N.k=5:=by rw[ak];rfl
 obtain⟨y,rfl,a2,_⟩:=e.ks.get u;rw[a5]at a2;have bf:(0:Int)<(x:Int):=by have:=ss u;omega
 have au:Br (Pw a c 175 _ (⟨#[40]⟩++bK (pF N)++⟨#[41]⟩)):=acx a c L t N f A _ _ _ e s a4 a6;have av:Br (Pw a c 329 _ (⟨#[32]⟩)):=lK a c t (⟨#[32]⟩) (by decide);have K:Br (Pw a c 76 _ (m)):=a1;obtain⟨a8,an⟩:∃a7,nV (ny L (z:Int))=a7:=⟨_,rfl⟩;rw[an]at K;have o:Br (∀l,be a l->l.cell? ⟨f,0,A0⟩=S (A2 A5 N.k)/\l.cell? ⟨f,5,A0⟩=S (R (S y) x ad)/\l.cell? ⟨f,6,A0⟩=S A/\l.cell? y=S a8):=λl p=>⟨(e.cells p).1,(e.cells p).2.1,(e.cells p).2.2 _ (by rw[s];rfl),by rw[<-an];obtain⟨_,g,_,ba⟩:=(e.ks.below p).get u;cases g;simpa [Addr.add] using ba⟩;have G:Br (Ps a c n b/\Kq a.heap.size b b):=⟨r,Kq.refl _ _⟩;obtain⟨B,C,E,F⟩:=o.out _ r.pg.bel;rw[v];rw[s]at al⊢;simp only[lH]at al⊢;have bd:=λb=>atb f b;unfold ju ph at *;generalize gx t=bn at *;have bb:Br (NdQ a L N f A (S y) x ad):=e;clear r e v ak;go_enter func117,ntmps117;go_wp2_with (first|(go_at_call 330;refine(q _).mono ?_;rintro g j ⟨rfl,w⟩;subst j)|(go_at_call 175;fail));refine(au.out _ _ G.out.1).mono ?_;rintro g ao ⟨rfl,d,h⟩;have H:Br (Ps a c (n++(⟨#[40]⟩++bK (pF N)++⟨#[41]⟩)) ao/\Kq a.heap.size b ao):=⟨d,G.out.2.trans h⟩;obtain⟨B,C,E,F⟩:=o.out _ d.pg.bel;clear d h;go_wp2_with (first|(go_at_call 330;refine(q _).mono ?_;rintro g j ⟨rfl,w⟩;subst j)|(go_at_call 329;fail));refine(av.out _ _ H.out.1).mono ?_;rintro g ap ⟨rfl,d,h⟩;have I:Br (Ps a c (n++(⟨#[40]⟩++bK (pF N)++⟨#[41]⟩)++(⟨#[32]⟩)) ap/\Kq a.heap.size b ap):=⟨d,H.out.2.trans h⟩;obtain⟨B,C,E,F⟩:=o.out _ d.pg.bel;clear d h;go_wp2_with (first|(go_at_call 330;refine(q _).mono ?_;rintro g j ⟨rfl,w⟩;subst j)|(go_at_call 76;fail));refine(K.out _ _ I.out.1).mono ?_;rintro g ar ⟨rfl,d,h⟩;have J:Br (Ps a c (n++(⟨#[40]⟩++bK (pF N)++⟨#[41]⟩)++(⟨#[32]⟩)++(m)) ar/\Kq a.heap.size b ar):=⟨d,I.out.2.trans h⟩;obtain⟨B,C,E,F⟩:=o.out _ d.pg.bel;clear d h;go_wp2_with (first|(go_at_call 330;refine(q _).mono ?_;rintro g j ⟨rfl,w⟩;subst j));go_end0
 refine⟨rfl,?_,J.out.2⟩;have:=J.out.1;simpa only[aK] using this
section
variable (w0 : World) (vb : Nat) (L : List Im) (t : Nat)
inductive BO (ns:List Nd) (N:Nd) (word:ByteArray):ByteArray->Prop
 |two {q:Nat}{X E:ByteArray}:N.ks.length=2->LX w0 vb L t (N.ks.take 1) X->N.ks[1]?=some (q:Int)->Hid (VX w0 vb L t 76 q E)->BO ns N word (word++X++⟨#[32]⟩++E)
 |elf {q r:Nat}{X E Z:ByteArray}:N.ks.length=3->LX w0 vb L t (N.ks.take 1) X->N.ks[1]?=some (q:Int)->Hid (VX w0 vb L t 76 q E)->N.ks[2]?=some (r:Int)->r<ns.length->(ab ns r).k=7->Hid (Pw w0 vb 119 #[vP vb,ju w0 t,.string ⟨#[32,101,108,105,102,32]⟩,nV (ny L (r:Int))] Z)->BO ns N word (word++X++⟨#[32]⟩++E++Z)
 |els {q r:Nat}{X E F:ByteArray}:N.ks.length=3->LX w0 vb L t (N.ks.take 1) X->N.ks[1]?=some (q:Int)->Hid (VX w0 vb L t 76 q E)->N.ks[2]?=some (r:Int)->r<ns.length->(ab ns r).k≠7->Hid (VX w0 vb L t 76 r F)->BO ns N word (word++X++⟨#[32]⟩++E++(⟨#[32,101,108,115,101,32]⟩++F))
end
def b_w{a:B2}{b:Nat}{L:List Im}{base:Nat}{a7:B1}(s:Tp a ns L base a7)(ht:t<=100000)(av:i<ns.length)(ap:ab ns i=N)(a9:N.ks.length<=1048576){B:ByteArray}(bd:B.size<=100){h:ByteArray}(ar:BO a b L t ns N B h):
  Pw a b 119 #[vP b,ju a t,Y B,nV (ny L i)] h:=by
 intro K c k;obtain⟨v,bl,a8,bf,x,z,e⟩:=xn s av;rw[ap]at z e;have A:=λ(v:Nat) c=>dw v c;have ba:=λc=>qz a.heap.size (gx t) c;have bc:=λc=>ys a.heap.size (gx t) c;have a0:=e.hn;have bb:=λc=>qH (dF N.k) v c;have J:Br (∀d:ByteArray,d.size<=100000000->Pw a b 329 #[ph a t,Y d] d):=λd k=>lK a b t d k;have I:Br (∀(d g h:ByteArray)(p n:B1),d.size<=100000000->Br (Pw a b 118 #[vP b,ju a t,p] g)->Br (Pw a b 76 #[vP b,ju a t,n] h)->Pw a b 120 #[vP b,ju a t,Y d,p,n] (d++g++⟨#[32]⟩++h)):=λd g h p n k an a1=>yo a b t d (d++g) h p n (oL a b t d g k p an) a1;have bh:=λf (l:be a f)=>(e.cells l).1;have r5:=λf (l:be a f)=>(e.cells l).2.1;have y:=k.pg.bel;have P:Br (Pq a b c K c):=⟨k,Kq.refl _ _⟩;have u:=am e;cases ar
 case' two hX hq _=>obtain⟨H,rfl,G, -⟩:=e.ks.get hq;have F:=am (hX _ (e.ks.take 1 (by omega)))
 case' elf q r g E Z _ hX hq _ hr hl h7 hZ=>
  obtain⟨H,rfl,G, -⟩:=e.ks.get hq;have F:=am (hX _ (e.ks.take 1 (by omega)));obtain⟨w,a6,ak,a4,al,m,o⟩:=xn s hl;have ax:=λc=>qH (dF (ab ns r).k) w c;have ao:=kqs h7;rw[m]at hZ;have z0:=λf (l:be a f)=>(o.cells l).1;have C:=u.kid hr (by decide);rw[m]at C;clear o m h7;generalize lH (dF (ab ns r).k)=a5 at *;generalize (ab ns r).k=a3 at *
 case' els q r g E Z _ hX hq _ hr hl h7 hZ=>
  obtain⟨H,rfl,G, -⟩:=e.ks.get hq;have F:=am (hX _ (e.ks.take 1 (by omega)));obtain⟨w,a6,ak,a4,al,m,o⟩:=xn s hl;have ax:=λc=>qH (dF (ab ns r).k) w c;have ao:=beq_eq_false_iff_ne.2 h7;unfold VX at hZ;rw[m]at hZ;have z0:=λf (l:be a f)=>(o.cells l).1;have C:=u.kid hr (by decide);rw[m]at C;clear o m h7;generalize lH (dF (ab ns r).k)=a5 at *;generalize (ab ns r).k=a3 at *
 all_goals
  try (have n:=a0.symm.trans (by with_reducible assumption:N.ks.length=_);subst n)
  have bn:=u.kid (j:=1) (by with_reducible assumption) (by decide);have au:(1:Int)<=(x:Int)/\1<=x/\¬x=0:=by omega
  obtain⟨_,_,_⟩:=au;rw[z];generalize lH (dF N.k)=bk at *;try unfold VX at *
  unfold ju ph at *;generalize gx t=bj at *;clear k e z s;go_in
  repeat' (go_wp2_with (go_at_call 330;refine iI (A _ _) ?_);first|(refine Pq.stp P (ah _ _) (by with_reducible first|assumption|exact am (J.out _ (by decide))) ?_;intro f P y)|(go_region_held3 (λad=>be a ad) (first|exact(P.below (aw (ah _ _))).ps.pg.bel|exact y|go_keep) (first|(go_at_call 330;refine iI (A _ _) ?_)|(refine Pq.stp P (aw (ah _ _)) (by with_reducible exact am (I.out _ _ _ _ _ (by omega) (by assumption) (by assumption))) ?_;intro f P y))))
  all_goals
   go_wp2_with (go_at_call 330;refine iI (A _ _) ?_);first|go_end0|refine bH (fK rfl _ _ _) rfl ?_
   exact Pq.fin P (by simp only[aK])
structure Cx (w0:B2) (ns:List Nd) (L:List Im) (base:Nat) (vs:B1):Prop where
 tp:Tp w0 ns L base vs
 pow:Ac w0
 lay:Lay w0
 sz:Szd ns
 len:ns.length<=3000
 n0:∀i:Int, -9223372036854775808<=(ab ns i).n
 n1:∀i:Int,(ab ns i).n<=9223372036854775807
structure VA (w0:B2) (vb:Nat) (ns:List Nd) (L:List Im) (f:Nat):Prop where
 e:∀(z t:Nat),z<f->z<ns.length->fy (ab ns z).k=B0->t+f<=50000->FD w0 vb L t z (qv ns f z t)
 s:∀(z t:Nat),z<f->z<ns.length->eA (ab ns z).k=B0->t+f<=50000->FD w0 vb L t z (pI ns f z t)
 b:∀(z t:Nat)(word:ByteArray),z<f->z<ns.length->(ab ns z).k=7->t+f<=50000->word.size<=100->Pw w0 vb 119 #[vP vb,ju w0 t,.string word,nV (ny L z)] (sr ns f z word t)
def VA.zero(c:B2)(b:Nat)(ns:List Nd)(L:List Im):VA c b ns L 0:=⟨λ_ _ a=>absurd a (by omega),λ_ _ a=>absurd a (by omega),λ_ _ _ a=>absurd a (by omega)⟩
section
variable {w0 : World} {vb : Nat} {ns : List Nd} {L : List Im} {base : Nat} {vs : Value} {f : Nat}
def Cx.op(C:Cx w0 ns L base vs):∀j:Nat,j<ns.length->(ab ns j).k=31->1<=(ab ns j).op/\(ab ns j).op<=18:=λj b a=>(mC (jg (C.sz.nb j b)).1).2.2 a
def Gn(C:Cx w0 ns L base vs)(V:VA w0 vb ns L f){a:Nat}(o:a<=f)(b:a<ns.length)(e:(ab ns a).k=1)(ht:t+f<50000):FD w0 vb L t a (xe (λk t=>pI ns f k t) (ab ns a).ks t):=by
 obtain⟨j,n⟩:=jg (C.sz.nb a b);have h:=tD j e;refine tJ 1 C.tp b e (al8 w0 vb ns L base vs C.tp t (by omega) a b _ rfl (by omega) (λk t=>pI ns f k t) (λp l=>?_));obtain⟨g,i,rfl⟩:=om l;obtain⟨m,c⟩:=iJ (C.sz.nb a b) b g i;have d:=Ey _ 0 h g (by omega) (by omega);rw[c.id]at d⊢;exact V.s m (t+1) (by have:=c.lt;omega) c.len d (by omega)
def exV(C:Cx w0 ns L base vs)(V:VA w0 vb ns L f)(e:i<ns.length)(p:i<=f)(ht:t+f<=50000){a m:Nat}(h:∀j,a<=j->j<a+m->fy (ab ns (dt (ab ns i) j)).k=B0)(q:a+m<=(ab ns i).ks.length):∀z∈((ab ns i).ks.drop a).take m,FD w0 vb L t z (qv ns f z t):=by
 intro z n;obtain⟨j,l,c⟩:=iw n;rw[eE,fJ]at l;rw[List.getElem_take,List.getElem_drop]at c;obtain⟨o,b⟩:=iJ (C.sz.nb i e) e (a+j) (by omega);have g:=wv (N:=ab ns i) (j:=a+j) (by omega);rw[g,b.id]at c;have d:=h (a+j) (by omega) (by omega);rw[b.id]at d;rw[<-c];exact V.e o t (by have:=b.lt;omega) b.len d ht
def lsV{a:List Int}(h:∀z∈a,FD w0 vb L t z (qv ns f z t))(b:a.length<=1048576):∀v,sx w0 L v a->Pw w0 vb 118 #[vP vb,ju w0 t,v] (bK (a.map λk=>qv ns f k t)):=λv c=>aaz w0 vb L t a v c b _ h
def bsV(C:Cx w0 ns L base vs)(V:VA w0 vb ns L f){a:Nat}(d:a<f)(b:a<ns.length)(c:fy (ab ns a).k=B0)(ht:t+f<=50000):Pw w0 vb 128 #[vP vb,ju w0 t,nV (ny L a)] (El ns (λk=>qv ns f k t) a):=by
 have:=afB w0 vb ns L base vs C.tp t a b _ (V.e a t d b c ht);unfold El;exact this
def arB(C:Cx w0 ns L base vs)(V:VA w0 vb ns L f){a:Nat}(n:a<=f)(c:a<ns.length)(g:(ab ns a).k=36)(ht:t+f<50000):Pw w0 vb 117 #[vP vb,ju w0 t,nV (ny L a)] (zu ns (λk t=>pI ns f k t) (ab ns a) t):=by
 obtain⟨h,m⟩:=jg (C.sz.nb a c);obtain⟨j,d,e,l⟩:=ady h g;obtain⟨i,b⟩:=iJ (C.sz.nb a c) c 0 (by omega);rw[b.id]at d;have:=apy w0 vb ns L base vs C.tp t (by omega) a c _ rfl g (by omega) e (ajE h e) i b.at_ _ (Gn C V (by have:=b.lt;omega) b.len d ht);unfold zu;rw[b.id,<-apx];exact this
def atv(C:Cx w0 ns L base vs)(V:VA w0 vb ns L f){c:Nat}(u:c<=f)(d:c<ns.length)(I:40<=(ab ns c).k/\(ab ns c).k<=42)(ht:t+f<=50000):FD w0 vb L t c (sj ns (λk=>qv ns f k t) (ab ns c)):=by
 obtain⟨v,J⟩:=jg (C.sz.nb c d);have F:=Ew (C.sz.nb c d);have p:=λi E=>iJ (C.sz.nb c d) d i E;unfold sj;by_cases o:(ab ns c).k=41
 .rw[ae o];obtain⟨l,e,A⟩:=mC v;obtain⟨a,b⟩:=p 0 (by omega);obtain⟨q,r⟩:=p 1 (by omega);have x:=gD 2 0 e 0 (by omega) (by omega);have G:=b.lt;have g:=exV C V (t:=t) d u ht (a:=1) (m:=1) (λi y z=>by have n:i=1:=(by omega);subst n;exact gD 2 0 e 1 (by omega) (by omega)) (by omega);rw[cj (by rw[fJ];omega)]at g;have h:=Kc C.tp (by omega) d rfl (by omega) (.par l b.at_ (ad6 w0 vb t _ _ (V.e a t (by omega) b.len (by rw[<-b.id];exact x) ht)) (lsV g (by rw[fJ];omega)));have B:((ab ns c).ks.drop 1).map (λk=>qv ns f k t)=[qv ns f q t]:=by
   have s:=r.at_
   match hks:(ab ns c).ks,l with
   |[K,H],_=>
    rw[hks]at s;obtain rfl:H=(q:Int):=by simpa using s
    rfl
  rw[B,Fx]at h;rw[b.id,r.id];have w:(⟨#[93]⟩:ByteArray)++⟨#[32,61,32]⟩=⟨#[93,32,61,32]⟩:=by decide+kernel
  rw[<-w];have:=tJ 41 C.tp d o h;simpa only[aK] using this
 rw[aa o];obtain⟨l,e,A⟩:=oI v (show _ by omega);obtain⟨a,b⟩:=p 0 (by omega);have G:=b.lt;rw[b.id]at e;by_cases j:(ab ns c).k=42
 .rw[ae j];have g:=exV C V (t:=t) d u ht (a:=0) (m:=1) (λi y z=>by have n:i=0:=(by omega);subst n;rw[b.id];exact e) (by omega);rw[ga,cj (by omega)]at g;have h:=m_v C.tp (by omega) d rfl (by omega) F (.nmd j (lsV g (by omega)));rw[Af _ l b.at_]at h;rw[b.id];exact tJ 42 C.tp d j h
 .rw[aa j,b.id];exact tJ 40 C.tp d (by omega) (Kc C.tp (by omega) d rfl (by omega) (.itm b.at_ (V.e a t (by omega) b.len e ht)))
def arC(C:Cx w0 ns L base vs)(V:VA w0 vb ns L f)(ap:i<=f)(b:i<ns.length)(ar:fy (ab ns i).k=B0)(ht:t+f<50000):FD w0 vb L t i (prE ns (λj=>qv ns f j t) (λj t=>pI ns f j t) (ab ns i) t):=by
 obtain⟨q,a4⟩:=jg (C.sz.nb i b);have J:=Ew (C.sz.nb i b);have n:=λv ak=>iJ (C.sz.nb i b) b v ak;have g:(ab ns i).ks.length<=1048576:=by omega
 have h:t<=100000:=by omega
 have a3:=aG ar;have an:jh (ab ns i).k=B0->Pw w0 vb 65 #[vP vb,ju w0 t,nV (ny L i)] (AL ns (λj=>qv ns f j t) (ab ns i) (Bl (ab ns i)) (ij (ab ns i).k (ab ns i).op)):=by
  intro A;have a2:=Bm A;obtain⟨p,d,u⟩:=mC q;obtain⟨a,c⟩:=n 0 (by omega);obtain⟨r,l⟩:=n 1 (by omega);have o:=gD 2 0 d 0 (by omega) (by omega);have z:=gD 2 0 d 1 (by omega) (by omega);rw[c.id]at o;rw[l.id]at z;have E:=c.lt;have a0:=l.lt;have B:=al7 w0 vb ns L base vs C.tp C.pow C.lay.tabs t i b A C.op a c.at_ c.len _ (V.e a t (by omega) c.len o (by omega)) r l.at_ l.len _ (V.e r t (by omega) l.len z (by omega)) (amj (C.op i b)) (af6 A (C.op i b));rw[amg ns (λj=>qv ns f j t) _ (a:Int) A (C.op i b) (C.op a c.len),ajD ns (λj=>qv ns f j t) _ (r:Int) A (C.op i b) (C.op r l.len)]at B;unfold AL;rw[c.id,l.id];exact B
 unfold prE;by_cases w:(ab ns i).k=28
 .rw[ae w,<-amh w];exact tJ 28 C.tp b w (an (by rw[w];rfl))
 rw[aa w];by_cases x:(ab ns i).k=29
 .rw[ae x,<-apw x];exact tJ 29 C.tp b x (an (by rw[x];rfl))
 rw[aa x];by_cases s:(ab ns i).k=31
 .rw[ae s,<-ami s (C.op i b s)];exact tJ 31 C.tp b s (an (by rw[s];rfl))
 rw[aa s];by_cases y:(ab ns i).k=30
 .rw[ae y];obtain⟨p,d,u⟩:=oI q;obtain⟨a,c⟩:=n 0 (by omega);have E:=c.lt;rw[c.id]at d;have B:=ajy w0 vb ns L base vs C.tp C.pow t i b y C.op a c.at_ c.len _ (V.e a t (by omega) c.len d (by omega));rw[arA ns (λj=>qv ns f j t) _ a c.id (u y) (C.op a c.len)]at B;exact tJ 30 C.tp b y B
 rw[aa y];by_cases ad:(ab ns i).k=32
 .rw[ae ad];obtain⟨p,d,u⟩:=mC q;obtain⟨a,c⟩:=n 0 (by omega);obtain⟨r,l⟩:=n 1 (by omega);have o:=gD 2 0 d 0 (by omega) (by omega);have z:=gD 2 0 d 1 (by omega) (by omega);have E:=c.lt;have a0:=l.lt;rw[c.id]at o⊢;rw[l.id]at z⊢;have:=tJ 32 C.tp b ad (Kc C.tp h b rfl g (.ind c.at_ l.at_ (bsV C V (by omega) c.len o (by omega)) (ad6 w0 vb t _ _ (V.e r t (by omega) l.len z (by omega)))));simpa only[aK] using this
 rw[aa ad];by_cases F:(ab ns i).k=33
 .rw[ae F];obtain⟨p,d,u⟩:=oI q;obtain⟨a,c⟩:=n 0 (by omega);have E:=c.lt;rw[c.id]at d⊢;exact tJ 33 C.tp b F (m_v C.tp h b rfl g J (.fld F c.at_ (bsV C V (by omega) c.len d (by omega))))
 rw[aa F];by_cases G:(ab ns i).k=34
 .rw[ae G];obtain⟨p,d⟩:=Da q G;obtain⟨a,c⟩:=n 0 (by omega);have E:=c.lt;have o:=gD _ 0 d 0 (by omega) (by omega);have ao:=exV C V (t:=t) b ap (by omega) (a:=1) (m:=(ab ns i).ks.length-1) (λv u a1=>gD _ 0 d v (by omega) (by omega)) (by omega);rw[cj (by rw[fJ];exact af _)]at ao;rw[c.id]at o⊢;exact tJ 34 C.tp b G (m_d C.tp h b rfl g (.call c.at_ (bsV C V (by omega) c.len o (by omega)) (lsV ao (by rw[fJ];omega))))
 rw[aa G];by_cases H:(ab ns i).k=35
 .rw[ae H];have p:=zx q H;unfold abI;refine tJ 35 C.tp b H (m_d C.tp h b rfl g (.tab (λax au=>aaz w0 vb L t _ ax au g (λk=>sj ns (λj=>qv ns f j t) (ab ns k)) (λa6 av=>?_))));obtain⟨v,ak,rfl⟩:=om av;obtain⟨a5,al⟩:=n v ak;have d:=aap _ 0 p v (by omega) (by omega);rw[al.id]at d⊢;exact atv C V (by have:=al.lt;omega) al.len d (by omega)
 rw[aa H];by_cases I:(ab ns i).k=36
 .rw[ae I];exact tJ 36 C.tp b I (Kc C.tp h b rfl g (.fnx (arB C V ap b I ht)))
 rw[aa I];by_cases K:(ab ns i).k=37
 .rw[ae K];obtain⟨p,d,u⟩:=oI q;obtain⟨a,c⟩:=n 0 (by omega);have E:=c.lt;rw[c.id]at d⊢;exact tJ 37 C.tp b K (Kc C.tp h b rfl g (.one c.at_ (zI w0 vb t _ _ (V.e a t (by omega) c.len d (by omega)))))
 rw[aa K];unfold Cf;rcases(show(ab ns i).k=20\/(ab ns i).k=21\/(ab ns i).k=22\/(ab ns i).k=23\/(ab ns i).k=24\/(ab ns i).k=25\/(ab ns i).k=26\/(ab ns i).k=27 by omega) with e|e|e|e|e|e|e|e
 .rw[ae e];exact tJ 20 C.tp b e (Kc C.tp h b rfl g .nil_)
 .rw[aa (by omega),ae e];exact tJ 21 C.tp b e (Kc C.tp h b rfl g .tru)
 .rw[aa (by omega),aa (by omega),ae e];exact tJ 22 C.tp b e (Kc C.tp h b rfl g .fls)
 .rw[aa (by omega),aa (by omega),aa (by omega),ae e];exact tJ 23 C.tp b e (m_v C.tp h b rfl g (Ew (C.sz.nb i b)) (.int_ e C.lay (C.n0 i) (C.n1 i)))
 .rw[aa (by omega),aa (by omega),aa (by omega),aa (by omega),ae (by omega)];exact tJ 24 C.tp b e (m_v C.tp h b rfl g J (.flt e))
 .rw[aa (by omega),aa (by omega),aa (by omega),aa (by omega),aa (by omega),ae e];exact tJ 25 C.tp b e (m_v C.tp h b rfl g J (.str e))
 .rw[aa (by omega),aa (by omega),aa (by omega),aa (by omega),ae (by omega)];exact tJ 26 C.tp b e (m_v C.tp h b rfl g J (.nam e))
 .rw[aa (by omega),aa (by omega),aa (by omega),aa (by omega),aa (by omega),aa (by omega),ae e];exact tJ 27 C.tp b e (Kc C.tp h b rfl g .rst)
end
section
variable {w0 : World} {vb : Nat} {ns : List Nd} {L : List Im} {base : Nat} {vs : Value} {f : Nat}
def anb{a:Nat}(E:Int->ByteArray)(c:0<N.ks.length)(b:N.ks[0]?=S (a:Int)):bK ((N.ks.take 1).map E)=E a:=by
 refine Af E (by rw[eE];omega) ?_;rw[lp,ae (by omega)];exact b
def brV(C:Cx w0 ns L base vs)(V:VA w0 vb ns L f)(F:i<=f)(e:i<ns.length)(H:(ab ns i).k=7)(ht:t+f<50000)(u:ByteArray)(q:u.size<=100):
  Pw w0 vb 119 #[vP vb,ju w0 t,Y u,nV (ny L i)] (wj ns (λh=>qv ns f h t) (λh t=>pI ns f h t) (λh w=>sr ns f h w t) (ab ns i) u t):=by
 obtain⟨I,al⟩:=jg (C.sz.nb i e);have s:=λr G=>iJ (C.sz.nb i e) e r G;have o:(ab ns i).ks.length<=1048576:=by omega
 have p:t<=100000:=by omega
 obtain⟨ad,ak,B,y,E⟩:=adz I H;obtain⟨a,n⟩:=s 0 (by omega);obtain⟨A,d⟩:=s 1 (by omega);have an:=n.lt;have ao:=d.lt;have z:=exV C V (t:=t) e F (by omega) (a:=0) (m:=1) (λr J K=>by have c:r=0:=(by omega);subst c;exact B) (by omega);rw[ga]at z;have j:=lsV z (by rw[eE];omega);rw[anb _ (by omega) n.at_]at j;rw[d.id]at y;have l:=Gn C V (t:=t) (show A<=f by omega) d.len y ht;unfold wj;rw[n.id,d.id];rcases bI (ab ns i).ks.length 3 with g|g
 .rw[ae g,show ∀v:ByteArray,v++Ax=v from λv=>ByteArray.append_empty];exact b_w C.tp p e rfl o q (.two (by omega) j d.at_ l)
 .rw[aa (by omega)];obtain⟨x,b⟩:=s 2 (by omega);have wc:=b.lt;rw[b.id]at E⊢;by_cases c:(ab ns x).k=7
  .rw[ae c];exact b_w C.tp p e rfl o q (.elf (by omega) j d.at_ l b.at_ b.len c (V.b x t _ (by omega) b.len c (by omega) (by decide)))
  .rw[aa c];exact b_w C.tp p e rfl o q (.els (by omega) j d.at_ l b.at_ b.len c (Gn C V (by omega) b.len (by omega) ht))
def arD(C:Cx w0 ns L base vs)(V:VA w0 vb ns L f)(q:i<=f)(b:i<ns.length)(bf:eA (ab ns i).k=B0)(ht:t+f<50000):
  FD w0 vb L t i (prS ns (λy=>qv ns f y t) (λy t=>pI ns f y t) (λ_ w=>wj ns (λy=>qv ns f y t) (λy t=>pI ns f y t) (λy w=>sr ns f y w t) (ab ns i) w t) (ab ns i) t):=by
 obtain⟨s,bj⟩:=jg (C.sz.nb i b);have u:=λl bc=>iJ (C.sz.nb i b) b l bc;have j:(ab ns i).ks.length<=1048576:=by omega
 have p:t<=100000:=by omega
 have bh:=aG bf;have a6:∀k:Int,k=34->fy k=B0:=λk e=>by rw[e];rfl
 have A:(ab ns i).nm.length<=200->(bK (ab ns i).nm).size<=1000000:=λa7=>by have:=aaq _ (Ez s);omega
 have bb:(ab ns i).nm.length=1->bK (ab ns i).nm=nm0 (ab ns i):=λa7=>by
  unfold nm0
  match hn:(ab ns i).nm,a7 with
  |[z],_=>exact Fx z
 unfold prS;by_cases au:(ab ns i).k=1
 .rw[ae au];exact Gn C V q b au ht
 rw[aa au];by_cases B:(ab ns i).k=2
 .rw[ae B];obtain⟨h1,c⟩:=ab4 s B;by_cases v:(ab ns i).ks=[]
  .rw[ae v,show ∀z:ByteArray,z++Ax=z from λz=>ByteArray.append_empty];exact tJ 2 C.tp b B (m_n C.tp p b rfl j (by omega) (A c) (.let0 B (by rw[v];rfl)))
  .rw[aa v];have g:=exV C V (t:=t) b q (by omega) (a:=0) (m:=(ab ns i).ks.length) (λl o x=>gD _ 0 h1 l (by omega) (by omega)) (by omega);rw[ga,cj (af _)]at g;exact tJ 2 C.tp b B (m_n C.tp p b rfl j (by omega) (A c) (.let1 B (by rcases nK (ab ns i).ks.length with e|e;exact absurd (jb e) v;exact e) (lsV g j)))
 rw[aa B];by_cases H:(ab ns i).k=3
 .rw[ae H];obtain⟨h1,c,o⟩:=zz s H;obtain⟨a,d⟩:=u 0 (by omega);have g:=exV C V (t:=t) b q (by omega) (a:=0) (m:=1) (λl ao ap=>by have e:l=0:=(by omega);subst e;exact c) (by omega);rw[ga,cj (by omega)]at g;have r:=m_n C.tp p b rfl j (by omega) (A (by omega)) (.cst H (lsV g j));rw[Af _ h1 d.at_,bb o]at r;rw[d.id];exact tJ 3 C.tp b H r
 rw[aa H];by_cases I:(ab ns i).k=4
 .rw[ae I];obtain⟨h1,c,o⟩:=Jh s I;obtain⟨a,d⟩:=u 0 (by omega);have a4:=d.lt;rw[d.id]at c⊢;have r:=m_n C.tp p b rfl j (by omega) (A (by omega)) (.fns I d.at_ (arB C V (by omega) d.len c ht));rw[bb o]at r;exact tJ 4 C.tp b I r
 rw[aa I];by_cases J:(ab ns i).k=5
 .rw[ae J];obtain⟨h1,c,o,x⟩:=ab5 s J;obtain⟨m,r⟩:∃m:Nat,(ab ns i).n=(m:Int):=⟨(ab ns i).n.toNat,by omega⟩;have bd:(ab ns i).n.toNat=m:=by omega
  rw[bd]at o x⊢;have a8:=exV C V (t:=t) b q (by omega) (a:=0) (m:=m) (λl a2 a3=>ahJ _ 0 o l (by omega) (by omega)) (by omega);rw[ga]at a8;have a9:=exV C V (t:=t) b q (by omega) (a:=m) (m:=(ab ns i).ks.length-m) (λl a2 a3=>gD _ m x l (by omega) (by omega)) (by omega);rw[cj (by rw[fJ];exact af _)]at a9;have:=tJ 5 C.tp b J (m_v C.tp p b rfl j (Ew (C.sz.nb i b)) (.set J r (by omega) (lsV a8 (by rw[eE];omega)) (lsV a9 (by rw[fJ];omega))));simpa only[aK] using this
 rw[aa J];by_cases a1:(ab ns i).k=6
 .rw[ae a1];obtain⟨h1,c⟩:=BE s (by omega);obtain⟨a,d⟩:=u 0 (by omega);have a4:=d.lt;rw[d.id]at c⊢;exact tJ 6 C.tp b a1 (Kc C.tp p b rfl j (.do_ d.at_ (V.e a t (by omega) d.len (a6 _ c) (by omega))))
 rw[aa a1];by_cases al:(ab ns i).k=7
 .rw[ae al];exact tJ 7 C.tp b al (Kc C.tp p b rfl j (.iff (brV C V q b al ht _ (by decide))))
 rw[aa al];by_cases an:(ab ns i).k=8
 .rw[ae an];obtain⟨h1,c,o⟩:=zA s an;obtain⟨a,d⟩:=u 0 (by omega);obtain⟨ad,h⟩:=u 1 (by omega);have a4:=d.lt;have ar:=h.lt;have g:=exV C V (t:=t) b q (by omega) (a:=0) (m:=1) (λl ao ap=>by have e:l=0:=(by omega);subst e;exact c) (by omega);rw[ga]at g;have ba:=lsV g (by rw[eE];omega);rw[anb _ (by omega) d.at_]at ba;rw[h.id]at o;rw[d.id,h.id];exact tJ 8 C.tp b an (Kc C.tp p b rfl j (.whl h1 ba h.at_ (Gn C V (by omega) h.len o ht)))
 rw[aa an];by_cases a5:(ab ns i).k=9\/(ab ns i).k=10
 .rw[ae a5];by_cases av:(ab ns i).k=10
  .rw[aa (by omega)];obtain⟨h1,c,o,x⟩:=Db s av;rw[h1];have g:=exV C V (t:=t) b q (by omega) (a:=0) (m:=1) (λl ao ap=>by have e:l=0:=(by omega);subst e;exact c) (by omega);rw[ga]at g;obtain⟨ad,h⟩:=u 1 (by omega);have ar:=h.lt;show FD _ _ _ _ _ (_++_++_++_++_++xe _ (ab ns (dt (ab ns i) 1)).ks t);rw[h.id]at o⊢;exact tJ 10 C.tp b av (m_n C.tp p b rfl j (by omega) (A x) (.eac av h1 (lsV g (by rw[eE];omega)) h.at_ (Gn C V (by omega) h.len o ht)))
  .have E:(ab ns i).k=9:=by omega
   rw[ae E];obtain⟨h1,c,o,x⟩:=Ji s E;rcases h1 with h1|h1
   .rw[h1]at c o⊢;have g:=exV C V (t:=t) b q (by omega) (a:=0) (m:=2) (λl a2 a3=>gD _ 0 c l (by omega) (by omega)) (by omega);rw[ga]at g;obtain⟨ad,h⟩:=u 2 (by omega);have ar:=h.lt;have K:(ab ns (dt (ab ns i) 2)).k=1:=o;show FD _ _ _ _ _ (_++_++_++_++_++xe _ (ab ns (dt (ab ns i) 2)).ks t);rw[h.id]at K⊢;exact tJ 9 C.tp b E (m_n C.tp p b rfl j (by omega) (A (by omega)) (.fr E (.inl rfl) h1 (lsV g (by rw[eE];omega)) h.at_ (Gn C V (by omega) h.len K ht)))
   .rw[h1]at c o⊢;have g:=exV C V (t:=t) b q (by omega) (a:=0) (m:=3) (λl a2 a3=>gD _ 0 c l (by omega) (by omega)) (by omega);rw[ga]at g;obtain⟨ad,h⟩:=u 3 (by omega);have ar:=h.lt;have K:(ab ns (dt (ab ns i) 3)).k=1:=o;show FD _ _ _ _ _ (_++_++_++_++_++xe _ (ab ns (dt (ab ns i) 3)).ks t);rw[h.id]at K⊢;exact tJ 9 C.tp b E (m_n C.tp p b rfl j (by omega) (A (by omega)) (.fr E (.inr rfl) h1 (lsV g (by rw[eE];omega)) h.at_ (Gn C V (by omega) h.len K ht)))
 rw[aa a5];by_cases ax:(ab ns i).k=11
 .rw[ae ax];exact tJ 11 C.tp b ax (Kc C.tp p b rfl j .brk)
 rw[aa ax];by_cases a0:(ab ns i).k=12
 .rw[ae a0];exact tJ 12 C.tp b a0 (Kc C.tp p b rfl j .nxt)
 rw[aa a0];by_cases F:(ab ns i).k=13
 .rw[ae F];have h1:=ab6 s F;by_cases v:(ab ns i).ks=[]
  .rw[ae v,show ∀z:ByteArray,z++Ax=z from λz=>ByteArray.append_empty];exact tJ 13 C.tp b F (Kc C.tp p b rfl j (.ret0 (by rw[v];rfl)))
  .rw[aa v];have g:=exV C V (t:=t) b q (by omega) (a:=0) (m:=(ab ns i).ks.length) (λl o x=>gD _ 0 h1 l (by omega) (by omega)) (by omega);rw[ga,cj (af _)]at g;exact tJ 13 C.tp b F (Kc C.tp p b rfl j (.ret (by rcases nK (ab ns i).ks.length with e|e;exact absurd (jb e) v;exact e) (lsV g j)))
 rw[aa F];by_cases G:(ab ns i).k=14
 .rw[ae G];obtain⟨h1,c,o,x⟩:=Jj s G;obtain⟨a,d⟩:=u 0 (by omega);obtain⟨ad,h⟩:=u 1 (by omega);have a4:=d.lt;have ar:=h.lt;rw[d.id]at c⊢;rw[h.id]at o⊢;exact tJ 14 C.tp b G (m_n C.tp p b rfl j (by omega) (A x) (.try_ G d.at_ h.at_ (Gn C V (by omega) d.len c ht) (Gn C V (by omega) h.len o ht)))
 rw[aa G];by_cases ak:(ab ns i).k=15
 .rw[ae ak];obtain⟨h1,c⟩:=zB s ak;obtain⟨a,d⟩:=u 0 (by omega);have g:=exV C V (t:=t) b q (by omega) (a:=0) (m:=1) (λl ao ap=>by have e:l=0:=(by omega);subst e;exact c) (by omega);rw[ga,cj (by omega)]at g;have r:=Kc C.tp p b rfl j (.thr (lsV g j));rw[Af _ h1 d.at_]at r;rw[d.id];exact tJ 15 C.tp b ak r
 rw[aa ak,ae (by omega)];obtain⟨h1,c⟩:=BE s (by omega);obtain⟨a,d⟩:=u 0 (by omega);have g:=exV C V (t:=t) b q (by omega) (a:=0) (m:=1) (λl ao ap=>by have e:l=0:=(by omega);subst e;exact a6 _ c) (by omega);rw[ga,cj (by omega)]at g;have r:=Kc C.tp p b rfl j (.dfr (lsV g j));rw[Af _ h1 d.at_]at r;rw[d.id];exact tJ 16 C.tp b (by omega) r
def amk(C:Cx w0 ns L base vs)(V:VA w0 vb ns L f):VA w0 vb ns L (f+1):=
 ⟨λg e d a b c=>by rw[qv];exact arC C V (by omega) a b (by omega),
  λg e d a b c=>by rw[pI];exact arD C V (by omega) a b (by omega),
  λg e j d a h c i=>by rw[sr];exact brV C V (by omega) a h (by omega) j i⟩
def vA(C:Cx w0 ns L base vs):∀f,VA w0 vb ns L f
 |0=>VA.zero w0 vb ns L
 |f+1=>amk C (vA C f)
end
open Go.Lib (strCells strCells_length)
def Ah(i:PL w)(h:Nl w v ns)(bl:∀N∈ns,jE N)(k:∀N∈ns, -9223372036854775808<=N.n/\N.n<=9223372036854775807)(ht:eG ns=(0,0))(r:(fa ns).size<=65536):
  B3 O 5 #[C2 #[v]] w (gy w (Y (fa ns))):=by
 have ak:∀a,B3 O 16 #[C2 #[v]] (w.alloc a) (J0 uK (w.alloc a) ns):=λa=>by
  obtain⟨b6,cf,rfl,b3⟩:=h;have ap:=i.below (gc w a) (af _);have⟨b4,bw,bx⟩:=ap.lay.tabs.word;have bk:=b3.mono (w':=w.alloc a) λad _ h=>(gc w a).block ad h;exact Fk uK _ v _ bk.strj bk.nds bl ap.lay.errs b4 bw bx (λb7 f=>tw ap.asc f (af _)) ht
 obtain⟨b8,b9,rfl⟩:=h.nds.form;have⟨n,g⟩:=aJ ns.length;have⟨D,d⟩:=aJ (fa ns);rw[d]at r;rw[g]at ak;rw[g,d];have au:=aev g k i ht d;clear h bl k i g ht d;go_in;go_wp2_with fail;refine(ak _).mono ?_;rintro c w1 ⟨p,a0,bn,A,z,rfl,bc,a4,a8,J⟩;have G:=(gc w _).trans (p.mono (by simp));have C:∀a,be w1 (w1.alloc a):=λa=>gc w1 a;obtain⟨g,k,i,ht,d⟩:=au.out;have ao:(eG ns).1=0:=by rw[ht]
 have H:be w (w1.alloc (A9 #[A2 A5 0,A2 A5 0] 29)):=G.trans ((C _).mono G.size);have⟨b2,bj,an⟩:=JA ao;have p2:=i.below H (af _);have j:Cx (w1.alloc (A9 #[A2 A5 0,A2 A5 0] 29)) ns A a0 bn:=by
  refine⟨⟨a8.below (C _),a4,λm e=>(J m e).1.below (p.trans ((C _).mono p.size)),λm e=>(J m e).2⟩,p2.pow,p2.lay,ab3 ao,bj,λbf=>?_,λbf=>?_⟩;all_goals
   unfold ab;rw[aD];cases c:ns[bf.toNat]? with
   |none=>decide
   |some N=>have:=k N (cG c);simp only[ie];omega
 have bd:ny A ((n-1:Nat):Int)=z:=by
  unfold ny;rw[ix,aD,<-g,bc];rfl
 have E:ab ns ((ns.length:Int)-1)=ab ns ((n-1:Nat):Int):=by congr 1;omega
 rw[E]at an;have⟨bb,b0⟩:=jg (j.sz.nb (n-1) (by omega));have a6:=tD bb an;have ba:fa ns=gC ((ab ns ((n-1:Nat):Int)).ks.map λad=>pI ns ns.length ad 0++(⟨#[10]⟩:ByteArray)):=by unfold fa;rw[E]
 have o:Br (∀x,Pw (w1.alloc (A9 #[A2 A5 0,A2 A5 0] 29)) x 18 #[vP x,ju (w1.alloc (A9 #[A2 A5 0,A2 A5 0] 29)) 0,nV z] (fa ns)):=λx=>by
  have:=al9 (w1.alloc (A9 #[A2 A5 0,A2 A5 0] 29)) x ns A a0 bn j.tp (n-1) (by omega) _ rfl (by omega) (λbo=>pI ns ns.length bo 0) (λbo r=>by
   obtain⟨bh,bE,rfl⟩:=om r;have⟨m,e⟩:=iJ (j.sz.nb (n-1) (by omega)) (by omega) bh bE;have a3:=Ey _ 0 a6 bh (by omega) (by omega);rw[e.id]at a3⊢;exact(vA j ns.length).s m 0 e.len e.len a3 (by omega))
  rw[bd,<-ba]at this;exact this
 rw[d]at o;obtain⟨ar,q⟩:∃ar,nV z=ar:=⟨_,rfl⟩;rw[q]at o;unfold nV gB at q;have a7:=Pg.new (w1.alloc (A9 #[A2 A5 0,A2 A5 0] 29));have K:(w1.alloc (A9 #[A2 A5 0,A2 A5 0] 29)).heap.size=w1.heap.size+1:=dm _ _;have b:=mo H a7 K;have al:=DH ((w1.alloc (A9 #[A2 A5 0,A2 A5 0] 29)).alloc (A9 #[R A0 0 0,B6 Ck] 49));rw[dm,K]at al;have a9:nV z=ar:=q;rw[a9];have cb:((0:Int)!=0)=Ck:=rfl;clear ak j a8 J p bc a4 b2 bj an bd E bb b0 a6 ba d q a9 a7 H K G p2 k i ht ao au;go_wp2_with fail;refine al.mono ?_;rintro c b5 ⟨rfl,L,F⟩;generalize w1.alloc (A9 #[A2 A5 0,A2 A5 0] 29)=bs at o b F L⊢;have br:Br (Ps bs (w1.heap.size+1+1) Ax b5):=⟨b.2.1.below (by unfold be;rw[dm,b.out.2.2];exact F),by rw[b.out.2.2];omega,L⟩;have t:=o.out (w1.heap.size+1+1) _ _ br.out;unfold ju ph vP at t;rw[b.out.2.2]at t;clear L F al;go_wp2_with fail;refine t.mono ?_;rintro c y ⟨rfl,u,b1⟩;rw[akd]at u;have bp:=am (b.1.trans (u.pg.bel.mono b.1.size));obtain⟨a,B,ck,f,l,bD,a5,bA⟩:=u.pg.row;rw[b.out.2.2]at f;obtain⟨bt,bv⟩:=a5 r;subst bt bv;have⟨a2,I⟩:=aJ B.size;rw[I]at l bD;obtain⟨ax,a1,rfl⟩:=cg l;have cl:y.cell? ⟨w1.heap.size+1,0,A0⟩=S (R ax a2 a1):=by rw[aj _ _ _ _ _ _ f];rfl
 have cm:y.cell? ⟨w1.heap.size+1,1,A0⟩=S (B6 Ck):=by rw[aj _ _ _ _ _ _ f];rfl
 clear u b1 t f a5 bA;have ce:(convert 22 9 (R ax a2 a1)).run O y= .ok (Y B) y:=by
  rcases bJ l with⟨cd,c⟩|⟨cc,ca,c⟩
  .cases c;obtain rfl:B=⟨#[]⟩:=kI (Array.eq_empty_of_size_eq_zero I)
   kernel_rfl
  .cases c;exact He l
 clear l I;go_wp2;go_ret;exact⟨rfl,bp.out⟩
end Go.Proofs.YthboboahkkhopaaGreatDoor
namespace Go.Proofs.YthboboahkkhopaaGreatDoor
open Go.RowKit Go.Maps Go.WideMaps
variable{N:Nd}{W w:World}{i t:Nat}{ns:List Nd}{v:Value}
def Gq{s:ByteArray}(e:PL w)(o:afF s ns)(l:∀N∈ns, -9223372036854775808<=N.n/\N.n<=9223372036854775807)(m:(fa ns).size<=65536):B3 O 14 #[Y s] w (gy w (Y (fa ns))):=by
 have d:=Ae e o;have a:=am λg p (q:be w g) (t:Nl g p ns)=>Ah (e.below q (af _)) t (by obtain⟨_,_,_,_,_,_,_,f,_,rfl⟩:=o;exact f.sm) l (by obtain⟨_,_,_,_,_,_,_,f,j,rfl⟩:=o;exact j) m;clear o l e m;unfold PsP psV at d;have⟨D,k⟩:=aJ (fa ns);rw[k]at a⊢;clear k;go_in;go_wp2_with fail;refine d.mono ?_;clear d;rintro j x ⟨p,rfl,c,b⟩;have u:=a.out _ _ b c;obtain⟨h,i,rfl⟩:=c.nds.form;have v:∀w:B2,(Instr.field 32 (C2 #[A2 A5 0,A2 A5 0,R h ns.length i]) 2).run O w= .ok (C2 #[R h ns.length i]) w:=λw=>by kernel_rfl
 clear c a;go_wp2_with fail;refine gL u λy r=>?_;go_wp2;go_ret;exact⟨rfl,b.trans (r.mono b.size)⟩
def Fy(w:B2)(a:Option Addr)(n b:Nat)(h:1048576<n)(c:n<=9223372036854775807):B3 O 3 #[R a n b] w (gy w (B6 B0)):=by
 have d:(1048576:Int)<(n:Int):=by omega
 go_in;go_wp2;go_ret;exact⟨rfl,ah _ _⟩
def aml{a:B2}{L:List Nd}(h:Nl W v L)(b:be W a):Nl a v L:=by
 obtain⟨c,g,d,i⟩:=h;exact⟨c,g,d,i.mono λf _ e=>b.block f e⟩
def Nl.spp{L:List Nd}(t:Nl W v L)(b:1<=L.length/\L.length<=1048576)(f:∀N∈L,jE N)(e:∀N∈L,ac3 N)(i:(fa L).size<=65536):B3 O 6 #[C2 #[v]] W (gy W (Y (sy L))):=by
 obtain⟨g,j,rfl,a⟩:=t;rw[bC]at b;rcases bJ a.row with⟨h,_⟩|⟨d,c,rfl⟩
 .omega
 .exact JB W ⟨d,0,A0⟩ _ c _ a.nds a.cap (by simp) b.2 f e λ_=>by omega
def af7{C:Cd}{E:Option Addr}{ak:Nat}(ap:Code C w.heap.size w E)(u:PL w):B3 O 3 #[R E C.len ak] w (gy w (B6 B0)):=by
 have⟨L,ax,T,i,⟨a4,a5,A⟩,J⟩:=al4 C;have a2:=T.n.2;have a1:1<=L.length:=List.length_pos_iff.2 T.n.1;have G:Wp L L.length<=65536:=by
  have⟨_,an,F⟩:=T.r;have F:=F (by decide);simp only at an;rw[aov];omega
 have k:=af3 (by rw[i]) T.nd G A;obtain⟨ms,m,y,H,ar⟩:=alK T.nd G i k;have h:∀a∈L,jE a:=λa c=>(T.nd a c).small;have z:∀a∈L,ac3 a:=λa c=>(T.nd a c).int;have n:Tm L:=⟨by omega,λa c=>⟨(h a c).l1,(h a c).l2⟩⟩;have q:∀a∈ms,jE a:=by obtain⟨_,_,_,_,_,_,_,I,_,rfl⟩:=m;exact I.sm
 have au:∀a∈ms, -9223372036854775808<=a.n/\a.n<=9223372036854775807:=λa c=>by
  have:a.bk∈L.map Nd.bk:=by rw[<-y];exact acz c
  obtain⟨o,x,g⟩:=List.mem_map.1 this;have g:o.bk.n=a.bk.n:=congrArg Nd.n g;rw[show a.n=o.n from g.symm];exact(z o x).n
 refine abL (T:=λb d=>Nl b d L) (L:=L) (ms:=ms) (ks:=L.map bareN) (s:=fa L) (J ap) ⟨λb K d=>aml,λb d c=>c.nds,by omega,ar,λb d e f=>Ah (u.below e (af _)) f h (λa c=>(z a c).n) i k,λb d f=>?_,λb d e f=>?_,λb d f=>?_,λb e=>?_,λb j d v e=>acu v e m.tm n y,λb j c=>?_,λb j c=>uz b j L c n.n n.l,λb j d v e=>G7 b j d _ v e n.bare.n n.bare.l,λb e=>?_⟩ (by have:=C.ok;omega)
 .have:=f.spp (by omega) h z k
  rwa [ajq i k]at this
 .have B:=u.below e (af _);have⟨av,al,ao⟩:=B.lay.tabs.word;exact Fp b d L f.nds h B.lay.errs av al ao (λK ad=>tw B.asc ad (af _)) i
 .have:=Et b d L f.nds (by omega) h
  rwa [i]at this
 .exact(Ae (u.below e (af _)) m).mono λ_ _ ⟨d,g,t,e⟩=>⟨d,g,t.nds,e⟩
 .refine(ahC b j ms c m.tm.n λa p=>⟨(q a p).l1,(q a p).l2,by have:=(q a p).lx;omega,λs A=>by have:=(q a p).ls s A;omega⟩).mono ?_;rintro g a3 ⟨d,o,rfl,x,own,e⟩;have t:=own.lw.nds;rw[x,show ms.map bareN=L.map bareN from y]at t;exact⟨d,rfl,t,e⟩
 .have:=Gq (u.below e (af _)) m au (by rw[H];exact k)
  rwa [H]at this
