import Derived.Test.YthkcmkmkapijkaaGreatDoorh25
set_option linter.all false
set_option maxRecDepth 100000
set_option maxHeartbeats 12800000
open List renaming length->M
open Option renaming some->N
open Go.Value renaming string->Q,slice->T,string->V,bool->X,tuple->Y
open Go.Proofs.Tryz renaming prog->S
namespace Go.Proofs.YthkcmkmkapijkaaGreatDoor
open Go.RowKit
variable{W:World}{ks:zLI}
theorem Hz(k):eG k=0\/eG k=1\/eG k=2\/eG k=3\/eG k=4\/eG k=5\/eG k=6:=by
 unfold eG;grind
def H8(k b w):(method 520 (nC<|eG k) (be b 0) "loop.example/warp/impl.head").run S w= .ok (404,be b 0) w:=vf _ b w
def EH(i f:Nat):List UInt8:=(wB i).data.toList++(ite (f=1) ([42])<|ite (f=2) ([63])<|[])
def wS(i f:Nat):Bz:=⟨(EH i f).toArray⟩
def wS1(i f:Nat):Bz:=⟨((wB i).data.toList++(ite (f=2) ([63])<|[])).toArray⟩
def azw:∀i f,i<10->f<3->(⟨(Lib.trimSuffix (wS i f).data.toList [42]).toArray⟩:Bz)=wS1 i f/\Lib.hasSuffix (wS i f).data.toList [42]=(f==1)|0,0,_,_=>⟨R,R⟩|0,1,_,_=>⟨R,R⟩|0,2,_,_=>⟨R,R⟩|1,0,_,_=>⟨R,R⟩|1,1,_,_=>⟨R,R⟩|1,2,_,_=>⟨R,R⟩|2,0,_,_=>⟨R,R⟩|2,1,_,_=>⟨R,R⟩|2,2,_,_=>⟨R,R⟩|3,0,_,_=>⟨R,R⟩|3,1,_,_=>⟨R,R⟩|3,2,_,_=>⟨R,R⟩|4,0,_,_=>⟨R,R⟩|4,1,_,_=>⟨R,R⟩|4,2,_,_=>⟨R,R⟩|5,0,_,_=>⟨R,R⟩|5,1,_,_=>⟨R,R⟩|5,2,_,_=>⟨R,R⟩|6,0,_,_=>⟨R,R⟩|6,1,_,_=>⟨R,R⟩|6,2,_,_=>⟨R,R⟩|7,0,_,_=>⟨R,R⟩|7,1,_,_=>⟨R,R⟩|7,2,_,_=>⟨R,R⟩|8,0,_,_=>⟨R,R⟩|8,1,_,_=>⟨R,R⟩|8,2,_,_=>⟨R,R⟩|9,0,_,_=>⟨R,R⟩|9,1,_,_=>⟨R,R⟩|9,2,_,_=>⟨R,R⟩
def azx:∀i f,i<10->f<3->(⟨(Lib.trimSuffix (wS1 i f).data.toList [63]).toArray⟩:Bz)=wB i/\Lib.hasSuffix (wS1 i f).data.toList [63]=(f==2)|0,0,_,_=>⟨R,R⟩|0,1,_,_=>⟨R,R⟩|0,2,_,_=>⟨R,R⟩|1,0,_,_=>⟨R,R⟩|1,1,_,_=>⟨R,R⟩|1,2,_,_=>⟨R,R⟩|2,0,_,_=>⟨R,R⟩|2,1,_,_=>⟨R,R⟩|2,2,_,_=>⟨R,R⟩|3,0,_,_=>⟨R,R⟩|3,1,_,_=>⟨R,R⟩|3,2,_,_=>⟨R,R⟩|4,0,_,_=>⟨R,R⟩|4,1,_,_=>⟨R,R⟩|4,2,_,_=>⟨R,R⟩|5,0,_,_=>⟨R,R⟩|5,1,_,_=>⟨R,R⟩|5,2,_,_=>⟨R,R⟩|6,0,_,_=>⟨R,R⟩|6,1,_,_=>⟨R,R⟩|6,2,_,_=>⟨R,R⟩|7,0,_,_=>⟨R,R⟩|7,1,_,_=>⟨R,R⟩|7,2,_,_=>⟨R,R⟩|8,0,_,_=>⟨R,R⟩|8,1,_,_=>⟨R,R⟩|8,2,_,_=>⟨R,R⟩|9,0,_,_=>⟨R,R⟩|9,1,_,_=>⟨R,R⟩|9,2,_,_=>⟨R,R⟩
def ahk:∀i f,i<10->f<3->(wS i f).size<=10/\(wS1 i f).size<=10|0,0,_,_=>Z|0,1,_,_=>Z|0,2,_,_=>Z|1,0,_,_=>Z|1,1,_,_=>Z|1,2,_,_=>Z|2,0,_,_=>Z|2,1,_,_=>Z|2,2,_,_=>Z|3,0,_,_=>Z|3,1,_,_=>Z|3,2,_,_=>Z|4,0,_,_=>Z|4,1,_,_=>Z|4,2,_,_=>Z|5,0,_,_=>Z|5,1,_,_=>Z|5,2,_,_=>Z|6,0,_,_=>Z|6,1,_,_=>Z|6,2,_,_=>Z|7,0,_,_=>Z|7,1,_,_=>Z|7,2,_,_=>Z|8,0,_,_=>Z|8,1,_,_=>Z|8,2,_,_=>Z|9,0,_,_=>Z|9,1,_,_=>Z|9,2,_,_=>Z
theorem azy(i f)(b:i<10)(a:f<3)(w):Calls S 325 #[Q<|wS i f,Q ⟨#[42]⟩] w λe c=>e= .returned (Y #[Q<|wS1 i f,X<|f==1])/\c=w:=by
 apply ez<|Tryz.strings_CutSuffix _ _ w (by have:=(ahk i f b a).1;omega);have⟨_,_⟩:=azw i f b a;grind
theorem azz(i f)(b:i<10)(a:f<3)(w):Calls S 325 #[Q<|wS1 i f,Q ⟨#[63]⟩] w λe c=>e= .returned (Y #[Q<|wB i,X<|f==2])/\c=w:=by
 apply ez<|Tryz.strings_CutSuffix _ _ w (by have:=(ahk i f b a).2;omega);have⟨_,_⟩:=azx i f b a;grind
def mh(W:World)(v:Value)(ks:zLI):Prop:=
 (ks=[]/\∃a b,v=T a 0 b)\/∃a b,v=T (N a) (M ks) b/\M ks<=b/\∀e c,ks[e]?=N c->∃d,W.cell? (a.add e)=N (iF c d)/\W.cell? (aj d 0)=N (zI c)
def mh.below{a v}(h:mh W v ks)(b:Below W.heap.size W a):mh a v ks:=by
 obtain h|⟨c,e,i,j,k⟩:=h
 .exact .inl h
 .exact .inr ⟨c,e,i,j,λm n l=>by have⟨d,f,g⟩:=k m n l;exact⟨d,ag b f,ag b g⟩⟩
theorem mh.form{v}(h:mh W v ks):∃a c,v=T a (M ks) c:=by
 obtain⟨rfl,a,c,h⟩|⟨a,c,_,_⟩:=h;all_goals grind
theorem mh.get{a:zOA}{n c}(h:mh W (T a n c) ks){j k}(e:ks[j]?=N k):∃d b,a=N d/\W.cell? (d.add j)=N (iF k b)/\W.cell? (aj b 0)=N (zI k):=by
 obtain⟨rfl,_⟩|⟨d,_,_,_,_⟩:=h;all_goals grind
def tkN(i f:Nat)(ks:zLI):Nat:=ite (f=1) ((ks.takeWhile<|ms i).length)<|min 1<|M<|ks.takeWhile<|ms i
def io:List (Nat×Nat)->zLI->Bool|[],ks=>ks.isEmpty|(i,f)::a,ks=>ite (tkN i f ks=0/\f=0) false<|io a<|ks.drop<|tkN i f ks
structure ajq (ws:List (Nat×Nat)) (ks:zLI) (R1:Bool):Prop where
 out:io ws ks=R1
theorem amn(p):∀(ks:zLI)(t),t<=M (ks.takeWhile p)->(t<M (ks.takeWhile p)↔∃k,ks[t]?=N k/\p k=true)
 |[],t,h=>byS|a::r,t,h=>by
  cases hp:p a with
  |false=>
   simp_all|true=>
   rw[agj O]at h⊢;cases t with
   |zero=>grind|succ t=>
    simp only[dD]at h⊢;have b:=amn p r t O;grind
def axB(p)(ks:zLI):M (ks.takeWhile p)<=M ks:=(List.takeWhile_sublist p).length_le
theorem aut(i f ks):tkN i f ks<=M ks:=by
 have:=axB (ms i) ks;unfold tkN;grind
theorem auu(i f ks t)(h:t<=tkN i f ks):t<tkN i f ks↔(f=1\/t=0)/\∃k,ks[t]?=N k/\ms i k=true:=by
 unfold tkN at h⊢;by_cases a:f=1
 .rw[ae a]at h⊢;rw[amn _ ks t h];grind
 .rw[aa a]at h⊢;by_cases b:t=0
  .subst b;have:=amn (ms i) ks 0 O;grind
  omega
def ac9{i f a R1}(h:ajq ((i,f)::a) ks R1)(b:¬(tkN i f ks=0/\f=0)):ajq a (ks.drop<|tkN i f ks) R1:=by
 have:=h.out;rw[io,aa b]at this;exact⟨this⟩
def ada{i f b R1}(h:ajq ((i,f)::b) ks R1)(a:tkN i f ks=0/\f=0):R1=false:=by
 have:=h.out;rw[io,ae a]at this;exact this.symm
def ajr{α:Type}{L:List α}{k x}(h:L[k]?=N x):L.drop k=x::L.drop (k+1):=by
 have a:=(dr.1 h);rw[my a.1,a.2]
def mh.sl{a:zOA}{L c t}(h:mh W (T a L c) ks)(g:M ks=L)(l:t<=L):mh W (T (ite (c=t) a<|Option.map (λx=>x.add t) a) (L-t)<|c-t) (ks.drop t):=by
 subst g;obtain⟨rfl,b,f,d⟩|⟨b,f,d,_,i⟩:=h
 .exact .inl ⟨I,_,_,by rw[(I:M ([]:zLI)-t=0)]⟩
 .cases d;by_cases k:t=M ks
  .exact .inl ⟨by rw[lG O],_,_,by rw[(O:M ks-t=0)]⟩
  .refine .inr ⟨b.add t,c-t,?_,by rw[tu];omega,λ_ j e=>?_⟩
   .rw[aa O,tu];rfl
   .rw[BD]at e;rw[Addr.add_add];exact i _ j e
theorem As(w)(row:Bz)(h v ks)(bz:Lib.fields row.data.toList=h.map λx=>EH x.1 x.2)(b2:∀x∈h,x.1<10/\x.2<3)(bA:row.size<4294967281)(bn:∀(j:Nat) b,row.data.toList[j]?=N b->b.toNat<128)(bE:Lib.TabIs S w "strings.asciiSpace" .u8 Lib.asciiSpaceTab)(o:mh w v ks)(bs:M ks<=1048576)(b1:M h<=1048576):
  Calls S 267 #[Q row,v] w λe a=>e= .returned (X<|io h ks)/\Below w.heap.size w a:=by
 have z:=Tryz.strings_Fields row w bA bn bE;rw[bz]at z;have⟨r,ax⟩:=aw<|io h ks;rw[ax];have bf:ajq h ks r:=⟨ax⟩;have t:Below w.heap.size w (w.alloc<|.cells ((h.map λx=>EH x.1 x.2).map λp=>V ⟨p.toArray⟩).toArray 9):=(ay _ w).alloc O _;have av:=o.below t;have ar:∀g d c,h[g]?=N (d,c)->(w.alloc<|.cells ((h.map λx=>EH x.1 x.2).map λp=>V ⟨p.toArray⟩).toArray 9).cell? ⟨w.heap.size,g,none⟩=N (Q<|wS d c):=λg d c a3=>by
  rw[oe<|au w _];simp[a3,wS]
 have⟨q,L⟩:=aw<|M h;have bc:=ah L;have bj:=ah b2;have bt:M (h.map λx=>EH x.1 x.2)=q:=by rw[dm,L]
 rw[bt]at z;rw[L]at b1;obtain⟨_,_,rfl⟩:=o.form;have bb:=ah bs;generalize w.alloc (.cells ((h.map λx=>EH x.1 x.2).map λp=>V ⟨p.toArray⟩).toArray 9)=b9 at z t av ar;have ba:=ah ar;have am:=ah av;generalize cb:M ks=lk at am⊢;go_in;go_wp21
 apply z.mono;rintro e A ⟨rfl,rfl⟩;go_wp21
 go_loop [1,14] (λb5 ak=>∃g f,g<=q/\ak=zI g/\Hid (mh A b5 f/\M f<=1048576)/\ajq (h.drop g) f r) (λ_ ak=>q-(intOf ak).toNat)
 .exact⟨0,ks,O,R,⟨am,bb⟩,bf⟩
 .
  obtain⟨g,f,a3,rfl,B,E⟩:=hrel;obtain⟨ap,bk,rfl⟩:=B.1.form;by_cases bw:g<q
  .have ca:(0:Int)<=(g:Int):=O;have⟨⟨d,c⟩,ad⟩:=bg bc.out bw;obtain⟨u,K⟩:=bj.out _<|db ad;simp at u K;have bo:=ba.out g d c ad;have ao:Hid (ajq ((d,c)::h.drop (g+1)) f r):=by rw[ajr ad]at E;exact E
   have af:=λw=>azy d c u K w;have kB:=λw=>azz d c u K w;have a6:=λi w=>LG d u i w;have⟨k,n⟩:=aw<|M f;have C:=ah n;have bl:=B.2;rw[n]at bl;have an:Hid (mh A (T ap k bk) f):=by rw[<-n];exact B.1
   rw[n];have a5:=aut d c f;have a4:=auu d c f;have⟨G,a2⟩:=aw<|tkN d c f;rw[a2]at a5 a4;rw[n]at a5;have F:=ah a2;have bh:=ah a4;generalize wS d c=b6 at bo af;generalize wS1 d c=b7 at af kB;generalize wB d=b8 at kB a6;have bd:Hid (∀a,a<k->∃i m b a8,f[a]?=N i/\ap=N m/\A.cell? (m.add a)=N (iF i b)/\A.cell? (aj b 0)=N (zI i)/\nC (eG i)=a8):=λa H=>by
    have⟨i,o⟩:=bg C.out H;have⟨m,b,l⟩:=an.get o;exact⟨i,m,b,_,o,l.1,l.2.1,l.2.2,R⟩
   obtain rfl|rfl|rfl:=(O:c=0\/c=1\/c=2);all_goals
    go_wp2_with fail;apply ez<|af _;go_wp2_with fail;apply ez<|kB _;go_wp2;go_loop [10] (λal=>∃a:Nat,al=zI a/\a<=G) (λal=>G-(intOf al).toNat)
    .exact⟨0,R,O⟩
    .
     obtain⟨a,rfl,bD⟩:=hrel;have y:=bh.out a bD;have cc:(0:Int)<=(a:Int):=O;by_cases s:a=0
     case' pos=>have b3:((a:Int)==0)=true:=by rw[s];rfl
     case' neg=>have b3:((a:Int)==0)=false:=by simpa using s
     all_goals
      obtain htl|htl:=cG a k
      case' inl=>
       obtain⟨i,m,b,a8,br,rfl,l,_,b0⟩:=bd.out a htl;have bF:(a:Int)<(k:Int):=O;have a7:=λw=>a6 i w;have bx:=λw=>H8 i b w;have b4:=λw=>eD b w;unfold iF at l;rw[b0]at l bx;simp only[br,mw,exists_eq_left']at y;generalize ms d i=a9 at a7 y;cases a9
      case' inr=>have bF:¬(a:Int)<(k:Int):=O
      all_goals
       have l:=jG y htl s;clear y htl s;go_wp2_with (first|(go_at_call 326;apply ez<|a7 _)|(go_at_call 404;apply ez<|b4 _));first
       |(go_ret;exact⟨by rw[ada ao.out ⟨by have:=l.out;have:=F.out;grind,R⟩];rfl,t⟩)|(go_round;(· exact⟨a+1,by go_num,by have:=l.out;grind⟩);(have:=l.out;simp[intOf];grind))|(have e:a=G:=(by have:=l.out;grind);subst e;exact⟨⟨g+1,f.drop a,O,by go_num,⟨an.sl C O,by rw[tu,C.out];omega⟩,by have H:=ac9 ao.out (by have:=l.out;have:=F.out;grind);rwa [F.out]at H⟩,by simp[intOf];omega⟩)
  .obtain rfl:g=q:=O;have i:=E.out;rw[lG O,io]at i;have l:((M f:Int)==0)=r:=by
    rw[<-i];cases f with
    |nil=>rfl|cons x a=>simp;omega
   have a:=ah l;generalize M f=k at a⊢;go_wp2;go_ret;exact⟨by rw[<-a.out];rfl,t⟩
