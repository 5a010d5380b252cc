import Derived.Test.YtbkolnpplhbdmaaGreatDoorHPl24
set_option linter.all false
set_option maxRecDepth 100000
set_option maxHeartbeats 12800000
open Option renaming some->M,none->Ax
open Go.Lib renaming repeatL->N,asciiSpaceTab->Z,TabIs->A5
open Go.Proofs.Tryz renaming prog->O
open Go.Value renaming string->Q,slice->T,int->V,bool->Y,tuple->Ad,pointer->A0,string->A1
open Go.RowKit renaming intOf->S,Hid->A2
open Go renaming World->U,Calls->Ak,Value->A3
open Go.IntKind renaming i64->X
namespace Go.Proofs.YtbkolnpplhbdmaaGreatDoor
open Go.RowKit
variable{W:World}{ks:List Int}
def Fa(k:Int):fJ k=0\/fJ k=1\/fJ k=2\/fJ k=3\/fJ k=4\/fJ k=5\/fJ k=6:=by
 unfold fJ
 repeat' split
 all_goals simp
def sy(k:Int)(b:Nat)(w:U):(method 430 (pI (fJ k)) (A0 (M ⟨b,0,Ax⟩)) "loop.example/warp/impl.head").run O w= .ok (299,A0 (M ⟨b,0,Ax⟩)) w:=G7 _ b w
def BA(i f:Nat):List UInt8:=(wB i).data.toList++(if f=1 then [42] else if f=2 then [63] else [])
def wS(i f:Nat):ByteArray:=⟨(BA i f).toArray⟩
def wS1(i f:Nat):ByteArray:=⟨((wB i).data.toList++(if f=2 then [63] else [])).toArray⟩
def asJ:∀i f,i<10->f<3->(⟨(Lib.trimSuffix (wS i f).data.toList [42]).toArray⟩:ByteArray)=wS1 i f/\Lib.hasSuffix (wS i f).data.toList [42]=(f==1)
 |0,0,_,_=>⟨rfl,rfl⟩
 |0,1,_,_=>⟨rfl,rfl⟩
 |0,2,_,_=>⟨rfl,rfl⟩
 |1,0,_,_=>⟨rfl,rfl⟩
 |1,1,_,_=>⟨rfl,rfl⟩
 |1,2,_,_=>⟨rfl,rfl⟩
 |2,0,_,_=>⟨rfl,rfl⟩
 |2,1,_,_=>⟨rfl,rfl⟩
 |2,2,_,_=>⟨rfl,rfl⟩
 |3,0,_,_=>⟨rfl,rfl⟩
 |3,1,_,_=>⟨rfl,rfl⟩
 |3,2,_,_=>⟨rfl,rfl⟩
 |4,0,_,_=>⟨rfl,rfl⟩
 |4,1,_,_=>⟨rfl,rfl⟩
 |4,2,_,_=>⟨rfl,rfl⟩
 |5,0,_,_=>⟨rfl,rfl⟩
 |5,1,_,_=>⟨rfl,rfl⟩
 |5,2,_,_=>⟨rfl,rfl⟩
 |6,0,_,_=>⟨rfl,rfl⟩
 |6,1,_,_=>⟨rfl,rfl⟩
 |6,2,_,_=>⟨rfl,rfl⟩
 |7,0,_,_=>⟨rfl,rfl⟩
 |7,1,_,_=>⟨rfl,rfl⟩
 |7,2,_,_=>⟨rfl,rfl⟩
 |8,0,_,_=>⟨rfl,rfl⟩
 |8,1,_,_=>⟨rfl,rfl⟩
 |8,2,_,_=>⟨rfl,rfl⟩
 |9,0,_,_=>⟨rfl,rfl⟩
 |9,1,_,_=>⟨rfl,rfl⟩
 |9,2,_,_=>⟨rfl,rfl⟩
def asK:∀i f,i<10->f<3->(⟨(Lib.trimSuffix (wS1 i f).data.toList [63]).toArray⟩:ByteArray)=wB i/\Lib.hasSuffix (wS1 i f).data.toList [63]=(f==2)
 |0,0,_,_=>⟨rfl,rfl⟩
 |0,1,_,_=>⟨rfl,rfl⟩
 |0,2,_,_=>⟨rfl,rfl⟩
 |1,0,_,_=>⟨rfl,rfl⟩
 |1,1,_,_=>⟨rfl,rfl⟩
 |1,2,_,_=>⟨rfl,rfl⟩
 |2,0,_,_=>⟨rfl,rfl⟩
 |2,1,_,_=>⟨rfl,rfl⟩
 |2,2,_,_=>⟨rfl,rfl⟩
 |3,0,_,_=>⟨rfl,rfl⟩
 |3,1,_,_=>⟨rfl,rfl⟩
 |3,2,_,_=>⟨rfl,rfl⟩
 |4,0,_,_=>⟨rfl,rfl⟩
 |4,1,_,_=>⟨rfl,rfl⟩
 |4,2,_,_=>⟨rfl,rfl⟩
 |5,0,_,_=>⟨rfl,rfl⟩
 |5,1,_,_=>⟨rfl,rfl⟩
 |5,2,_,_=>⟨rfl,rfl⟩
 |6,0,_,_=>⟨rfl,rfl⟩
 |6,1,_,_=>⟨rfl,rfl⟩
 |6,2,_,_=>⟨rfl,rfl⟩
 |7,0,_,_=>⟨rfl,rfl⟩
 |7,1,_,_=>⟨rfl,rfl⟩
 |7,2,_,_=>⟨rfl,rfl⟩
 |8,0,_,_=>⟨rfl,rfl⟩
 |8,1,_,_=>⟨rfl,rfl⟩
 |8,2,_,_=>⟨rfl,rfl⟩
 |9,0,_,_=>⟨rfl,rfl⟩
 |9,1,_,_=>⟨rfl,rfl⟩
 |9,2,_,_=>⟨rfl,rfl⟩
def adH:∀i f,i<10->f<3->(wS i f).size<=10/\(wS1 i f).size<=10
 |0,0,_,_=>by decide
 |0,1,_,_=>by decide
 |0,2,_,_=>by decide
 |1,0,_,_=>by decide
 |1,1,_,_=>by decide
 |1,2,_,_=>by decide
 |2,0,_,_=>by decide
 |2,1,_,_=>by decide
 |2,2,_,_=>by decide
 |3,0,_,_=>by decide
 |3,1,_,_=>by decide
 |3,2,_,_=>by decide
 |4,0,_,_=>by decide
 |4,1,_,_=>by decide
 |4,2,_,_=>by decide
 |5,0,_,_=>by decide
 |5,1,_,_=>by decide
 |5,2,_,_=>by decide
 |6,0,_,_=>by decide
 |6,1,_,_=>by decide
 |6,2,_,_=>by decide
 |7,0,_,_=>by decide
 |7,1,_,_=>by decide
 |7,2,_,_=>by decide
 |8,0,_,_=>by decide
 |8,1,_,_=>by decide
 |8,2,_,_=>by decide
 |9,0,_,_=>by decide
 |9,1,_,_=>by decide
 |9,2,_,_=>by decide
def asL(i f:Nat)(b:i<10)(a:f<3)(w:U):Ak O 231 #[Q (wS i f),Q ⟨#[42]⟩] w (jt w (Ad #[Q (wS1 i f),Y (f==1)])):=by
 refine fC (Tryz.strings_CutSuffix (wS i f) ⟨#[42]⟩ w (by have:=(adH i f b a).1;omega)) ?_;have⟨c,d⟩:=asJ i f b a;refine⟨?_,rfl⟩;rw[<-c,<-d]
def as0(i f:Nat)(b:i<10)(a:f<3)(w:U):Ak O 231 #[Q (wS1 i f),Q ⟨#[63]⟩] w (jt w (Ad #[Q (wB i),Y (f==2)])):=by
 refine fC (Tryz.strings_CutSuffix (wS1 i f) ⟨#[63]⟩ w (by have:=(adH i f b a).2;omega)) ?_;have⟨c,d⟩:=asK i f b a;refine⟨?_,rfl⟩;rw[<-c,<-d]
def jm(W:U)(v:A3)(ks:List Int):Prop:=
 (ks=[]/\∃a b,v= T a 0 b)\/∃a b,v= T (M a) ks.length b/\ks.length<=b/\∀e c,ks[e]?=M c->∃d,W.cell? (a.add e)=M (gq c d)/\W.cell? ⟨d,0,Ax⟩=M (V X c)
def jm.below{a:U}{v:A3}(h:jm W v ks)(b:cg W a):jm a v ks:=by
 rcases h with h|⟨c,e,i,j,k⟩
 .exact .inl h
 .exact .inr ⟨c,e,i,j,λm n l=>by have⟨d,f,g⟩:=k m n l;exact⟨d,cell_kept b f,cell_kept b g⟩⟩
def jm.form{v:A3}(h:jm W v ks):∃a c,v= T a ks.length c:=by
 rcases h with⟨rfl,a,c,h⟩|⟨a,c,b,d⟩
 .exact⟨a,c,h⟩
 .exact⟨_,_,b⟩
def jm.get{a:Option Addr}{n c:Nat}(h:jm W (T a n c) ks){j:Nat}{k:Int}(e:ks[j]?=M k):∃d b,a=M d/\W.cell? (d.add j)=M (gq k b)/\W.cell? ⟨b,0,Ax⟩=M (V X k):=by
 rcases h with⟨rfl,_⟩|⟨d,m,f,_,l⟩
 .simp at e
 .cases f;have⟨b,g,i⟩:=l j k e;exact⟨d,b,rfl,g,i⟩
def JF(i f:Nat)(ks:List Int):Nat:=if f=1 then(ks.takeWhile (ms i)).length else min 1 (ks.takeWhile (ms i)).length
def gj:List (Nat×Nat)->List Int->Bool
 |[],ks=>ks.isEmpty
 |(i,f)::a,ks=>if JF i f ks=0/\f=0 then false else gj a (ks.drop (JF i f ks))
structure Fb (ws:List (Nat×Nat)) (ks:List Int) (R:Bool):Prop where
 out:gj ws ks=R
def aiD(p:Int->Bool):∀(ks:List Int)(t:Nat),t<=(ks.takeWhile p).length->(t<(ks.takeWhile p).length↔∃k,ks[t]?=M k/\p k=true)
 |[],t,h=>by simp at h;subst h;simp
 |a::r,t,h=>by
  cases hp:p a with
  |false=>
   rw[He (by simp[hp])]at h⊢;simp at h;subst h;simp[hp]
  |true=>
   rw[Hf (by simp[hp])]at h⊢;cases t with
   |zero=>simp[hp]
   |succ t=>
    simp only[bc]at h⊢;have b:=aiD p r t (by omega);rw[show(t+1<(r.takeWhile p).length+1)↔t<(r.takeWhile p).length by omega,b];simp
def arw(p:Int->Bool)(ks:List Int):(ks.takeWhile p).length<=ks.length:=(List.takeWhile_sublist p).length_le
def apl(i f:Nat)(ks:List Int):JF i f ks<=ks.length:=by
 have:=arw (ms i) ks;unfold JF;split<;>omega
def apm(i f:Nat)(ks:List Int)(t:Nat)(h:t<=JF i f ks):t<JF i f ks↔(f=1\/t=0)/\∃k,ks[t]?=M k/\ms i k=true:=by
 unfold JF at h⊢;by_cases a:f=1
 .rw[ab a]at h⊢;rw[aiD _ ks t h];simp[a]
 .rw[aa a]at h⊢;by_cases b:t=0
  .subst b;have:=aiD (ms i) ks 0 (aD _);rw[show(0<min 1 (ks.takeWhile (ms i)).length)↔0<(ks.takeWhile (ms i)).length by omega,this];simp
  .constructor
   .intro h2;omega
   .rintro ⟨h2|h2,_⟩
    .exact absurd h2 a
    .exact absurd h2 b
def oL{i f:Nat}{a:List (Nat×Nat)}{R:Bool}(h:Fb ((i,f)::a) ks R)(b:¬(JF i f ks=0/\f=0)):Fb a (ks.drop (JF i f ks)) R:=by
 have:=h.out;rw[gj,aa b]at this;exact⟨this⟩
def BB{i f:Nat}{b:List (Nat×Nat)}{R:Bool}(h:Fb ((i,f)::b) ks R)(a:JF i f ks=0/\f=0):R=false:=by
 have:=h.out;rw[gj,ab a]at this;exact this.symm
def afp{α:Type}{L:List α}{k:Nat}{x:α}(h:L[k]?=M x):L.drop k=x::L.drop (k+1):=by
 have a:=(List.getElem?_eq_some_iff.1 h);rw[kL a.1,a.2]
def jm.sl{a:Option Addr}{L c t:Nat}(h:jm W (T a L c) ks)(g:ks.length=L)(ht:t<=L):jm W (T (if c=t then a else Option.map (λx=>x.add t) a) (L-t) (c-t)) (ks.drop t):=by
 subst g;rcases h with⟨rfl,b,f,d⟩|⟨b,f,d,l,i⟩
 .exact .inl ⟨by simp,_,_,by rw[show([]:List Int).length-t=0 by simp]⟩
 .cases d;by_cases m:t=ks.length
  .exact .inl ⟨by rw[lE (by omega)],_,_,by rw[show ks.length-t=0 by omega]⟩
  .refine .inr ⟨b.add t,c-t,?_,by rw[ir];omega,λj k e=>?_⟩
   .rw[aa (by omega),ir];rfl
   .rw[pE]at e;rw[Addr.add_add];exact i (t+j) k e
def xh(w:U)(row:ByteArray)(m:List (Nat×Nat))(v:A3)(ks:List Int)(cb:Lib.fields row.data.toList=m.map λx=>BA x.1 x.2)(cf:∀x∈m,x.1<10/\x.2<3)(cc:row.size<4294967281)(b5:∀(j:Nat) b,row.data.toList[j]?=M b->b.toNat<128)(cd:A5 O w "strings.asciiSpace" .u8 Z)(bw:jm w v ks)(b7:ks.length<=1048576)(ce:m.length<=1048576):
  Ak O 194 #[Q row,v] w (jf w (Y (gj m ks))):=by
 have a7:=Tryz.strings_Fields row w cc b5 cd;rw[cb]at a7;have⟨H,bs⟩:=aC (gj m ks);rw[bs];have b3:Fb m ks H:=⟨bs⟩;have ap:cg w (w.alloc (.cells ((m.map λx=>BA x.1 x.2).map λa3=>A1 ⟨a3.toArray⟩).toArray 9)):=(ah _ w).alloc (ag _) _;have br:=bw.below ap;have bo:∀f i p,m[f]?=M (i,p)->(w.alloc (.cells ((m.map λx=>BA x.1 x.2).map λa3=>A1 ⟨a3.toArray⟩).toArray 9)).cell? ⟨w.heap.size,f,Ax⟩=M (Q (wS i p)):=λf i p bx=>by
  rw[aj _ _ _ _ _ _ (aA w _)];simp[bx,wS]
 have⟨a4,bf⟩:=aC m.length;have bl:=am bf;have b4:=am cf;have b8:(m.map λx=>BA x.1 x.2).length=a4:=by rw[bq,bf]
 rw[b8]at a7;rw[bf]at ce;obtain⟨cr,cs,rfl⟩:=bw.form;have b2:=am b7;generalize w.alloc (.cells ((m.map λx=>BA x.1 x.2).map λa3=>A1 ⟨a3.toArray⟩).toArray 9)=cq at a7 ap br bo;have b1:=am bo;have bk:=am br;generalize cu:ks.length=lk at bk⊢;go_in;go_wp21
 refine a7.mono ?_;rintro k b0 ⟨rfl,rfl⟩;go_wp21
 go_loop [1,14] (λck bj=>∃(f:Nat) (d:List Int),f<=a4/\bj= V X f/\A2 (jm b0 ck d/\d.length<=1048576)/\Fb (m.drop f) d H) (λ_ bj=>a4-(S bj).toNat)
 case atStart=>exact⟨0,ks,aD _,rfl,⟨bk,b2⟩,b3⟩
 case round=>
  obtain⟨f,d,bx,rfl,a8,a9⟩:=hrel;obtain⟨I,J,rfl⟩:=a8.1.form;by_cases b9:f<a4
  .have ct:(0:Int)<=(f:Int):=by omega
   have⟨⟨i,p⟩,bh⟩:=cJ bl.out b9;obtain⟨a6,bd⟩:=b4.out _ (dj bh);simp only at a6 bd;have b6:=b1.out f i p bh;have ad:A2 (Fb ((i,p)::m.drop (f+1)) d H):=by rw[afp bh]at a9;exact a9
   have a2:=λw=>asL i p a6 bd w;have kB:=λw=>as0 i p a6 bd w;have L:=λc w=>H9 i a6 c w;have⟨e,ar⟩:=aC d.length;have A:=am ar;have bb:=a8.2;rw[ar]at bb;have z:A2 (jm b0 (T I e J) d):=by rw[<-ar];exact a8.1
   rw[ar];have bE:=apl i p d;have bD:=apm i p d;have⟨C,bt⟩:=aC (JF i p d);rw[bt]at bE bD;rw[ar]at bE;have B:=am bt;have ba:=am bD;generalize wS i p=cl at b6 a2;generalize wS1 i p=cn at a2 kB;generalize wB i=cp at kB L;rcases(show p=0\/p=1\/p=2 by omega) with rfl|rfl|rfl
   .go_wp21
    refine(a2 _).mono ?_;rintro k q ⟨rfl,rfl⟩;go_wp2_with fail;refine(kB _).mono ?_;rintro k q ⟨rfl,rfl⟩;go_wp2;go_loop [10] (λG=>∃a:Nat,G= V X a/\a<=C) (λG=>C-(S G).toNat)
    case atStart=>exact⟨0,rfl,aD _⟩
    case round=>
     obtain⟨a,rfl,aK⟩:=hrel;have K:=ba.out a aK;have bA:(0:Int)<=(a:Int):=by omega
     by_cases av:a<C
     .have⟨a5,c,n,t⟩:=K.1 av;obtain⟨o,b,rfl,g,al⟩:=z.get n;have E:(a:Int)<(e:Int):=by omega
      obtain rfl:a=0:=by rcases a5 with h|h;exact absurd h (by decide);exact h
      rw[show o.add 0=o from by unfold Addr.add;rw[ab rfl]]at g;have l:=λw=>L c w;rw[t]at l;have u:=λw=>sy c b w;have y:=λw=>gD b w;unfold gq at g;generalize pI (fJ c)=an at g u;go_wp2_with (first|(go_at_call 232;refine(l _).mono ?_;rintro k q ⟨rfl,rfl⟩)|(go_at_call 299;refine(y _).mono ?_;rintro k q ⟨rfl,rfl⟩));go_round
      case rel=>exact⟨0+1,by go_num,by omega⟩
      case measure=>simp[S];omega
     .obtain rfl:a=C:=by omega
      by_cases ao:a=0
      .subst ao;by_cases E:0<e
       .have F:(0:Int)<(e:Int):=by omega
        have⟨c,n⟩:=cJ A.out E;have t:ms i c=false:=by
         cases h:ms i c
         .rfl
         .exact absurd (K.2 ⟨.inr rfl,c,n,h⟩) (by omega)
        have⟨o,b,af,g,al⟩:=z.get n;subst af;rw[show o.add 0=o from by unfold Addr.add;rw[ab rfl]]at g;have l:=λw=>L c w;rw[t]at l;have u:=λw=>sy c b w;have y:=λw=>gD b w;unfold gq at g;generalize pI (fJ c)=an at g u;go_wp2_with (first|(go_at_call 232;refine(l _).mono ?_;rintro k ak ⟨rfl,rfl⟩)|(go_at_call 299;refine(y _).mono ?_;rintro k ak ⟨rfl,rfl⟩));go_ret;exact⟨by rw[BB ad.out ⟨B.out,rfl⟩];rfl,ap⟩
       .have F:¬(0:Int)<(e:Int):=by omega
        go_wp2;go_ret;exact⟨by rw[BB ad.out ⟨B.out,rfl⟩];rfl,ap⟩
      .have s:A2 (Fb (m.drop (f+1)) (d.drop a) H):=by
        have h:=oL ad.out (by rw[B.out];omega);rw[B.out]at h;exact h
       have r:A2 (jm q (T (if J=a then I else Option.map (λx=>x.add a) I) (e-a) (J-a)) (d.drop a)/\(d.drop a).length<=1048576):=⟨z.sl A (by omega),by rw[ir,A.out];omega⟩;by_cases E:a<e
       .have F:(a:Int)<(e:Int):=by omega
        go_wp2;exact⟨⟨f+1,d.drop a,by omega,by go_num,r,s⟩,by simp[S];omega⟩
       .have F:¬(a:Int)<(e:Int):=by omega
        go_wp2;exact⟨⟨f+1,d.drop a,by omega,by go_num,r,s⟩,by simp[S];omega⟩
   .go_wp2_with fail;refine(a2 _).mono ?_;rintro k q ⟨rfl,rfl⟩;go_wp2_with fail;refine(kB _).mono ?_;rintro k q ⟨rfl,rfl⟩;go_wp2;go_loop [10] (λG=>∃a:Nat,G= V X a/\a<=C) (λG=>C-(S G).toNat)
    case atStart=>exact⟨0,rfl,aD _⟩
    case round=>
     obtain⟨a,rfl,aK⟩:=hrel;have K:=ba.out a aK;have bA:(0:Int)<=(a:Int):=by omega
     by_cases av:a<C
     .have⟨a5,c,n,t⟩:=K.1 av;obtain⟨o,b,rfl,g,al⟩:=z.get n;have E:(a:Int)<(e:Int):=by omega
      have l:=λw=>L c w;rw[t]at l;have u:=λw=>sy c b w;have y:=λw=>gD b w;unfold gq at g;generalize pI (fJ c)=an at g u;go_wp2_with (first|(go_at_call 232;refine(l _).mono ?_;rintro k q ⟨rfl,rfl⟩)|(go_at_call 299;refine(y _).mono ?_;rintro k q ⟨rfl,rfl⟩));go_round
      case rel=>exact⟨a+1,by go_num,by omega⟩
      case measure=>simp[S];omega
     .obtain rfl:a=C:=by omega
      by_cases ao:a=0
      .subst ao;have s:A2 (Fb (m.drop (f+1)) d H):=by
        have h:=oL ad.out (by rw[B.out];omega);rw[B.out,kC]at h;exact h
       have r:A2 (jm q (T I e J) d/\d.length<=1048576):=⟨z.out,by rw[A.out];exact bb⟩;by_cases E:0<e
       .have F:(0:Int)<(e:Int):=by omega
        have⟨c,n⟩:=cJ A.out E;have t:ms i c=false:=by
         cases h:ms i c
         .rfl
         .exact absurd (K.2 ⟨.inl (by first|rfl|trivial),c,n,h⟩) (by omega)
        have⟨o,b,af,g,al⟩:=z.get n;subst af;rw[show o.add 0=o from by unfold Addr.add;rw[ab rfl]]at g;have l:=λw=>L c w;rw[t]at l;have u:=λw=>sy c b w;have y:=λw=>gD b w;unfold gq at g;generalize pI (fJ c)=an at g u;go_wp2_with (first|(go_at_call 232;refine(l _).mono ?_;rintro k ak ⟨rfl,rfl⟩)|(go_at_call 299;refine(y _).mono ?_;rintro k ak ⟨rfl,rfl⟩));exact⟨⟨f+1,d,by omega,by go_num,r,s⟩,by simp[S];omega⟩
       .have F:¬(0:Int)<(e:Int):=by omega
        go_wp2;exact⟨⟨f+1,d,by omega,by go_num,r,s⟩,by simp[S];omega⟩
      .have s:A2 (Fb (m.drop (f+1)) (d.drop a) H):=by
        have h:=oL ad.out (by rw[B.out];omega);rw[B.out]at h;exact h
       have r:A2 (jm q (T (if J=a then I else Option.map (λx=>x.add a) I) (e-a) (J-a)) (d.drop a)/\(d.drop a).length<=1048576):=⟨z.sl A (by omega),by rw[ir,A.out];omega⟩;by_cases E:a<e
       .have F:(a:Int)<(e:Int):=by omega
        have⟨c,n⟩:=cJ A.out E;have t:ms i c=false:=by
         cases h:ms i c
         .rfl
         .exact absurd (K.2 ⟨.inl (by first|rfl|trivial),c,n,h⟩) (by omega)
        have⟨o,b,af,g,al⟩:=z.get n;subst af;have l:=λw=>L c w;rw[t]at l;have u:=λw=>sy c b w;have y:=λw=>gD b w;unfold gq at g;generalize pI (fJ c)=an at g u;go_wp2_with (first|(go_at_call 232;refine(l _).mono ?_;rintro k ak ⟨rfl,rfl⟩)|(go_at_call 299;refine(y _).mono ?_;rintro k ak ⟨rfl,rfl⟩));exact⟨⟨f+1,d.drop a,by omega,by go_num,r,s⟩,by simp[S];omega⟩
       .have F:¬(a:Int)<(e:Int):=by omega
        go_wp2;exact⟨⟨f+1,d.drop a,by omega,by go_num,r,s⟩,by simp[S];omega⟩
   .go_wp2_with fail;refine(a2 _).mono ?_;rintro k q ⟨rfl,rfl⟩;go_wp2_with fail;refine(kB _).mono ?_;rintro k q ⟨rfl,rfl⟩;go_wp2;go_loop [10] (λG=>∃a:Nat,G= V X a/\a<=C) (λG=>C-(S G).toNat)
    case atStart=>exact⟨0,rfl,aD _⟩
    case round=>
     obtain⟨a,rfl,aK⟩:=hrel;have K:=ba.out a aK;have bA:(0:Int)<=(a:Int):=by omega
     by_cases av:a<C
     .have⟨a5,c,n,t⟩:=K.1 av;obtain⟨o,b,rfl,g,al⟩:=z.get n;have E:(a:Int)<(e:Int):=by omega
      obtain rfl:a=0:=by rcases a5 with h|h;exact absurd h (by decide);exact h
      rw[show o.add 0=o from by unfold Addr.add;rw[ab rfl]]at g;have l:=λw=>L c w;rw[t]at l;have u:=λw=>sy c b w;have y:=λw=>gD b w;unfold gq at g;generalize pI (fJ c)=an at g u;go_wp2_with (first|(go_at_call 232;refine(l _).mono ?_;rintro k q ⟨rfl,rfl⟩)|(go_at_call 299;refine(y _).mono ?_;rintro k q ⟨rfl,rfl⟩));go_round
      case rel=>exact⟨0+1,by go_num,by omega⟩
      case measure=>simp[S];omega
     .obtain rfl:a=C:=by omega
      by_cases ao:a=0
      .subst ao;have s:A2 (Fb (m.drop (f+1)) d H):=by
        have h:=oL ad.out (by rw[B.out];omega);rw[B.out,kC]at h;exact h
       have r:A2 (jm q (T I e J) d/\d.length<=1048576):=⟨z.out,by rw[A.out];exact bb⟩;by_cases E:0<e
       .have F:(0:Int)<(e:Int):=by omega
        have⟨c,n⟩:=cJ A.out E;have t:ms i c=false:=by
         cases h:ms i c
         .rfl
         .exact absurd (K.2 ⟨.inr rfl,c,n,h⟩) (by omega)
        have⟨o,b,af,g,al⟩:=z.get n;subst af;rw[show o.add 0=o from by unfold Addr.add;rw[ab rfl]]at g;have l:=λw=>L c w;rw[t]at l;have u:=λw=>sy c b w;have y:=λw=>gD b w;unfold gq at g;generalize pI (fJ c)=an at g u;go_wp2_with (first|(go_at_call 232;refine(l _).mono ?_;rintro k ak ⟨rfl,rfl⟩)|(go_at_call 299;refine(y _).mono ?_;rintro k ak ⟨rfl,rfl⟩));exact⟨⟨f+1,d,by omega,by go_num,r,s⟩,by simp[S];omega⟩
       .have F:¬(0:Int)<(e:Int):=by omega
        go_wp2;exact⟨⟨f+1,d,by omega,by go_num,r,s⟩,by simp[S];omega⟩
      .have s:A2 (Fb (m.drop (f+1)) (d.drop a) H):=by
        have h:=oL ad.out (by rw[B.out];omega);rw[B.out]at h;exact h
       have r:A2 (jm q (T (if J=a then I else Option.map (λx=>x.add a) I) (e-a) (J-a)) (d.drop a)/\(d.drop a).length<=1048576):=⟨z.sl A (by omega),by rw[ir,A.out];omega⟩;by_cases E:a<e
       .have F:(a:Int)<(e:Int):=by omega
        go_wp2;exact⟨⟨f+1,d.drop a,by omega,by go_num,r,s⟩,by simp[S];omega⟩
       .have F:¬(a:Int)<(e:Int):=by omega
        go_wp2;exact⟨⟨f+1,d.drop a,by omega,by go_num,r,s⟩,by simp[S];omega⟩
  .obtain rfl:f=a4:=by omega
   have bv:=a9.out;rw[lE (by rw[bl.out];exact ag _),gj]at bv;have ca:((d.length:Int)==0)=H:=by
    rw[<-bv];cases d with
    |nil=>rfl
    |cons x cv=>simp;omega
   have bn:=am ca;generalize d.length=e at bn⊢;go_wp2;go_ret;exact⟨by rw[<-bn.out];rfl,ap⟩
def wF:Int->ByteArray
 |1=>⟨#[115,116,97,116,42]⟩
 |2=>⟨#[101,120,112,114,42]⟩
 |3=>⟨#[101,120,112,114]⟩
 |4=>⟨#[102,110]⟩
 |6=>⟨#[99,97,108,108]⟩
 |7=>⟨#[101,120,112,114,32,98,108,111,99,107,32,101,108,115,101,63]⟩
 |8=>⟨#[101,120,112,114,32,98,108,111,99,107]⟩
 |9=>⟨#[101,120,112,114,32,101,120,112,114,32,101,120,112,114,63,32,98,108,111,99,107]⟩
 |10=>⟨#[101,120,112,114,32,98,108,111,99,107]⟩
 |11=>⟨#[]⟩
 |12=>⟨#[]⟩
 |13=>⟨#[101,120,112,114,42]⟩
 |14=>⟨#[98,108,111,99,107,32,98,108,111,99,107]⟩
 |15=>⟨#[101,120,112,114]⟩
 |16=>⟨#[99,97,108,108]⟩
 |20=>⟨#[]⟩
 |21=>⟨#[]⟩
 |22=>⟨#[]⟩
 |23=>⟨#[]⟩
 |24=>⟨#[]⟩
 |25=>⟨#[]⟩
 |26=>⟨#[]⟩
 |27=>⟨#[]⟩
 |28=>⟨#[101,120,112,114,32,101,120,112,114]⟩
 |29=>⟨#[101,120,112,114,32,101,120,112,114]⟩
 |30=>⟨#[101,120,112,114]⟩
 |31=>⟨#[101,120,112,114,32,101,120,112,114]⟩
 |32=>⟨#[98,97,115,101,32,101,120,112,114]⟩
 |33=>⟨#[98,97,115,101]⟩
 |34=>⟨#[98,97,115,101,32,101,120,112,114,42]⟩
 |35=>⟨#[101,110,116,114,121,42]⟩
 |36=>⟨#[98,108,111,99,107]⟩
 |37=>⟨#[109,97,110,121]⟩
 |40=>⟨#[101,120,112,114]⟩
 |41=>⟨#[101,120,112,114,32,101,120,112,114]⟩
 |42=>⟨#[101,120,112,114]⟩
 |_=>⟨#[]⟩
def abK:Int->Option (List (Nat×Nat))
 |1=>M [(0,1)]
 |2=>M [(3,1)]
 |3=>M [(3,0)]
 |4=>M [(8,0)]
 |6=>M [(6,0)]
 |7=>M [(3,0),(1,0),(2,2)]
 |8=>M [(3,0),(1,0)]
 |9=>M [(3,0),(3,0),(3,2),(1,0)]
 |10=>M [(3,0),(1,0)]
 |11=>M []
 |12=>M []
 |13=>M [(3,1)]
 |14=>M [(1,0),(1,0)]
 |15=>M [(3,0)]
 |16=>M [(6,0)]
 |20=>M []
 |21=>M []
 |22=>M []
 |23=>M []
 |24=>M []
 |25=>M []
 |26=>M []
 |27=>M []
 |28=>M [(3,0),(3,0)]
 |29=>M [(3,0),(3,0)]
 |30=>M [(3,0)]
 |31=>M [(3,0),(3,0)]
 |32=>M [(4,0),(3,0)]
 |33=>M [(4,0)]
 |34=>M [(4,0),(3,1)]
 |35=>M [(9,1)]
 |36=>M [(1,0)]
 |37=>M [(7,0)]
 |40=>M [(3,0)]
 |41=>M [(3,0),(3,0)]
 |42=>M [(3,0)]
 |_=>Ax
def oy:List Int:=[1,2,3,4,6,7,8,9,10,11,12,13,14,15,16,20,21,22,23,24,25,26,27,28,29,30,31,32,33,34,35,36,37,40,41,42]
def Jl(k:Int)(h:k ∉ oy):abK k=Ax/\wF k=⟨#[]⟩:=by
 simp only[oy,gK,mC,mE,not_or]at h;obtain⟨a,j,v,F,J,K,L,ad,b,c,d,e,f,g,i,l,m,n,o,p,q,r,s,t,u,w,x,y,z,A,B,C,E,G,H,I⟩:=h;constructor
 .unfold abK;split<;>first|rfl|contradiction
 .unfold wF;split<;>first|rfl|contradiction
def L9(k:Int)(h:k∈oy):∃a,abK k=M a/\Lib.fields (wF k).data.toList=a.map (λx=>BA x.1 x.2)/\(∀x∈a,x.1<10/\x.2<3)/\(wF k).size<100/\(∀(j:Nat) b,(wF k).data.toList[j]?=M b->b.toNat<128)/\a.length<10:=by
 have d:∀(c:List UInt8),(c.all λb=>decide (b.toNat<128))=true->∀(j:Nat) b,c[j]?=M b->b.toNat<128:=λc f j b e=>by simpa using List.all_eq_true.1 f b (dj e)
 simp only[oy,gK,mC,mE]at h;rcases h with rfl|rfl|rfl|rfl|rfl|rfl|rfl|rfl|rfl|rfl|rfl|rfl|rfl|rfl|rfl|rfl|rfl|rfl|rfl|rfl|rfl|rfl|rfl|rfl|rfl|rfl|rfl|rfl|rfl|rfl|rfl|rfl|rfl|rfl|rfl|rfl;all_goals exact⟨_,rfl,rfl,by decide,by decide,d _ (by decide),by decide⟩
def aiE(k:Int)(w:U)(h:k=1\/k=2\/k=3\/k=4\/k=6\/k=7\/k=8\/k=9\/k=10):Ak O 195 #[V X k] w (jt w (Ad #[Q (wF k),Y true])):=by
 rcases h with rfl|rfl|rfl|rfl|rfl|rfl|rfl|rfl|rfl;all_goals
  simp only[wF];go_in;go_wp2;go_ret2;exact⟨rfl,rfl⟩
def aiF(k:Int)(w:U)(h:k=11\/k=12\/k=13\/k=14\/k=15\/k=16\/k=20\/k=21\/k=22):Ak O 195 #[V X k] w (jt w (Ad #[Q (wF k),Y true])):=by
 rcases h with rfl|rfl|rfl|rfl|rfl|rfl|rfl|rfl|rfl;all_goals
  simp only[wF];go_in;go_wp2;go_ret2;exact⟨rfl,rfl⟩
def aiG(k:Int)(w:U)(h:k=23\/k=24\/k=25\/k=26\/k=27\/k=28\/k=29\/k=30\/k=31):Ak O 195 #[V X k] w (jt w (Ad #[Q (wF k),Y true])):=by
 rcases h with rfl|rfl|rfl|rfl|rfl|rfl|rfl|rfl|rfl;all_goals
  simp only[wF];go_in;go_wp2;go_ret2;exact⟨rfl,rfl⟩
def aiH(k:Int)(w:U)(h:k=32\/k=33\/k=34\/k=35\/k=36\/k=37\/k=40\/k=41\/k=42):Ak O 195 #[V X k] w (jt w (Ad #[Q (wF k),Y true])):=by
 rcases h with rfl|rfl|rfl|rfl|rfl|rfl|rfl|rfl|rfl;all_goals
  simp only[wF];go_in;go_wp2;go_ret2;exact⟨rfl,rfl⟩
def afq(k:Int)(w:U)(h:k ∉ oy):Ak O 195 #[V X k] w (jt w (Ad #[Q ⟨#[]⟩,Y false])):=by
 simp only[oy,gK,mC,mE,not_or]at h;obtain⟨a,j,v,G,K,L,ad,af,b,c,d,e,f,g,i,l,m,n,o,p,q,r,s,t,u,x,y,z,A,B,C,E,F,H,I,J⟩:=h;go_in;go_wp2;go_ret2;exact⟨rfl,rfl⟩
def aaa(k:Int)(w:U):Ak O 195 #[V X k] w (jt w (Ad #[Q (wF k),Y (abK k).isSome])):=by
 by_cases h:k∈oy
 .have⟨c,a,_⟩:=L9 k h;rw[a,Option.isSome_some];simp only[oy,gK,mC,mE]at h;rcases(show(k=1\/k=2\/k=3\/k=4\/k=6\/k=7\/k=8\/k=9\/k=10)\/(k=11\/k=12\/k=13\/k=14\/k=15\/k=16\/k=20\/k=21\/k=22)\/(k=23\/k=24\/k=25\/k=26\/k=27\/k=28\/k=29\/k=30\/k=31)\/(k=32\/k=33\/k=34\/k=35\/k=36\/k=37\/k=40\/k=41\/k=42) by omega) with h|h|h|h
  .exact aiE k w h
  .exact aiF k w h
  .exact aiG k w h
  .exact aiH k w h
 .have⟨a,b⟩:=Jl k h;rw[a,b];exact afq k w h
def Ga(n:Nat):List (Nat×Nat):=List.replicate n (5,0)++[(3,0),(3,1)]
def setB(n:Nat):ByteArray:=⟨(N [116,97,114,103,101,116,32] n).toArray⟩++⟨#[101,120,112,114,32,101,120,112,114,42]⟩
def A4(n:Nat):(setB n).data.toList=N [116,97,114,103,101,116,32] n++[101,120,112,114,32,101,120,112,114,42]:=by
 unfold setB;rw[lg];simp
def BC:∀n,Lib.fields (N [116,97,114,103,101,116,32] n++[101,120,112,114,32,101,120,112,114,42])=(Ga n).map λx=>BA x.1 x.2
 |0=>by decide
 |n+1=>by
  have b:=BC n;have a:Lib.fields (N [116,97,114,103,101,116,32] (n+1)++[101,120,112,114,32,101,120,112,114,42])=[116,97,114,103,101,116]::Lib.fields (N [116,97,114,103,101,116,32] n++[101,120,112,114,32,101,120,112,114,42]):=by
   rw[N];rfl
  rw[a,b];rfl
def abL(n:Nat):∀(j:Nat) b,(setB n).data.toList[j]?=M b->b.toNat<128:=by
 rw[A4];have c:∀(a:List UInt8),(a.all λb=>decide (b.toNat<128))=true->∀b∈a,b.toNat<128:=λa d b hb=>by simpa using List.all_eq_true.1 d b hb
 have e:∀n,∀b∈N [116,97,114,103,101,116,32] n,b.toNat<128:=by
  intro n
  induction n with
  |zero=>intro b hb;simp[N]at hb
  |succ n f=>
   intro b hb;rw[N]at hb;rcases List.mem_append.1 hb with hb|hb
   .exact c _ (by decide) b hb
   .exact f b hb
 intro j b hb;rcases List.mem_append.1 (dj hb) with h|h
 .exact e n b h
 .exact c _ (by decide) b h
def afr(n:Nat):(setB n).size=7*n+10:=by
 have a:=congrArg List.length (A4 n);rw[aG,Lib.repeatL_length]at a;simp at a;omega
def alF(n:Nat):∀x∈Ga n,x.1<10/\x.2<3:=by
 intro x hx;unfold Ga at hx;rcases List.mem_append.1 hx with hx|hx
 .rw[(List.mem_replicate.1 hx).2];decide
 .simp at hx;rcases hx with rfl|rfl<;>decide
def aab(w:U)(b:Nat)(nk s u t v:Int)(n:Nat)(o:n<=200)(vk:A3)(ks:List Int)(g:jm w vk ks)(m:ks.length<=1048576)(q:∀W,cg w W->A5 O W "strings.asciiSpace" .u8 Z)
  (f:w.heap[b]?=M (.cells #[V X nk,V X s,V X u,V X t,V X v,vk,V X (n:Int)] 147 (0,0))):
  Ak O 125 #[.iface 145 (A0 (M ⟨b,0,Ax⟩))] w (jf w (Y (gj (Ga n) ks))):=by
 have C:=λw=>asT b w 145 (by decide);have h:=aaw n w o;have a:=λW (e:cg w W)=>xh W (setB n) (Ga n) vk ks (by rw[A4];exact BC n) (alF n) (by rw[afr];omega) (abL n) (q W e) (g.below e) m (by unfold Ga;rw[aG,List.length_replicate];simp;omega);obtain⟨j,k,rfl⟩:=g.form;have c5:w.cell? ⟨b,5,Ax⟩=M (T j ks.length k):=by rw[aj _ _ _ _ _ _ f];rfl
 have B:w.cell? ⟨b,6,Ax⟩=M (V X (n:Int)):=by rw[aj _ _ _ _ _ _ f];rfl
 have p:((⟨(N [116,97,114,103,101,116,32] n).toArray⟩:ByteArray)).size=7*n:=by
  have d:((⟨(N [116,97,114,103,101,116,32] n).toArray⟩:ByteArray)).size=(N [116,97,114,103,101,116,32] n).length:=by simp[ByteArray.size]
  rw[d,Lib.repeatL_length];simp;omega
 unfold setB at a;generalize gj (Ga n) ks=z at a⊢;generalize ks.length=y at a c5;generalize (⟨(N [116,97,114,103,101,116,32] n).toArray⟩:ByteArray)=A at a h p;have i:=am c5;go_in;go_wp21
 refine h.mono ?_;rintro d x ⟨rfl,c⟩;have c5:=cell_kept c i.out;have r:=a x c;go_wp21
 refine r.mono ?_;rintro d E ⟨rfl,l⟩;go_wp21
 go_ret;exact⟨rfl,c.trans (l.mono c.size)⟩
def asS(k:Int)(h:fJ k≠1)(b:Nat)(w:U):(Instr.typeAssert (.iface (pI (fJ k)) (A0 (M ⟨b,0,Ax⟩))) 55 145 true).run O w= .ok (Ad #[A0 Ax,Y false]) w:=by
 have a:=h;rcases Fa k with g|g|g|g|g|g|g<;>rw[g]at a⊢;all_goals first|exact absurd rfl a|exact asF b w _ _ (by decide) (by decide) (by decide)
def rkB(k:Int)(ks:List Int):Bool:=match abK k with|some a=>gj a ks|none=>false
def aac(w:U)(b:Nat)(k:Int)(p:fJ k≠1)(vk:A3)(ks:List Int)(g:jm w vk ks)(q:ks.length<=1048576)(r:A5 O w "strings.asciiSpace" .u8 Z)
  (y:w.cell? ⟨b,0,Ax⟩=M (V X k)) (c5:w.cell? ⟨b,5,Ax⟩=M vk):
  Ak O 125 #[gq k b] w (jf w (Y (rkB k ks))):=by
 have f:=λw=>asS k p b w;have i:=λw=>sy k b w;have j:=λw=>gD b w;have a:=λw=>aaa k w;unfold gq rkB;by_cases h:k∈oy
 .have⟨l,c,e,m,B,n,C⟩:=L9 k h;have d:=xh w (wF k) l vk ks e m (by omega) n r g q (by omega);rw[c]at a⊢;simp only[Option.isSome_some]at a⊢;obtain⟨x,z,rfl⟩:=g.form;generalize ks.length=t at d c5;generalize gj l ks=u at d⊢;generalize wF k=v at d a;generalize pI (fJ k)=s at f i⊢;go_in;go_wp2_with (first|(go_at_call 299;refine fC (j _) ?_)|(go_at_call 195;refine fC (a _) ?_)|(go_at_call 194;refine d.mono ?_;rintro A E ⟨rfl,o⟩));go_ret;exact⟨rfl,o⟩
 .have⟨c,e⟩:=Jl k h;rw[c,e]at a;rw[c];simp only[Option.isSome_none]at a⊢;generalize pI (fJ k)=s at f i⊢;go_in;go_wp2_with (first|(go_at_call 299;refine fC (j _) ?_)|(go_at_call 195;refine fC (a _) ?_));go_ret;exact⟨rfl,ah _ _⟩
