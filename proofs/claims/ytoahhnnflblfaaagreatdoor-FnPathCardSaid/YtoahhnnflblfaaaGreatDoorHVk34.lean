import Derived.Test.YtoahhnnflblfaaaGreatDoorHVk06
import Derived.Test.YtoahhnnflblfaaaGreatDoorHVk27
import Derived.Test.YtoahhnnflblfaaaGreatDoorHVk14
set_option linter.all false
set_option maxRecDepth 100000
set_option maxHeartbeats 12800000
open Option renaming some->M,none->A1
open Go.Lib renaming repeatL->N,asciiSpaceTab->Z,TabIs->A7
open Go.Proofs.Tryz renaming prog->O
open Go.Ending renaming returned->Q
open Go.Value renaming string->S,slice->V,int->W,bool->Y,tuple->Ax,pointer->A2,string->A3
open Go renaming World->T,Calls->A0,Value->A6
open Go.RowKit renaming intOf->U,Below->A4,Hid->A5
open Go.IntKind renaming i64->X
namespace Go.Proofs.YtoahhnnflblfaaaGreatDoor
open Go.RowKit
theorem BD(k:Int):ic k=0\/ic k=1\/ic k=2\/ic k=3\/ic k=4\/ic k=5\/ic k=6:=by
 unfold ic
 repeat' split
 all_goals simp
theorem py(k:Int)(b:Nat)(w:T):(method 367 (nF (ic k)) (A2 (M ⟨b,0,A1⟩)) "loop.example/warp/impl.head").run O w= .ok (222,A2 (M ⟨b,0,A1⟩)) w:=amE _ b w
def yi(i f:Nat):List UInt8:=(wB i).data.toList++(if f=1 then [42] else if f=2 then [63] else [])
def wS(i f:Nat):ByteArray:=⟨(yi i f).toArray⟩
def wS1(i f:Nat):ByteArray:=⟨((wB i).data.toList++(if f=2 then [63] else [])).toArray⟩
theorem anI:∀i f,i<10->f<3->(⟨(Lib.trimSuffix (wS i f).data.toList [42]).toArray⟩:ByteArray)=wS1 i f/\Lib.hasSuffix (wS i f).data.toList [42]=(f==1)
 |0,0,_,_=>⟨rfl,rfl⟩
 |0,1,_,_=>⟨rfl,rfl⟩
 |0,2,_,_=>⟨rfl,rfl⟩
 |1,0,_,_=>⟨rfl,rfl⟩
 |1,1,_,_=>⟨rfl,rfl⟩
 |1,2,_,_=>⟨rfl,rfl⟩
 |2,0,_,_=>⟨rfl,rfl⟩
 |2,1,_,_=>⟨rfl,rfl⟩
 |2,2,_,_=>⟨rfl,rfl⟩
 |3,0,_,_=>⟨rfl,rfl⟩
 |3,1,_,_=>⟨rfl,rfl⟩
 |3,2,_,_=>⟨rfl,rfl⟩
 |4,0,_,_=>⟨rfl,rfl⟩
 |4,1,_,_=>⟨rfl,rfl⟩
 |4,2,_,_=>⟨rfl,rfl⟩
 |5,0,_,_=>⟨rfl,rfl⟩
 |5,1,_,_=>⟨rfl,rfl⟩
 |5,2,_,_=>⟨rfl,rfl⟩
 |6,0,_,_=>⟨rfl,rfl⟩
 |6,1,_,_=>⟨rfl,rfl⟩
 |6,2,_,_=>⟨rfl,rfl⟩
 |7,0,_,_=>⟨rfl,rfl⟩
 |7,1,_,_=>⟨rfl,rfl⟩
 |7,2,_,_=>⟨rfl,rfl⟩
 |8,0,_,_=>⟨rfl,rfl⟩
 |8,1,_,_=>⟨rfl,rfl⟩
 |8,2,_,_=>⟨rfl,rfl⟩
 |9,0,_,_=>⟨rfl,rfl⟩
 |9,1,_,_=>⟨rfl,rfl⟩
 |9,2,_,_=>⟨rfl,rfl⟩
theorem anJ:∀i f,i<10->f<3->(⟨(Lib.trimSuffix (wS1 i f).data.toList [63]).toArray⟩:ByteArray)=wB i/\Lib.hasSuffix (wS1 i f).data.toList [63]=(f==2)
 |0,0,_,_=>⟨rfl,rfl⟩
 |0,1,_,_=>⟨rfl,rfl⟩
 |0,2,_,_=>⟨rfl,rfl⟩
 |1,0,_,_=>⟨rfl,rfl⟩
 |1,1,_,_=>⟨rfl,rfl⟩
 |1,2,_,_=>⟨rfl,rfl⟩
 |2,0,_,_=>⟨rfl,rfl⟩
 |2,1,_,_=>⟨rfl,rfl⟩
 |2,2,_,_=>⟨rfl,rfl⟩
 |3,0,_,_=>⟨rfl,rfl⟩
 |3,1,_,_=>⟨rfl,rfl⟩
 |3,2,_,_=>⟨rfl,rfl⟩
 |4,0,_,_=>⟨rfl,rfl⟩
 |4,1,_,_=>⟨rfl,rfl⟩
 |4,2,_,_=>⟨rfl,rfl⟩
 |5,0,_,_=>⟨rfl,rfl⟩
 |5,1,_,_=>⟨rfl,rfl⟩
 |5,2,_,_=>⟨rfl,rfl⟩
 |6,0,_,_=>⟨rfl,rfl⟩
 |6,1,_,_=>⟨rfl,rfl⟩
 |6,2,_,_=>⟨rfl,rfl⟩
 |7,0,_,_=>⟨rfl,rfl⟩
 |7,1,_,_=>⟨rfl,rfl⟩
 |7,2,_,_=>⟨rfl,rfl⟩
 |8,0,_,_=>⟨rfl,rfl⟩
 |8,1,_,_=>⟨rfl,rfl⟩
 |8,2,_,_=>⟨rfl,rfl⟩
 |9,0,_,_=>⟨rfl,rfl⟩
 |9,1,_,_=>⟨rfl,rfl⟩
 |9,2,_,_=>⟨rfl,rfl⟩
theorem aay:∀i f,i<10->f<3->(wS i f).size<=10/\(wS1 i f).size<=10
 |0,0,_,_=>by decide
 |0,1,_,_=>by decide
 |0,2,_,_=>by decide
 |1,0,_,_=>by decide
 |1,1,_,_=>by decide
 |1,2,_,_=>by decide
 |2,0,_,_=>by decide
 |2,1,_,_=>by decide
 |2,2,_,_=>by decide
 |3,0,_,_=>by decide
 |3,1,_,_=>by decide
 |3,2,_,_=>by decide
 |4,0,_,_=>by decide
 |4,1,_,_=>by decide
 |4,2,_,_=>by decide
 |5,0,_,_=>by decide
 |5,1,_,_=>by decide
 |5,2,_,_=>by decide
 |6,0,_,_=>by decide
 |6,1,_,_=>by decide
 |6,2,_,_=>by decide
 |7,0,_,_=>by decide
 |7,1,_,_=>by decide
 |7,2,_,_=>by decide
 |8,0,_,_=>by decide
 |8,1,_,_=>by decide
 |8,2,_,_=>by decide
 |9,0,_,_=>by decide
 |9,1,_,_=>by decide
 |9,2,_,_=>by decide
theorem anK(i f:Nat)(b:i<10)(a:f<3)(w:T):A0 O 142 #[S (wS i f),S ⟨#[42]⟩] w fun e g=>e= Q (Ax #[S (wS1 i f),Y (f==1)])/\g=w:=by
 refine fc (Tryz.strings_CutSuffix (wS i f) ⟨#[42]⟩ w (by have:=(aay i f b a).1;omega)) ?_;obtain⟨c,d⟩:=anI i f b a;refine⟨?_,rfl⟩;rw[<-c,<-d]
theorem anL(i f:Nat)(b:i<10)(a:f<3)(w:T):A0 O 142 #[S (wS1 i f),S ⟨#[63]⟩] w fun e g=>e= Q (Ax #[S (wB i),Y (f==2)])/\g=w:=by
 refine fc (Tryz.strings_CutSuffix (wS1 i f) ⟨#[63]⟩ w (by have:=(aay i f b a).2;omega)) ?_;obtain⟨c,d⟩:=anJ i f b a;refine⟨?_,rfl⟩;rw[<-c,<-d]
def im(d:T)(v:A6)(ks:List Int):Prop:=
 (ks=[]/\∃a b,v= V a 0 b)\/∃a b,v= V (M a) ks.length b/\ks.length<=b/\∀f c,ks[f]?=M c->∃e,d.cell? (a.add f)=M (jd c e)/\d.cell? ⟨e,0,A1⟩=M (W X c)
theorem im.below{a b:T}{v:A6}{ks:List Int}(h:im a v ks)(c:A4 a.heap.size a b):im b v ks:=by
 rcases h with h|⟨d,f,j,k,l⟩
 ·exact .inl h
 ·exact .inr ⟨d,f,j,k,fun n o m=>by obtain⟨e,g,i⟩:=l n o m;exact⟨e,ah c g,ah c i⟩⟩
theorem im.form{b:T}{v:A6}{ks:List Int}(h:im b v ks):∃a c,v= V a ks.length c:=by
 rcases h with⟨rfl,a,c,h⟩|⟨a,c,d,e⟩
 ·exact⟨a,c,h⟩
 ·exact⟨_,_,d⟩
theorem im.get{e:T}{a:Option Addr}{n c:Nat}{ks:List Int}(h:im e (V a n c) ks){j:Nat}{k:Int}(f:ks[j]?=M k):∃d b,a=M d/\e.cell? (d.add j)=M (jd k b)/\e.cell? ⟨b,0,A1⟩=M (W X k):=by
 rcases h with⟨rfl,_⟩|⟨d,o,g,_,m⟩
 ·simp at f
 ·cases g;obtain⟨b,i,l⟩:=m j k f;exact⟨d,b,rfl,i,l⟩
def FG(i f:Nat)(ks:List Int):Nat:=if f=1 then(ks.takeWhile (ms i)).length else min 1 (ks.takeWhile (ms i)).length
def ft:List (Nat×Nat)->List Int->Bool
 |[],ks=>ks.isEmpty
 |(i,f)::a,ks=>if FG i f ks=0/\f=0 then false else ft a (ks.drop (FG i f ks))
structure BE (ws:List (Nat×Nat)) (ks:List Int) (R:Bool):Prop where
 out:ft ws ks=R
theorem af2(p:Int->Bool):∀(ks:List Int)(t:Nat),t<=(ks.takeWhile p).length->(t<(ks.takeWhile p).length↔∃k,ks[t]?=M k/\p k=true)
 |[],t,h=>by simp at h;subst h;simp
 |a::r,t,h=>by
  cases hp:p a with
  |false=>
   rw[DJ (by simp[hp])]at h⊢;simp at h;subst h;simp[hp]
  |true=>
   rw[DK (by simp[hp])]at h⊢;cases t with
   |zero=>simp[hp]
   |succ t=>
    simp only[cC]at h⊢;have b:=af2 p r t (by omega);rw[show(t+1<(r.takeWhile p).length+1)↔t<(r.takeWhile p).length by omega,b];simp
theorem am9(p:Int->Bool)(ks:List Int):(ks.takeWhile p).length<=ks.length:=(List.takeWhile_sublist p).length_le
theorem alp(i f:Nat)(ks:List Int):FG i f ks<=ks.length:=by
 have:=am9 (ms i) ks;unfold FG;split<;>omega
theorem alq(i f:Nat)(ks:List Int)(t:Nat)(h:t<=FG i f ks):t<FG i f ks↔(f=1\/t=0)/\∃k,ks[t]?=M k/\ms i k=true:=by
 unfold FG at h⊢;by_cases a:f=1
 ·rw[ab a]at h⊢;rw[af2 _ ks t h];simp[a]
 ·rw[aa a]at h⊢;by_cases b:t=0
  ·subst b;have:=af2 (ms i) ks 0 (aG _);rw[show(0<min 1 (ks.takeWhile (ms i)).length)↔0<(ks.takeWhile (ms i)).length by omega,this];simp
  ·constructor
   ·intro h2;omega
   ·rintro ⟨h2|h2,_⟩
    ·exact absurd h2 a
    ·exact absurd h2 b
theorem nE{i f:Nat}{a:List (Nat×Nat)}{ks:List Int}{R:Bool}(h:BE ((i,f)::a) ks R)(b:¬(FG i f ks=0/\f=0)):BE a (ks.drop (FG i f ks)) R:=by
 have:=h.out;rw[ft,aa b]at this;exact⟨this⟩
theorem yj{i f:Nat}{b:List (Nat×Nat)}{ks:List Int}{R:Bool}(h:BE ((i,f)::b) ks R)(a:FG i f ks=0/\f=0):R=false:=by
 have:=h.out;rw[ft,ab a]at this;exact this.symm
theorem ach{b:Type}{L:List b}{k:Nat}{x:b}(h:L[k]?=M x):L.drop k=x::L.drop (k+1):=by
 have a:=(List.getElem?_eq_some_iff.1 h);rw[ly a.1,a.2]
theorem im.sl{b:T}{a:Option Addr}{L c t:Nat}{ks:List Int}(h:im b (V a L c) ks)(i:ks.length=L)(o:t<=L):im b (V (if c=t then a else Option.map (fun x=>x.add t) a) (L-t) (c-t)) (ks.drop t):=by
 subst i;rcases h with⟨rfl,d,g,e⟩|⟨d,g,e,m,j⟩
 ·exact .inl ⟨by simp,_,_,by rw[show([]:List Int).length-t=0 by simp]⟩
 ·cases e;by_cases n:t=ks.length
  ·exact .inl ⟨by rw[lA (by omega)],_,_,by rw[show ks.length-t=0 by omega]⟩
  ·refine .inr ⟨d.add t,c-t,?_,by rw[ij];omega,fun k l f=>?_⟩
   ·rw[aa (by omega),ij];rfl
   ·rw[qI]at f;rw[Addr.add_add];exact j (t+k) l f
theorem uj(w:T)(row:ByteArray)(q:List (Nat×Nat))(v:A6)(ks:List Int)(b7:Lib.fields row.data.toList=q.map fun x=>yi x.1 x.2)(ce:∀x∈q,x.1<10/\x.2<3)(b8:row.size<4294967281)(b2:∀(j:Nat) b,row.data.toList[j]?=M b->b.toNat<128)(ca:A7 O w "strings.asciiSpace" .u8 Z)(bx:im w v ks)(b3:ks.length<=1048576)(cp:q.length<=1048576):
  A0 O 108 #[S row,v] w fun e cr=>e= Q (Y (ft q ks))/\A4 w.heap.size w cr:=by
 have a8:=Tryz.strings_Fields row w b8 b2 ca;rw[b7]at a8;obtain⟨J,br⟩:=aA (ft q ks);rw[br];have b0:BE q ks J:=⟨br⟩;have a5:A4 w.heap.size w (w.alloc (.cells ((q.map fun x=>yi x.1 x.2).map fun a9=>A3 ⟨a9.toArray⟩).toArray 9)):=(ai _ w).alloc (ag _) _;have bp:=bx.below a5;have bo:∀f m s,q[f]?=M (m,s)->(w.alloc (.cells ((q.map fun x=>yi x.1 x.2).map fun a9=>A3 ⟨a9.toArray⟩).toArray 9)).cell? ⟨w.heap.size,f,A1⟩=M (S (wS m s)):=fun f m s b6=>by
  rw[ay _ _ _ _ _ _ (ar w _)];simp[b6,wS]
 obtain⟨av,bj⟩:=aA q.length;have bE:=aj bj;have cm:=aj ce;have b4:(q.map fun x=>yi x.1 x.2).length=av:=by rw[dL,bj]
 rw[b4]at a8;rw[bj]at cp;obtain⟨cx,cy,rfl⟩:=bx.form;have cl:=aj b3;clear br b7 ce b8 b2 ca bx bj b4 b3;generalize w.alloc (.cells ((q.map fun x=>yi x.1 x.2).map fun a9=>A3 ⟨a9.toArray⟩).toArray 9)=cv at a8 a5 bp bo;have ck:=aj bo;have bl:=aj bp;clear bo bp;generalize c2:ks.length=lk at bl⊢;go_in;go_wp2_with fail;refine a8.mono ?_;rintro e cf ⟨rfl,rfl⟩;clear a8;go_wp2_with fail;go_loop [1,14] (fun cq bD=>∃(f:Nat) (d:List Int),f<=av/\bD= W X f/\A5 (im cf cq d/\d.length<=1048576)/\BE (q.drop f) d J) (fun _ bD=>av-(U bD).toNat)
 case atStart=>exact⟨0,ks,aG _,rfl,⟨bl.out,cl.out⟩,b0⟩
 case round=>
  obtain⟨f,d,b6,rfl,ba,a3⟩:=hrel;clear b0 bl;obtain⟨K,L,rfl⟩:=ba.out.1.form;by_cases cn:f<av
  ·have cB:(f:Int)<(av:Int):=by omega
   have cz:(0:Int)<=(f:Int):=by omega
   obtain⟨⟨m,s⟩,bk⟩:=bH bE.out cn;obtain⟨bf,bt⟩:=cm.out _ (dl bk);simp only at bf bt;have bb:=ck.out f m s bk;have al:A5 (BE ((m,s)::q.drop (f+1)) d J):=by rw[ach bk]at a3;exact a3
   have af:=fun w=>anK m s bf bt w;have ak:=fun w=>anL m s bf bt w;have n:=fun c w=>Eg m bf c w;obtain⟨g,ap⟩:=aA d.length;have C:=aj ap;have bq:=ba.out.2;rw[ap]at bq;have B:A5 (im cf (V K g L) d):=by rw[<-ap];exact ba.out.1
   rw[ap];have cc:=alp m s d;have bA:=alq m s d;obtain⟨F,bs⟩:=aA (FG m s d);rw[bs]at cc bA;rw[ap]at cc;have E:=aj bs;have bn:=aj bA;clear bk a3 ba ap bs bA;generalize wS m s=cs at bb af;generalize wS1 m s=ct at af ak;generalize wB m=cu at ak n;rcases(show s=0\/s=1\/s=2 by omega) with rfl|rfl|rfl
   ·go_wp2_with fail;refine(af _).mono ?_;rintro e t ⟨rfl,rfl⟩;go_wp2_with fail;refine(ak _).mono ?_;rintro e t ⟨rfl,rfl⟩;clear af ak bb;go_wp2_with fail;go_loop [10] (fun I=>∃a:Nat,I= W X a/\a<=F) (fun I=>F-(U I).toNat)
    case atStart=>exact⟨0,rfl,aG _⟩
    case round=>
     obtain⟨a,rfl,a7⟩:=hrel;have l:=bn.out a a7;have b9:(0:Int)<=(a:Int):=by omega
     by_cases a6:a<F
     ·obtain⟨bd,c,k,o⟩:=l.1 a6;obtain⟨r,b,rfl,i,ao⟩:=B.out.get k;have G:(a:Int)<(g:Int):=by omega
      obtain rfl:a=0:=by rcases bd with h|h;exact absurd h (by decide);exact h
      rw[show r.add 0=r from by unfold Addr.add;rw[ab rfl]]at i;have p:=fun w=>n c w;rw[o]at p;have z:=fun w=>py c b w;have A:=fun w=>gl b w;unfold jd at i;generalize nF (ic c)=a2 at i z;clear k o n l;go_wp2_with (first|(go_at_call 143;refine(p _).mono ?_;rintro e t ⟨rfl,rfl⟩)|(go_at_call 222;refine(A _).mono ?_;rintro e t ⟨rfl,rfl⟩));go_round
      case rel=>exact⟨0+1,by go_num,by omega⟩
      case measure=>simp[U];omega
     ·obtain rfl:a=F:=by omega
      by_cases a4:a=0
      ·subst a4;by_cases G:0<g
       ·have H:(0:Int)<(g:Int):=by omega
        obtain⟨c,k⟩:=bH C.out G;have o:ms m c=false:=by
         cases h:ms m c
         ·rfl
         ·exact absurd (l.2 ⟨.inr rfl,c,k,h⟩) (by omega)
        obtain⟨r,b,am,i,ao⟩:=B.out.get k;subst am;rw[show r.add 0=r from by unfold Addr.add;rw[ab rfl]]at i;have p:=fun w=>n c w;rw[o]at p;have z:=fun w=>py c b w;have A:=fun w=>gl b w;unfold jd at i;generalize nF (ic c)=a2 at i z;clear k o n l;go_wp2_with (first|(go_at_call 143;refine(p _).mono ?_;rintro e an ⟨rfl,rfl⟩)|(go_at_call 222;refine(A _).mono ?_;rintro e an ⟨rfl,rfl⟩));go_ret;exact⟨by rw[yj al.out ⟨E.out,rfl⟩];rfl,a5⟩
       ·have H:¬(0:Int)<(g:Int):=by omega
        clear l n;go_wp2_with fail;go_ret;exact⟨by rw[yj al.out ⟨E.out,rfl⟩];rfl,a5⟩
      ·have y:A5 (BE (q.drop (f+1)) (d.drop a) J):=by
        have h:=nE al.out (by rw[E.out];omega);rw[E.out]at h;exact h
       have u:A5 (im t (V (if L=a then K else Option.map (fun x=>x.add a) K) (g-a) (L-a)) (d.drop a)/\(d.drop a).length<=1048576):=⟨B.out.sl C.out (by omega),by rw[ij,C.out];omega⟩;have cb:¬(a:Int)=0:=by omega
       by_cases G:a<g
       ·have H:(a:Int)<(g:Int):=by omega
        clear l n;go_wp2_with fail;exact⟨⟨f+1,d.drop a,by omega,by go_num,u.out,y.out⟩,by simp[U];omega⟩
       ·have H:¬(a:Int)<(g:Int):=by omega
        clear l n;go_wp2_with fail;exact⟨⟨f+1,d.drop a,by omega,by go_num,u.out,y.out⟩,by simp[U];omega⟩
   ·go_wp2_with fail;refine(af _).mono ?_;rintro e t ⟨rfl,rfl⟩;go_wp2_with fail;refine(ak _).mono ?_;rintro e t ⟨rfl,rfl⟩;clear af ak bb;go_wp2_with fail;go_loop [10] (fun I=>∃a:Nat,I= W X a/\a<=F) (fun I=>F-(U I).toNat)
    case atStart=>exact⟨0,rfl,aG _⟩
    case round=>
     obtain⟨a,rfl,a7⟩:=hrel;have l:=bn.out a a7;have b9:(0:Int)<=(a:Int):=by omega
     by_cases a6:a<F
     ·obtain⟨bd,c,k,o⟩:=l.1 a6;obtain⟨r,b,rfl,i,ao⟩:=B.out.get k;have G:(a:Int)<(g:Int):=by omega
      have p:=fun w=>n c w;rw[o]at p;have z:=fun w=>py c b w;have A:=fun w=>gl b w;unfold jd at i;generalize nF (ic c)=a2 at i z;clear k o n l;go_wp2_with (first|(go_at_call 143;refine(p _).mono ?_;rintro e t ⟨rfl,rfl⟩)|(go_at_call 222;refine(A _).mono ?_;rintro e t ⟨rfl,rfl⟩));go_round
      case rel=>exact⟨a+1,by go_num,by omega⟩
      case measure=>simp[U];omega
     ·obtain rfl:a=F:=by omega
      by_cases a4:a=0
      ·subst a4;have y:A5 (BE (q.drop (f+1)) d J):=by
        have h:=nE al.out (by rw[E.out];omega);rw[E.out,jt]at h;exact h
       have u:A5 (im t (V K g L) d/\d.length<=1048576):=⟨B.out,by rw[C.out];exact bq⟩;by_cases G:0<g
       ·have H:(0:Int)<(g:Int):=by omega
        obtain⟨c,k⟩:=bH C.out G;have o:ms m c=false:=by
         cases h:ms m c
         ·rfl
         ·exact absurd (l.2 ⟨.inl (by first|rfl|trivial),c,k,h⟩) (by omega)
        obtain⟨r,b,am,i,ao⟩:=B.out.get k;subst am;rw[show r.add 0=r from by unfold Addr.add;rw[ab rfl]]at i;have p:=fun w=>n c w;rw[o]at p;have z:=fun w=>py c b w;have A:=fun w=>gl b w;unfold jd at i;generalize nF (ic c)=a2 at i z;clear k o n l;go_wp2_with (first|(go_at_call 143;refine(p _).mono ?_;rintro e an ⟨rfl,rfl⟩)|(go_at_call 222;refine(A _).mono ?_;rintro e an ⟨rfl,rfl⟩));exact⟨⟨f+1,d,by omega,by go_num,u.out,y.out⟩,by simp[U];omega⟩
       ·have H:¬(0:Int)<(g:Int):=by omega
        clear l n;go_wp2_with fail;exact⟨⟨f+1,d,by omega,by go_num,u.out,y.out⟩,by simp[U];omega⟩
      ·have y:A5 (BE (q.drop (f+1)) (d.drop a) J):=by
        have h:=nE al.out (by rw[E.out];omega);rw[E.out]at h;exact h
       have u:A5 (im t (V (if L=a then K else Option.map (fun x=>x.add a) K) (g-a) (L-a)) (d.drop a)/\(d.drop a).length<=1048576):=⟨B.out.sl C.out (by omega),by rw[ij,C.out];omega⟩;have cb:¬(a:Int)=0:=by omega
       by_cases G:a<g
       ·have H:(a:Int)<(g:Int):=by omega
        obtain⟨c,k⟩:=bH C.out G;have o:ms m c=false:=by
         cases h:ms m c
         ·rfl
         ·exact absurd (l.2 ⟨.inl (by first|rfl|trivial),c,k,h⟩) (by omega)
        obtain⟨r,b,am,i,ao⟩:=B.out.get k;subst am;have p:=fun w=>n c w;rw[o]at p;have z:=fun w=>py c b w;have A:=fun w=>gl b w;unfold jd at i;generalize nF (ic c)=a2 at i z;clear k o n l;go_wp2_with (first|(go_at_call 143;refine(p _).mono ?_;rintro e an ⟨rfl,rfl⟩)|(go_at_call 222;refine(A _).mono ?_;rintro e an ⟨rfl,rfl⟩));exact⟨⟨f+1,d.drop a,by omega,by go_num,u.out,y.out⟩,by simp[U];omega⟩
       ·have H:¬(a:Int)<(g:Int):=by omega
        clear l n;go_wp2_with fail;exact⟨⟨f+1,d.drop a,by omega,by go_num,u.out,y.out⟩,by simp[U];omega⟩
   ·go_wp2_with fail;refine(af _).mono ?_;rintro e t ⟨rfl,rfl⟩;go_wp2_with fail;refine(ak _).mono ?_;rintro e t ⟨rfl,rfl⟩;clear af ak bb;go_wp2_with fail;go_loop [10] (fun I=>∃a:Nat,I= W X a/\a<=F) (fun I=>F-(U I).toNat)
    case atStart=>exact⟨0,rfl,aG _⟩
    case round=>
     obtain⟨a,rfl,a7⟩:=hrel;have l:=bn.out a a7;have b9:(0:Int)<=(a:Int):=by omega
     by_cases a6:a<F
     ·obtain⟨bd,c,k,o⟩:=l.1 a6;obtain⟨r,b,rfl,i,ao⟩:=B.out.get k;have G:(a:Int)<(g:Int):=by omega
      obtain rfl:a=0:=by rcases bd with h|h;exact absurd h (by decide);exact h
      rw[show r.add 0=r from by unfold Addr.add;rw[ab rfl]]at i;have p:=fun w=>n c w;rw[o]at p;have z:=fun w=>py c b w;have A:=fun w=>gl b w;unfold jd at i;generalize nF (ic c)=a2 at i z;clear k o n l;go_wp2_with (first|(go_at_call 143;refine(p _).mono ?_;rintro e t ⟨rfl,rfl⟩)|(go_at_call 222;refine(A _).mono ?_;rintro e t ⟨rfl,rfl⟩));go_round
      case rel=>exact⟨0+1,by go_num,by omega⟩
      case measure=>simp[U];omega
     ·obtain rfl:a=F:=by omega
      by_cases a4:a=0
      ·subst a4;have y:A5 (BE (q.drop (f+1)) d J):=by
        have h:=nE al.out (by rw[E.out];omega);rw[E.out,jt]at h;exact h
       have u:A5 (im t (V K g L) d/\d.length<=1048576):=⟨B.out,by rw[C.out];exact bq⟩;by_cases G:0<g
       ·have H:(0:Int)<(g:Int):=by omega
        obtain⟨c,k⟩:=bH C.out G;have o:ms m c=false:=by
         cases h:ms m c
         ·rfl
         ·exact absurd (l.2 ⟨.inr rfl,c,k,h⟩) (by omega)
        obtain⟨r,b,am,i,ao⟩:=B.out.get k;subst am;rw[show r.add 0=r from by unfold Addr.add;rw[ab rfl]]at i;have p:=fun w=>n c w;rw[o]at p;have z:=fun w=>py c b w;have A:=fun w=>gl b w;unfold jd at i;generalize nF (ic c)=a2 at i z;clear k o n l;go_wp2_with (first|(go_at_call 143;refine(p _).mono ?_;rintro e an ⟨rfl,rfl⟩)|(go_at_call 222;refine(A _).mono ?_;rintro e an ⟨rfl,rfl⟩));exact⟨⟨f+1,d,by omega,by go_num,u.out,y.out⟩,by simp[U];omega⟩
       ·have H:¬(0:Int)<(g:Int):=by omega
        clear l n;go_wp2_with fail;exact⟨⟨f+1,d,by omega,by go_num,u.out,y.out⟩,by simp[U];omega⟩
      ·have y:A5 (BE (q.drop (f+1)) (d.drop a) J):=by
        have h:=nE al.out (by rw[E.out];omega);rw[E.out]at h;exact h
       have u:A5 (im t (V (if L=a then K else Option.map (fun x=>x.add a) K) (g-a) (L-a)) (d.drop a)/\(d.drop a).length<=1048576):=⟨B.out.sl C.out (by omega),by rw[ij,C.out];omega⟩;have cb:¬(a:Int)=0:=by omega
       by_cases G:a<g
       ·have H:(a:Int)<(g:Int):=by omega
        clear l n;go_wp2_with fail;exact⟨⟨f+1,d.drop a,by omega,by go_num,u.out,y.out⟩,by simp[U];omega⟩
       ·have H:¬(a:Int)<(g:Int):=by omega
        clear l n;go_wp2_with fail;exact⟨⟨f+1,d.drop a,by omega,by go_num,u.out,y.out⟩,by simp[U];omega⟩
  ·obtain rfl:f=av:=by omega
   have bw:=a3.out;rw[lA (by rw[bE.out];exact ag _),ft]at bw;have b5:((d.length:Int)==0)=J:=by
    rw[<-bw];cases d with
    |nil=>rfl
    |cons x c3=>simp;omega
   have b1:=aj b5;clear b5 bw a3;generalize d.length=g at b1⊢;go_wp2_with fail;go_ret;exact⟨by rw[<-b1.out];rfl,a5⟩
def ub:Int->ByteArray
 |1=>⟨#[115,116,97,116,42]⟩
 |2=>⟨#[101,120,112,114,42]⟩
 |3=>⟨#[101,120,112,114]⟩
 |4=>⟨#[102,110]⟩
 |6=>⟨#[99,97,108,108]⟩
 |7=>⟨#[101,120,112,114,32,98,108,111,99,107,32,101,108,115,101,63]⟩
 |8=>⟨#[101,120,112,114,32,98,108,111,99,107]⟩
 |9=>⟨#[101,120,112,114,32,101,120,112,114,32,101,120,112,114,63,32,98,108,111,99,107]⟩
 |10=>⟨#[101,120,112,114,32,98,108,111,99,107]⟩
 |11=>⟨#[]⟩
 |12=>⟨#[]⟩
 |13=>⟨#[101,120,112,114,42]⟩
 |14=>⟨#[98,108,111,99,107,32,98,108,111,99,107]⟩
 |15=>⟨#[101,120,112,114]⟩
 |16=>⟨#[99,97,108,108]⟩
 |20=>⟨#[]⟩
 |21=>⟨#[]⟩
 |22=>⟨#[]⟩
 |23=>⟨#[]⟩
 |24=>⟨#[]⟩
 |25=>⟨#[]⟩
 |26=>⟨#[]⟩
 |27=>⟨#[]⟩
 |28=>⟨#[101,120,112,114,32,101,120,112,114]⟩
 |29=>⟨#[101,120,112,114,32,101,120,112,114]⟩
 |30=>⟨#[101,120,112,114]⟩
 |31=>⟨#[101,120,112,114,32,101,120,112,114]⟩
 |32=>⟨#[98,97,115,101,32,101,120,112,114]⟩
 |33=>⟨#[98,97,115,101]⟩
 |34=>⟨#[98,97,115,101,32,101,120,112,114,42]⟩
 |35=>⟨#[101,110,116,114,121,42]⟩
 |36=>⟨#[98,108,111,99,107]⟩
 |37=>⟨#[109,97,110,121]⟩
 |40=>⟨#[101,120,112,114]⟩
 |41=>⟨#[101,120,112,114,32,101,120,112,114]⟩
 |42=>⟨#[101,120,112,114]⟩
 |_=>⟨#[]⟩
def J6:Int->Option (List (Nat×Nat))
 |1=>M [(0,1)]
 |2=>M [(3,1)]
 |3=>M [(3,0)]
 |4=>M [(8,0)]
 |6=>M [(6,0)]
 |7=>M [(3,0),(1,0),(2,2)]
 |8=>M [(3,0),(1,0)]
 |9=>M [(3,0),(3,0),(3,2),(1,0)]
 |10=>M [(3,0),(1,0)]
 |11=>M []
 |12=>M []
 |13=>M [(3,1)]
 |14=>M [(1,0),(1,0)]
 |15=>M [(3,0)]
 |16=>M [(6,0)]
 |20=>M []
 |21=>M []
 |22=>M []
 |23=>M []
 |24=>M []
 |25=>M []
 |26=>M []
 |27=>M []
 |28=>M [(3,0),(3,0)]
 |29=>M [(3,0),(3,0)]
 |30=>M [(3,0)]
 |31=>M [(3,0),(3,0)]
 |32=>M [(4,0),(3,0)]
 |33=>M [(4,0)]
 |34=>M [(4,0),(3,1)]
 |35=>M [(9,1)]
 |36=>M [(1,0)]
 |37=>M [(7,0)]
 |40=>M [(3,0)]
 |41=>M [(3,0),(3,0)]
 |42=>M [(3,0)]
 |_=>A1
def mA:List Int:=[1,2,3,4,6,7,8,9,10,11,12,13,14,15,16,20,21,22,23,24,25,26,27,28,29,30,31,32,33,34,35,36,37,40,41,42]
theorem Fj(k:Int)(h:k ∉ mA):J6 k=A1/\ub k=⟨#[]⟩:=by
 simp only[mA,jI,lE,lF,not_or]at h;obtain⟨a,j,v,F,J,K,L,af,b,c,d,e,f,g,i,l,m,n,o,p,q,r,s,t,u,w,x,y,z,A,B,C,E,G,H,I⟩:=h;constructor
 ·unfold J6;split<;>first|rfl|contradiction
 ·unfold ub;split<;>first|rfl|contradiction
theorem Hv(k:Int)(h:k∈mA):∃a,J6 k=M a/\Lib.fields (ub k).data.toList=a.map (fun x=>yi x.1 x.2)/\(∀x∈a,x.1<10/\x.2<3)/\(ub k).size<100/\(∀(j:Nat) b,(ub k).data.toList[j]?=M b->b.toNat<128)/\a.length<10:=by
 have d:∀(c:List UInt8),(c.all fun b=>decide (b.toNat<128))=true->∀(j:Nat) b,c[j]?=M b->b.toNat<128:=fun c f j b e=>by simpa using List.all_eq_true.1 f b (dl e)
 simp only[mA,jI,lE,lF]at h;rcases h with rfl|rfl|rfl|rfl|rfl|rfl|rfl|rfl|rfl|rfl|rfl|rfl|rfl|rfl|rfl|rfl|rfl|rfl|rfl|rfl|rfl|rfl|rfl|rfl|rfl|rfl|rfl|rfl|rfl|rfl|rfl|rfl|rfl|rfl|rfl|rfl;all_goals exact⟨_,rfl,rfl,by decide,by decide,d _ (by decide),by decide⟩
theorem af3(k:Int)(w:T)(h:k=1\/k=2\/k=3\/k=4\/k=6\/k=7\/k=8\/k=9\/k=10):A0 O 109 #[W X k] w fun e a=>e= Q (Ax #[S (ub k),Y true])/\a=w:=by
 rcases h with rfl|rfl|rfl|rfl|rfl|rfl|rfl|rfl|rfl;all_goals
  simp only[ub];go_in;go_wp2;go_ret2;exact⟨rfl,rfl⟩
theorem af4(k:Int)(w:T)(h:k=11\/k=12\/k=13\/k=14\/k=15\/k=16\/k=20\/k=21\/k=22):A0 O 109 #[W X k] w fun e a=>e= Q (Ax #[S (ub k),Y true])/\a=w:=by
 rcases h with rfl|rfl|rfl|rfl|rfl|rfl|rfl|rfl|rfl;all_goals
  simp only[ub];go_in;go_wp2;go_ret2;exact⟨rfl,rfl⟩
theorem af5(k:Int)(w:T)(h:k=23\/k=24\/k=25\/k=26\/k=27\/k=28\/k=29\/k=30\/k=31):A0 O 109 #[W X k] w fun e a=>e= Q (Ax #[S (ub k),Y true])/\a=w:=by
 rcases h with rfl|rfl|rfl|rfl|rfl|rfl|rfl|rfl|rfl;all_goals
  simp only[ub];go_in;go_wp2;go_ret2;exact⟨rfl,rfl⟩
theorem af6(k:Int)(w:T)(h:k=32\/k=33\/k=34\/k=35\/k=36\/k=37\/k=40\/k=41\/k=42):A0 O 109 #[W X k] w fun e a=>e= Q (Ax #[S (ub k),Y true])/\a=w:=by
 rcases h with rfl|rfl|rfl|rfl|rfl|rfl|rfl|rfl|rfl;all_goals
  simp only[ub];go_in;go_wp2;go_ret2;exact⟨rfl,rfl⟩
theorem aci(k:Int)(w:T)(h:k ∉ mA):A0 O 109 #[W X k] w fun e a=>e= Q (Ax #[S ⟨#[]⟩,Y false])/\a=w:=by
 simp only[mA,jI,lE,lF,not_or]at h;obtain⟨b,m,y,I,af,ak,al,am,c,d,f,g,i,j,l,n,o,p,q,r,s,t,u,v,x,z,A,B,C,E,F,G,H,J,K,L⟩:=h;go_in;go_wp2;go_ret2;exact⟨rfl,rfl⟩
theorem Hw(k:Int)(w:T):A0 O 109 #[W X k] w fun e c=>e= Q (Ax #[S (ub k),Y (J6 k).isSome])/\c=w:=by
 by_cases h:k∈mA
 ·obtain⟨d,a,_⟩:=Hv k h;rw[a,Option.isSome_some];simp only[mA,jI,lE,lF]at h;rcases(show(k=1\/k=2\/k=3\/k=4\/k=6\/k=7\/k=8\/k=9\/k=10)\/(k=11\/k=12\/k=13\/k=14\/k=15\/k=16\/k=20\/k=21\/k=22)\/(k=23\/k=24\/k=25\/k=26\/k=27\/k=28\/k=29\/k=30\/k=31)\/(k=32\/k=33\/k=34\/k=35\/k=36\/k=37\/k=40\/k=41\/k=42) by omega) with h|h|h|h
  ·exact af3 k w h
  ·exact af4 k w h
  ·exact af5 k w h
  ·exact af6 k w h
 ·obtain⟨a,b⟩:=Fj k h;rw[a,b];exact aci k w h
def Cy(n:Nat):List (Nat×Nat):=List.replicate n (5,0)++[(3,0),(3,1)]
def Hx(n:Nat):ByteArray:=⟨(N [116,97,114,103,101,116,32] n).toArray⟩++⟨#[101,120,112,114,32,101,120,112,114,42]⟩
theorem xC(n:Nat):(Hx n).data.toList=N [116,97,114,103,101,116,32] n++[101,120,112,114,32,101,120,112,114,42]:=by
 unfold Hx;rw[js];simp
theorem yl:∀n,Lib.fields (N [116,97,114,103,101,116,32] n++[101,120,112,114,32,101,120,112,114,42])=(Cy n).map fun x=>yi x.1 x.2
 |0=>by decide
 |n+1=>by
  have b:=yl n;have a:Lib.fields (N [116,97,114,103,101,116,32] (n+1)++[101,120,112,114,32,101,120,112,114,42])=[116,97,114,103,101,116]::Lib.fields (N [116,97,114,103,101,116,32] n++[101,120,112,114,32,101,120,112,114,42]):=by
   rw[N];rfl
  rw[a,b];rfl
theorem J7(n:Nat):∀(j:Nat) b,(Hx n).data.toList[j]?=M b->b.toNat<128:=by
 rw[xC];have c:∀(a:List UInt8),(a.all fun b=>decide (b.toNat<128))=true->∀b∈a,b.toNat<128:=fun a d b hb=>by simpa using List.all_eq_true.1 d b hb
 have e:∀n,∀b∈N [116,97,114,103,101,116,32] n,b.toNat<128:=by
  intro n
  induction n with
  |zero=>intro b hb;simp[N]at hb
  |succ n f=>
   intro b hb;rw[N]at hb;rcases List.mem_append.1 hb with hb|hb
   ·exact c _ (by decide) b hb
   ·exact f b hb
 intro j b hb;rcases List.mem_append.1 (dl hb) with h|h
 ·exact e n b h
 ·exact c _ (by decide) b h
theorem acj(n:Nat):(Hx n).size=7*n+10:=by
 have a:=congrArg List.length (xC n);rw[aF,Lib.repeatL_length]at a;simp at a;have b:(Hx n).size=(Hx n).data.size:=rfl;omega
theorem ais(n:Nat):∀x∈Cy n,x.1<10/\x.2<3:=by
 intro x hx;unfold Cy at hx;rcases List.mem_append.1 hx with hx|hx
 ·rw[(List.mem_replicate.1 hx).2];decide
 ·simp at hx;rcases hx with rfl|rfl<;>decide
theorem Hy(w:T)(b:Nat)(v u y x z:Int)(n:Nat)(r:n<=200)(vk:A6)(ks:List Int)(h:im w vk ks)(q:ks.length<=1048576)(k:∀a,A4 w.heap.size w a->A7 O a "strings.asciiSpace" .u8 Z)
  (g:w.heap[b]?=M (.cells #[W X v,W X u,W X y,W X x,W X z,vk,W X (n:Int)] 145 (0,0))):
  A0 O 51 #[.iface 143 (A2 (M ⟨b,0,A1⟩))] w fun e A=>e= Q (Y (ft (Cy n) ks))/\A4 w.heap.size w A:=by
 have H:=fun w=>asT b w 143 (by decide);have i:=I2 n w r;have c:=fun a (j:A4 w.heap.size w a)=>uj a (Hx n) (Cy n) vk ks (by rw[xC];exact yl n) (ais n) (by rw[acj];omega) (J7 n) (k a j) (h.below j) q (by unfold Cy;rw[aF,List.length_replicate];simp;omega);obtain⟨m,o,rfl⟩:=h.form;have d:w.cell? ⟨b,5,A1⟩=M (V m ks.length o):=by rw[ay _ _ _ _ _ _ g];rfl
 have G:w.cell? ⟨b,6,A1⟩=M (W X (n:Int)):=by rw[ay _ _ _ _ _ _ g];rfl
 have I:((⟨#[101,120,112,114,32,101,120,112,114,42]⟩:ByteArray)).size=10:=rfl;have s:((⟨(N [116,97,114,103,101,116,32] n).toArray⟩:ByteArray)).size=7*n:=by
  have e:((⟨(N [116,97,114,103,101,116,32] n).toArray⟩:ByteArray)).size=(N [116,97,114,103,101,116,32] n).length:=by simp[ByteArray.size]
  rw[e,Lib.repeatL_length];simp;omega
 unfold Hx at c;generalize ft (Cy n) ks=E at c⊢;generalize ks.length=C at c d;generalize (⟨(N [116,97,114,103,101,116,32] n).toArray⟩:ByteArray)=F at c i s;have l:=aj d;clear g h k d;go_in;go_wp2_with fail;refine i.mono ?_;rintro e B ⟨rfl,f⟩;have d:=ah f l.out;have t:=c B f;clear c i;go_wp2_with fail;refine t.mono ?_;rintro e J ⟨rfl,p⟩;go_wp2_with fail;go_ret;exact⟨rfl,f.trans (p.mono f.size)⟩
theorem asS(k:Int)(h:ic k≠1)(b:Nat)(w:T):(Instr.typeAssert (.iface (nF (ic k)) (A2 (M ⟨b,0,A1⟩))) 51 143 true).run O w= .ok (Ax #[A2 A1,Y false]) w:=by
 have a:=h;rcases BD k with g|g|g|g|g|g|g<;>rw[g]at a⊢;all_goals first|exact absurd rfl a|exact asF b w _ _ (by decide) (by decide) (by decide)
def rkB(k:Int)(ks:List Int):Bool:=match J6 k with|some a=>ft a ks|none=>false
theorem Hz(w:T)(b:Nat)(k:Int)(i:ic k≠1)(vk:A6)(ks:List Int)(f:im w vk ks)(v:ks.length<=1048576)(j:A7 O w "strings.asciiSpace" .u8 Z)
  (E:w.cell? ⟨b,0,A1⟩=M (W X k)) (r:w.cell? ⟨b,5,A1⟩=M vk):
  A0 O 51 #[jd k b] w fun e y=>e= Q (Y (rkB k ks))/\A4 w.heap.size w y:=by
 have n:=fun w=>asS k i b w;have o:=fun w=>py k b w;have p:=fun w=>gl b w;have a:=fun w=>Hw k w;unfold jd rkB;by_cases g:k∈mA
 ·obtain⟨q,c,d,l,s,m,t⟩:=Hv k g;have h:=uj w (ub k) q vk ks d l (by omega) m j f v (by omega);rw[c]at a⊢;simp only[Option.isSome_some]at a⊢;obtain⟨C,F,rfl⟩:=f.form;generalize ks.length=z at h r;generalize ft q ks=A at h⊢;generalize ub k=B at h a;generalize nF (ic k)=x at n o⊢;clear f j d l s m t c g i;go_in;go_wp2_with (first|(go_at_call 222;refine fc (p _) ?_)|(go_at_call 109;refine fc (a _) ?_)|(go_at_call 108;refine h.mono ?_;rintro e G ⟨rfl,u⟩));go_ret;exact⟨rfl,u⟩
 ·obtain⟨c,d⟩:=Fj k g;rw[c,d]at a;rw[c];simp only[Option.isSome_none]at a⊢;generalize nF (ic k)=x at n o⊢;clear f j g i c d;go_in;go_wp2_with (first|(go_at_call 222;refine fc (p _) ?_)|(go_at_call 109;refine fc (a _) ?_));go_ret;exact⟨rfl,ai _ _⟩
