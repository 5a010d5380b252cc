import Derived.Test.YthjpdjibdnecoaaGreatDoorHQk12
import Derived.Test.YthjpdjibdnecoaaGreatDoorHQk11
set_option linter.all false
set_option maxRecDepth 100000
set_option maxHeartbeats 12800000
open Go.RowKit renaming intOf->M,Hid->V
open Go.Value renaming slice->N,string->Q,string->U,int->X
open Option renaming some->O,none->Z
open Go.Proofs.Tryz renaming prog->S
open Go renaming World->T,Value->Y
namespace Go.Proofs.YthjpdjibdnecoaaGreatDoor
open Go.RowKit
theorem Cw(k:Int):dF k=0\/dF k=1\/dF k=2\/dF k=3\/dF k=4\/dF k=5\/dF k=6:=by
 unfold dF
 repeat' split
 all_goals simp
theorem qH(k:Int)(b:Nat)(w:T):(method 466 (nH (dF k)) (.pointer (O ⟨b,0,Z⟩)) "loop.example/warp/impl.head").run S w= .ok (301,.pointer (O ⟨b,0,Z⟩)) w:=Dy _ b w
def zG(i f:Nat):List UInt8:=(wB i).data.toList++(if f=1 then [42] else if f=2 then [63] else [])
def wS(i f:Nat):ByteArray:=⟨(zG i f).toArray⟩
def wS1(i f:Nat):ByteArray:=⟨((wB i).data.toList++(if f=2 then [63] else [])).toArray⟩
theorem anh:∀i f,i<10->f<3->(⟨(Lib.trimSuffix (wS i f).data.toList [42]).toArray⟩:ByteArray)=wS1 i f/\Lib.hasSuffix (wS i f).data.toList [42]=(f==1)
 |0,0,_,_=>⟨rfl,rfl⟩
 |0,1,_,_=>⟨rfl,rfl⟩
 |0,2,_,_=>⟨rfl,rfl⟩
 |1,0,_,_=>⟨rfl,rfl⟩
 |1,1,_,_=>⟨rfl,rfl⟩
 |1,2,_,_=>⟨rfl,rfl⟩
 |2,0,_,_=>⟨rfl,rfl⟩
 |2,1,_,_=>⟨rfl,rfl⟩
 |2,2,_,_=>⟨rfl,rfl⟩
 |3,0,_,_=>⟨rfl,rfl⟩
 |3,1,_,_=>⟨rfl,rfl⟩
 |3,2,_,_=>⟨rfl,rfl⟩
 |4,0,_,_=>⟨rfl,rfl⟩
 |4,1,_,_=>⟨rfl,rfl⟩
 |4,2,_,_=>⟨rfl,rfl⟩
 |5,0,_,_=>⟨rfl,rfl⟩
 |5,1,_,_=>⟨rfl,rfl⟩
 |5,2,_,_=>⟨rfl,rfl⟩
 |6,0,_,_=>⟨rfl,rfl⟩
 |6,1,_,_=>⟨rfl,rfl⟩
 |6,2,_,_=>⟨rfl,rfl⟩
 |7,0,_,_=>⟨rfl,rfl⟩
 |7,1,_,_=>⟨rfl,rfl⟩
 |7,2,_,_=>⟨rfl,rfl⟩
 |8,0,_,_=>⟨rfl,rfl⟩
 |8,1,_,_=>⟨rfl,rfl⟩
 |8,2,_,_=>⟨rfl,rfl⟩
 |9,0,_,_=>⟨rfl,rfl⟩
 |9,1,_,_=>⟨rfl,rfl⟩
 |9,2,_,_=>⟨rfl,rfl⟩
theorem ani:∀i f,i<10->f<3->(⟨(Lib.trimSuffix (wS1 i f).data.toList [63]).toArray⟩:ByteArray)=wB i/\Lib.hasSuffix (wS1 i f).data.toList [63]=(f==2)
 |0,0,_,_=>⟨rfl,rfl⟩
 |0,1,_,_=>⟨rfl,rfl⟩
 |0,2,_,_=>⟨rfl,rfl⟩
 |1,0,_,_=>⟨rfl,rfl⟩
 |1,1,_,_=>⟨rfl,rfl⟩
 |1,2,_,_=>⟨rfl,rfl⟩
 |2,0,_,_=>⟨rfl,rfl⟩
 |2,1,_,_=>⟨rfl,rfl⟩
 |2,2,_,_=>⟨rfl,rfl⟩
 |3,0,_,_=>⟨rfl,rfl⟩
 |3,1,_,_=>⟨rfl,rfl⟩
 |3,2,_,_=>⟨rfl,rfl⟩
 |4,0,_,_=>⟨rfl,rfl⟩
 |4,1,_,_=>⟨rfl,rfl⟩
 |4,2,_,_=>⟨rfl,rfl⟩
 |5,0,_,_=>⟨rfl,rfl⟩
 |5,1,_,_=>⟨rfl,rfl⟩
 |5,2,_,_=>⟨rfl,rfl⟩
 |6,0,_,_=>⟨rfl,rfl⟩
 |6,1,_,_=>⟨rfl,rfl⟩
 |6,2,_,_=>⟨rfl,rfl⟩
 |7,0,_,_=>⟨rfl,rfl⟩
 |7,1,_,_=>⟨rfl,rfl⟩
 |7,2,_,_=>⟨rfl,rfl⟩
 |8,0,_,_=>⟨rfl,rfl⟩
 |8,1,_,_=>⟨rfl,rfl⟩
 |8,2,_,_=>⟨rfl,rfl⟩
 |9,0,_,_=>⟨rfl,rfl⟩
 |9,1,_,_=>⟨rfl,rfl⟩
 |9,2,_,_=>⟨rfl,rfl⟩
theorem aaF:∀i f,i<10->f<3->(wS i f).size<=10/\(wS1 i f).size<=10
 |0,0,_,_=>by decide
 |0,1,_,_=>by decide
 |0,2,_,_=>by decide
 |1,0,_,_=>by decide
 |1,1,_,_=>by decide
 |1,2,_,_=>by decide
 |2,0,_,_=>by decide
 |2,1,_,_=>by decide
 |2,2,_,_=>by decide
 |3,0,_,_=>by decide
 |3,1,_,_=>by decide
 |3,2,_,_=>by decide
 |4,0,_,_=>by decide
 |4,1,_,_=>by decide
 |4,2,_,_=>by decide
 |5,0,_,_=>by decide
 |5,1,_,_=>by decide
 |5,2,_,_=>by decide
 |6,0,_,_=>by decide
 |6,1,_,_=>by decide
 |6,2,_,_=>by decide
 |7,0,_,_=>by decide
 |7,1,_,_=>by decide
 |7,2,_,_=>by decide
 |8,0,_,_=>by decide
 |8,1,_,_=>by decide
 |8,2,_,_=>by decide
 |9,0,_,_=>by decide
 |9,1,_,_=>by decide
 |9,2,_,_=>by decide
theorem anj(i f:Nat)(b:i<10)(a:f<3)(w:T):Calls S 227 #[Q (wS i f),Q ⟨#[42]⟩] w fun e g=>e= .returned (.tuple #[Q (wS1 i f),.bool (f==1)])/\g=w:=by
 refine dK (Tryz.strings_CutSuffix (wS i f) ⟨#[42]⟩ w (by have:=(aaF i f b a).1;omega)) ?_;obtain⟨c,d⟩:=anh i f b a;refine⟨?_,rfl⟩;rw[<-c,<-d]
theorem ank(i f:Nat)(b:i<10)(a:f<3)(w:T):Calls S 227 #[Q (wS1 i f),Q ⟨#[63]⟩] w fun e g=>e= .returned (.tuple #[Q (wB i),.bool (f==2)])/\g=w:=by
 refine dK (Tryz.strings_CutSuffix (wS1 i f) ⟨#[63]⟩ w (by have:=(aaF i f b a).2;omega)) ?_;obtain⟨c,d⟩:=ani i f b a;refine⟨?_,rfl⟩;rw[<-c,<-d]
def gB(W:T)(v:Y)(ks:List Int):Prop:=
 (ks=[]/\∃a b,v= N a 0 b)\/∃a b,v= N (O a) ks.length b/\ks.length<=b/\∀e c,ks[e]?=O c->∃d,W.cell? (a.add e)=O (ey c d)/\W.cell? ⟨d,0,Z⟩=O (X .i64 c)
theorem gB.below{W a:T}{v:Y}{ks:List Int}(h:gB W v ks)(b:Below W.heap.size W a):gB a v ks:=by
 rcases h with h|⟨c,e,i,j,k⟩
 ·exact .inl h
 ·exact .inr ⟨c,e,i,j,fun m n l=>by obtain⟨d,f,g⟩:=k m n l;exact⟨d,ai b f,ai b g⟩⟩
theorem gB.form{W:T}{v:Y}{ks:List Int}(h:gB W v ks):∃a c,v= N a ks.length c:=by
 rcases h with⟨rfl,a,c,h⟩|⟨a,c,b,d⟩
 ·exact⟨a,c,h⟩
 ·exact⟨_,_,b⟩
theorem gB.get{W:T}{a:Option Addr}{n c:Nat}{ks:List Int}(h:gB W (N a n c) ks){j:Nat}{k:Int}(e:ks[j]?=O k):∃d b,a=O d/\W.cell? (d.add j)=O (ey k b)/\W.cell? ⟨b,0,Z⟩=O (X .i64 k):=by
 rcases h with⟨rfl,_⟩|⟨d,m,f,_,l⟩
 ·simp at e
 ·cases f;obtain⟨b,g,i⟩:=l j k e;exact⟨d,b,rfl,g,i⟩
def Gs(i f:Nat)(ks:List Int):Nat:=if f=1 then(ks.takeWhile (ms i)).length else min 1 (ks.takeWhile (ms i)).length
def eE:List (Nat×Nat)->List Int->Bool
 |[],ks=>ks.isEmpty
 |(i,f)::a,ks=>if Gs i f ks=0/\f=0 then false else eE a (ks.drop (Gs i f ks))
structure Cx (ws:List (Nat×Nat)) (ks:List Int) (R:Bool):Prop where
 out:eE ws ks=R
theorem afi(p:Int->Bool):∀(ks:List Int)(t:Nat),t<=(ks.takeWhile p).length->(t<(ks.takeWhile p).length↔∃k,ks[t]?=O k/\p k=true)
 |[],t,h=>by simp at h;subst h;simp
 |a::r,t,h=>by
  cases hp:p a with
  |false=>
   rw[Ee (by simp[hp])]at h⊢;simp at h;subst h;simp[hp]
  |true=>
   rw[Ef (by simp[hp])]at h⊢;cases t with
   |zero=>simp[hp]
   |succ t=>
    simp only[bv]at h⊢;have b:=afi p r t (by omega);rw[show(t+1<(r.takeWhile p).length+1)↔t<(r.takeWhile p).length by omega,b];simp
theorem alJ(p:Int->Bool)(ks:List Int):(ks.takeWhile p).length<=ks.length:=(List.takeWhile_sublist p).length_le
theorem akc(i f:Nat)(ks:List Int):Gs i f ks<=ks.length:=by
 have:=alJ (ms i) ks;unfold Gs;split<;>omega
theorem akd(i f:Nat)(ks:List Int)(t:Nat)(h:t<=Gs i f ks):t<Gs i f ks↔(f=1\/t=0)/\∃k,ks[t]?=O k/\ms i k=true:=by
 unfold Gs at h⊢;by_cases a:f=1
 ·rw[ab a]at h⊢;rw[afi _ ks t h];simp[a]
 ·rw[aa a]at h⊢;by_cases b:t=0
  ·subst b;have:=afi (ms i) ks 0 (aL _);rw[show(0<min 1 (ks.takeWhile (ms i)).length)↔0<(ks.takeWhile (ms i)).length by omega,this];simp
  ·constructor
   ·intro h2;omega
   ·rintro ⟨h2|h2,_⟩
    ·exact absurd h2 a
    ·exact absurd h2 b
theorem mF{i f:Nat}{a:List (Nat×Nat)}{ks:List Int}{R:Bool}(h:Cx ((i,f)::a) ks R)(b:¬(Gs i f ks=0/\f=0)):Cx a (ks.drop (Gs i f ks)) R:=by
 have:=h.out;rw[eE,aa b]at this;exact⟨this⟩
theorem zH{i f:Nat}{b:List (Nat×Nat)}{ks:List Int}{R:Bool}(h:Cx ((i,f)::b) ks R)(a:Gs i f ks=0/\f=0):R=false:=by
 have:=h.out;rw[eE,ab a]at this;exact this.symm
theorem acd{α:Type}{a:List α}{k:Nat}{x:α}(h:a[k]?=O x):a.drop k=x::a.drop (k+1):=by
 have b:=(List.getElem?_eq_some_iff.1 h);rw[je b.1,b.2]
theorem gB.sl{W:T}{a:Option Addr}{b c t:Nat}{ks:List Int}(h:gB W (N a b c) ks)(i:ks.length=b)(o:t<=b):gB W (N (if c=t then a else Option.map (fun x=>x.add t) a) (b-t) (c-t)) (ks.drop t):=by
 subst i;rcases h with⟨rfl,d,g,e⟩|⟨d,g,e,m,j⟩
 ·exact .inl ⟨by simp,_,_,by rw[show([]:List Int).length-t=0 by simp]⟩
 ·cases e;by_cases n:t=ks.length
  ·exact .inl ⟨by rw[ju (by omega)],_,_,by rw[show ks.length-t=0 by omega]⟩
  ·refine .inr ⟨d.add t,c-t,?_,by rw[jx];omega,fun k l f=>?_⟩
   ·rw[aa (by omega),jx];rfl
   ·rw[tH]at f;rw[Addr.add_add];exact j (t+k) l f
theorem vw(w:T)(row:ByteArray)(q:List (Nat×Nat))(v:Y)(ks:List Int)(b8:Lib.fields row.data.toList=q.map fun x=>zG x.1 x.2)(cf:∀x∈q,x.1<10/\x.2<3)(b9:row.size<4294967281)(b3:∀(j:Nat) b,row.data.toList[j]?=O b->b.toNat<128)(cb:Lib.TabIs S w "strings.asciiSpace" .u8 Lib.asciiSpaceTab)(bA:gB w v ks)(b4:ks.length<=1048576)(cn:q.length<=1048576):
  Calls S 192 #[Q row,v] w fun e cr=>e= .returned (.bool (eE q ks))/\Below w.heap.size w cr:=by
 have a5:=Tryz.strings_Fields row w b9 b3 cb;rw[b8]at a5;obtain⟨J,bs⟩:=ay (eE q ks);rw[bs];have b1:Cx q ks J:=⟨bs⟩;have a2:Below w.heap.size w (w.alloc (.cells ((q.map fun x=>zG x.1 x.2).map fun a6=>U ⟨a6.toArray⟩).toArray 9)):=(ag _ w).alloc (ae _) _;have bo:=bA.below a2;have bn:∀f m s,q[f]?=O (m,s)->(w.alloc (.cells ((q.map fun x=>zG x.1 x.2).map fun a6=>U ⟨a6.toArray⟩).toArray 9)).cell? ⟨w.heap.size,f,Z⟩=O (Q (wS m s)):=fun f m s b7=>by
  rw[aq _ _ _ _ _ _ (aj w _)];simp[b7,wS]
 obtain⟨ao,bd⟩:=ay q.length;have b0:=aw bd;have cl:=aw cf;have b5:(q.map fun x=>zG x.1 x.2).length=ao:=by rw[dc,bd]
 rw[b5]at a5;rw[bd]at cn;obtain⟨cx,cy,rfl⟩:=bA.form;have ck:=aw b4;clear bs b8 cf b9 b3 cb bA bd b5 b4;generalize w.alloc (.cells ((q.map fun x=>zG x.1 x.2).map fun a6=>U ⟨a6.toArray⟩).toArray 9)=cw at a5 a2 bo bn;have ch:=aw bn;have bk:=aw bo;clear bn bo;generalize cF:ks.length=lk at bk⊢;go_in;go_wp2_with fail;refine a5.mono ?_;rintro e cg ⟨rfl,rfl⟩;clear a5;go_wp2_with fail;go_loop [1,14] (fun cq bE=>∃(f:Nat) (d:List Int),f<=ao/\bE= X .i64 f/\V (gB cg cq d/\d.length<=1048576)/\Cx (q.drop f) d J) (fun _ bE=>ao-(M bE).toNat)
 case atStart=>exact⟨0,ks,aL _,rfl,⟨bk.out,ck.out⟩,b1⟩
 case round=>
  obtain⟨f,d,b7,rfl,a7,ar⟩:=hrel;clear b1 bk;obtain⟨K,L,rfl⟩:=a7.out.1.form;by_cases cm:f<ao
  ·have cB:(f:Int)<(ao:Int):=by omega
   have cz:(0:Int)<=(f:Int):=by omega
   obtain⟨⟨m,s⟩,bh⟩:=bL b0.out cm;obtain⟨bb,bw⟩:=cl.out _ (cJ bh);simp only at bb bw;have a8:=ch.out f m s bh;have af:V (Cx ((m,s)::q.drop (f+1)) d J):=by rw[acd bh]at ar;exact ar
   have ad:=fun w=>anj m s bb bw w;have kB:=fun w=>ank m s bb bw w;have n:=fun c w=>EJ m bb c w;obtain⟨g,an⟩:=ay d.length;have C:=aw an;have br:=a7.out.2;rw[an]at br;have B:V (gB cg (N K g L) d):=by rw[<-an];exact a7.out.1
   rw[an];have ce:=akc m s d;have bD:=akd m s d;obtain⟨F,bt⟩:=ay (Gs m s d);rw[bt]at ce bD;rw[an]at ce;have E:=aw bt;have bl:=aw bD;clear bh ar a7 an bt bD;generalize wS m s=cs at a8 ad;generalize wS1 m s=ct at ad kB;generalize wB m=cv at kB n;rcases(show s=0\/s=1\/s=2 by omega) with rfl|rfl|rfl
   ·go_wp2_with fail;refine(ad _).mono ?_;rintro e t ⟨rfl,rfl⟩;go_wp2_with fail;refine(kB _).mono ?_;rintro e t ⟨rfl,rfl⟩;clear ad kB a8;go_wp2_with fail;go_loop [10] (fun I=>∃a:Nat,I= X .i64 a/\a<=F) (fun I=>F-(M I).toNat)
    case atStart=>exact⟨0,rfl,aL _⟩
    case round=>
     obtain⟨a,rfl,a4⟩:=hrel;have l:=bl.out a a4;have ca:(0:Int)<=(a:Int):=by omega
     by_cases a3:a<F
     ·obtain⟨a9,c,k,o⟩:=l.1 a3;obtain⟨r,b,rfl,i,am⟩:=B.out.get k;have G:(a:Int)<(g:Int):=by omega
      obtain rfl:a=0:=by rcases a9 with h|h;exact absurd h (by decide);exact h
      rw[show r.add 0=r from by unfold Addr.add;rw[ab rfl]]at i;have p:=fun w=>n c w;rw[o]at p;have z:=fun w=>qH c b w;have A:=fun w=>eA b w;unfold ey at i;generalize nH (dF c)=ap at i z;clear k o n l;go_wp2_with (first|(go_at_call 228;refine(p _).mono ?_;rintro e t ⟨rfl,rfl⟩)|(go_at_call 301;refine(A _).mono ?_;rintro e t ⟨rfl,rfl⟩));go_round
      case rel=>exact⟨0+1,by go_num,by omega⟩
      case measure=>simp[M];omega
     ·obtain rfl:a=F:=by omega
      by_cases av:a=0
      ·subst av;by_cases G:0<g
       ·have H:(0:Int)<(g:Int):=by omega
        obtain⟨c,k⟩:=bL C.out G;have o:ms m c=false:=by
         cases h:ms m c
         ·rfl
         ·exact absurd (l.2 ⟨.inr rfl,c,k,h⟩) (by omega)
        obtain⟨r,b,ak,i,am⟩:=B.out.get k;subst ak;rw[show r.add 0=r from by unfold Addr.add;rw[ab rfl]]at i;have p:=fun w=>n c w;rw[o]at p;have z:=fun w=>qH c b w;have A:=fun w=>eA b w;unfold ey at i;generalize nH (dF c)=ap at i z;clear k o n l;go_wp2_with (first|(go_at_call 228;refine(p _).mono ?_;rintro e al ⟨rfl,rfl⟩)|(go_at_call 301;refine(A _).mono ?_;rintro e al ⟨rfl,rfl⟩));go_ret;exact⟨by rw[zH af.out ⟨E.out,rfl⟩];rfl,a2⟩
       ·have H:¬(0:Int)<(g:Int):=by omega
        clear l n;go_wp2_with fail;go_ret;exact⟨by rw[zH af.out ⟨E.out,rfl⟩];rfl,a2⟩
      ·have y:V (Cx (q.drop (f+1)) (d.drop a) J):=by
        have h:=mF af.out (by rw[E.out];omega);rw[E.out]at h;exact h
       have u:V (gB t (N (if L=a then K else Option.map (fun x=>x.add a) K) (g-a) (L-a)) (d.drop a)/\(d.drop a).length<=1048576):=⟨B.out.sl C.out (by omega),by rw[jx,C.out];omega⟩;have cc:¬(a:Int)=0:=by omega
       by_cases G:a<g
       ·have H:(a:Int)<(g:Int):=by omega
        clear l n;go_wp2_with fail;exact⟨⟨f+1,d.drop a,by omega,by go_num,u.out,y.out⟩,by simp[M];omega⟩
       ·have H:¬(a:Int)<(g:Int):=by omega
        clear l n;go_wp2_with fail;exact⟨⟨f+1,d.drop a,by omega,by go_num,u.out,y.out⟩,by simp[M];omega⟩
   ·go_wp2_with fail;refine(ad _).mono ?_;rintro e t ⟨rfl,rfl⟩;go_wp2_with fail;refine(kB _).mono ?_;rintro e t ⟨rfl,rfl⟩;clear ad kB a8;go_wp2_with fail;go_loop [10] (fun I=>∃a:Nat,I= X .i64 a/\a<=F) (fun I=>F-(M I).toNat)
    case atStart=>exact⟨0,rfl,aL _⟩
    case round=>
     obtain⟨a,rfl,a4⟩:=hrel;have l:=bl.out a a4;have ca:(0:Int)<=(a:Int):=by omega
     by_cases a3:a<F
     ·obtain⟨a9,c,k,o⟩:=l.1 a3;obtain⟨r,b,rfl,i,am⟩:=B.out.get k;have G:(a:Int)<(g:Int):=by omega
      have p:=fun w=>n c w;rw[o]at p;have z:=fun w=>qH c b w;have A:=fun w=>eA b w;unfold ey at i;generalize nH (dF c)=ap at i z;clear k o n l;go_wp2_with (first|(go_at_call 228;refine(p _).mono ?_;rintro e t ⟨rfl,rfl⟩)|(go_at_call 301;refine(A _).mono ?_;rintro e t ⟨rfl,rfl⟩));go_round
      case rel=>exact⟨a+1,by go_num,by omega⟩
      case measure=>simp[M];omega
     ·obtain rfl:a=F:=by omega
      by_cases av:a=0
      ·subst av;have y:V (Cx (q.drop (f+1)) d J):=by
        have h:=mF af.out (by rw[E.out];omega);rw[E.out,pn]at h;exact h
       have u:V (gB t (N K g L) d/\d.length<=1048576):=⟨B.out,by rw[C.out];exact br⟩;by_cases G:0<g
       ·have H:(0:Int)<(g:Int):=by omega
        obtain⟨c,k⟩:=bL C.out G;have o:ms m c=false:=by
         cases h:ms m c
         ·rfl
         ·exact absurd (l.2 ⟨.inl (by first|rfl|trivial),c,k,h⟩) (by omega)
        obtain⟨r,b,ak,i,am⟩:=B.out.get k;subst ak;rw[show r.add 0=r from by unfold Addr.add;rw[ab rfl]]at i;have p:=fun w=>n c w;rw[o]at p;have z:=fun w=>qH c b w;have A:=fun w=>eA b w;unfold ey at i;generalize nH (dF c)=ap at i z;clear k o n l;go_wp2_with (first|(go_at_call 228;refine(p _).mono ?_;rintro e al ⟨rfl,rfl⟩)|(go_at_call 301;refine(A _).mono ?_;rintro e al ⟨rfl,rfl⟩));exact⟨⟨f+1,d,by omega,by go_num,u.out,y.out⟩,by simp[M];omega⟩
       ·have H:¬(0:Int)<(g:Int):=by omega
        clear l n;go_wp2_with fail;exact⟨⟨f+1,d,by omega,by go_num,u.out,y.out⟩,by simp[M];omega⟩
      ·have y:V (Cx (q.drop (f+1)) (d.drop a) J):=by
        have h:=mF af.out (by rw[E.out];omega);rw[E.out]at h;exact h
       have u:V (gB t (N (if L=a then K else Option.map (fun x=>x.add a) K) (g-a) (L-a)) (d.drop a)/\(d.drop a).length<=1048576):=⟨B.out.sl C.out (by omega),by rw[jx,C.out];omega⟩;have cc:¬(a:Int)=0:=by omega
       by_cases G:a<g
       ·have H:(a:Int)<(g:Int):=by omega
        obtain⟨c,k⟩:=bL C.out G;have o:ms m c=false:=by
         cases h:ms m c
         ·rfl
         ·exact absurd (l.2 ⟨.inl (by first|rfl|trivial),c,k,h⟩) (by omega)
        obtain⟨r,b,ak,i,am⟩:=B.out.get k;subst ak;have p:=fun w=>n c w;rw[o]at p;have z:=fun w=>qH c b w;have A:=fun w=>eA b w;unfold ey at i;generalize nH (dF c)=ap at i z;clear k o n l;go_wp2_with (first|(go_at_call 228;refine(p _).mono ?_;rintro e al ⟨rfl,rfl⟩)|(go_at_call 301;refine(A _).mono ?_;rintro e al ⟨rfl,rfl⟩));exact⟨⟨f+1,d.drop a,by omega,by go_num,u.out,y.out⟩,by simp[M];omega⟩
       ·have H:¬(a:Int)<(g:Int):=by omega
        clear l n;go_wp2_with fail;exact⟨⟨f+1,d.drop a,by omega,by go_num,u.out,y.out⟩,by simp[M];omega⟩
   ·go_wp2_with fail;refine(ad _).mono ?_;rintro e t ⟨rfl,rfl⟩;go_wp2_with fail;refine(kB _).mono ?_;rintro e t ⟨rfl,rfl⟩;clear ad kB a8;go_wp2_with fail;go_loop [10] (fun I=>∃a:Nat,I= X .i64 a/\a<=F) (fun I=>F-(M I).toNat)
    case atStart=>exact⟨0,rfl,aL _⟩
    case round=>
     obtain⟨a,rfl,a4⟩:=hrel;have l:=bl.out a a4;have ca:(0:Int)<=(a:Int):=by omega
     by_cases a3:a<F
     ·obtain⟨a9,c,k,o⟩:=l.1 a3;obtain⟨r,b,rfl,i,am⟩:=B.out.get k;have G:(a:Int)<(g:Int):=by omega
      obtain rfl:a=0:=by rcases a9 with h|h;exact absurd h (by decide);exact h
      rw[show r.add 0=r from by unfold Addr.add;rw[ab rfl]]at i;have p:=fun w=>n c w;rw[o]at p;have z:=fun w=>qH c b w;have A:=fun w=>eA b w;unfold ey at i;generalize nH (dF c)=ap at i z;clear k o n l;go_wp2_with (first|(go_at_call 228;refine(p _).mono ?_;rintro e t ⟨rfl,rfl⟩)|(go_at_call 301;refine(A _).mono ?_;rintro e t ⟨rfl,rfl⟩));go_round
      case rel=>exact⟨0+1,by go_num,by omega⟩
      case measure=>simp[M];omega
     ·obtain rfl:a=F:=by omega
      by_cases av:a=0
      ·subst av;have y:V (Cx (q.drop (f+1)) d J):=by
        have h:=mF af.out (by rw[E.out];omega);rw[E.out,pn]at h;exact h
       have u:V (gB t (N K g L) d/\d.length<=1048576):=⟨B.out,by rw[C.out];exact br⟩;by_cases G:0<g
       ·have H:(0:Int)<(g:Int):=by omega
        obtain⟨c,k⟩:=bL C.out G;have o:ms m c=false:=by
         cases h:ms m c
         ·rfl
         ·exact absurd (l.2 ⟨.inr rfl,c,k,h⟩) (by omega)
        obtain⟨r,b,ak,i,am⟩:=B.out.get k;subst ak;rw[show r.add 0=r from by unfold Addr.add;rw[ab rfl]]at i;have p:=fun w=>n c w;rw[o]at p;have z:=fun w=>qH c b w;have A:=fun w=>eA b w;unfold ey at i;generalize nH (dF c)=ap at i z;clear k o n l;go_wp2_with (first|(go_at_call 228;refine(p _).mono ?_;rintro e al ⟨rfl,rfl⟩)|(go_at_call 301;refine(A _).mono ?_;rintro e al ⟨rfl,rfl⟩));exact⟨⟨f+1,d,by omega,by go_num,u.out,y.out⟩,by simp[M];omega⟩
       ·have H:¬(0:Int)<(g:Int):=by omega
        clear l n;go_wp2_with fail;exact⟨⟨f+1,d,by omega,by go_num,u.out,y.out⟩,by simp[M];omega⟩
      ·have y:V (Cx (q.drop (f+1)) (d.drop a) J):=by
        have h:=mF af.out (by rw[E.out];omega);rw[E.out]at h;exact h
       have u:V (gB t (N (if L=a then K else Option.map (fun x=>x.add a) K) (g-a) (L-a)) (d.drop a)/\(d.drop a).length<=1048576):=⟨B.out.sl C.out (by omega),by rw[jx,C.out];omega⟩;have cc:¬(a:Int)=0:=by omega
       by_cases G:a<g
       ·have H:(a:Int)<(g:Int):=by omega
        clear l n;go_wp2_with fail;exact⟨⟨f+1,d.drop a,by omega,by go_num,u.out,y.out⟩,by simp[M];omega⟩
       ·have H:¬(a:Int)<(g:Int):=by omega
        clear l n;go_wp2_with fail;exact⟨⟨f+1,d.drop a,by omega,by go_num,u.out,y.out⟩,by simp[M];omega⟩
  ·obtain rfl:f=ao:=by omega
   have bx:=ar.out;rw[ju (by rw[b0.out];exact ae _),eE]at bx;have b6:((d.length:Int)==0)=J:=by
    rw[<-bx];cases d with
    |nil=>rfl
    |cons x cI=>simp;omega
   have b2:=aw b6;clear b6 bx ar;generalize d.length=g at b2⊢;go_wp2_with fail;go_ret;exact⟨by rw[<-b2.out];rfl,a2⟩
