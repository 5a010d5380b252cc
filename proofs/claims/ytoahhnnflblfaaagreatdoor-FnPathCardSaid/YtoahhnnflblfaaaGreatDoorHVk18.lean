import Derived.Test.YtoahhnnflblfaaaGreatDoorHVk07
import Derived.Test.YtoahhnnflblfaaaGreatDoorHVk14
set_option linter.all false
set_option maxRecDepth 100000
set_option maxHeartbeats 6400000
open Go.Value renaming int->O,slice->U,string->A2,pointer->A7,tuple->Br
open Go.IntKind renaming i64->Q
open Option renaming some->R,none->A0
open ByteArray renaming empty->Z
open Go renaming World->Ax,Value->A5,Calls->A8
open Go.Lib renaming decDigits->A1,hasPrefix->B2
open Go.Proofs.Tryz renaming prog->A3
open Go.Ending renaming returned->A4
open Bool renaming true->A6,false->B1
open Go.Obj renaming cells->A9
open Go.RowKit renaming Below->B0,Hid->B3,intOf->B4
namespace Go.Proofs.YtoahhnnflblfaaaGreatDoor
open Go.RowKit Go.Maps Go.WideMaps
def ux(d:List UInt8):List Int:=d.map fun a=>(a.toNat:Int)
theorem xh(d:List UInt8):fa (ux d)=⟨d.toArray⟩:=by
 have g:∀(d:List UInt8)(a:ByteArray),(ux d).foldl (fun c h=>c.push (UInt8.ofNat h.toNat)) a=⟨a.data++d.toArray⟩:=by
  intro d
  induction d with
  |nil=>intro a;simp[ux]
  |cons b c f=>
   intro a;show(ux c).foldl _ (a.push (UInt8.ofNat ((b.toNat:Int)).toNat))=_;rw[f];have e:UInt8.ofNat ((b.toNat:Int)).toNat=b:=by simp
   rw[e];simp[ByteArray.push]
 have:=g d Z;unfold fa;rw[this];simp
def pre(c:Nat):List Int:=if c=0 then [] else ux (A1 c)
theorem ad1(c:Nat)(h:c≠0):pre c=pre (c / 10)++[48+((c%10:Nat):Int)]:=by
 have d:∀b,b<10->(((UInt8.ofNat (48+b)).toNat:Nat):Int)=48+(b:Int):=fun b e=>by
  rw[UInt8.toNat_ofNat',Nat.mod_eq_of_lt (by omega)];omega
 unfold pre;rw[aa h];by_cases a:c<10
 ·rw[ab (by omega),A1,oA a,Nat.mod_eq_of_lt a];show [(((UInt8.ofNat (48+c)).toNat:Nat):Int)]=_;rw[d c a];rfl
 ·rw[aa (by omega),A1,dif_neg a];show List.map _ (_++_)=_;rw[fK];show ux (A1 (c / 10))++[(((UInt8.ofNat (48+c%10)).toNat:Nat):Int)]=_;rw[d _ (by omega)]
theorem Co(N:Nat)(a4:N≠0)(bw:N<=9223372036854775807)(w:Ax):A8 A3 166 #[O Q (N:Int)] w fun e bq=>e= A4 (A2 ⟨(A1 N).toArray⟩)/\B0 w.heap.size w bq:=by
 obtain⟨g,A⟩:∃g:Int,(N:Int)=g:=⟨_,rfl⟩;rw[A];have b5:0<g:=by omega
 have bl:g<=9223372036854775807:=by omega
 have b7:(g==0)=B1:=by rw[aL];omega
 have b6:¬g<0:=by omega
 have ao:=aj A;clear A;go_in;go_wp2_with fail;go_loopw [0,4,5] (fun E bp b8 wr=>∃(c:Int) (a:List Int),E= O Q c/\0<=c/\c<=9223372036854775807/\B3 (c.toNat<10 ^ (19-a.length)/\a.length<=19/\ux (A1 N)=pre c.toNat++a.reverse)/\wr.ownsRow w.heap.size 5 1 bp a.length (B8 a)/\B0 w.heap.size w wr) (fun E _ _ _=>(B4 E).toNat)
 case atStart=>
  refine⟨g,[],rfl,by omega,bl,⟨?_,by simp,?_⟩,bi _ _ _ _,ai _ _⟩
  ·have:(10:Nat) ^ (19-([]:List Int).length)=10000000000000000000:=by decide
   rw[this];omega
  ·rw[show g.toNat=N by have:=ao.out;omega];unfold pre;rw[aa a4];simp
 case round=>
  obtain⟨c,a,rfl,br,bs,l,q,o⟩:=hrel;by_cases u:c=0
  ·subst u;obtain⟨_,L,K⟩:=l.out;have x:ux (A1 N)=a.reverse:=K;have z:0<a.length:=by
    have e:=congrArg List.length x;rw[D4]at e;have:0<(ux (A1 N)).length:=by
     rw[A1];split<;>simp[ux]
    omega
   have F:B3 (fa a.reverse=⟨(A1 N).toArray⟩):=by show _=_;rw[<-x,xh]
   rcases q.2 with⟨h,bj⟩|⟨t,av,bt,am,b1,y,_,bb,m,al⟩
   ·have:a=[]:=by
     have bx:(B8 a).length=a.length:=acr a;have:=q.1;simp at bj;omega
    rw[this]at z;simp at z
   ·have v:∀k,k<a.length->wr.cell? ⟨t,k,A0⟩=R (O .u8 (a.getD k 0)):=fun k ba=>by
     rw[ay _ _ _ _ _ _ y];have f:(B8 a)[k]?=R (O .u8 (a.getD k 0)):=by simp[B8,ba,List.getD]
     rw[<-al,mF]at f;split at f
     ·simpa using f
     ·cases f
    have a8:t<wr.heap.size:=au y;obtain⟨d,n⟩:=aA a.length;rw[n]at z L v am;subst am;clear l K x q y al m bb;have af:∀b,b<d->a.reverse.take (b+1)=a.reverse.take b++[a.getD (d-1-b) 0]:=fun b B=>by
     have e:a.reverse[b]?=R (a.getD (d-1-b) 0):=by
      rw[List.getElem?_reverse (by omega),List.getD,n,aE (by omega)];rfl
     rw[gG,e];rfl
    have m:∀b,b<=d->(fa (a.reverse.take b)).size=b:=fun b B=>by
     have:∀j:List Int,(fa j).size=j.length:=by
      intro j
      induction j with
      |nil=>rfl
      |cons I J bk=>rw[show I::J=[I]++J from rfl,Gn,ae,bk,aF];rfl
     rw[this,gx,D4];omega
    have H:=aj af;have an:=aj n;clear af n;go_wp2_with fail;go_loopw [6,7] (fun bo C wq=>∃b:Nat,b<=d/\C= O Q ((d:Int)-1-(b:Int))/\bo= A2 (fa (a.reverse.take b))/\B0 wr.heap.size wr wq) (fun _ C _=>(B4 C+1).toNat)
    case atStart=>exact⟨0,by omega,by first|rfl|(congr 1;omega),rfl,ai _ _⟩
    case round=>
     obtain⟨b,B,rfl,rfl,p⟩:=hrel;have ak:=m b B;by_cases bf:b<d
     ·obtain⟨i,a5⟩:∃i:Nat,d-1-b=i:=⟨_,rfl⟩;have a7:=(us p a8).trans (v i (by omega));have s:=H.out b bf;rw[a5]at s;have r:B3 (fa (a.reverse.take b)++fa [a.getD i 0]=fa (a.reverse.take (b+1))):=by show _=_;rw[s,Gn]
      generalize a.getD i 0=j at a7 r;have bE:=fun w=>pd (wG w j);have b4:(fa [j]).size=1:=rfl;have a9:(d:Int)-1-(b:Int)=(i:Int):=by omega
      have bA:i<d:=by omega
      generalize fa (a.reverse.take b)=bn at ak r⊢;rw[a9];clear m s v;go_wp2;go_roundw
      case rel=>exact⟨b+1,by omega,by first|rfl|(congr 1;omega),by rw[r.out],p.alloc p.size _⟩
      case measure=>simp[B4]
     ·obtain rfl:b=d:=by omega
      have b3:¬(0:Int)<=(b:Int)-1-(b:Int):=by omega
      rw[cI (by rw[D4,an.out];exact ag _)];have G:=F.out;generalize fa a.reverse=bn at G⊢;subst G;clear ak m F H;go_wp2;go_ret;exact⟨rfl,o.trans (p.mono o.size)⟩
  ·have b0:(c==0)=B1:=by rw[aL];exact u
   have bD:(c !=0)=A6:=by rw[zh];exact u
   have b2:¬c%10<0:=by omega
   have L:a.length<=18:=by
    obtain⟨f,a0,_⟩:=l.out;rcases bv a.length 19 with h|h
    ·omega
    ·rw[show 19-a.length=0 by omega]at f;simp at f;omega
   have ap:B3 ((c / 10).toNat<10 ^ (19-(a++[48+c%10]).length)/\(a++[48+c%10]).length<=19/\ux (A1 N)=pre (c / 10).toNat++(a++[48+c%10]).reverse):=by
    obtain⟨f,a0,a1⟩:=l.out;have a3:(a++[48+c%10]).length=a.length+1:=by simp
    refine⟨?_,by omega,?_⟩
    ·rw[a3];have a2:10 ^ (19-a.length)=10 ^ (19-(a.length+1))*10:=by rw[<-Nat.pow_succ];congr 1;omega
     rw[a2]at f;have:(c / 10).toNat=c.toNat / 10:=by omega
     rw[this];omega
    ·rw[a1,ad1 c.toNat (by omega),show(c / 10).toNat=c.toNat / 10 by omega,show((c.toNat%10:Nat):Int)=c%10 by omega];simp
   clear l;go_wp2_with (at_builtin;refine mu rfl (.tmp 20) (.tmp 24) rfl w.heap.size u4 a.length a rfl q o.size (by omega) [48+c%10] 1 rfl (by decide) (by decide) _ rfl rfl ?_;intro t av w1 bd a6);go_roundw
   case rel=>exact⟨c / 10,a++[48+c%10],by first|rfl|(congr 1;omega),by omega,by omega,ap,by rw[aF];exact bd,o.trans (a6.mono (by omega))⟩
   case measure=>simp[B4];omega
def wd(n:Int):ByteArray:=if n<0 then IC (n+18446744073709551616).toNat 16 else⟨(A1 n.toNat).toArray⟩
theorem abu(N:Nat)(b:N<=9223372036854775807)(w:Ax):A8 A3 166 #[O Q (N:Int)] w fun e c=>e= A4 (A2 ⟨(A1 N).toArray⟩)/\B0 w.heap.size w c:=by
 by_cases a:N=0
 ·subst a;have e:(⟨(A1 0).toArray⟩:ByteArray)=⟨#[48]⟩:=by rw[A1,oA (by omega)];rfl
  rw[e];show A8 A3 166 #[O Q 0] w _;go_in;go_wp2;go_ret;exact⟨rfl,ai _ _⟩
 ·exact Co N a b w
theorem abv(n:Int)(d: -9223372036854775808<=n)(h:n<=9223372036854775807)(w:Ax):A8 A3 148 #[O Q n] w fun e a=>e= A4 (A2 (wd n))/\B0 w.heap.size w a:=by
 unfold wd;by_cases b:n<0
 ·rw[ab b];exact abf n d b w
 ·rw[aa b];have c:∀w,A8 A3 166 #[O Q n] w fun e a=>e= A4 (A2 ⟨(A1 n.toNat).toArray⟩)/\B0 w.heap.size w a:=fun w=>by
   have:=abu n.toNat (by omega) w;rw[show((n.toNat:Nat):Int)=n by omega]at this;exact this
  generalize (⟨(A1 n.toNat).toArray⟩:ByteArray)=g at c;have i:0<=n:=by omega
  go_in;go_wp2_with (go_at_call 166;refine(c _).mono ?_;rintro e a ⟨rfl,f⟩);go_ret;exact⟨rfl,f⟩
def ndD:Nd:=⟨0,0,0,0,0,0,Z,[],[]⟩
def ad(ns:List Nd)(i:Int):Nd:=ns.getD i.toNat ndD
def bJ(N:Nd)(j:Nat):Int:=N.ks.getD j 0
def iA(l:List ByteArray):ByteArray:=l.foldl (· ++·) Z
def uy(x:ByteArray):ByteArray:=⟨#[40]⟩++x++⟨#[41]⟩
def gE(ns:List Nd)(E:Int->ByteArray)(k least:Int):ByteArray:=if ej (ad ns k).k (ad ns k).op<least then uy (E k) else E k
def Dh(N:Nd)(a:Int):Int:=if sj N.k N.op=a then a+1 else a
def xi(ns:List Nd)(E:Int->ByteArray)(N:Nd)(sign:ByteArray)(a:Int):ByteArray:=gE ns E (bJ N 0) (Dh N a)++sign++gE ns E (bJ N 1) (sj N.k N.op)
def yv(N:Nd):Bool:=N.k==30&&N.op==19
def Lm(ns:List Nd)(N:Nd):ByteArray:=if N.op=21 then⟨#[110,111,116,32]⟩ else if N.op=22 then⟨#[35]⟩ else if N.op=20 then⟨#[126]⟩ else if yv (ad ns (bJ N 0))=A6 then⟨#[45]⟩++⟨#[32]⟩ else⟨#[45]⟩
def Lp(ns:List Nd)(E:Int->ByteArray)(N:Nd):ByteArray:=Lm ns N++gE ns E (bJ N 0) 11
def FD(ns:List Nd)(E:Int->ByteArray)(k:Int):ByteArray:=if pm (ad ns k).k=A6 then E k else uy (E k)
def zo(N:Nd):ByteArray:=
 if N.k=20 then⟨#[110,105,108]⟩ else if N.k=21 then⟨#[116,114,117,101]⟩ else if N.k=22 then⟨#[102,97,108,115,101]⟩ else if N.k=23 then wd N.n
 else if N.k=24\/N.k=26 then N.x else if N.k=25 then fa (dF N.x) else if N.k=27 then⟨#[46,46,46]⟩ else Z
def lm(ns:List Nd)(E:Int->ByteArray)(X:Nd):ByteArray:=
 if X.k=41 then⟨#[91]⟩++E (bJ X 0)++⟨#[93,32,61,32]⟩++E (bJ X 1) else if X.k=42 then(⟨#[46]⟩++X.x++⟨#[32,61,32]⟩)++E (bJ X 0) else E (bJ X 0)
def abw(ns:List Nd)(E:Int->ByteArray)(N:Nd):ByteArray:=⟨#[123]⟩++bG (N.ks.map fun a=>lm ns E (ad ns a))++⟨#[125]⟩
def uz(S:Int->Nat->ByteArray)(ks:List Int)(tab:Nat):ByteArray:=
 if ks=[] then⟨#[123,125]⟩ else⟨#[123]⟩++iA (ks.map fun a=>ig (tab+1)++S a (tab+1))++ig tab++⟨#[125]⟩
def Cp(N:Nd):ByteArray:=⟨#[40]⟩++bG N.nm++(if N.op=1 then(if N.nm=[] then⟨#[46,46,46]⟩ else dG++⟨#[46,46,46]⟩) else Z)++⟨#[41,32]⟩
def xj(ns:List Nd)(S:Int->Nat->ByteArray)(N:Nd)(tab:Nat):ByteArray:=Cp N++uz S (ad ns (bJ N 0)).ks tab
def prE(ns:List Nd)(E:Int->ByteArray)(S:Int->Nat->ByteArray)(N:Nd)(tab:Nat):ByteArray:=
 if N.k=28 then xi ns E N ⟨#[32,97,110,100,32]⟩ (ej N.k N.op)
 else if N.k=29 then xi ns E N ⟨#[32,111,114,32]⟩ (ej N.k N.op)
 else if N.k=31 then xi ns E N (⟨#[32]⟩++vw (60+N.op)++⟨#[32]⟩) (ej N.k N.op)
 else if N.k=30 then Lp ns E N
 else if N.k=32 then FD ns E (bJ N 0)++⟨#[91]⟩++E (bJ N 1)++⟨#[93]⟩
 else if N.k=33 then FD ns E (bJ N 0)++(⟨#[46]⟩++N.x)
 else if N.k=34 then FD ns E (bJ N 0)++⟨#[40]⟩++bG ((N.ks.drop 1).map E)++⟨#[41]⟩
 else if N.k=35 then abw ns E N
 else if N.k=36 then⟨#[102,110]⟩++xj ns S N tab
 else if N.k=37 then uy (E (bJ N 0))
 else zo N
def Az(ns:List Nd)(E:Int->ByteArray)(S:Int->Nat->ByteArray)(a:Int->ByteArray->ByteArray)(N:Nd)(b:ByteArray)(tab:Nat):ByteArray:=
 b++E (bJ N 0)++⟨#[32]⟩++uz S (ad ns (bJ N 1)).ks tab++
  (if N.ks.length<3 then Z else if(ad ns (bJ N 2)).k=7 then a (bJ N 2) ⟨#[32,101,108,105,102,32]⟩ else⟨#[32,101,108,115,101,32]⟩++uz S (ad ns (bJ N 2)).ks tab)
def nm0(N:Nd):ByteArray:=N.nm.getD 0 Z
def prS(ns:List Nd)(E:Int->ByteArray)(S:Int->Nat->ByteArray)(a:Int->ByteArray->ByteArray)(N:Nd)(tab:Nat):ByteArray:=
 if N.k=1 then uz S N.ks tab
 else if N.k=2 then⟨#[108,101,116,32]⟩++bG N.nm++(if N.ks=[] then Z else⟨#[32,61,32]⟩++bG (N.ks.map E))
 else if N.k=3 then(⟨#[99,111,110,115,116,32]⟩++nm0 N++⟨#[32,61,32]⟩)++E (bJ N 0)
 else if N.k=4 then(⟨#[102,110,32]⟩++nm0 N)++xj ns S (ad ns (bJ N 0)) tab
 else if N.k=5 then bG ((N.ks.take N.n.toNat).map E)++⟨#[32,61,32]⟩++bG ((N.ks.drop N.n.toNat).map E)
 else if N.k=6 then E (bJ N 0)
 else if N.k=7 then a (-1) ⟨#[105,102,32]⟩
 else if N.k=8 then⟨#[119,104,105,108,101,32]⟩++E (bJ N 0)++⟨#[32]⟩++uz S (ad ns (bJ N 1)).ks tab
 else if N.k=9\/N.k=10 then⟨#[102,111,114,32]⟩++bG N.nm++(if N.k=9 then⟨#[32,61,32]⟩ else⟨#[32,105,110,32]⟩)++bG ((N.ks.take (N.ks.length-1)).map E)++⟨#[32]⟩++uz S (ad ns (bJ N (N.ks.length-1))).ks tab
 else if N.k=11 then⟨#[98,114,101,97,107]⟩
 else if N.k=12 then⟨#[110,101,120,116]⟩
 else if N.k=13 then⟨#[114,101,116,117,114,110]⟩++(if N.ks=[] then Z else⟨#[32]⟩++bG (N.ks.map E))
 else if N.k=14 then⟨#[116,114,121,32]⟩++uz S (ad ns (bJ N 0)).ks tab++⟨#[32,99,97,116,99,104,32]⟩++bG N.nm++⟨#[32]⟩++uz S (ad ns (bJ N 1)).ks tab
 else if N.k=15 then⟨#[116,104,114,111,119,32]⟩++E (bJ N 0)
 else if N.k=16 then⟨#[100,101,102,101,114,32]⟩++E (bJ N 0)
 else Z
mutual
def yc(ns:List Nd):Nat->Int->Nat->ByteArray
 |0,_,_=>Z
 |f+1,i,tab=>prE ns (fun k=>yc ns f k tab) (fun k t=>rD ns f k t) (ad ns i) tab
def rD(ns:List Nd):Nat->Int->Nat->ByteArray
 |0,_,_=>Z
 |f+1,i,tab=>prS ns (fun k=>yc ns f k tab) (fun k t=>rD ns f k t) (fun _ w=>Az ns (fun k=>yc ns f k tab) (fun k t=>rD ns f k t) (fun k w=>xl ns f k w tab) (ad ns i) w tab) (ad ns i) tab
def xl(ns:List Nd):Nat->Int->ByteArray->Nat->ByteArray
 |0,_,_,_=>Z
 |f+1,i,w,tab=>Az ns (fun k=>yc ns f k tab) (fun k t=>rD ns f k t) (fun k w=>xl ns f k w tab) (ad ns i) w tab
end
def jl(ns:List Nd):ByteArray:=iA ((ad ns ((ns.length:Int)-1)).ks.map fun a=>rD ns ns.length a 0++⟨#[10]⟩)
def EA(ns:List Nd):ByteArray:=if 65536<(jl ns).size then Z else jl ns
theorem xm{b:Nat}{w a:Ax}(o:Obj)(h:Kq b (w.alloc o) a):Kq b w a:=(Kq.of_below ((ai _ w).alloc (ag _) o)).trans h
theorem abx(w0:Ax)(i vn vk:A5)(N:Nd)(T:ByteArray)(t:Int)(w:Ax)(h:Pr w0 i T t w)(u:20<=N.k/\N.k<=27)(al: -9223372036854775808<=N.n)(am:N.n<=9223372036854775807)(s:N.k=25->N.x.size<=4000)(r:T.size+(zo N).size<=140737488355328):
  A8 A3 122 #[A7 (R ⟨w0.heap.size,0,A0⟩),dy N vn vk] w fun e H=>e= A4 (Br #[])/\Pr w0 i (T++zo N) t H/\Kq w0.heap.size w H:=by
 have E:B0 w.heap.size w (w.alloc (A9 #[O Q N.k,O Q N.f,O Q N.t,O Q N.l,O Q N.op,O Q N.n,A2 N.x,vn,vk] 36)):=(ai _ w).alloc (ag _) _;have g:B3 (Pr w0 i T t (w.alloc (A9 #[O Q N.k,O Q N.f,O Q N.t,O Q N.l,O Q N.op,O Q N.n,A2 N.x,vn,vk] 36))/\B0 w.heap.size w (w.alloc (A9 #[O Q N.k,O Q N.f,O Q N.t,O Q N.l,O Q N.op,O Q N.n,A2 N.x,vn,vk] 36))):=⟨h.below E,E⟩;have p:=abv N.n al am;obtain⟨an,a⟩:=aA (zo N);rw[a]at r⊢;unfold zo at a;clear h E;unfold dy;have c:∀y:Int,N.k=y->(N.k==y)=A6:=fun y e=>by simpa using e
 have b:∀y:Int,N.k≠y->(N.k==y)=B1:=fun y e=>by simpa using e
 by_cases j:N.k=20
 ·have I:=c _ j;rw[ab j]at a;subst a;clear j c b u s p;go_in;go_wp2_with (go_at_call 33;refine(aC w0 i _ _ _ _ g.out.1 r).mono ?_;rintro e A ⟨rfl,p2,d⟩);go_end0
  exact⟨rfl,p2,xm _ d⟩
 have I:=b _ j;rw[aa j]at a;by_cases m:N.k=21
 ·have J:=c _ m;rw[ab m]at a;subst a;clear j m c b u s p;go_in;go_wp2_with (go_at_call 33;refine(aC w0 i _ _ _ _ g.out.1 r).mono ?_;rintro e A ⟨rfl,p2,d⟩);go_end0
  exact⟨rfl,p2,xm _ d⟩
 have J:=b _ m;rw[aa m]at a;by_cases o:N.k=22
 ·have K:=c _ o;rw[ab o]at a;subst a;clear j m o c b u s p;go_in;go_wp2_with (go_at_call 33;refine(aC w0 i _ _ _ _ g.out.1 r).mono ?_;rintro e A ⟨rfl,p2,d⟩);go_end0
  exact⟨rfl,p2,xm _ d⟩
 have K:=b _ o;rw[aa o]at a;by_cases q:N.k=23
 ·have L:=c _ q;rw[ab q]at a;rw[a]at p;clear j m o q c b u s a;go_in;go_wp2_with fail;refine cd (p _) fun w1 v=>?_;have B:B3 (Pr w0 i T t w1/\B0 w.heap.size w w1):=⟨g.out.1.below v,g.out.2.trans (v.mono g.out.2.size)⟩;clear v p;go_wp2_with fail;refine(aC w0 i _ _ _ _ B.out.1 r).mono ?_;rintro e A ⟨rfl,p2,d⟩;go_wp2_with fail;go_end0
  exact⟨rfl,p2,(Kq.of_below B.out.2).trans d⟩
 have L:=b _ q;rw[aa q]at a;by_cases e4:N.k=24\/N.k=26
 ·rw[ab e4]at a;rcases e4 with e4|e4
  ·have G:=c _ e4;rw[a]at g⊢;clear j m o q e4 c b u s p a;go_in;go_wp2_with (go_at_call 33;refine(aC w0 i _ _ _ _ g.out.1 r).mono ?_;rintro e A ⟨rfl,p2,d⟩);go_end0
   exact⟨rfl,p2,xm _ d⟩
  ·have G:(N.k==24)=B1:=b _ (by omega);have af:=c _ e4;rw[a]at g⊢;clear j m o q e4 c b u s p a;go_in;go_wp2_with (go_at_call 33;refine(aC w0 i _ _ _ _ g.out.1 r).mono ?_;rintro e A ⟨rfl,p2,d⟩);go_end0
   exact⟨rfl,p2,xm _ d⟩
 rw[aa e4]at a;have G:(N.k==24)=B1:=b _ (by omega);have af:(N.k==26)=B1:=b _ (by omega);by_cases z:N.k=25
 ·have ak:=c _ z;rw[ab z]at a;have F:=aaI N.x (s z);rw[a]at F;clear j m o q e4 z c b u s a p;go_in;go_wp2_with fail;refine cd (F _) fun w1 v=>?_;have B:B3 (Pr w0 i T t w1/\B0 w.heap.size w w1):=⟨g.out.1.below v,g.out.2.trans (v.mono g.out.2.size)⟩;clear v F;go_wp2_with fail;refine(aC w0 i _ _ _ _ B.out.1 r).mono ?_;rintro e A ⟨rfl,p2,d⟩;go_wp2_with fail;go_end0
  exact⟨rfl,p2,(Kq.of_below B.out.2).trans d⟩
 have ak:=b _ z;rw[aa z]at a;have C:N.k=27:=by omega
 have ao:=c _ C;rw[ab C]at a;subst a;clear j m o q e4 z C c b u s p;go_in;go_wp2_with (go_at_call 33;refine(aC w0 i _ _ _ _ g.out.1 r).mono ?_;rintro e A ⟨rfl,p2,d⟩);go_end0
 exact⟨rfl,p2,xm _ d⟩
theorem ahm(op:Int):3<=(xe op).1/\(xe op).1<=10:=by
 unfold xe
 repeat' split
 all_goals exact⟨by decide,by decide⟩
theorem AB(k op:Int):0<ej k op/\ej k op<=12:=by
 have:=ahm op;unfold ej
 repeat' split
 all_goals omega
theorem aiL(ns:List Nd)(E:Int->ByteArray)(k:Int):gE ns E k 0=E k:=by
 unfold gE;rw[aa];have:=AB (ad ns k).k (ad ns k).op;omega
theorem tr(x:ByteArray):(uy x).size=x.size+2:=by unfold uy;rw[ae,ae];show 1+x.size+1=_;omega
theorem pL{ns:List Nd}{k:Nat}(h:k<ns.length):ns[k]?=R (ad ns (k:Int)):=by
 unfold ad;rw[fD,List.getD,aE h];rfl
def OkE(w0:Ax)(e:A5)(ns:List Nd)(E:Int->ByteArray)(t:Int)(g:Nat):Prop:=
 ∀(a:Nat)(b:Int)(c:ByteArray)(d:Ax),a<g->eK (ad ns a).k=A6->0<=b->b<=100->Pr w0 e c t d->c.size+(gE ns E a b).size<=140737488355328->
  A8 A3 67 #[A7 (R ⟨w0.heap.size,0,A0⟩),O Q (a:Int),O Q b] d fun h f=>h= A4 (Br #[])/\Pr w0 e (c++gE ns E a b) t f/\Kq w0.heap.size d f
theorem OkE.zero{w0:Ax}{b:A5}{ns:List Nd}{E:Int->ByteArray}{t:Int}{c:Nat}(h:OkE w0 b ns E t c)(k:Nat)(T:ByteArray)(a:Ax)(g:k<c)(f:eK (ad ns k).k=A6)(j:Pr w0 b T t a)(i:T.size+(E k).size<=140737488355328):
  A8 A3 67 #[A7 (R ⟨w0.heap.size,0,A0⟩),O Q (k:Int),O Q 0] a fun e d=>e= A4 (Br #[])/\Pr w0 b (T++E k) t d/\Kq w0.heap.size a d:=by
 have:=h k 0 T a g f (by omega) (by omega) j (by rw[aiL];exact i);rw[aiL]at this;exact this
theorem ad2(w0:Ax)(f:A5)(ns:List Nd)(E:Int->ByteArray)(t:Int)(n:Nat)(u:OkE w0 f ns E t n)(i:co w0 f ns)(af:ns.length<=1048576)(k:Nat)(x:k<n)(y:k<ns.length)(v:eK (ad ns k).k=A6)
  (T:ByteArray) (w:Ax) (h:Pr w0 f T t w) (j:T.size+(FD ns E k).size<=140737488355328):
  A8 A3 120 #[A7 (R ⟨w0.heap.size,0,A0⟩),O Q (k:Int)] w fun e H=>e= A4 (Br #[])/\Pr w0 f (T++FD ns E k) t H/\Kq w0.heap.size w H:=by
 have z:=pL y;obtain⟨al,r,rfl⟩:=i.form;obtain⟨C,rfl,ap,ao,s⟩:=(i.below h.bel).get z;obtain⟨z0,av,a0⟩:=h.cells;have L:=s.c0;have c:=IF (ad ns k).k;have b:=jn h v u;clear h i s z v u;obtain⟨l,g⟩:=aA ns.length;rw[g]at z0 b af y;have an:(k:Int)<(l:Int):=by omega
 have am:(0:Int)<=(k:Int):=by omega
 obtain⟨ak,a⟩:=aA (FD ns E k);rw[a]at j⊢;rw[g];unfold FD at a;clear g;generalize (ad ns k).k=K at L c a;cases hb:pm K with
 |true=>
  rw[hb]at c a;rw[ab rfl]at a;subst a;clear hb;go_in;go_wp2_with (go_at_call 147;refine fc (c _) ?_);refine(b.out.2.2.zero k T w x b.out.2.1 b.out.1 j).mono ?_;rintro e I ⟨rfl,p2,d⟩;go_wp2_with fail;exact bB (sH rfl _ _ _) rfl ⟨rfl,p2,d⟩
 |false=>
  rw[hb]at c a;rw[aa (by simp)]at a;subst a;rw[tr]at j;clear hb;go_in;go_wp2_with (go_at_call 147;refine fc (c _) ?_);refine(aC w0 _ T _ t w b.out.1 (by show T.size+1<=_;omega)).mono ?_;rintro e I ⟨rfl,p2,d⟩;have o:=eH p2 d;clear p2 d;go_wp2_with fail;refine(b.out.2.2.zero k _ I x b.out.2.1 o.out.1 (by rw[ae];show T.size+1+_<=_;omega)).mono ?_;rintro e m ⟨rfl,F,A⟩;have p:B3 (Pr w0 (U (R C) l r) (T++⟨#[40]⟩++E k) t m/\Kq w0.heap.size w m):=⟨F,o.out.2.trans A⟩;clear F A;go_wp2_with fail;refine(aC w0 _ _ _ t m p.out.1 (by rw[ae,ae];show T.size+1+_+1<=_;omega)).mono ?_;rintro e J ⟨rfl,G,B⟩;have q:B3 (Pr w0 (U (R C) l r) (T++uy (E k)) t J/\Kq w0.heap.size w J):=⟨by unfold uy;rw[<-aB,<-aB];exact G,p.out.2.trans B⟩;clear G B;go_wp2_with fail;go_end0
  exact⟨rfl,q.out.1,q.out.2⟩
def Di(s:ByteArray)(p:Nat):Int×ByteArray:=match uo fd (s.extract p (pC s (s.size+1) p)) 22 0 with|some a=>(10+(a:Int),⟨#[]⟩)|none=>(1,s.extract p (pC s (s.size+1) p))
theorem amv(s:ByteArray)(p:Nat):wdT s p= .agg #[O Q (Di s p).1,O Q p,O Q (pC s (s.size+1) p),O Q 0,O Q 0,A2 (Di s p).2]:=by
 unfold wdT Di;cases uo fd (s.extract p (pC s (s.size+1) p)) 22 0<;>rfl
theorem mJ(s:ByteArray)(a b i:Nat)(d:b<=s.size)(e:a+i<b):aw (s.extract a b) i=aw s (a+i):=by
 rw[qL,qL];have c:(s.extract a b).data.toList=(s.data.toList.drop a).take (b-a):=by rw[<-gw,Lib.extract_toList]
 rw[c,mF,ab (by omega),qI]
theorem GF(s:ByteArray)(a b:Nat)(c:b<=s.size):(s.extract a b).size=b-a:=by rw[oy];omega
def AC(s:ByteArray)(p:Nat):Int×Int×ByteArray:=
 if aw s p=48/\aw s (p+1)=120 then(2,wrap64 (tg s (p+2) ((fe s p).1-(p+2)):Int),⟨#[]⟩)
 else match (if FC s p=A6 then A0 else rC s p ((fe s p).1-p)) with
  |some a=>(2,(a:Int),⟨#[]⟩)
  |none=>(3,0,s.extract p (fe s p).1)
theorem akg(s:ByteArray)(p:Nat)(a:(fe s p).2=A6):yq s p= .agg #[O Q (AC s p).1,O Q p,O Q ((fe s p).1:Int),O Q 0,O Q (AC s p).2.1,A2 (AC s p).2.2]/\vE s p= -1:=by
 unfold yq vE AC;by_cases b:aw s p=48/\aw s (p+1)=120
 ·have c:fe s p=na s (p+2):=by unfold fe;rw[ab b]
  rw[c]at a⊢;simp only[ab b];unfold hxA hxF;rw[ab a,ab a];exact⟨rfl,rfl⟩
 ·have c:fe s p=nJ s (nA1 s (nA0 s p)):=by unfold fe;rw[aa b]
  rw[c]at a⊢;simp only[aa b];unfold nmA nmF;rw[ab a,ab a];cases FC s p with
  |true=>exact⟨rfl,rfl⟩
  |false=>
   simp only[aa (show ¬B1=A6 by simp)];cases rC s p ((nJ s (nA1 s (nA0 s p))).1-p)<;>exact⟨rfl,by trivial⟩
theorem GG(s:ByteArray)(p:Nat)(a:(fe s p).2=B1):vE s p=((fe s p).1:Int):=by
 unfold vE;by_cases b:aw s p=48/\aw s (p+1)=120
 ·have c:fe s p=na s (p+2):=by unfold fe;rw[ab b]
  rw[c]at a⊢;rw[ab b];unfold hxF;rw[aa (by rw[a];simp)]
 ·have c:fe s p=nJ s (nA1 s (nA0 s p)):=by unfold fe;rw[aa b]
  rw[c]at a⊢;rw[aa b];unfold nmF;rw[aa (by rw[a];simp)]
theorem osz:∀k:Fin 11,(cG mh k.val).size<=3:=by decide
theorem bsz:∀k:Fin 18,(cG tI k.val).size<=3:=by decide
def zp(V:Array A5)(base:Int)(r:ByteArray):Nat->Nat->Int×Nat->Int×Nat
 |0,_,a=>a
 |f+1,i,a=>zp V base r f (i+1) (if a.2<(cG V i).size/\B2 r.data.toList (cG V i).data.toList=A6 then(base+(i:Int),(cG V i).size) else a)
def od(r:ByteArray):Int:=if aw r 0=59 then 5 else if aw r 0=10 then 7 else(zp tI 61 r 18 0 (zp mh 40 r 11 0 (0,0))).1
theorem I6(V:Array A5)(base:Int)(r:ByteArray)(d:0<=base)(N:Int):∀(f i:Nat)(a:Int×Nat),0<=a.1->a.1<=N->base+((i+f:Nat):Int)<=N+1->0<=(zp V base r f i a).1/\(zp V base r f i a).1<=N
 |0,i,a,b,c,_=>⟨b,c⟩
 |f+1,i,a,b,c,e=>by
  unfold zp;refine I6 V base r d N f (i+1) _ ?_ ?_ (by omega)
  ·split
   ·simp only;omega
   ·exact b
  ·split
   ·simp only;omega
   ·exact c
theorem akh(r:ByteArray):0<=od r/\od r<=78:=by
 unfold od;split
 ·omega
 split
 ·omega
 have a:=I6 mh 40 r (by omega) 50 11 0 (0,0) (by simp) (by simp) (by simp);exact I6 tI 61 r (by omega) 78 18 0 _ a.1 (by omega) (by simp)
structure Rd where
 ok:Bool
 a:Nat
 d:Int
 k:Int
 n:Int
 x:ByteArray
def eE(s:ByteArray)(p:Nat):Rd:=
 if bC (aw s p)=A6 then⟨A6,pC s (s.size+1) p,0,(Di s p).1,0,(Di s p).2⟩
 else if ch (aw s p)=A6 then(if(fe s p).2=A6 then⟨A6,(fe s p).1,0,(AC s p).1,(AC s p).2.1,(AC s p).2.2⟩ else⟨B1,(fe s p).1,0,0,0,Z⟩)
 else if aw s p=34 then(if(fF s (s.size+1) (p+1) []).1=A6 then⟨A6,(fF s (s.size+1) (p+1) []).2.1,0,4,0,fa (fF s (s.size+1) (p+1) []).2.2⟩ else⟨B1,(fF s (s.size+1) (p+1) []).2.1,0,0,0,Z⟩)
 else if od (s.extract p s.size)=0 then⟨B1,p,0,0,0,Z⟩ else⟨A6,p+(ed (od (s.extract p s.size))).size,if od (s.extract p s.size)=7 then 1 else 0,od (s.extract p s.size),0,Z⟩
theorem Lq(i:Nat)(h:i<11):ed (40+(i:Int))=cG mh i:=by
 unfold ed;rw[aa (by omega),aa (by omega),aa (by omega),ab (by omega)];rw[show(40+(i:Int)-40).toNat=i by omega]
theorem Lt(i:Nat)(h:i<18):ed (61+(i:Int))=cG tI i:=by
 unfold ed;rw[aa (by omega),aa (by omega),aa (by omega),aa (by omega),ab (by omega)];rw[show(61+(i:Int)-61).toNat=i by omega]
def Sgn(r:ByteArray)(k:Int)(n:Nat):Prop:=(k=0/\n=0)\/(n=(ed k).size/\1<=n/\B2 r.data.toList (ed k).data.toList=A6/\k≠0)
theorem we(V:Array A5)(base:Int)(r:ByteArray)(N:Nat)(c:0<base)(b:∀i,i<N->ed (base+(i:Int))=cG V i):∀(f i:Nat)(a:Int×Nat),i+f<=N->Sgn r a.1 a.2->Sgn r (zp V base r f i a).1 (zp V base r f i a).2
 |0,i,a,_,h=>h
 |f+1,i,a,e,h=>by
  unfold zp;refine we V base r N c b f (i+1) _ (by omega) ?_;split
  ·rename_i d;refine .inr ⟨?_,?_,?_,?_⟩
   ·show(cG V i).size=_;rw[b i (by omega)]
   ·show 1<=(cG V i).size;omega
   ·show B2 _ (ed (base+(i:Int))).data.toList=A6;rw[b i (by omega)];exact d.2
   ·show base+(i:Int)≠0;omega
  ·exact h
theorem ahn(r x:ByteArray)(h:B2 r.data.toList x.data.toList=A6):x.size<=r.size:=by
 unfold B2 at h;rw[uI]at h;have:=h.length_le
 rwa [eB,eB]at this
theorem aho(r:ByteArray)(h:0<r.size)(a:od r≠0):1<=(ed (od r)).size/\(ed (od r)).size<=r.size:=by
 unfold od at a⊢;split
 ·exact⟨by decide,by show 1<=r.size;omega⟩
 split
 ·exact⟨by decide,by show 1<=r.size;omega⟩
 rename_i c d;rw[aa c,aa d]at a;have f:=we mh 40 r 11 (by omega) Lq 11 0 (0,0) (by omega) (.inl ⟨rfl,rfl⟩);have g:=we tI 61 r 18 (by omega) Lt 18 0 _ (by omega) f;rcases g with⟨b,_⟩|⟨b,i,e,_⟩
 ·exact absurd b a
 ·exact⟨by omega,ahn r _ e⟩
theorem ahp(s:ByteArray)(p:Nat)(h:bC (aw s p)=A6):p<pC s (s.size+1) p:=by
 have a:p<s.size:=by
  rcases bv p s.size with h1|h1
  ·exact h1
  ·exact absurd (.inl h) (Ea (by omega))
 rw[pC,ab (.inl h)];have:=zH s s.size (p+1) (by omega);omega
theorem qa(s:ByteArray)(p:Nat)(i:p<s.size)(b:(eE s p).ok=A6):p<(eE s p).a/\(eE s p).a<=s.size/\0<=(eE s p).d/\(eE s p).d<=1:=by
 unfold eE at b⊢;split
 ·rename_i h;exact⟨ahp s p h,(zH s _ p (by omega)).2,by simp,by simp⟩
 split
 ·rename_i c e;rw[aa c,ab e]at b;have:=KF s p i;split
  ·exact⟨this.1,this.2,by simp,by simp⟩
  ·rename_i f;rw[aa f]at b;cases b
 split
 ·rename_i c e f;rw[aa c,aa e,ab f]at b;have:=vv s (s.size+1) (p+1) [] (by omega);split
  ·exact⟨by simp only;omega,this.2.1,by simp,by simp⟩
  ·rename_i g;rw[aa g]at b;cases b
 ·rename_i c e f;rw[aa c,aa e,aa f]at b;split
  ·rename_i g;rw[ab g]at b;cases b
  ·rename_i g;have j:=GF s p s.size (ag _);have:=aho (s.extract p s.size) (by omega) g;refine⟨by simp only;omega,by simp only;omega,?_,?_⟩
   ·simp only;split<;>omega
   ·simp only;split<;>omega
def nnB(c:Int):Bool:=decide (c≠10/\c≠ -1)
theorem ad3:nnB (-1)=B1:=by decide
def Lu(s:ByteArray)(p:Nat):Nat:=iw nnB s (s.size+1) p
def blk(s:ByteArray):Nat->Nat->Nat
 |0,p=>p
 |f+1,p=>if s.size<=p then p else if ll (aw s p)=A6 then blk s f (p+1) else if aw s p=45/\aw s (p+1)=45 then blk s f (Lu s p) else p
theorem EB(s:ByteArray)(p:Nat)(h:p<=s.size):p<=Lu s p/\Lu s p<=s.size:=oD nnB ad3 s _ p h
theorem wg(s:ByteArray)(p:Nat)(h:aw s p=45):p<Lu s p:=by
 have a:=bm h (by omega);unfold Lu;rw[iw,ab (by rw[h];decide)];have:=oD nnB ad3 s s.size (p+1) (by omega);omega
theorem wh(s:ByteArray):∀(f g p:Nat),p<=s.size->s.size<p+f->s.size<p+g->blk s f p=blk s g p
 |0,g,p,h,a,b=>by omega
 |f+1,0,p,h,a,b=>by omega
 |f+1,g+1,p,h,a,b=>by
  unfold blk;split
  ·rfl
  split
  ·exact wh s f g (p+1) (by omega) (by omega) (by omega)
  split
  ·rename_i d;have e:=wg s p d.1;have c:=EB s p h;exact wh s f g _ c.2 (by omega) (by omega)
  ·rfl
theorem pq(s:ByteArray):∀(f p:Nat),p<=s.size->p<=blk s f p/\blk s f p<=s.size
 |0,p,h=>⟨ag _,h⟩
 |f+1,p,h=>by
  unfold blk;split
  ·exact⟨ag _,h⟩
  split
  ·have:=pq s f (p+1) (by omega);omega
  split
  ·have a:=EB s p h;have:=pq s f (Lu s p) a.2;omega
  ·exact⟨ag _,h⟩
theorem Dj(s:ByteArray)(p:Nat)(a:p<s.size)(h:ll (aw s p)=A6):blk s (s.size+1) p=blk s (s.size+1) (p+1):=by
 rw[blk,aa (by omega),ab h];exact wh s _ _ _ (by omega) (by omega) (by omega)
theorem ad4(c:Int)(h:c=45):¬ll c=A6:=by subst h;decide
theorem GH(s:ByteArray)(p:Nat)(h:aw s p=45)(a:aw s (p+1)=45):blk s (s.size+1) p=blk s (s.size+1) (Lu s p):=by
 have d:=bm h (by omega);have c:=wg s p h;have b:=EB s p (by omega);rw[blk,aa (by omega),aa (ad4 _ h),ab ⟨h,a⟩];exact wh s _ _ _ b.2 (by omega) (by omega)
theorem Lx(s:ByteArray)(p:Nat)(a:¬ll (aw s p)=A6)(b:¬(aw s p=45/\aw s (p+1)=45)):blk s (s.size+1) p=p:=by
 rw[blk,aa a,aa b];split<;>rfl
theorem ahq(s:ByteArray)(p:Nat)(h:s.size<=p):blk s (s.size+1) p=p:=by rw[blk,ab h]
theorem Kq.box{b k:Nat}{w d:Ax}{N:Nd}{vn vk:A5}(h:Kq b w d)(a:dr k w 36 N vn vk)(e:k≠b):dr k d 36 N vn vk:=by
 refine(h.block k (au a) e ?_).trans a;intro f g c;unfold dr at a;rw[a]at c;cases c
theorem GI(w0:Ax)(d:A5)(ns:List Nd)(E:Int->ByteArray)(t:Int)(F:Nat)(af:OkE w0 d ns E t F)(N:Nd)(vn vk:A5)(v:aK w0 vk N.ks)(k:Nat)(r:N.ks[0]?=R (k:Int))(a3:k<F)(bq:N.ks.length<=1048576)(al:eK (ad ns k).k=A6)
  (y:N.op=20\/N.op=21\/N.op=22) (T:ByteArray) (w:Ax) (h:Pr w0 d T t w) (an:T.size+(Lp ns E N).size<=140737488355328):
  A8 A3 119 #[A7 (R ⟨w0.heap.size,0,A0⟩),dy N vn vk] w fun e m=>e= A4 (Br #[])/\Pr w0 d (T++Lp ns E N) t m/\Kq w0.heap.size w m:=by
 have B:B0 w.heap.size w (w.alloc (A9 #[O Q N.k,O Q N.f,O Q N.t,O Q N.l,O Q N.op,O Q N.n,A2 N.x,vn,vk] 36)):=(ai _ w).alloc (ag _) _;have ak:dr w.heap.size (w.alloc (A9 #[O Q N.k,O Q N.f,O Q N.t,O Q N.l,O Q N.op,O Q N.n,A2 N.x,vn,vk] 36)) 36 N vn vk:=ar w _;have bs:=h.lt;obtain⟨a6,g,rfl⟩:=v.form;obtain⟨c,rfl,_⟩:=v.get r;have am:bJ N 0=(k:Int):=by unfold bJ;rw[List.getD,r];rfl
 have br:0<N.ks.length:=by rcases kL N.ks.length with e|e;rw[fm (by omega)]at r;cases r;exact e
 have o:B3 (Pr w0 d T t (w.alloc (A9 #[O Q N.k,O Q N.f,O Q N.t,O Q N.l,O Q N.op,O Q N.n,A2 N.x,vn,U (R c) N.ks.length g] 36))/\Kq w0.heap.size w (w.alloc (A9 #[O Q N.k,O Q N.f,O Q N.t,O Q N.l,O Q N.op,O Q N.n,A2 N.x,vn,U (R c) N.ks.length g] 36))
  /\dr w.heap.size (w.alloc (A9 #[O Q N.k,O Q N.f,O Q N.t,O Q N.l,O Q N.op,O Q N.n,A2 N.x,vn,U (R c) N.ks.length g] 36)) 36 N vn (U (R c) N.ks.length g)/\aK w0 (U (R c) N.ks.length g) N.ks/\N.ks[0]?=R (k:Int)):=⟨h.below B,Kq.of_below B,ak,v,r⟩
 obtain⟨a5,q⟩:=aA (Lp ns E N);rw[q]at an⊢;unfold Lp at q;rw[am]at q;have G:=eH af al;clear h B ak v r am af al;have a4:∃i:ByteArray,Lm ns N=i/\((N.op=21/\i=⟨#[110,111,116,32]⟩)\/(N.op=22/\i=⟨#[35]⟩)\/(N.op=20/\i=⟨#[126]⟩)):=by
  refine⟨_,rfl,?_⟩;unfold Lm;rcases y with e|e|e
  ·exact .inr (.inr ⟨e,by rw[aa (by omega),aa (by omega),ab e]⟩)
  ·exact .inl ⟨e,by rw[ab e]⟩
  ·exact .inr (.inl ⟨e,by rw[aa (by omega),ab e]⟩)
 obtain⟨i,ao,a2⟩:=a4;rw[ao]at q;obtain⟨I,A⟩:=aA (gE ns E k 11);rw[A]at q;have H:=aj A;subst q;rw[ae]at an;clear ao A;unfold dy;have K:∀a,Pr w0 d (T++i) t a->Kq w0.heap.size (w.alloc (A9 #[O Q N.k,O Q N.f,O Q N.t,O Q N.l,O Q N.op,O Q N.n,A2 N.x,vn,U (R c) N.ks.length g] 36)) a->
   a.cell? ⟨w.heap.size,8,A0⟩=R (U (R c) N.ks.length g)/\a.cell? c=R (O Q (k:Int))/\A8 A3 67 #[A7 (R ⟨w0.heap.size,0,A0⟩),O Q (k:Int),O Q 11] a fun e m=>e= A4 (Br #[])/\Pr w0 d (T++(i++I)) t m/\Kq w0.heap.size w m:=by
  intro a p2 b;obtain⟨a7,a8,a9,ba,bb,bd,bj,bk,u,bl⟩:=aq (b.box o.out.2.2.1 (by omega));obtain⟨bt,ap,av⟩:=(o.out.2.2.2.1.below p2.bel).get o.out.2.2.2.2;cases ap;refine⟨u,by simpa [Addr.add] using av,?_⟩;refine(G.out.1 k 11 _ a a3 G.out.2 (by omega) (by omega) p2 (by rw[H.out,ae];omega)).mono ?_;rintro e C ⟨rfl,j,p⟩;rw[H.out,aB]at j;exact⟨rfl,j,(o.out.2.1.trans b).trans p⟩
 have z:B3 (∀a,Pr w0 d (T++i) t a->Kq w0.heap.size (w.alloc (A9 #[O Q N.k,O Q N.f,O Q N.t,O Q N.l,O Q N.op,O Q N.n,A2 N.x,vn,U (R c) N.ks.length g] 36)) a->
   a.cell? ⟨w.heap.size,8,A0⟩=R (U (R c) N.ks.length g)/\a.cell? c=R (O Q (k:Int))/\A8 A3 67 #[A7 (R ⟨w0.heap.size,0,A0⟩),O Q (k:Int),O Q 11] a fun e m=>e= A4 (Br #[])/\Pr w0 d (T++(i++I)) t m/\Kq w0.heap.size w m):=K
 clear K;have bo:(0:Int)<(N.ks.length:Int):=by omega
 rcases a2 with⟨e,rfl⟩|⟨e,rfl⟩|⟨e,rfl⟩
 ·have L:(N.op==21)=A6:=by simpa using e
  clear e y;go_in;go_wp2_with fail;refine(aC w0 d T _ t _ o.out.1 (by omega)).mono ?_;rintro e a ⟨rfl,p2,b⟩;obtain⟨u,J,s⟩:=z.out a p2 b;clear p2 b;go_wp2_with fail;refine s.mono ?_;rintro e C ⟨rfl,j,p⟩;go_wp2_with fail;go_end0
  exact⟨rfl,j,p⟩
 ·have L:(N.op==21)=B1:=by simp;omega
  have a0:(N.op==22)=A6:=by simpa using e
  clear e y;go_in;go_wp2_with fail;refine(aC w0 d T _ t _ o.out.1 (by omega)).mono ?_;rintro e a ⟨rfl,p2,b⟩;obtain⟨u,J,s⟩:=z.out a p2 b;clear p2 b;go_wp2_with fail;refine s.mono ?_;rintro e C ⟨rfl,j,p⟩;go_wp2_with fail;go_end0
  exact⟨rfl,j,p⟩
 ·have L:(N.op==21)=B1:=by simp;omega
  have a0:(N.op==22)=B1:=by simp;omega
  have bn:(N.op==20)=A6:=by simpa using e
  clear e y;go_in;go_wp2_with fail;refine(aC w0 d T _ t _ o.out.1 (by omega)).mono ?_;rintro e a ⟨rfl,p2,b⟩;obtain⟨u,J,s⟩:=z.out a p2 b;clear p2 b;go_wp2_with fail;refine s.mono ?_;rintro e C ⟨rfl,j,p⟩;go_wp2_with fail;go_end0
  exact⟨rfl,j,p⟩
theorem aby(op:Int):4<=(xe op).2/\(xe op).2<=11:=by
 unfold xe
 repeat' split
 all_goals exact⟨by decide,by decide⟩
theorem ahr(k op:Int):2<=sj k op/\sj k op<=11:=by
 have:=aby op;unfold sj
 repeat' split
 all_goals omega
theorem pt{a:Ax}{p:Addr}{i:Nat}{v:A5}(h:a.cell? (p.add i)=R v)(b:i≠0):a.cell? ⟨p.block,p.off+i,A0⟩=R v:=by
 unfold Addr.add at h;rw[aa b]at h;exact h
theorem abz(w0:Ax)(m:A5)(ns:List Nd)(E:Int->ByteArray)(t:Int)(a9:Nat)(b2:OkE w0 m ns E t a9)(N:Nd)(vn vk:A5)(an:aK w0 vk N.ks)(i r:Nat)(a6:N.ks[0]?=R (i:Int))(am:N.ks[1]?=R (r:Int))(cs:i<a9)(b0:r<a9)(b6:eK (ad ns i).k=A6)(b7:eK (ad ns r).k=A6)(cv:N.ks.length<=1048576)
  (ce:N.k≠29->N.k≠28->1<=N.op/\N.op<=18) (sign:ByteArray) (j:Int) (c9:0<=j) (da:j<=50) (T:ByteArray) (w:Ax) (h:Pr w0 m T t w) (a7:T.size+(xi ns E N sign j).size<=140737488355328):
  A8 A3 117 #[A7 (R ⟨w0.heap.size,0,A0⟩),dy N vn vk,A2 sign,O Q j] w fun e o=>e= A4 (Br #[])/\Pr w0 m (T++xi ns E N sign j) t o/\Kq w0.heap.size w o:=by
 have a5:B0 w.heap.size w (w.alloc (A9 #[O Q N.k,O Q N.f,O Q N.t,O Q N.l,O Q N.op,O Q N.n,A2 N.x,vn,vk] 36)):=(ai _ w).alloc (ag _) _;have bf:dr w.heap.size (w.alloc (A9 #[O Q N.k,O Q N.f,O Q N.t,O Q N.l,O Q N.op,O Q N.n,A2 N.x,vn,vk] 36)) 36 N vn vk:=ar w _;have c8:=h.lt;obtain⟨c5,g,rfl⟩:=an.form;obtain⟨b,rfl,_⟩:=an.get a6;have b9:bJ N 0=(i:Int):=by unfold bJ;rw[List.getD,a6];rfl
 have ca:bJ N 1=(r:Int):=by unfold bJ;rw[List.getD,am];rfl
 have cx:1<N.ks.length:=by rcases bv 1 N.ks.length with e|e;exact e;rw[fm e]at am;cases am
 have a8:=Gu N vn (U (R b) N.ks.length g) ce;obtain⟨d,b1⟩:=aA N.ks.length;rw[b1]at cx cv an a5 bf a8⊢;have u:B3 (Pr w0 m T t (w.alloc (A9 #[O Q N.k,O Q N.f,O Q N.t,O Q N.l,O Q N.op,O Q N.n,A2 N.x,vn,U (R b) d g] 36))/\Kq w0.heap.size w (w.alloc (A9 #[O Q N.k,O Q N.f,O Q N.t,O Q N.l,O Q N.op,O Q N.n,A2 N.x,vn,U (R b) d g] 36))
  /\dr w.heap.size (w.alloc (A9 #[O Q N.k,O Q N.f,O Q N.t,O Q N.l,O Q N.op,O Q N.n,A2 N.x,vn,U (R b) d g] 36)) 36 N vn (U (R b) d g)/\aK w0 (U (R b) d g) N.ks/\N.ks[0]?=R (i:Int)/\N.ks[1]?=R (r:Int)):=⟨h.below a5,Kq.of_below a5,bf,an,a6,am⟩
 have J:=jn b2 b6 b7;have ct:=ahr N.k N.op;obtain⟨c4,B⟩:=aA (xi ns E N sign j);rw[B]at a7⊢;unfold xi Dh at B;rw[b9,ca]at B;generalize sj N.k N.op=A at a8 ct B;obtain⟨v,C⟩:=aA (if A=j then j+1 else j);rw[C]at B;have cb:0<=v/\v<=51:=by rw[<-C];split<;>omega
 have bD:=aj B;have cc:T.size+((gE ns E i v).size+sign.size+(gE ns E r A).size)<=140737488355328:=by rw[<-B,ae,ae]at a7;exact a7
 have af:=aj cc;have ak:B3 (∀w:Ax,A8 A3 146 #[dy N vn (U (R b) d g)] w fun e o=>e= A4 (O Q A)/\B0 w.heap.size w o):=a8;clear h a5 bf an a6 am b9 ca b2 b6 b7 ce b1 B a7 cc a8;unfold dy at ak⊢;have c6:(0:Int)<(d:Int):=by omega
 have c7:(1:Int)<(d:Int):=by omega
 have bw:=aj cb;have cn:∀(c:Ax),Pr w0 m T t c->Kq w0.heap.size w c->dr w.heap.size c 36 N vn (U (R b) d g)->
   c.cell? ⟨w.heap.size,8,A0⟩=R (U (R b) d g)/\c.cell? b=R (O Q (i:Int))/\A8 A3 67 #[A7 (R ⟨w0.heap.size,0,A0⟩),O Q (i:Int),O Q v] c fun e o=>e= A4 (Br #[])/\Pr w0 m (T++gE ns E i v) t o/\Kq w0.heap.size w o/\dr w.heap.size o 36 N vn (U (R b) d g):=by
  intro c cm cz bE;obtain⟨_,_,_,_,_,_,_,_,a3,_⟩:=aq bE;obtain⟨cB,bd,a4⟩:=(u.out.2.2.2.1.below cm.bel).get u.out.2.2.2.2.1;cases bd;refine⟨a3,by simpa [Addr.add] using a4,?_⟩;refine(J.out.1 i v _ c cs J.out.2.1 bw.out.1 (by have:=bw.out.2;omega) cm (by have:=af.out;omega)).mono ?_;rintro e cp ⟨rfl,c0,ck⟩;exact⟨rfl,c0,cz.trans ck,ck.box bE (by omega)⟩
 have bA:B3 (∀(c:Ax),Pr w0 m T t c->Kq w0.heap.size w c->dr w.heap.size c 36 N vn (U (R b) d g)->
   c.cell? ⟨w.heap.size,8,A0⟩=R (U (R b) d g)/\c.cell? b=R (O Q (i:Int))/\A8 A3 67 #[A7 (R ⟨w0.heap.size,0,A0⟩),O Q (i:Int),O Q v] c fun e o=>e= A4 (Br #[])/\Pr w0 m (T++gE ns E i v) t o/\Kq w0.heap.size w o/\dr w.heap.size o 36 N vn (U (R b) d g)):=cn
 clear cn cb;have cl:∀(c:Ax),dr w.heap.size c 36 N vn (U (R b) d g)->∀a,Kq w0.heap.size c a->B0 w0.heap.size w0 a->
   a.cell? ⟨w.heap.size,0,A0⟩=R (O Q N.k)/\a.cell? ⟨w.heap.size,1,A0⟩=R (O Q N.f)/\a.cell? ⟨w.heap.size,2,A0⟩=R (O Q N.t)/\a.cell? ⟨w.heap.size,3,A0⟩=R (O Q N.l)/\a.cell? ⟨w.heap.size,4,A0⟩=R (O Q N.op)/\a.cell? ⟨w.heap.size,5,A0⟩=R (O Q N.n)/\a.cell? ⟨w.heap.size,6,A0⟩=R (A2 N.x)/\a.cell? ⟨w.heap.size,7,A0⟩=R vn/\a.cell? ⟨w.heap.size,8,A0⟩=R (U (R b) d g)/\a.cell? ⟨b.block,b.off+1,A0⟩=R (O Q (r:Int))/\Kq w0.heap.size c a:=by
  intro c cq a cf cu;obtain⟨bk,bl,bn,bo,bq,br,bs,bt,a3,_⟩:=aq (cf.box cq (by omega));obtain⟨cB,bd,a4⟩:=(u.out.2.2.2.1.below cu).get u.out.2.2.2.2.2;cases bd;exact⟨bk,bl,bn,bo,bq,br,bs,bt,a3,pt a4 (by decide),cf⟩
 by_cases K:A=j
 ·have cr:(A==j)=A6:=by simpa using K
  rw[ab K]at C;have L:=aj C;clear K C;go_in;go_wp2_with fail;refine cd (ak.out _) fun bj y=>?_;obtain⟨ba,bb,av⟩:=bA.out bj (u.out.1.below y) (u.out.2.1.trans (Kq.of_below y)) (u.out.2.2.1.below y);clear y;go_wp2_with fail;rw[<-L.out]at av;refine av.mono ?_;rintro e cp ⟨rfl,I,ao,al⟩;rw[L.out]at I;have F:=jn I ao al;clear I ao al ba bb;go_wp2_with fail;refine(aC w0 m _ sign t _ F.out.1 (by have:=af.out;rw[ae];omega)).mono ?_;rintro e s ⟨rfl,a0,H⟩;have G:=H.box F.out.2.2 (by omega);have p:B3 (Pr w0 m (T++gE ns E i v++sign) t s/\Kq w0.heap.size w s):=⟨a0,F.out.2.1.trans H⟩;have z:=cl s G;have cy:=au G;clear a0 H G;obtain⟨bk,bl,bn,bo,bq,br,bs,bt,a3,a4,_⟩:=z s (Kq.refl _ _) p.out.1.bel;go_wp2_with fail;go_region_held3 (fun a=>a.cell? ⟨w.heap.size,0,A0⟩=R (O Q N.k)/\a.cell? ⟨w.heap.size,1,A0⟩=R (O Q N.f)/\a.cell? ⟨w.heap.size,2,A0⟩=R (O Q N.t)/\a.cell? ⟨w.heap.size,3,A0⟩=R (O Q N.l)/\a.cell? ⟨w.heap.size,4,A0⟩=R (O Q N.op)/\a.cell? ⟨w.heap.size,5,A0⟩=R (O Q N.n)/\a.cell? ⟨w.heap.size,6,A0⟩=R (A2 N.x)/\a.cell? ⟨w.heap.size,7,A0⟩=R vn/\a.cell? ⟨w.heap.size,8,A0⟩=R (U (R b) d g)/\a.cell? ⟨b.block,b.off+1,A0⟩=R (O Q (r:Int))/\Kq w0.heap.size s a) (first|exact z _ (Kq.of_below (be (ai _ _))) (be p.out.1.bel)|exact z _ (Kq.of_below ((be (ai _ _)).trans q)) (p.out.1.below ((be (ai _ _)).trans q)).bel|exact z _ ((Kq.of_below ((be (ai _ _)).trans q)).trans ap) a2.bel|go_keep) (first|(go_at_call 146;refine(ak.out _).mono ?_;rintro e c2 ⟨rfl,q⟩)|(go_at_call 67;refine(J.out.1 r A _ _ b0 J.out.2.2 (by omega) (by omega) (p.out.1.below ((be (ai _ _)).trans q)) (by have:=af.out;rw[ae,ae];omega)).mono ?_;rintro e c3 ⟨rfl,a2,ap⟩))
  go_wp2_with fail;go_end0
  refine⟨rfl,?_,(p.out.2.trans (Kq.of_below ((be (ai _ _)).trans q))).trans ap⟩;rw[<-bD.out,<-aB,<-aB];exact a2
 ·have cr:(A==j)=B1:=by simpa using K
  rw[aa K]at C;have L:=aj C;clear K C;go_in;go_wp2_with fail;refine cd (ak.out _) fun bj y=>?_;obtain⟨ba,bb,av⟩:=bA.out bj (u.out.1.below y) (u.out.2.1.trans (Kq.of_below y)) (u.out.2.2.1.below y);clear y;go_wp2_with fail;rw[<-L.out]at av;refine av.mono ?_;rintro e cp ⟨rfl,I,ao,al⟩;rw[L.out]at I;have F:=jn I ao al;clear I ao al ba bb;go_wp2_with fail;refine(aC w0 m _ sign t _ F.out.1 (by have:=af.out;rw[ae];omega)).mono ?_;rintro e s ⟨rfl,a0,H⟩;have G:=H.box F.out.2.2 (by omega);have p:B3 (Pr w0 m (T++gE ns E i v++sign) t s/\Kq w0.heap.size w s):=⟨a0,F.out.2.1.trans H⟩;have z:=cl s G;have cy:=au G;clear a0 H G;obtain⟨bk,bl,bn,bo,bq,br,bs,bt,a3,a4,_⟩:=z s (Kq.refl _ _) p.out.1.bel;go_wp2_with fail;go_region_held3 (fun a=>a.cell? ⟨w.heap.size,0,A0⟩=R (O Q N.k)/\a.cell? ⟨w.heap.size,1,A0⟩=R (O Q N.f)/\a.cell? ⟨w.heap.size,2,A0⟩=R (O Q N.t)/\a.cell? ⟨w.heap.size,3,A0⟩=R (O Q N.l)/\a.cell? ⟨w.heap.size,4,A0⟩=R (O Q N.op)/\a.cell? ⟨w.heap.size,5,A0⟩=R (O Q N.n)/\a.cell? ⟨w.heap.size,6,A0⟩=R (A2 N.x)/\a.cell? ⟨w.heap.size,7,A0⟩=R vn/\a.cell? ⟨w.heap.size,8,A0⟩=R (U (R b) d g)/\a.cell? ⟨b.block,b.off+1,A0⟩=R (O Q (r:Int))/\Kq w0.heap.size s a) (first|exact z _ (Kq.of_below (be (ai _ _))) (be p.out.1.bel)|exact z _ (Kq.of_below ((be (ai _ _)).trans q)) (p.out.1.below ((be (ai _ _)).trans q)).bel|exact z _ ((Kq.of_below ((be (ai _ _)).trans q)).trans ap) a2.bel|go_keep) (first|(go_at_call 146;refine(ak.out _).mono ?_;rintro e c2 ⟨rfl,q⟩)|(go_at_call 67;refine(J.out.1 r A _ _ b0 J.out.2.2 (by omega) (by omega) (p.out.1.below ((be (ai _ _)).trans q)) (by have:=af.out;rw[ae,ae];omega)).mono ?_;rintro e c3 ⟨rfl,a2,ap⟩))
  go_wp2_with fail;go_end0
  refine⟨rfl,?_,(p.out.2.trans (Kq.of_below ((be (ai _ _)).trans q))).trans ap⟩;rw[<-bD.out,<-aB,<-aB];exact a2
theorem xo(l:List ByteArray)(k:Nat)(x:ByteArray)(c:l[k]?=R x):iA (l.take (k+1))=iA (l.take k)++x:=by
 obtain⟨a,b⟩:=List.getElem?_eq_some_iff.1 c;unfold iA;rw[List.take_succ_eq_append_getElem a,List.foldl_append,b];rfl
theorem ad5(l:List ByteArray)(k:Nat):(iA (l.take k)).size<=(iA (l.take (k+1))).size:=by
 by_cases a:k<l.length
 ·rw[xo l k _ (aE a),ae];omega
 ·rw[cI (by omega),cI (by omega)];exact ag _
theorem Ly(l:List ByteArray)(k:Nat):(iA (l.take k)).size<=(iA l).size:=by
 have b:∀a,(iA (l.take k)).size<=(iA (l.take (k+a))).size:=by
  intro a
  induction a with
  |zero=>exact ag _
  |succ a c=>exact dh c (ad5 l (k+a))
 have:=b l.length
 rwa [cI (show l.length<=k+l.length by omega)]at this
def aki(w0:Ax)(f:A5)(ns:List Nd)(S:Int->Nat->ByteArray)(e:Nat):Prop:=
 ∀(a b:Nat)(c:ByteArray)(d:Ax),a<e->ja (ad ns a).k=A6->b+e<=500000->Pr w0 f c b d->c.size+(S a b).size<=140737488355328->
  A8 A3 32 #[A7 (R ⟨w0.heap.size,0,A0⟩),O Q (a:Int)] d fun h g=>h= A4 (Br #[])/\Pr w0 f (c++S a b) b g/\Kq w0.heap.size d g
def ai0(ns:List Nd)(b:Nat)(c:List Int):Prop:=∀d∈c,∃a:Nat,d=(a:Int)/\a<b/\a<ns.length/\ja (ad ns a).k=A6
theorem Dk(w0:Ax)(E:A5)(ns:List Nd)(S:Int->Nat->ByteArray)(H:Nat)(ap:aki w0 E ns S H)(ao:co w0 E ns)(b4:ns.length<=1048576)(i:Nat)(bj:i<ns.length)(am:ai0 ns H (ad ns i).ks)(bk:(ad ns i).ks.length<=1048576)(tab:Nat)(c0:tab+H<500000)
  (T:ByteArray) (w:Ax) (h:Pr w0 E T tab w) (y:T.size+(uz S (ad ns i).ks tab).size<=140737488355328):
  A8 A3 64 #[A7 (R ⟨w0.heap.size,0,A0⟩),O Q (i:Int)] w fun e m=>e= A4 (Br #[])/\Pr w0 E (T++uz S (ad ns i).ks tab) tab m/\Kq w0.heap.size w m:=by
 have bn:=pL bj;obtain⟨cn,j,rfl⟩:=ao.form;obtain⟨l,rfl,c5,c4,ak⟩:=ao.get bn;obtain⟨z0,ce,cf⟩:=h.cells;have ba:=ah h.bel ak.c8;have u:=ak.hk;obtain⟨r,bl⟩:=aA ((ad ns i).ks);rw[bl]at am bk y u⊢;obtain⟨cp,cq,rfl⟩:=u.form;obtain⟨d,bf⟩:=aA ns.length;obtain⟨g,an⟩:=aA r.length;rw[bf]at z0 h ap b4 bj⊢;rw[an]at ba u bk;have f:=ags h u am ap an;have cz:(i:Int)<(d:Int):=by omega
 have cB:(0:Int)<=(i:Int):=by omega
 obtain⟨a9,k⟩:=aA (uz S r tab);rw[k]at y⊢;clear h ao ak bn am ap u bl bf an;unfold uz at k;by_cases q:r=[]
 ·have b1:g=0:=by have:=f.out.2.2.2.2;rw[q]at this;simpa using this.symm
  rw[ab q]at k;subst k b1;clear q;go_in;go_wp2_with fail;refine(aC w0 _ T _ _ _ f.out.1 y).mono ?_;rintro e F ⟨rfl,v,B⟩;go_wp2_with fail;exact bB (sH rfl _ _ _) rfl ⟨rfl,v,B⟩
 ·rw[aa q]at k;have b2:0<g:=by
   have:=f.out.2.2.2.2;cases r with
   |nil=>exact absurd rfl q
   |cons cm c3=>simp at this;omega
  have cu:((g:Int)==0)=B1:=by simp;omega
  obtain⟨b,z⟩:∃b,(r.map fun a=>ig (tab+1)++S a (tab+1))=b:=⟨_,rfl⟩;rw[z]at k;have af:B3 (⟨#[123]⟩++iA b++ig tab++⟨#[125]⟩=a9/\(r.map fun a=>ig (tab+1)++S a (tab+1))=b/\b.length=g):=⟨k,z,by rw[<-z,dL];exact f.out.2.2.2.2⟩;have br:T.size+(1+(iA b).size+(tab+1)+1)<=140737488355328:=by
   have e:a9.size=1+(iA b).size+(tab+1)+1:=by rw[<-k,ae,ae,ae,mz];rfl
   omega
  have t:=aj br;clear k z y q br b2;go_in;go_wp2_with fail;refine(aC w0 _ T ⟨#[123]⟩ _ _ f.out.1 (by have:=t.out;show T.size+1<=_;omega)).mono ?_;rintro e F ⟨rfl,v,B⟩;obtain⟨a4,G,x⟩:=v.cells;have a5:=x 2;have bt:=v.putTab ((tab:Int)+1);have I:B3 (Pr w0 (U (R l) d j) (T++⟨#[123]⟩) ((tab+1:Nat):Int) (F.setCell ⟨w0.heap.size,2,A0⟩ (O Q ((tab:Int)+1)))/\Kq w0.heap.size w (F.setCell ⟨w0.heap.size,2,A0⟩ (O Q ((tab:Int)+1)))):=⟨by rw[show((tab+1:Nat):Int)=(tab:Int)+1 by omega];exact bt,B.trans (Kq.putP _ _ _ _)⟩;clear v B bt x;go_wp2_with fail;generalize F.setCell ⟨w0.heap.size,2,A0⟩ (O Q ((tab:Int)+1))=ck at I⊢;clear a4 G a5 z0 ce cf ba;go_loopw [32] (fun a3 wr=>∃a:Nat,a<=g/\a3= O Q a/\B3 (Pr w0 (U (R l) d j) (T++⟨#[123]⟩++iA (b.take a)) ((tab+1:Nat):Int) wr/\Kq w0.heap.size w wr)) (fun a3 _=>g-(B4 a3).toNat)
  case atStart=>exact⟨0,by omega,rfl,by rw[show T++⟨#[123]⟩++iA (b.take 0)=T++⟨#[123]⟩ from ByteArray.append_empty];exact I.out.1,I.out.2⟩
  case round=>
   obtain⟨a,cv,rfl,p⟩:=hrel;by_cases b5:a<g
   ·obtain⟨cc,A⟩:=bH f.out.2.2.2.2 b5;obtain⟨s,rfl,bo,b6,bp⟩:=f.out.2.2.1 cc (dl A);obtain⟨bE,rfl,b0⟩:=(f.out.2.1.below p.out.1.bel).get A;have cy:(a:Int)<(g:Int):=by omega
    have cx:(0:Int)<=(a:Int):=by omega
    have bq:b[a]?=R (ig (tab+1)++S s (tab+1)):=by rw[<-af.out.2.1,cA,A];rfl
    have al:=xo b a _ bq;have bb:=Ly b (a+1);have bd:(iA (b.take a)).size+(tab+2+(S s (tab+1)).size)<=(iA b).size:=by rw[al,ae,ae,mz]at bb;omega
    have L:=eH al bd;have a7:=eH bo bp;have av:a=0->wr.cell? bE=R (O Q (s:Int)):=fun e=>by subst e;simpa [Addr.add] using b0
    clear al bb bd A bq bo b6 bp;have bx:∀c,Pr w0 (U (R l) d j) (T++⟨#[123]⟩++iA (b.take a)++ig (tab+1)) ((tab+1:Nat):Int) c->Kq w0.heap.size wr c->A8 A3 32 #[A7 (R ⟨w0.heap.size,0,A0⟩),O Q (s:Int)] c fun e m=>e= A4 (Br #[])/\B3 (Pr w0 (U (R l) d j) (T++⟨#[123]⟩++iA (b.take (a+1))) ((tab+1:Nat):Int) m/\Kq w0.heap.size w m):=by
     intro c o n;refine(f.out.2.2.2.1 s (tab+1) _ c a7.out.1 a7.out.2 (by omega) o (by have:=L.out.2;have:=t.out;rw[ae,ae,ae,mz];show T.size+1+_+_+_<=_;omega)).mono ?_;rintro e bA ⟨rfl,b9,b7⟩;refine⟨rfl,?_,(p.out.2.trans n).trans b7⟩;rw[L.out.1,<-aB,<-aB];exact b9
    have a8:B3 (∀c,Pr w0 (U (R l) d j) (T++⟨#[123]⟩++iA (b.take a)++ig (tab+1)) ((tab+1:Nat):Int) c->Kq w0.heap.size wr c->A8 A3 32 #[A7 (R ⟨w0.heap.size,0,A0⟩),O Q (s:Int)] c fun e m=>e= A4 (Br #[])/\B3 (Pr w0 (U (R l) d j) (T++⟨#[123]⟩++iA (b.take (a+1))) ((tab+1:Nat):Int) m/\Kq w0.heap.size w m)):=bx;have C:=Gt w0 (U (R l) d j) (T++⟨#[123]⟩++iA (b.take a)) (tab+1) wr p.out.1 (by omega) (by have:=L.out.2;have:=t.out;rw[ae,ae];show T.size+1+_+_<=_;omega);clear bx;by_cases b3:a=0
    ·subst b3;have cr:=av rfl;clear av;go_wp2_with fail;refine C.mono ?_;rintro e c ⟨rfl,o,n⟩;have ks:=a8.out c o n;clear o n C;go_wp2_with fail;refine ks.mono ?_;rintro e bA ⟨rfl,J⟩;go_wp2_with fail;exact⟨⟨1,by omega,by go_num,J⟩,by simp[B4];omega⟩
    ·clear av;go_wp2_with fail;refine C.mono ?_;rintro e c ⟨rfl,o,n⟩;have ks:=a8.out c o n;clear o n C;go_wp2_with fail;refine ks.mono ?_;rintro e bA ⟨rfl,J⟩;go_wp2_with fail;exact⟨⟨a+1,by omega,by go_num,J⟩,by simp[B4];omega⟩
   ·obtain rfl:a=g:=by omega
    obtain⟨a4,G,x⟩:=p.out.1.cells;have cb:wr.cell? ⟨w0.heap.size,2,A0⟩=R (O Q ((tab:Int)+1)):=by rw[G];rw[show((tab+1:Nat):Int)=(tab:Int)+1 by omega]
    have a5:=x 2;have a0:=p.out.1.putTab (tab:Int);rw[cI (by rw[af.out.2.2];exact ag _)]at a0;have K:B3 (Pr w0 (U (R l) d j) (T++⟨#[123]⟩++iA b) (tab:Int) (wr.setCell ⟨w0.heap.size,2,A0⟩ (O Q (tab:Int)))/\Kq w0.heap.size w (wr.setCell ⟨w0.heap.size,2,A0⟩ (O Q (tab:Int)))):=⟨a0,p.out.2.trans (Kq.putP _ _ _ _)⟩;have ct:(tab:Int)+1-1=(tab:Int):=by omega
    clear a0 G x a4;go_wp2_with fail;generalize wr.setCell ⟨w0.heap.size,2,A0⟩ (O Q (tab:Int))=cl at K⊢;refine(Gt w0 _ _ tab _ K.out.1 (by omega) (by have:=t.out;rw[ae,ae];show T.size+1+_+_<=_;omega)).mono ?_;rintro e bD ⟨rfl,bw,bs⟩;have a6:B3 (Pr w0 (U (R l) d j) (T++⟨#[123]⟩++iA b++ig tab) (tab:Int) bD/\Kq w0.heap.size w bD):=⟨bw,K.out.2.trans bs⟩;clear bw bs cb a5;go_wp2_with fail;refine(aC w0 _ _ ⟨#[125]⟩ _ _ a6.out.1 (by have:=t.out;rw[ae,ae,ae,mz];show T.size+1+_+_+1<=_;omega)).mono ?_;rintro e c6 ⟨rfl,ca,b8⟩;go_wp2_with fail;go_end0
    refine⟨rfl,?_,a6.out.2.trans b8⟩;rw[<-af.out.1,<-aB,<-aB,<-aB];exact ca
def Wr(w0:Ax)(c:A5)(t:Int)(f:FuncId)(args:Array A5)(Y:ByteArray):Prop:=
 ∀(a:ByteArray)(b:Ax),Pr w0 c a t b->a.size+Y.size<=140737488355328->A8 A3 f args b fun e d=>e= A4 (Br #[])/\Pr w0 c (a++Y) t d/\Kq w0.heap.size b d
abbrev pW(w0:Ax):A5:= A7 (R ⟨w0.heap.size,0,A0⟩)
abbrev iL(N:Nd)(vn vk:A5):Obj:= A9 #[O Q N.k,O Q N.f,O Q N.t,O Q N.l,O Q N.op,O Q N.n,A2 N.x,vn,vk] 36
structure NdR (w0:Ax) (p1:Addr) (i:Nat) (N:Nd) (an:Option Addr) (M cn:Nat) (ak:Option Addr) (L ck:Nat):Prop where
 nm:bF w0 (.slice an M cn) N.nm
 ks:aK w0 (.slice ak L ck) N.ks
 hM:N.nm.length=M
 hL:N.ks.length=L
 cap:L<=ck
 rd:∀W,B0 w0.heap.size w0 W->aa0 W (p1.add (i*9)) N (.slice an M cn) (.slice ak L ck)
def jm(w0:Ax)(p1:Addr)(ns:List Nd):Prop:=
 ∀b a d c,ns[b]?=R a->w0.cell? ⟨(p1.add (b*9)).block,(p1.add (b*9)).off+8,A0⟩=R (U d a.ks.length c)->a.ks.length<=c
theorem fG{w0:Ax}{p1:Addr}{n c1:Nat}{ns:List Nd}(f:co w0 (U (R p1) n c1) ns)(h:jm w0 p1 ns){i:Nat}(j:i<ns.length):∃an d cn b L ck,NdR w0 p1 i (ad ns i) an d cn b L ck:=by
 have c:=pL j;obtain⟨l,e,o,m,a⟩:=f.get c;cases e;obtain⟨an,cn,rfl⟩:=a.hn.form;obtain⟨b,ck,rfl⟩:=a.hk.form;exact⟨an,_,cn,b,_,ck,a.hn,a.hk,rfl,rfl,h i _ b ck c a.c8,fun k g=>a.below g⟩
structure Bx (w0:Ax) (vt:A5) (t:Int) (w:Ax) (N:Nd) (vn vk:A5) (T:ByteArray) (W:Ax):Prop where
 pr:Pr w0 vt T t W
 kq:Kq w0.heap.size w W
 bx:dr w.heap.size W 36 N vn vk
theorem Bx.new{w0:Ax}{b:A5}{t:Int}{w:Ax}{T:ByteArray}(h:Pr w0 b T t w)(N:Nd)(vn vk:A5):Bx w0 b t w N vn vk T (w.alloc (iL N vn vk)):=by
 have a:B0 w.heap.size w (w.alloc (iL N vn vk)):=(ai _ w).alloc (ag _) _;exact⟨h.below a,Kq.of_below a,ar w _⟩
theorem Bx.next{w0:Ax}{b:A5}{t:Int}{w:Ax}{N:Nd}{vn vk:A5}{T c:ByteArray}{d a:Ax}(h:Bx w0 b t w N vn vk T d)(e:w0.heap.size<w.heap.size)(p:Pr w0 b c t a)(k:Kq w0.heap.size d a):Bx w0 b t w N vn vk c a:=
 ⟨p,h.kq.trans k,k.box h.bx (by omega)⟩
theorem Bx.below{w0:Ax}{d:A5}{t:Int}{w:Ax}{N:Nd}{vn vk:A5}{T:ByteArray}{a c:Ax}(h:Bx w0 d t w N vn vk T a)(b:B0 a.heap.size a c):Bx w0 d t w N vn vk T c:=
 ⟨h.pr.below b,h.kq.trans (Kq.of_below b),h.bx.below b⟩
theorem Bx.cells{w0:Ax}{p:A5}{t:Int}{w:Ax}{N:Nd}{vn vk:A5}{T:ByteArray}{a:Ax}(h:Bx w0 p t w N vn vk T a):a.cell? ⟨w.heap.size,0,A0⟩=R (O Q N.k)/\a.cell? ⟨w.heap.size,1,A0⟩=R (O Q N.f)/\a.cell? ⟨w.heap.size,2,A0⟩=R (O Q N.t)/\a.cell? ⟨w.heap.size,3,A0⟩=R (O Q N.l)/\a.cell? ⟨w.heap.size,4,A0⟩=R (O Q N.op)/\a.cell? ⟨w.heap.size,5,A0⟩=R (O Q N.n)/\a.cell? ⟨w.heap.size,6,A0⟩=R (A2 N.x)/\a.cell? ⟨w.heap.size,7,A0⟩=R vn/\a.cell? ⟨w.heap.size,8,A0⟩=R vk:=by
 obtain⟨b,c,d,e,g,i,j,m,o,q⟩:=aq h.bx;exact⟨b,c,d,e,g,i,j,m,o⟩
theorem Bx.kid0{w0:Ax}{f:A5}{t:Int}{w:Ax}{N:Nd}{vn:A5}{a:Addr}{L ck:Nat}{T:ByteArray}{b:Ax}(h:Bx w0 f t w N vn (U (R a) L ck) T b)(d:aK w0 (U (R a) L ck) N.ks){q:Int}(e:N.ks[0]?=R q):b.cell? a=R (O Q q):=by
 obtain⟨i,c,g⟩:=(d.below h.pr.bel).get e;cases c;simpa [Addr.add] using g
theorem Bx.kid{w0:Ax}{g:A5}{t:Int}{w:Ax}{N:Nd}{vn:A5}{a:Addr}{L ck:Nat}{T:ByteArray}{b:Ax}(h:Bx w0 g t w N vn (U (R a) L ck) T b)(e:aK w0 (U (R a) L ck) N.ks){j:Nat}{q:Int}(f:N.ks[j]?=R q)(d:j≠0):b.cell? ⟨a.block,a.off+j,A0⟩=R (O Q q):=by
 obtain⟨k,c,i⟩:=(e.below h.pr.bel).get f;cases c;exact pt i d
theorem Bx.name0{w0:Ax}{g:A5}{t:Int}{w:Ax}{N:Nd}{a:Addr}{b cn:Nat}{vk:A5}{T:ByteArray}{c:Ax}(h:Bx w0 g t w N (U (R a) b cn) vk T c)(e:bF w0 (U (R a) b cn) N.nm){s:ByteArray}(f:N.nm[0]?=R s):c.cell? a=R (A2 s):=by
 obtain⟨j,d,i⟩:=(e.below h.pr.bel).get f;cases d;simpa [Addr.add] using i
theorem aK.ptr{b:Ax}{a:Option Addr}{L ck:Nat}{l:List Int}(h:aK b (U a L ck) l)(d:0<l.length):∃f,a=R f:=by
 obtain⟨e,c,_⟩:=h.get (aE d);exact⟨e,c⟩
theorem bF.ptr{b:Ax}{a:Option Addr}{L ck:Nat}{l:List ByteArray}(h:bF b (U a L ck) l)(d:0<l.length):∃f,a=R f:=by
 obtain⟨e,c,_⟩:=h.get (aE d);exact⟨e,c⟩
theorem dk{N:Nd}{j:Nat}{q:Int}(h:N.ks[j]?=R q):j<N.ks.length:=(List.getElem?_eq_some_iff.1 h).1
def uA(a:Ax)(b:Nat)(N:Nd)(vn vk:A5):Prop:=a.cell? ⟨b,0,A0⟩=R (O Q N.k)/\a.cell? ⟨b,1,A0⟩=R (O Q N.f)/\a.cell? ⟨b,2,A0⟩=R (O Q N.t)/\a.cell? ⟨b,3,A0⟩=R (O Q N.l)/\a.cell? ⟨b,4,A0⟩=R (O Q N.op)/\a.cell? ⟨b,5,A0⟩=R (O Q N.n)/\a.cell? ⟨b,6,A0⟩=R (A2 N.x)/\a.cell? ⟨b,7,A0⟩=R vn/\a.cell? ⟨b,8,A0⟩=R vk
theorem add_add(a:Addr)(i j:Nat):(a.add i).add j=a.add (i+j):=by
 unfold Addr.add;by_cases b:i=0
 ·subst b;simp
 ·by_cases c:j=0
  ·subst c;simp[b]
  ·simp[b,c];omega
theorem aK.take{d:Ax}{a:Option Addr}{n c:Nat}{l:List Int}(h:aK d (U a n c) l)(k:Nat)(g:k<=l.length):aK d (U a k c) (l.take k):=by
 rcases h with⟨rfl,e,i,f⟩|⟨e,i,f,m⟩
 ·have:k=0:=by simpa using g
  subst this;exact .inl ⟨rfl,a,c,rfl⟩
 ·cases f;by_cases j:k=0
  ·subst j;exact .inl ⟨by simp,_,_,rfl⟩
  ·refine .inr ⟨e,c,by rw[gx,sI g],fun o p b=>m o p ?_⟩;rw[mF]at b;split at b
   ·exact b
   ·cases b
theorem aK.drop{d:Ax}{a:Addr}{n c b:Nat}{l:List Int}(h:aK d (U (R a) n c) l)(k m:Nat)(r:k<=l.length)(o:m=l.length-k):aK d (U (R (a.add k)) m b) (l.drop k):=by
 subst o;rcases h with⟨rfl,g,i,e⟩|⟨g,i,e,j⟩
 ·exact .inl ⟨by simp,R (a.add k),b,by simp⟩
 ·cases e;refine .inr ⟨a.add k,b,by rw[ij],fun p q f=>?_⟩;rw[qI]at f;rw[add_add];exact j (k+p) q f
