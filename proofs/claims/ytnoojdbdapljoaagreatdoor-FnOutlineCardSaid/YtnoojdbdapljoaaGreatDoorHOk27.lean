import Derived.Test.YtnoojdbdapljoaaGreatDoorHOk15
import Derived.Test.YtnoojdbdapljoaaGreatDoorHOk25
set_option linter.all false
set_option maxRecDepth 100000
set_option maxHeartbeats 6400000
open Go.Value renaming int->O,slice->V,string->A2,pointer->A5,tuple->A9
open Go.IntKind renaming i64->Q
open Option renaming some->R,none->Z
open Go renaming World->U,Value->A4,Calls->A6
open ByteArray renaming empty->Ax
open Go.Proofs.Tryz renaming prog->A0
open Go.Lib renaming decDigits->A1
open Go.Ending renaming returned->A3
open Go.Obj renaming cells->A7
open Go.RowKit renaming Below->A8,Hid->B0,intOf->B2
open Bool renaming true->Br,false->B1
namespace Go.Proofs.YtnoojdbdapljoaaGreatDoor
open Go.RowKit Go.Maps Go.WideMaps
def hxd(u:Nat)(j:Nat):Int:=qo ((u / 16 ^ j%16:Nat):Int)
def hxO(u:Nat):Nat->ByteArray
 |0=>⟨#[48,120]⟩
 |r+1=>hxO u r++ga [hxd u (15-r)]
theorem Nat.pow_mul_two16(k:Nat):(2:Int) ^ (4*k)=(16:Int) ^ k:=by rw[Int.pow_mul];rfl
theorem zF(u:Nat):∀r,(hxO u r).size=r+2
 |0=>rfl
 |r+1=>by show(hxO u r++ga [hxd u (15-r)]).size=_;rw[ag,zF u r];rfl
theorem acD(d:Int)(b:0<=d)(c:d<16)(w:U):(Instr.index 9 (A2 ⟨#[48,49,50,51,52,53,54,55,56,57,97,98,99,100,101,102]⟩) (O .u64 d)).run A0 w= .ok (O .u8 (qo d)) w:=by
 have a:d.toNat<DG.size:=by simp only[DG];show d.toNat<16;omega
 have e:=ag5 d b c a;go_simp;exact e
theorem ajG(c:Int)(a:0<=c)(b:c<18446744073709551616):bits .and .u64 c 15=c%16:=by
 have:=bits_mask .u64 64 (by decide) (fun f d e=>by rw[IntKind.wrap_u64];omega) 4 (by decide) c a b;simpa using this
theorem Lp(n:Int)(A: -9223372036854775808<=n)(B:n<0)(w:U):A6 A0 181 #[O Q n] w fun e z=>e= A3 (A2 (hxO (n+18446744073709551616).toNat 16))/\A8 w.heap.size w z:=by
 obtain⟨c,x⟩:∃c:Nat,(c:Int)=n+18446744073709551616:=⟨(n+18446744073709551616).toNat,by omega⟩;rw[show(n+18446744073709551616).toNat=c by omega];obtain⟨d,p⟩:∃d:Int,d=(c:Int):=⟨_,rfl⟩;have af:IntKind.u64.wrap n=d:=by rw[IntKind.wrap_u64];omega
 have L:0<=d:=by omega
 have ad:d<18446744073709551616:=by omega
 have l:=aq p;have H:¬0<=n:=by omega
 clear p x;go_in;go_wp2_with fail;go_loopw [4,5] (fun y j wr=>∃b:Nat,b<=16/\j= O Q (60-4*(b:Int))/\y= A2 (hxO c b)/\A8 w.heap.size w wr) (fun _ j _=>(B2 j+4).toNat)
 case atStart=>exact⟨0,by omega,rfl,rfl,aj _ _⟩
 case round=>
  obtain⟨b,I,rfl,rfl,h⟩:=hrel;by_cases C:b<16
  ·obtain⟨f,i⟩:∃f:Int,60-4*(b:Int)=f:=⟨_,rfl⟩;have F:0<=f:=by omega
   have G:f<=60:=by omega
   obtain⟨a,r⟩:∃a:Int,d / 2 ^ f.toNat=a:=⟨_,rfl⟩;have g:a=((c / 16 ^ (15-b):Nat):Int):=by
    rw[<-r,l.out,show f.toNat=4*(15-b) by omega,Nat.pow_mul_two16,Int.natCast_ediv];rfl
   have s:0<=a:=by rw[g];exact Int.natCast_nonneg _
   have t:a<18446744073709551616:=by
    rw[g];have:=Nat.div_le_self c (16 ^ (15-b));have:=l.out;omega
   have m:0<=a%16:=by omega
   have o:a%16<16:=by omega
   have u:bits .and .u64 a 15=a%16:=ajG a s t;have v:=fun w=>acD (a%16) m o w;have k:B0 (ga [qo (a%16)]=ga [hxd c (15-b)]):=by
    show _=_;unfold hxd;rw[g];rfl
   generalize a%16=D at m o u v k;have E:=fun w=>je (oI w (qo D));have J:=zF c b;have K:(ga [qo D]).size=1:=rfl;have q:=aq i;rw[i];clear g i;go_wp2;go_roundw
   case rel=>exact⟨b+1,by omega,by have:=q.out;congr 1;omega,by rw[k.out];rfl,h.alloc h.size _⟩
   case measure=>simp[B2];omega
  ·obtain rfl:b=16:=by omega
   go_wp2;go_ret;exact⟨rfl,h⟩
theorem aig:bits .and Q 16 15=0:=by decide+kernel
theorem p2(w:U):A6 A0 172 #[O Q 16] w fun e a=>e= A3 (.bool Br)/\a=w:=by
 have b:=aig;go_in;go_wp2;go_ret;exact⟨rfl,rfl⟩
structure Rw (B:Nat) (w:U) (u r:Nat):Prop where
 ex:∃arr,w.heap[B]?=R (.cells arr 213 (0,0))/\arr.size=65/\∀j,j<r->arr[64-j]?=R (.int .u8 (hxd u j))
theorem Rw.step{a:Nat}{w:U}{u r:Nat}(h:Rw a w u r)(k:r<65)(x:Int)(g:x=hxd u r):Rw a (w.setCell ⟨a,64-r,Z⟩ (O .u8 x)) u (r+1):=by
 obtain⟨i,d,e,f⟩:=h.ex;refine⟨_,cD w a (64-r) _ _ _ d,by simp[e],fun b j=>?_⟩;rw[Array.getElem?_setIfInBounds];by_cases c:b=r
 ·subst c;rw[ab rfl,ab (by omega),g]
 ·rw[aa (by omega)];exact f b (by omega)
theorem Rw.conv{a:Nat}{w:U}{u:Nat}(h:Rw a w u 16):(convert 22 9 (.slice (R ⟨a,49,Z⟩) 16 16)).run A0 w= .ok (.string (ga ((List.range 16).map fun j=>hxd u (15-j)))) w:=by
 obtain⟨k,d,l,e⟩:=h.ex;rw[CD w 22 9 5 _ _ _ Tryz.underlying22 Tryz.underlying5 Tryz.underlying9];refine run_bytesToString w _ 16 16 _ ?_;have:=run_loadCells_list (P:=A0) w ⟨a,49,Z⟩ (B8 ((List.range 16).map fun j=>hxd u (15-j))) (fun j i b=>by
  have f:j<16:=by
   rcases cA j 16 with g|g
   ·exact g
   ·rw[fG (by simpa [B8] using g)]at b;cases b
  have c:i= .int .u8 (hxd u (15-j)):=by
   simp[B8,f]at b;exact b.symm
  subst c;rw[show(⟨a,49,Z⟩:Addr).add j=⟨a,49+j,Z⟩ by unfold Addr.add;split<;>simp_all,az _ _ _ _ _ _ d];have:=e (15-j) (by omega);rw[show 64-(15-j)=49+j by omega]at this;exact this)
 exact this
theorem uA(a b:List Int):ga (a++b)=ga a++ga b:=by
 have h:∀(d:List Int)(c:ByteArray),d.foldl (fun e f=>e.push (UInt8.ofNat f.toNat)) c=c++d.foldl (fun e f=>e.push (UInt8.ofNat f.toNat)) Ax:=by
  intro d
  induction d with
  |nil=>intro c;simp
  |cons a e g=>
   intro c;rw[rx,rx,g (c.push _),g (ByteArray.empty.push _)];apply rn;simp[ByteArray.push,jj]
 unfold ga;rw[List.foldl_append];exact h b _
def nJ(d:List UInt8):List Int:=d.map fun a=>(a.toNat:Int)
theorem po(d:List UInt8):ga (nJ d)=⟨d.toArray⟩:=by
 have g:∀(d:List UInt8)(a:ByteArray),(nJ d).foldl (fun c h=>c.push (UInt8.ofNat h.toNat)) a=⟨a.data++d.toArray⟩:=by
  intro d
  induction d with
  |nil=>intro a;simp[nJ]
  |cons b c f=>
   intro a;show(nJ c).foldl _ (a.push (UInt8.ofNat ((b.toNat:Int)).toNat))=_;rw[f];have e:UInt8.ofNat ((b.toNat:Int)).toNat=b:=by simp
   rw[e];simp[ByteArray.push]
 have:=g d Ax;unfold ga;rw[this];simp
def pre(c:Nat):List Int:=if c=0 then [] else nJ (A1 c)
theorem Fh(c:Nat)(h:c≠0):pre c=pre (c / 10)++[48+((c%10:Nat):Int)]:=by
 have d:∀b,b<10->(((UInt8.ofNat (48+b)).toNat:Nat):Int)=48+(b:Int):=fun b e=>by
  rw[UInt8.toNat_ofNat',Nat.mod_eq_of_lt (by omega)];omega
 unfold pre;rw[aa h];by_cases a:c<10
 ·rw[ab (by omega),A1,oe a,Nat.mod_eq_of_lt a];show [(((UInt8.ofNat (48+c)).toNat:Nat):Int)]=_;rw[d c a];rfl
 ·rw[aa (by omega),A1,dif_neg a];show List.map _ (_++_)=_;rw[en];show nJ (A1 (c / 10))++[(((UInt8.ofNat (48+c%10)).toNat:Nat):Int)]=_;rw[d _ (by omega)]
theorem sx(N:Nat)(a3:N≠0)(bD:N<=9223372036854775807)(w:U):A6 A0 43 #[O Q (N:Int)] w fun e bt=>e= A3 (A2 ⟨(A1 N).toArray⟩)/\A8 w.heap.size w bt:=by
 obtain⟨g,A⟩:∃g:Int,(N:Int)=g:=⟨_,rfl⟩;rw[A];have b7:0<g:=by omega
 have bo:g<=9223372036854775807:=by omega
 have b9:(g==0)=B1:=by rw[bg];omega
 have b8:¬g<0:=by omega
 have ao:=aq A;clear A;go_in;go_wp2_with fail;go_loopw [0,4,5] (fun E bs ca wr=>∃(c:Int) (a:List Int),E= O Q c/\0<=c/\c<=9223372036854775807/\B0 (c.toNat<10 ^ (19-a.length)/\a.length<=19/\nJ (A1 N)=pre c.toNat++a.reverse)/\wr.ownsRow w.heap.size 5 1 bs a.length (B8 a)/\A8 w.heap.size w wr) (fun E _ _ _=>(B2 E).toNat)
 case atStart=>
  refine⟨g,[],rfl,by omega,bo,⟨?_,by simp,?_⟩,bk _ _ _ _,aj _ _⟩
  ·have:(10:Nat) ^ (19-([]:List Int).length)=10000000000000000000:=by decide
   rw[this];omega
  ·rw[show g.toNat=N by have:=ao.out;omega];unfold pre;rw[aa a3];simp
 case round=>
  obtain⟨c,a,rfl,bw,bx,l,q,o⟩:=hrel;by_cases u:c=0
  ·subst u;obtain⟨_,L,K⟩:=l.out;have x:nJ (A1 N)=a.reverse:=K;have z:0<a.length:=by
    have e:=congrArg List.length x;rw[ru]at e;have:0<(nJ (A1 N)).length:=by
     rw[A1];split<;>simp[nJ]
    omega
   have F:B0 (ga a.reverse=⟨(A1 N).toArray⟩):=by show _=_;rw[<-x,po]
   rcases q.2 with⟨h,bl⟩|⟨t,ar,bA,am,b3,y,_,bb,m,ak⟩
   ·have:a=[]:=by
     have bE:(B8 a).length=a.length:=GD a;have:=q.1;simp at bl;omega
    rw[this]at z;simp at z
   ·have v:∀k,k<a.length->wr.cell? ⟨t,k,Z⟩=R (O .u8 (a.getD k 0)):=fun k a9=>by
     rw[az _ _ _ _ _ _ y];have f:(B8 a)[k]?=R (O .u8 (a.getD k 0)):=by simp[B8,a9,List.getD]
     rw[<-ak,lc]at f;split at f
     ·simpa using f
     ·cases f
    have a7:t<wr.heap.size:=ax y;obtain⟨d,n⟩:=aA a.length;rw[n]at z L v am;subst am;clear l K x q y ak m bb;have ad:∀b,b<d->a.reverse.take (b+1)=a.reverse.take b++[a.getD (d-1-b) 0]:=fun b B=>by
     have e:a.reverse[b]?=R (a.getD (d-1-b) 0):=by
      rw[List.getElem?_reverse (by omega),List.getD,n,aI (by omega)];rfl
     rw[dG,e];rfl
    have m:∀b,b<=d->(ga (a.reverse.take b)).size=b:=fun b B=>by
     have:∀j:List Int,(ga j).size=j.length:=by
      intro j
      induction j with
      |nil=>rfl
      |cons I J bn=>rw[show I::J=[I]++J from rfl,uA,ag,bn,aC];rfl
     rw[this,eJ,ru];omega
    have H:=aq ad;have an:=aq n;clear ad n;go_wp2_with fail;go_loopw [6,7] (fun br C wq=>∃b:Nat,b<=d/\C= O Q ((d:Int)-1-(b:Int))/\br= A2 (ga (a.reverse.take b))/\A8 wr.heap.size wr wq) (fun _ C _=>(B2 C+1).toNat)
    case atStart=>exact⟨0,by omega,by first|rfl|(congr 1;omega),rfl,aj _ _⟩
    case round=>
     obtain⟨b,B,rfl,rfl,p⟩:=hrel;have af:=m b B;by_cases bf:b<d
     ·obtain⟨i,a4⟩:∃i:Nat,d-1-b=i:=⟨_,rfl⟩;have a6:=(gF p a7).trans (v i (by omega));have s:=H.out b bf;rw[a4]at s;have r:B0 (ga (a.reverse.take b)++ga [a.getD i 0]=ga (a.reverse.take (b+1))):=by show _=_;rw[s,uA]
      generalize a.getD i 0=j at a6 r;have b1:=fun w=>je (oI w j);have b6:(ga [j]).size=1:=rfl;have a8:(d:Int)-1-(b:Int)=(i:Int):=by omega
      have bF:i<d:=by omega
      generalize ga (a.reverse.take b)=bp at af r⊢;rw[a8];clear m s v;go_wp2;go_roundw
      case rel=>exact⟨b+1,by omega,by first|rfl|(congr 1;omega),by rw[r.out],p.alloc p.size _⟩
      case measure=>simp[B2]
     ·obtain rfl:b=d:=by omega
      have b5:¬(0:Int)<=(b:Int)-1-(b:Int):=by omega
      rw[cw (by rw[ru,an.out];exact ah _)];have G:=F.out;generalize ga a.reverse=bp at G⊢;subst G;clear af m F H;go_wp2;go_ret;exact⟨rfl,o.trans (p.mono o.size)⟩
  ·have b2:(c==0)=B1:=by rw[bg];exact u
   have b0:(c !=0)=Br:=by rw[mo];exact u
   have b4:¬c%10<0:=by omega
   have L:a.length<=18:=by
    obtain⟨f,av,_⟩:=l.out;rcases cA a.length 19 with h|h
    ·omega
    ·rw[show 19-a.length=0 by omega]at f;simp at f;omega
   have ap:B0 ((c / 10).toNat<10 ^ (19-(a++[48+c%10]).length)/\(a++[48+c%10]).length<=19/\nJ (A1 N)=pre (c / 10).toNat++(a++[48+c%10]).reverse):=by
    obtain⟨f,av,a0⟩:=l.out;have a2:(a++[48+c%10]).length=a.length+1:=by simp
    refine⟨?_,by omega,?_⟩
    ·rw[a2];have a1:10 ^ (19-a.length)=10 ^ (19-(a.length+1))*10:=by rw[<-Nat.pow_succ];congr 1;omega
     rw[a1]at f;have:(c / 10).toNat=c.toNat / 10:=by omega
     rw[this];omega
    ·rw[a0,Fh c.toNat (by omega),show(c / 10).toNat=c.toNat / 10 by omega,show((c.toNat%10:Nat):Int)=c%10 by omega];simp
   clear l;go_wp2_with (at_builtin;refine gE rfl (.tmp 20) (.tmp 24) rfl w.heap.size u4 a.length a rfl q o.size (by omega) [48+c%10] 1 rfl (by decide) (by decide) _ rfl rfl ?_;intro t ar w1 bd a5);go_roundw
   case rel=>exact⟨c / 10,a++[48+c%10],by first|rfl|(congr 1;omega),by omega,by omega,ap,by rw[aC];exact bd,o.trans (a5.mono (by omega))⟩
   case measure=>simp[B2];omega
def acE(n:Int):ByteArray:=if n<0 then hxO (n+18446744073709551616).toNat 16 else⟨(A1 n.toNat).toArray⟩
theorem Lq(N:Nat)(b:N<=9223372036854775807)(w:U):A6 A0 43 #[O Q (N:Int)] w fun e c=>e= A3 (A2 ⟨(A1 N).toArray⟩)/\A8 w.heap.size w c:=by
 by_cases a:N=0
 ·subst a;have e:(⟨(A1 0).toArray⟩:ByteArray)=⟨#[48]⟩:=by rw[A1,oe (by omega)];rfl
  rw[e];show A6 A0 43 #[O Q 0] w _;go_in;go_wp2;go_ret;exact⟨rfl,aj _ _⟩
 ·exact sx N a b w
theorem Lt(n:Int)(d: -9223372036854775808<=n)(h:n<=9223372036854775807)(w:U):A6 A0 181 #[O Q n] w fun e a=>e= A3 (A2 (acE n))/\A8 w.heap.size w a:=by
 unfold acE;by_cases b:n<0
 ·rw[ab b];exact Lp n d b w
 ·rw[aa b];have c:∀w,A6 A0 43 #[O Q n] w fun e a=>e= A3 (A2 ⟨(A1 n.toNat).toArray⟩)/\A8 w.heap.size w a:=fun w=>by
   have:=Lq n.toNat (by omega) w;rw[show((n.toNat:Nat):Int)=n by omega]at this;exact this
  generalize (⟨(A1 n.toNat).toArray⟩:ByteArray)=g at c;have i:0<=n:=by omega
  go_in;go_wp2_with (go_at_call 43;refine(c _).mono ?_;rintro e a ⟨rfl,f⟩);go_ret;exact⟨rfl,f⟩
def ndD:Nd:=⟨0,0,0,0,0,0,Ax,[],[]⟩
def al(a:List Nd)(i:Int):Nd:=a.getD i.toNat ndD
def cL(N:Nd)(j:Nat):Int:=N.ks.getD j 0
def jf(a:List ByteArray):ByteArray:=a.foldl (· ++·) Ax
def Dj(x:ByteArray):ByteArray:=⟨#[40]⟩++x++⟨#[41]⟩
def jJ(a:List Nd)(E:Int->ByteArray)(k b:Int):ByteArray:=if ew (al a k).k (al a k).op<b then Dj (E k) else E k
def acF(N:Nd)(a:Int):Int:=if un N.k N.op=a then a+1 else a
def Bc(a:List Nd)(E:Int->ByteArray)(N:Nd)(c:ByteArray)(b:Int):ByteArray:=jJ a E (cL N 0) (acF N b)++c++jJ a E (cL N 1) (un N.k N.op)
def aih(N:Nd):Bool:=N.k==30&&N.op==19
def unS(a:List Nd)(N:Nd):ByteArray:=if N.op=21 then⟨#[110,111,116,32]⟩ else if N.op=22 then⟨#[35]⟩ else if N.op=20 then⟨#[126]⟩ else if aih (al a (cL N 0))=Br then⟨#[45]⟩++⟨#[32]⟩ else⟨#[45]⟩
def unB(a:List Nd)(E:Int->ByteArray)(N:Nd):ByteArray:=unS a N++jJ a E (cL N 0) 11
def bsB(a:List Nd)(E:Int->ByteArray)(k:Int):ByteArray:=if Ja (al a k).k=Br then E k else Dj (E k)
def plB(N:Nd):ByteArray:=
 if N.k=20 then⟨#[110,105,108]⟩ else if N.k=21 then⟨#[116,114,117,101]⟩ else if N.k=22 then⟨#[102,97,108,115,101]⟩ else if N.k=23 then acE N.n
 else if N.k=24\/N.k=26 then N.x else if N.k=25 then ga (yK N.x) else if N.k=27 then⟨#[46,46,46]⟩ else Ax
def my(a:List Nd)(E:Int->ByteArray)(X:Nd):ByteArray:=
 if X.k=41 then⟨#[91]⟩++E (cL X 0)++⟨#[93,32,61,32]⟩++E (cL X 1) else if X.k=42 then(⟨#[46]⟩++X.x++⟨#[32,61,32]⟩)++E (cL X 0) else E (cL X 0)
def acG(a:List Nd)(E:Int->ByteArray)(N:Nd):ByteArray:=⟨#[123]⟩++cE (N.ks.map fun b=>my a E (al a b))++⟨#[125]⟩
def AC(S:Int->Nat->ByteArray)(ks:List Int)(tab:Nat):ByteArray:=
 if ks=[] then⟨#[123,125]⟩ else⟨#[123]⟩++jf (ks.map fun a=>oL (tab+1)++S a (tab+1))++oL tab++⟨#[125]⟩
def aga(N:Nd):ByteArray:=⟨#[40]⟩++cE N.nm++(if N.op=1 then(if N.nm=[] then⟨#[46,46,46]⟩ else ej++⟨#[46,46,46]⟩) else Ax)++⟨#[41,32]⟩
def Dk(a:List Nd)(S:Int->Nat->ByteArray)(N:Nd)(tab:Nat):ByteArray:=aga N++AC S (al a (cL N 0)).ks tab
def prE(a:List Nd)(E:Int->ByteArray)(S:Int->Nat->ByteArray)(N:Nd)(tab:Nat):ByteArray:=
 if N.k=28 then Bc a E N ⟨#[32,97,110,100,32]⟩ (ew N.k N.op)
 else if N.k=29 then Bc a E N ⟨#[32,111,114,32]⟩ (ew N.k N.op)
 else if N.k=31 then Bc a E N (⟨#[32]⟩++xg (60+N.op)++⟨#[32]⟩) (ew N.k N.op)
 else if N.k=30 then unB a E N
 else if N.k=32 then bsB a E (cL N 0)++⟨#[91]⟩++E (cL N 1)++⟨#[93]⟩
 else if N.k=33 then bsB a E (cL N 0)++(⟨#[46]⟩++N.x)
 else if N.k=34 then bsB a E (cL N 0)++⟨#[40]⟩++cE ((N.ks.drop 1).map E)++⟨#[41]⟩
 else if N.k=35 then acG a E N
 else if N.k=36 then⟨#[102,110]⟩++Dk a S N tab
 else if N.k=37 then Dj (E (cL N 0))
 else plB N
def Fi(a:List Nd)(E:Int->ByteArray)(S:Int->Nat->ByteArray)(b:Int->ByteArray->ByteArray)(N:Nd)(c:ByteArray)(tab:Nat):ByteArray:=
 c++E (cL N 0)++⟨#[32]⟩++AC S (al a (cL N 1)).ks tab++
  (if N.ks.length<3 then Ax else if(al a (cL N 2)).k=7 then b (cL N 2) ⟨#[32,101,108,105,102,32]⟩ else⟨#[32,101,108,115,101,32]⟩++AC S (al a (cL N 2)).ks tab)
def nm0(N:Nd):ByteArray:=N.nm.getD 0 Ax
def prS(a:List Nd)(E:Int->ByteArray)(S:Int->Nat->ByteArray)(b:Int->ByteArray->ByteArray)(N:Nd)(tab:Nat):ByteArray:=
 if N.k=1 then AC S N.ks tab
 else if N.k=2 then⟨#[108,101,116,32]⟩++cE N.nm++(if N.ks=[] then Ax else⟨#[32,61,32]⟩++cE (N.ks.map E))
 else if N.k=3 then(⟨#[99,111,110,115,116,32]⟩++nm0 N++⟨#[32,61,32]⟩)++E (cL N 0)
 else if N.k=4 then(⟨#[102,110,32]⟩++nm0 N)++Dk a S (al a (cL N 0)) tab
 else if N.k=5 then cE ((N.ks.take N.n.toNat).map E)++⟨#[32,61,32]⟩++cE ((N.ks.drop N.n.toNat).map E)
 else if N.k=6 then E (cL N 0)
 else if N.k=7 then b (-1) ⟨#[105,102,32]⟩
 else if N.k=8 then⟨#[119,104,105,108,101,32]⟩++E (cL N 0)++⟨#[32]⟩++AC S (al a (cL N 1)).ks tab
 else if N.k=9\/N.k=10 then⟨#[102,111,114,32]⟩++cE N.nm++(if N.k=9 then⟨#[32,61,32]⟩ else⟨#[32,105,110,32]⟩)++cE ((N.ks.take (N.ks.length-1)).map E)++⟨#[32]⟩++AC S (al a (cL N (N.ks.length-1))).ks tab
 else if N.k=11 then⟨#[98,114,101,97,107]⟩
 else if N.k=12 then⟨#[110,101,120,116]⟩
 else if N.k=13 then⟨#[114,101,116,117,114,110]⟩++(if N.ks=[] then Ax else⟨#[32]⟩++cE (N.ks.map E))
 else if N.k=14 then⟨#[116,114,121,32]⟩++AC S (al a (cL N 0)).ks tab++⟨#[32,99,97,116,99,104,32]⟩++cE N.nm++⟨#[32]⟩++AC S (al a (cL N 1)).ks tab
 else if N.k=15 then⟨#[116,104,114,111,119,32]⟩++E (cL N 0)
 else if N.k=16 then⟨#[100,101,102,101,114,32]⟩++E (cL N 0)
 else Ax
mutual
def AD(a:List Nd):Nat->Int->Nat->ByteArray
 |0,_,_=>Ax
 |f+1,i,tab=>prE a (fun k=>AD a f k tab) (fun k t=>uB a f k t) (al a i) tab
def uB(a:List Nd):Nat->Int->Nat->ByteArray
 |0,_,_=>Ax
 |f+1,i,tab=>prS a (fun k=>AD a f k tab) (fun k t=>uB a f k t) (fun _ w=>Fi a (fun k=>AD a f k tab) (fun k t=>uB a f k t) (fun k w=>Be a f k w tab) (al a i) w tab) (al a i) tab
def Be(a:List Nd):Nat->Int->ByteArray->Nat->ByteArray
 |0,_,_,_=>Ax
 |f+1,i,w,tab=>Fi a (fun k=>AD a f k tab) (fun k t=>uB a f k t) (fun k w=>Be a f k w tab) (al a i) w tab
end
def mL(a:List Nd):ByteArray:=jf ((al a ((a.length:Int)-1)).ks.map fun b=>uB a a.length b 0++⟨#[10]⟩)
def Hi(a:List Nd):ByteArray:=if 65536<(mL a).size then Ax else mL a
theorem vJ{b:Nat}{w c:U}(a:Obj)(h:Kq b (w.alloc a) c):Kq b w c:=(Kq.of_below ((aj _ w).alloc (ah _) a)).trans h
theorem Lu(w0:U)(i vn vk:A4)(N:Nd)(T:ByteArray)(t:Int)(w:U)(h:Pr w0 i T t w)(u:20<=N.k/\N.k<=27)(ak: -9223372036854775808<=N.n)(am:N.n<=9223372036854775807)(s:N.k=25->N.x.size<=4000)(r:T.size+(plB N).size<=140737488355328):
  A6 A0 160 #[A5 (R ⟨w0.heap.size,0,Z⟩),dj N vn vk] w fun e H=>e= A3 (A9 #[])/\Pr w0 i (T++plB N) t H/\Kq w0.heap.size w H:=by
 have E:A8 w.heap.size w (w.alloc (A7 #[O Q N.k,O Q N.f,O Q N.t,O Q N.l,O Q N.op,O Q N.n,A2 N.x,vn,vk] 35)):=(aj _ w).alloc (ah _) _;have g:B0 (Pr w0 i T t (w.alloc (A7 #[O Q N.k,O Q N.f,O Q N.t,O Q N.l,O Q N.op,O Q N.n,A2 N.x,vn,vk] 35))/\A8 w.heap.size w (w.alloc (A7 #[O Q N.k,O Q N.f,O Q N.t,O Q N.l,O Q N.op,O Q N.n,A2 N.x,vn,vk] 35))):=⟨h.below E,E⟩;have p:=Lt N.n ak am;obtain⟨an,a⟩:=aA (plB N);rw[a]at r⊢;unfold plB at a;clear h E;unfold dj;have c:∀y:Int,N.k=y->(N.k==y)=Br:=fun y e=>by simpa using e
 have b:∀y:Int,N.k≠y->(N.k==y)=B1:=fun y e=>by simpa using e
 by_cases j:N.k=20
 ·have I:=c _ j;rw[ab j]at a;subst a;clear j c b u s p;go_in;go_wp2_with (go_at_call 63;refine(aE w0 i _ _ _ _ g.out.1 r).mono ?_;rintro e A ⟨rfl,p2,d⟩);go_end0
  exact⟨rfl,p2,vJ _ d⟩
 have I:=b _ j;rw[aa j]at a;by_cases m:N.k=21
 ·have J:=c _ m;rw[ab m]at a;subst a;clear j m c b u s p;go_in;go_wp2_with (go_at_call 63;refine(aE w0 i _ _ _ _ g.out.1 r).mono ?_;rintro e A ⟨rfl,p2,d⟩);go_end0
  exact⟨rfl,p2,vJ _ d⟩
 have J:=b _ m;rw[aa m]at a;by_cases o:N.k=22
 ·have K:=c _ o;rw[ab o]at a;subst a;clear j m o c b u s p;go_in;go_wp2_with (go_at_call 63;refine(aE w0 i _ _ _ _ g.out.1 r).mono ?_;rintro e A ⟨rfl,p2,d⟩);go_end0
  exact⟨rfl,p2,vJ _ d⟩
 have K:=b _ o;rw[aa o]at a;by_cases q:N.k=23
 ·have L:=c _ q;rw[ab q]at a;rw[a]at p;clear j m o q c b u s a;go_in;go_wp2_with fail;refine cd (p _) fun w1 v=>?_;have B:B0 (Pr w0 i T t w1/\A8 w.heap.size w w1):=⟨g.out.1.below v,g.out.2.trans (v.mono g.out.2.size)⟩;clear v p;go_wp2_with fail;refine(aE w0 i _ _ _ _ B.out.1 r).mono ?_;rintro e A ⟨rfl,p2,d⟩;go_wp2_with fail;go_end0
  exact⟨rfl,p2,(Kq.of_below B.out.2).trans d⟩
 have L:=b _ q;rw[aa q]at a;by_cases e4:N.k=24\/N.k=26
 ·rw[ab e4]at a;rcases e4 with e4|e4
  ·have G:=c _ e4;rw[a]at g⊢;clear j m o q e4 c b u s p a;go_in;go_wp2_with (go_at_call 63;refine(aE w0 i _ _ _ _ g.out.1 r).mono ?_;rintro e A ⟨rfl,p2,d⟩);go_end0
   exact⟨rfl,p2,vJ _ d⟩
  ·have G:(N.k==24)=B1:=b _ (by omega);have ad:=c _ e4;rw[a]at g⊢;clear j m o q e4 c b u s p a;go_in;go_wp2_with (go_at_call 63;refine(aE w0 i _ _ _ _ g.out.1 r).mono ?_;rintro e A ⟨rfl,p2,d⟩);go_end0
   exact⟨rfl,p2,vJ _ d⟩
 rw[aa e4]at a;have G:(N.k==24)=B1:=b _ (by omega);have ad:(N.k==26)=B1:=b _ (by omega);by_cases z:N.k=25
 ·have af:=c _ z;rw[ab z]at a;have F:=Cc N.x (s z);rw[a]at F;clear j m o q e4 z c b u s a p;go_in;go_wp2_with fail;refine cd (F _) fun w1 v=>?_;have B:B0 (Pr w0 i T t w1/\A8 w.heap.size w w1):=⟨g.out.1.below v,g.out.2.trans (v.mono g.out.2.size)⟩;clear v F;go_wp2_with fail;refine(aE w0 i _ _ _ _ B.out.1 r).mono ?_;rintro e A ⟨rfl,p2,d⟩;go_wp2_with fail;go_end0
  exact⟨rfl,p2,(Kq.of_below B.out.2).trans d⟩
 have af:=b _ z;rw[aa z]at a;have C:N.k=27:=by omega
 have ao:=c _ C;rw[ab C]at a;subst a;clear j m o q e4 z C c b u s p;go_in;go_wp2_with (go_at_call 63;refine(aE w0 i _ _ _ _ g.out.1 r).mono ?_;rintro e A ⟨rfl,p2,d⟩);go_end0
 exact⟨rfl,p2,vJ _ d⟩
theorem agb(op:Int):3<=(I9 op).1/\(I9 op).1<=10:=by
 unfold I9
 repeat' split
 all_goals exact⟨by decide,by decide⟩
theorem zG(k op:Int):0<ew k op/\ew k op<=12:=by
 have:=agb op;unfold ew
 repeat' split
 all_goals omega
theorem ahc(a:List Nd)(E:Int->ByteArray)(k:Int):jJ a E k 0=E k:=by
 unfold jJ;rw[aa];have:=zG (al a k).k (al a k).op;omega
theorem rJ(x:ByteArray):(Dj x).size=x.size+2:=by unfold Dj;rw[ag,ag];show 1+x.size+1=_;omega
theorem ot{a:List Nd}{k:Nat}(h:k<a.length):a[k]?=R (al a (k:Int)):=by
 unfold al;rw[rp,List.getD,aI h];rfl
def OkE(w0:U)(f:A4)(e:List Nd)(E:Int->ByteArray)(t:Int)(h:Nat):Prop:=
 ∀(a:Nat)(b:Int)(c:ByteArray)(d:U),a<h->eB (al e a).k=Br->0<=b->b<=100->Pr w0 f c t d->c.size+(jJ e E a b).size<=140737488355328->
  A6 A0 123 #[A5 (R ⟨w0.heap.size,0,Z⟩),O Q (a:Int),O Q b] d fun i g=>i= A3 (A9 #[])/\Pr w0 f (c++jJ e E a b) t g/\Kq w0.heap.size d g
theorem OkE.zero{w0:U}{b:A4}{d:List Nd}{E:Int->ByteArray}{t:Int}{c:Nat}(h:OkE w0 b d E t c)(k:Nat)(T:ByteArray)(a:U)(i:k<c)(g:eB (al d k).k=Br)(l:Pr w0 b T t a)(j:T.size+(E k).size<=140737488355328):
  A6 A0 123 #[A5 (R ⟨w0.heap.size,0,Z⟩),O Q (k:Int),O Q 0] a fun e f=>e= A3 (A9 #[])/\Pr w0 b (T++E k) t f/\Kq w0.heap.size a f:=by
 have:=h k 0 T a i g (by omega) (by omega) l (by rw[ahc];exact j);rw[ahc]at this;exact this
theorem acH(w0:U)(g:A4)(a:List Nd)(E:Int->ByteArray)(t:Int)(o:Nat)(v:OkE w0 g a E t o)(j:cg w0 g a)(af:a.length<=1048576)(k:Nat)(y:k<o)(z:k<a.length)(x:eB (al a k).k=Br)
  (T:ByteArray) (w:U) (h:Pr w0 g T t w) (l:T.size+(bsB a E k).size<=140737488355328):
  A6 A0 158 #[A5 (R ⟨w0.heap.size,0,Z⟩),O Q (k:Int)] w fun e I=>e= A3 (A9 #[])/\Pr w0 g (T++bsB a E k) t I/\Kq w0.heap.size w I:=by
 have A:=ot z;obtain⟨am,s,rfl⟩:=j.form;obtain⟨F,rfl,ar,ap,u⟩:=(j.below h.bel).get A;obtain⟨z0,av,a0⟩:=h.cells;have ad:=u.c0;have d:=G4 (al a k).k;have c:=gD h x v;clear h j u A x v;obtain⟨m,i⟩:=aA a.length;rw[i]at z0 c af z;have ao:(k:Int)<(m:Int):=by omega
 have an:(0:Int)<=(k:Int):=by omega
 obtain⟨ak,b⟩:=aA (bsB a E k);rw[b]at l⊢;rw[i];unfold bsB at b;clear i;generalize (al a k).k=L at ad d b;cases hb:Ja L with
 |true=>
  rw[hb]at d b;rw[ab rfl]at b;subst b;clear hb;go_in;go_wp2_with (go_at_call 180;refine ee (d _) ?_);refine(c.out.2.2.zero k T w y c.out.2.1 c.out.1 l).mono ?_;rintro e J ⟨rfl,p2,f⟩;go_wp2_with fail;exact bB (rl rfl _ _ _) rfl ⟨rfl,p2,f⟩
 |false=>
  rw[hb]at d b;rw[aa (by simp)]at b;subst b;rw[rJ]at l;clear hb;go_in;go_wp2_with (go_at_call 180;refine ee (d _) ?_);refine(aE w0 _ T _ t w c.out.1 (by show T.size+1<=_;omega)).mono ?_;rintro e J ⟨rfl,p2,f⟩;have p:=dx p2 f;clear p2 f;go_wp2_with fail;refine(c.out.2.2.zero k _ J y c.out.2.1 p.out.1 (by rw[ag];show T.size+1+_<=_;omega)).mono ?_;rintro e n ⟨rfl,G,B⟩;have q:B0 (Pr w0 (V (R F) m s) (T++⟨#[40]⟩++E k) t n/\Kq w0.heap.size w n):=⟨G,p.out.2.trans B⟩;clear G B;go_wp2_with fail;refine(aE w0 _ _ _ t n q.out.1 (by rw[ag,ag];show T.size+1+_+1<=_;omega)).mono ?_;rintro e K ⟨rfl,H,C⟩;have r:B0 (Pr w0 (V (R F) m s) (T++Dj (E k)) t K/\Kq w0.heap.size w K):=⟨by unfold Dj;rw[<-aF,<-aF];exact H,q.out.2.trans C⟩;clear H C;go_wp2_with fail;go_end0
  exact⟨rfl,r.out.1,r.out.2⟩
theorem Kq.box{b k:Nat}{w d:U}{N:Nd}{vn vk:A4}(h:Kq b w d)(a:de k w 35 N vn vk)(e:k≠b):de k d 35 N vn vk:=by
 refine(h.block k (ax a) e ?_).trans a;intro f g c;unfold de at a;rw[a]at c;cases c
theorem Fj(w0:U)(d:A4)(q:List Nd)(E:Int->ByteArray)(t:Int)(G:Nat)(af:OkE w0 d q E t G)(N:Nd)(vn vk:A4)(y:bi w0 vk N.ks)(k:Nat)(s:N.ks[0]?=R (k:Int))(a3:k<G)(bw:N.ks.length<=1048576)(am:eB (al q k).k=Br)
  (z:N.op=20\/N.op=21\/N.op=22) (T:ByteArray) (w:U) (h:Pr w0 d T t w) (ao:T.size+(unB q E N).size<=140737488355328):
  A6 A0 157 #[A5 (R ⟨w0.heap.size,0,Z⟩),dj N vn vk] w fun e m=>e= A3 (A9 #[])/\Pr w0 d (T++unB q E N) t m/\Kq w0.heap.size w m:=by
 have C:A8 w.heap.size w (w.alloc (A7 #[O Q N.k,O Q N.f,O Q N.t,O Q N.l,O Q N.op,O Q N.n,A2 N.x,vn,vk] 35)):=(aj _ w).alloc (ah _) _;have ak:de w.heap.size (w.alloc (A7 #[O Q N.k,O Q N.f,O Q N.t,O Q N.l,O Q N.op,O Q N.n,A2 N.x,vn,vk] 35)) 35 N vn vk:=aw w _;have bA:=h.lt;obtain⟨a6,g,rfl⟩:=y.form;obtain⟨c,rfl,_⟩:=y.get s;have an:cL N 0=(k:Int):=by unfold cL;rw[List.getD,s];rfl
 have bx:0<N.ks.length:=by rcases li N.ks.length with e|e;rw[fG (by omega)]at s;cases s;exact e
 have o:B0 (Pr w0 d T t (w.alloc (A7 #[O Q N.k,O Q N.f,O Q N.t,O Q N.l,O Q N.op,O Q N.n,A2 N.x,vn,V (R c) N.ks.length g] 35))/\Kq w0.heap.size w (w.alloc (A7 #[O Q N.k,O Q N.f,O Q N.t,O Q N.l,O Q N.op,O Q N.n,A2 N.x,vn,V (R c) N.ks.length g] 35))
  /\de w.heap.size (w.alloc (A7 #[O Q N.k,O Q N.f,O Q N.t,O Q N.l,O Q N.op,O Q N.n,A2 N.x,vn,V (R c) N.ks.length g] 35)) 35 N vn (V (R c) N.ks.length g)/\bi w0 (V (R c) N.ks.length g) N.ks/\N.ks[0]?=R (k:Int)):=⟨h.below C,Kq.of_below C,ak,y,s⟩
 obtain⟨a5,r⟩:=aA (unB q E N);rw[r]at ao⊢;unfold unB at r;rw[an]at r;have H:=dx af am;clear h C ak y s an af am;have a4:∃i:ByteArray,unS q N=i/\((N.op=21/\i=⟨#[110,111,116,32]⟩)\/(N.op=22/\i=⟨#[35]⟩)\/(N.op=20/\i=⟨#[126]⟩)):=by
  refine⟨_,rfl,?_⟩;unfold unS;rcases z with e|e|e
  ·exact .inr (.inr ⟨e,by rw[aa (by omega),aa (by omega),ab e]⟩)
  ·exact .inl ⟨e,by rw[ab e]⟩
  ·exact .inr (.inl ⟨e,by rw[aa (by omega),ab e]⟩)
 obtain⟨i,ap,a2⟩:=a4;rw[ap]at r;obtain⟨J,B⟩:=aA (jJ q E k 11);rw[B]at r;have I:=aq B;subst r;rw[ag]at ao;clear ap B;unfold dj;have L:∀a,Pr w0 d (T++i) t a->Kq w0.heap.size (w.alloc (A7 #[O Q N.k,O Q N.f,O Q N.t,O Q N.l,O Q N.op,O Q N.n,A2 N.x,vn,V (R c) N.ks.length g] 35)) a->
   a.cell? ⟨w.heap.size,8,Z⟩=R (V (R c) N.ks.length g)/\a.cell? c=R (O Q (k:Int))/\A6 A0 123 #[A5 (R ⟨w0.heap.size,0,Z⟩),O Q (k:Int),O Q 11] a fun e m=>e= A3 (A9 #[])/\Pr w0 d (T++(i++J)) t m/\Kq w0.heap.size w m:=by
  intro a p2 b;obtain⟨a7,a8,a9,bb,bd,bl,bn,bo,v,br⟩:=au (b.box o.out.2.2.1 (by omega));obtain⟨bD,ar,av⟩:=(o.out.2.2.2.1.below p2.bel).get o.out.2.2.2.2;cases ar;refine⟨v,by simpa [Addr.add] using av,?_⟩;refine(H.out.1 k 11 _ a a3 H.out.2 (by omega) (by omega) p2 (by rw[I.out,ag];omega)).mono ?_;rintro e F ⟨rfl,j,p⟩;rw[I.out,aF]at j;exact⟨rfl,j,(o.out.2.1.trans b).trans p⟩
 have A:B0 (∀a,Pr w0 d (T++i) t a->Kq w0.heap.size (w.alloc (A7 #[O Q N.k,O Q N.f,O Q N.t,O Q N.l,O Q N.op,O Q N.n,A2 N.x,vn,V (R c) N.ks.length g] 35)) a->
   a.cell? ⟨w.heap.size,8,Z⟩=R (V (R c) N.ks.length g)/\a.cell? c=R (O Q (k:Int))/\A6 A0 123 #[A5 (R ⟨w0.heap.size,0,Z⟩),O Q (k:Int),O Q 11] a fun e m=>e= A3 (A9 #[])/\Pr w0 d (T++(i++J)) t m/\Kq w0.heap.size w m):=L
 clear L;have bt:(0:Int)<(N.ks.length:Int):=by omega
 rcases a2 with⟨e,rfl⟩|⟨e,rfl⟩|⟨e,rfl⟩
 ·have ad:(N.op==21)=Br:=by simpa using e
  clear e z;go_in;go_wp2_with fail;refine(aE w0 d T _ t _ o.out.1 (by omega)).mono ?_;rintro e a ⟨rfl,p2,b⟩;obtain⟨v,K,u⟩:=A.out a p2 b;clear p2 b;go_wp2_with fail;refine u.mono ?_;rintro e F ⟨rfl,j,p⟩;go_wp2_with fail;go_end0
  exact⟨rfl,j,p⟩
 ·have ad:(N.op==21)=B1:=by simp;omega
  have a0:(N.op==22)=Br:=by simpa using e
  clear e z;go_in;go_wp2_with fail;refine(aE w0 d T _ t _ o.out.1 (by omega)).mono ?_;rintro e a ⟨rfl,p2,b⟩;obtain⟨v,K,u⟩:=A.out a p2 b;clear p2 b;go_wp2_with fail;refine u.mono ?_;rintro e F ⟨rfl,j,p⟩;go_wp2_with fail;go_end0
  exact⟨rfl,j,p⟩
 ·have ad:(N.op==21)=B1:=by simp;omega
  have a0:(N.op==22)=B1:=by simp;omega
  have bs:(N.op==20)=Br:=by simpa using e
  clear e z;go_in;go_wp2_with fail;refine(aE w0 d T _ t _ o.out.1 (by omega)).mono ?_;rintro e a ⟨rfl,p2,b⟩;obtain⟨v,K,u⟩:=A.out a p2 b;clear p2 b;go_wp2_with fail;refine u.mono ?_;rintro e F ⟨rfl,j,p⟩;go_wp2_with fail;go_end0
  exact⟨rfl,j,p⟩
theorem Lx(op:Int):4<=(I9 op).2/\(I9 op).2<=11:=by
 unfold I9
 repeat' split
 all_goals exact⟨by decide,by decide⟩
theorem agc(k op:Int):2<=un k op/\un k op<=11:=by
 have:=Lx op;unfold un
 repeat' split
 all_goals omega
theorem na{a:U}{p:Addr}{i:Nat}{v:A4}(h:a.cell? (p.add i)=R v)(b:i≠0):a.cell? ⟨p.block,p.off+i,Z⟩=R v:=by
 unfold Addr.add at h;rw[aa b]at h;exact h
theorem Ly(w0:U)(o:A4)(j:List Nd)(E:Int->ByteArray)(t:Int)(bb:Nat)(ca:OkE w0 o j E t bb)(N:Nd)(vn vk:A4)(ap:bi w0 vk N.ks)(i s:Nat)(a7:N.ks[0]?=R (i:Int))(ao:N.ks[1]?=R (s:Int))(cv:i<bb)(b7:s<bb)(cb:eB (al j i).k=Br)(cc:eB (al j s).k=Br)(cz:N.ks.length<=1048576)
  (cm:N.k≠29->N.k≠28->1<=N.op/\N.op<=18) (B:ByteArray) (m:Int) (dk:0<=m) (dn:m<=50) (T:ByteArray) (w:U) (h:Pr w0 o T t w) (a8:T.size+(Bc j E N B m).size<=140737488355328):
  A6 A0 156 #[A5 (R ⟨w0.heap.size,0,Z⟩),dj N vn vk,A2 B,O Q m] w fun e p=>e= A3 (A9 #[])/\Pr w0 o (T++Bc j E N B m) t p/\Kq w0.heap.size w p:=by
 have a6:A8 w.heap.size w (w.alloc (A7 #[O Q N.k,O Q N.f,O Q N.t,O Q N.l,O Q N.op,O Q N.n,A2 N.x,vn,vk] 35)):=(aj _ w).alloc (ah _) _;have bn:de w.heap.size (w.alloc (A7 #[O Q N.k,O Q N.f,O Q N.t,O Q N.l,O Q N.op,O Q N.n,A2 N.x,vn,vk] 35)) 35 N vn vk:=aw w _;have df:=h.lt;obtain⟨c8,g,rfl⟩:=ap.form;obtain⟨b,rfl,_⟩:=ap.get a7;have ce:cL N 0=(i:Int):=by unfold cL;rw[List.getD,a7];rfl
 have cf:cL N 1=(s:Int):=by unfold cL;rw[List.getD,ao];rfl
 have cB:1<N.ks.length:=by rcases cA 1 N.ks.length with e|e;exact e;rw[fG e]at ao;cases ao
 have a9:=EF N vn (V (R b) N.ks.length g) cm;obtain⟨d,b9⟩:=aA N.ks.length;rw[b9]at cB cz ap a6 bn a9⊢;have v:B0 (Pr w0 o T t (w.alloc (A7 #[O Q N.k,O Q N.f,O Q N.t,O Q N.l,O Q N.op,O Q N.n,A2 N.x,vn,V (R b) d g] 35))/\Kq w0.heap.size w (w.alloc (A7 #[O Q N.k,O Q N.f,O Q N.t,O Q N.l,O Q N.op,O Q N.n,A2 N.x,vn,V (R b) d g] 35))
  /\de w.heap.size (w.alloc (A7 #[O Q N.k,O Q N.f,O Q N.t,O Q N.l,O Q N.op,O Q N.n,A2 N.x,vn,V (R b) d g] 35)) 35 N vn (V (R b) d g)/\bi w0 (V (R b) d g) N.ks/\N.ks[0]?=R (i:Int)/\N.ks[1]?=R (s:Int)):=⟨h.below a6,Kq.of_below a6,bn,ap,a7,ao⟩
 have L:=gD ca cb cc;have cx:=agc N.k N.op;obtain⟨c7,F⟩:=aA (Bc j E N B m);rw[F]at a8⊢;unfold Bc acF at F;rw[ce,cf]at F;generalize un N.k N.op=C at a9 cx F;obtain⟨y,G⟩:=aA (if C=m then m+1 else m);rw[G]at F;have ck:0<=y/\y<=51:=by rw[<-G];split<;>omega
 have b2:=aq F;have cl:T.size+((jJ j E i y).size+B.size+(jJ j E s C).size)<=140737488355328:=by rw[<-F,ag,ag]at a8;exact a8
 have ak:=aq cl;have am:B0 (∀w:U,A6 A0 179 #[dj N vn (V (R b) d g)] w fun e p=>e= A3 (O Q C)/\A8 w.heap.size w p):=a9;clear h a6 bn ap a7 ao ce cf ca cb cc cm b9 F a8 cl a9;unfold dj at am⊢;have c9:(0:Int)<(d:Int):=by omega
 have dd:(1:Int)<(d:Int):=by omega
 have b0:=aq ck;have cr:∀(c:U),Pr w0 o T t c->Kq w0.heap.size w c->de w.heap.size c 35 N vn (V (R b) d g)->
   c.cell? ⟨w.heap.size,8,Z⟩=R (V (R b) d g)/\c.cell? b=R (O Q (i:Int))/\A6 A0 123 #[A5 (R ⟨w0.heap.size,0,Z⟩),O Q (i:Int),O Q y] c fun e p=>e= A3 (A9 #[])/\Pr w0 o (T++jJ j E i y) t p/\Kq w0.heap.size w p/\de w.heap.size p 35 N vn (V (R b) d g):=by
  intro c cq c2 b6;obtain⟨_,_,_,_,_,_,_,_,a4,_⟩:=au b6;obtain⟨c3,bl,a5⟩:=(v.out.2.2.2.1.below cq.bel).get v.out.2.2.2.2.1;cases bl;refine⟨a4,by simpa [Addr.add] using a5,?_⟩;refine(L.out.1 i y _ c cv L.out.2.1 b0.out.1 (by have:=b0.out.2;omega) cq (by have:=ak.out;omega)).mono ?_;rintro e cs ⟨rfl,c4,co⟩;exact⟨rfl,c4,c2.trans co,co.box b6 (by omega)⟩
 have b1:B0 (∀(c:U),Pr w0 o T t c->Kq w0.heap.size w c->de w.heap.size c 35 N vn (V (R b) d g)->
   c.cell? ⟨w.heap.size,8,Z⟩=R (V (R b) d g)/\c.cell? b=R (O Q (i:Int))/\A6 A0 123 #[A5 (R ⟨w0.heap.size,0,Z⟩),O Q (i:Int),O Q y] c fun e p=>e= A3 (A9 #[])/\Pr w0 o (T++jJ j E i y) t p/\Kq w0.heap.size w p/\de w.heap.size p 35 N vn (V (R b) d g)):=cr
 clear cr ck;have cp:∀(c:U),de w.heap.size c 35 N vn (V (R b) d g)->∀a,Kq w0.heap.size c a->A8 w0.heap.size w0 a->
   a.cell? ⟨w.heap.size,0,Z⟩=R (O Q N.k)/\a.cell? ⟨w.heap.size,1,Z⟩=R (O Q N.f)/\a.cell? ⟨w.heap.size,2,Z⟩=R (O Q N.t)/\a.cell? ⟨w.heap.size,3,Z⟩=R (O Q N.l)/\a.cell? ⟨w.heap.size,4,Z⟩=R (O Q N.op)/\a.cell? ⟨w.heap.size,5,Z⟩=R (O Q N.n)/\a.cell? ⟨w.heap.size,6,Z⟩=R (A2 N.x)/\a.cell? ⟨w.heap.size,7,Z⟩=R vn/\a.cell? ⟨w.heap.size,8,Z⟩=R (V (R b) d g)/\a.cell? ⟨b.block,b.off+1,Z⟩=R (O Q (s:Int))/\Kq w0.heap.size c a:=by
  intro c ct a cn cy;obtain⟨br,bs,bt,bw,bA,bD,bE,bF,a4,_⟩:=au (cn.box ct (by omega));obtain⟨c3,bl,a5⟩:=(v.out.2.2.2.1.below cy).get v.out.2.2.2.2.2;cases bl;exact⟨br,bs,bt,bw,bA,bD,bE,bF,a4,na a5 (by decide),cn⟩
 by_cases ad:C=m
 ·have cu:(C==m)=Br:=by simpa using ad
  rw[ab ad]at G;have af:=aq G;clear ad G;go_in;go_wp2_with fail;refine cd (am.out _) fun bo z=>?_;obtain⟨bd,bf,a0⟩:=b1.out bo (v.out.1.below z) (v.out.2.1.trans (Kq.of_below z)) (v.out.2.2.1.below z);clear z;go_wp2_with fail;rw[<-af.out]at a0;refine a0.mono ?_;rintro e cs ⟨rfl,K,ar,an⟩;rw[af.out]at K;have H:=gD K ar an;clear K ar an bd bf;go_wp2_with fail;refine(aE w0 o _ B t _ H.out.1 (by have:=ak.out;rw[ag];omega)).mono ?_;rintro e u ⟨rfl,a2,J⟩;have I:=J.box H.out.2.2 (by omega);have q:B0 (Pr w0 o (T++jJ j E i y++B) t u/\Kq w0.heap.size w u):=⟨a2,H.out.2.1.trans J⟩;have A:=cp u I;have c0:=ax I;clear a2 J I;obtain⟨br,bs,bt,bw,bA,bD,bE,bF,a4,a5,_⟩:=A u (Kq.refl _ _) q.out.1.bel;go_wp2_with fail;go_region_held3 (fun a=>a.cell? ⟨w.heap.size,0,Z⟩=R (O Q N.k)/\a.cell? ⟨w.heap.size,1,Z⟩=R (O Q N.f)/\a.cell? ⟨w.heap.size,2,Z⟩=R (O Q N.t)/\a.cell? ⟨w.heap.size,3,Z⟩=R (O Q N.l)/\a.cell? ⟨w.heap.size,4,Z⟩=R (O Q N.op)/\a.cell? ⟨w.heap.size,5,Z⟩=R (O Q N.n)/\a.cell? ⟨w.heap.size,6,Z⟩=R (A2 N.x)/\a.cell? ⟨w.heap.size,7,Z⟩=R vn/\a.cell? ⟨w.heap.size,8,Z⟩=R (V (R b) d g)/\a.cell? ⟨b.block,b.off+1,Z⟩=R (O Q (s:Int))/\Kq w0.heap.size u a) (first|exact A _ (Kq.of_below (aL (aj _ _))) (aL q.out.1.bel)|exact A _ (Kq.of_below ((aL (aj _ _)).trans r)) (q.out.1.below ((aL (aj _ _)).trans r)).bel|exact A _ ((Kq.of_below ((aL (aj _ _)).trans r)).trans av) a3.bel|go_keep) (first|(go_at_call 179;refine(am.out _).mono ?_;rintro e c5 ⟨rfl,r⟩)|(go_at_call 123;refine(L.out.1 s C _ _ b7 L.out.2.2 (by omega) (by omega) (q.out.1.below ((aL (aj _ _)).trans r)) (by have:=ak.out;rw[ag,ag];omega)).mono ?_;rintro e c6 ⟨rfl,a3,av⟩))
  go_wp2_with fail;go_end0
  refine⟨rfl,?_,(q.out.2.trans (Kq.of_below ((aL (aj _ _)).trans r))).trans av⟩;rw[<-b2.out,<-aF,<-aF];exact a3
 ·have cu:(C==m)=B1:=by simpa using ad
  rw[aa ad]at G;have af:=aq G;clear ad G;go_in;go_wp2_with fail;refine cd (am.out _) fun bo z=>?_;obtain⟨bd,bf,a0⟩:=b1.out bo (v.out.1.below z) (v.out.2.1.trans (Kq.of_below z)) (v.out.2.2.1.below z);clear z;go_wp2_with fail;rw[<-af.out]at a0;refine a0.mono ?_;rintro e cs ⟨rfl,K,ar,an⟩;rw[af.out]at K;have H:=gD K ar an;clear K ar an bd bf;go_wp2_with fail;refine(aE w0 o _ B t _ H.out.1 (by have:=ak.out;rw[ag];omega)).mono ?_;rintro e u ⟨rfl,a2,J⟩;have I:=J.box H.out.2.2 (by omega);have q:B0 (Pr w0 o (T++jJ j E i y++B) t u/\Kq w0.heap.size w u):=⟨a2,H.out.2.1.trans J⟩;have A:=cp u I;have c0:=ax I;clear a2 J I;obtain⟨br,bs,bt,bw,bA,bD,bE,bF,a4,a5,_⟩:=A u (Kq.refl _ _) q.out.1.bel;go_wp2_with fail;go_region_held3 (fun a=>a.cell? ⟨w.heap.size,0,Z⟩=R (O Q N.k)/\a.cell? ⟨w.heap.size,1,Z⟩=R (O Q N.f)/\a.cell? ⟨w.heap.size,2,Z⟩=R (O Q N.t)/\a.cell? ⟨w.heap.size,3,Z⟩=R (O Q N.l)/\a.cell? ⟨w.heap.size,4,Z⟩=R (O Q N.op)/\a.cell? ⟨w.heap.size,5,Z⟩=R (O Q N.n)/\a.cell? ⟨w.heap.size,6,Z⟩=R (A2 N.x)/\a.cell? ⟨w.heap.size,7,Z⟩=R vn/\a.cell? ⟨w.heap.size,8,Z⟩=R (V (R b) d g)/\a.cell? ⟨b.block,b.off+1,Z⟩=R (O Q (s:Int))/\Kq w0.heap.size u a) (first|exact A _ (Kq.of_below (aL (aj _ _))) (aL q.out.1.bel)|exact A _ (Kq.of_below ((aL (aj _ _)).trans r)) (q.out.1.below ((aL (aj _ _)).trans r)).bel|exact A _ ((Kq.of_below ((aL (aj _ _)).trans r)).trans av) a3.bel|go_keep) (first|(go_at_call 179;refine(am.out _).mono ?_;rintro e c5 ⟨rfl,r⟩)|(go_at_call 123;refine(L.out.1 s C _ _ b7 L.out.2.2 (by omega) (by omega) (q.out.1.below ((aL (aj _ _)).trans r)) (by have:=ak.out;rw[ag,ag];omega)).mono ?_;rintro e c6 ⟨rfl,a3,av⟩))
  go_wp2_with fail;go_end0
  refine⟨rfl,?_,(q.out.2.trans (Kq.of_below ((aL (aj _ _)).trans r))).trans av⟩;rw[<-b2.out,<-aF,<-aF];exact a3
theorem vK(a:List ByteArray)(k:Nat)(x:ByteArray)(d:a[k]?=R x):jf (a.take (k+1))=jf (a.take k)++x:=by
 obtain⟨b,c⟩:=List.getElem?_eq_some_iff.1 d;unfold jf;rw[List.take_succ_eq_append_getElem b,List.foldl_append,c];rfl
theorem acI(a:List ByteArray)(k:Nat):(jf (a.take k)).size<=(jf (a.take (k+1))).size:=by
 by_cases b:k<a.length
 ·rw[vK a k _ (aI b),ag];omega
 ·rw[cw (by omega),cw (by omega)];exact ah _
theorem Jw(a:List ByteArray)(k:Nat):(jf (a.take k)).size<=(jf a).size:=by
 have c:∀b,(jf (a.take k)).size<=(jf (a.take (k+b))).size:=by
  intro b
  induction b with
  |zero=>exact ah _
  |succ b d=>exact bz d (acI a (k+b))
 have:=c a.length
 rwa [cw (show a.length<=k+a.length by omega)]at this
def aii(w0:U)(f:A4)(i:List Nd)(S:Int->Nat->ByteArray)(e:Nat):Prop:=
 ∀(a b:Nat)(c:ByteArray)(d:U),a<e->iw (al i a).k=Br->b+e<=500000->Pr w0 f c b d->c.size+(S a b).size<=140737488355328->
  A6 A0 62 #[A5 (R ⟨w0.heap.size,0,Z⟩),O Q (a:Int)] d fun h g=>h= A3 (A9 #[])/\Pr w0 f (c++S a b) b g/\Kq w0.heap.size d g
def ahd(b:List Nd)(c:Nat)(d:List Int):Prop:=∀e∈d,∃a:Nat,e=(a:Int)/\a<c/\a<b.length/\iw (al b a).k=Br
theorem Cd(w0:U)(F:A4)(d:List Nd)(S:Int->Nat->ByteArray)(I:Nat)(ar:aii w0 F d S I)(ap:cg w0 F d)(b7:d.length<=1048576)(i:Nat)(bn:i<d.length)(an:ahd d I (al d i).ks)(bo:(al d i).ks.length<=1048576)(tab:Nat)(c4:tab+I<500000)
  (T:ByteArray) (w:U) (h:Pr w0 F T tab w) (z:T.size+(AC S (al d i).ks tab).size<=140737488355328):
  A6 A0 120 #[A5 (R ⟨w0.heap.size,0,Z⟩),O Q (i:Int)] w fun e n=>e= A3 (A9 #[])/\Pr w0 F (T++AC S (al d i).ks tab) tab n/\Kq w0.heap.size w n:=by
 have br:=ot bn;obtain⟨cq,k,rfl⟩:=ap.form;obtain⟨m,rfl,c7,c6,ak⟩:=ap.get br;obtain⟨z0,cl,cm⟩:=h.cells;have bb:=cell_kept h.bel ak.c8;have v:=ak.hk;obtain⟨s,bp⟩:=aA ((al d i).ks);rw[bp]at an bo z v⊢;obtain⟨cr,ct,rfl⟩:=v.form;obtain⟨f,bl⟩:=aA d.length;obtain⟨j,ao⟩:=aA s.length;rw[bl]at z0 h ar b7 bn⊢;rw[ao]at bb v bo;have g:=aey h v an ar ao;have c0:(i:Int)<(f:Int):=by omega
 have c3:(0:Int)<=(i:Int):=by omega
 obtain⟨a9,l⟩:=aA (AC S s tab);rw[l]at z⊢;clear h ap ak br an ar v bp bl ao;unfold AC at l;by_cases r:s=[]
 ·have b4:j=0:=by have:=g.out.2.2.2.2;rw[r]at this;simpa using this.symm
  rw[ab r]at l;subst l b4;clear r;go_in;go_wp2_with fail;refine(aE w0 _ T _ _ _ g.out.1 z).mono ?_;rintro e G ⟨rfl,x,C⟩;go_wp2_with fail;exact bB (rl rfl _ _ _) rfl ⟨rfl,x,C⟩
 ·rw[aa r]at l;have b5:0<j:=by
   have:=g.out.2.2.2.2;cases s with
   |nil=>exact absurd rfl r
   |cons cp c5=>simp at this;omega
  have cx:((j:Int)==0)=B1:=by simp;omega
  obtain⟨b,A⟩:∃b,(s.map fun a=>oL (tab+1)++S a (tab+1))=b:=⟨_,rfl⟩;rw[A]at l;have af:B0 (⟨#[123]⟩++jf b++oL tab++⟨#[125]⟩=a9/\(s.map fun a=>oL (tab+1)++S a (tab+1))=b/\b.length=j):=⟨l,A,by rw[<-A,dv];exact g.out.2.2.2.2⟩;have bx:T.size+(1+(jf b).size+(tab+1)+1)<=140737488355328:=by
   have e:a9.size=1+(jf b).size+(tab+1)+1:=by rw[<-l,ag,ag,ag,kD];rfl
   omega
  have u:=aq bx;clear l A z r bx b5;go_in;go_wp2_with fail;refine(aE w0 _ T ⟨#[123]⟩ _ _ g.out.1 (by have:=u.out;show T.size+1<=_;omega)).mono ?_;rintro e G ⟨rfl,x,C⟩;obtain⟨a4,H,y⟩:=x.cells;have a5:=y 2;have bD:=x.putTab ((tab:Int)+1);have J:B0 (Pr w0 (V (R m) f k) (T++⟨#[123]⟩) ((tab+1:Nat):Int) (G.setCell ⟨w0.heap.size,2,Z⟩ (O Q ((tab:Int)+1)))/\Kq w0.heap.size w (G.setCell ⟨w0.heap.size,2,Z⟩ (O Q ((tab:Int)+1)))):=⟨by rw[show((tab+1:Nat):Int)=(tab:Int)+1 by omega];exact bD,C.trans (Kq.putP _ _ _ _)⟩;clear x C bD y;go_wp2_with fail;generalize G.setCell ⟨w0.heap.size,2,Z⟩ (O Q ((tab:Int)+1))=cn at J⊢;clear a4 H a5 z0 cl cm bb;go_loopw [32] (fun a3 wr=>∃a:Nat,a<=j/\a3= O Q a/\B0 (Pr w0 (V (R m) f k) (T++⟨#[123]⟩++jf (b.take a)) ((tab+1:Nat):Int) wr/\Kq w0.heap.size w wr)) (fun a3 _=>j-(B2 a3).toNat)
  case atStart=>exact⟨0,by omega,rfl,by rw[show T++⟨#[123]⟩++jf (b.take 0)=T++⟨#[123]⟩ from ByteArray.append_empty];exact J.out.1,J.out.2⟩
  case round=>
   obtain⟨a,cy,rfl,q⟩:=hrel;by_cases b8:a<j
   ·obtain⟨ck,B⟩:=bj g.out.2.2.2.2 b8;obtain⟨t,rfl,bs,b9,bt⟩:=g.out.2.2.1 ck (bC B);obtain⟨b2,rfl,b3⟩:=(g.out.2.1.below q.out.1.bel).get B;have cB:(a:Int)<(j:Int):=by omega
    have cz:(0:Int)<=(a:Int):=by omega
    have bw:b[a]?=R (oL (tab+1)++S t (tab+1)):=by rw[<-af.out.2.1,cj,B];rfl
    have am:=vK b a _ bw;have bd:=Jw b (a+1);have bf:(jf (b.take a)).size+(tab+2+(S t (tab+1)).size)<=(jf b).size:=by rw[am,ag,ag,kD]at bd;omega
    have ad:=dx am bf;have a7:=dx bs bt;have av:a=0->wr.cell? b2=R (O Q (t:Int)):=fun e=>by subst e;simpa [Addr.add] using b3
    clear am bd bf B bw bs b9 bt;have bF:∀c,Pr w0 (V (R m) f k) (T++⟨#[123]⟩++jf (b.take a)++oL (tab+1)) ((tab+1:Nat):Int) c->Kq w0.heap.size wr c->A6 A0 62 #[A5 (R ⟨w0.heap.size,0,Z⟩),O Q (t:Int)] c fun e n=>e= A3 (A9 #[])/\B0 (Pr w0 (V (R m) f k) (T++⟨#[123]⟩++jf (b.take (a+1))) ((tab+1:Nat):Int) n/\Kq w0.heap.size w n):=by
     intro c p o;refine(g.out.2.2.2.1 t (tab+1) _ c a7.out.1 a7.out.2 (by omega) p (by have:=ad.out.2;have:=u.out;rw[ag,ag,ag,kD];show T.size+1+_+_+_<=_;omega)).mono ?_;rintro e b0 ⟨rfl,cc,ca⟩;refine⟨rfl,?_,(q.out.2.trans o).trans ca⟩;rw[ad.out.1,<-aF,<-aF];exact cc
    have a8:B0 (∀c,Pr w0 (V (R m) f k) (T++⟨#[123]⟩++jf (b.take a)++oL (tab+1)) ((tab+1:Nat):Int) c->Kq w0.heap.size wr c->A6 A0 62 #[A5 (R ⟨w0.heap.size,0,Z⟩),O Q (t:Int)] c fun e n=>e= A3 (A9 #[])/\B0 (Pr w0 (V (R m) f k) (T++⟨#[123]⟩++jf (b.take (a+1))) ((tab+1:Nat):Int) n/\Kq w0.heap.size w n)):=bF;have E:=EE w0 (V (R m) f k) (T++⟨#[123]⟩++jf (b.take a)) (tab+1) wr q.out.1 (by omega) (by have:=ad.out.2;have:=u.out;rw[ag,ag];show T.size+1+_+_<=_;omega);clear bF;by_cases b6:a=0
    ·subst b6;have cu:=av rfl;clear av;go_wp2_with fail;refine E.mono ?_;rintro e c ⟨rfl,p,o⟩;have ks:=a8.out c p o;clear p o E;go_wp2_with fail;refine ks.mono ?_;rintro e b0 ⟨rfl,K⟩;go_wp2_with fail;exact⟨⟨1,by omega,by go_num,K⟩,by simp[B2];omega⟩
    ·clear av;go_wp2_with fail;refine E.mono ?_;rintro e c ⟨rfl,p,o⟩;have ks:=a8.out c p o;clear p o E;go_wp2_with fail;refine ks.mono ?_;rintro e b0 ⟨rfl,K⟩;go_wp2_with fail;exact⟨⟨a+1,by omega,by go_num,K⟩,by simp[B2];omega⟩
   ·obtain rfl:a=j:=by omega
    obtain⟨a4,H,y⟩:=q.out.1.cells;have cf:wr.cell? ⟨w0.heap.size,2,Z⟩=R (O Q ((tab:Int)+1)):=by rw[H];rw[show((tab+1:Nat):Int)=(tab:Int)+1 by omega]
    have a5:=y 2;have a0:=q.out.1.putTab (tab:Int);rw[cw (by rw[af.out.2.2];exact ah _)]at a0;have L:B0 (Pr w0 (V (R m) f k) (T++⟨#[123]⟩++jf b) (tab:Int) (wr.setCell ⟨w0.heap.size,2,Z⟩ (O Q (tab:Int)))/\Kq w0.heap.size w (wr.setCell ⟨w0.heap.size,2,Z⟩ (O Q (tab:Int)))):=⟨a0,q.out.2.trans (Kq.putP _ _ _ _)⟩;have cv:(tab:Int)+1-1=(tab:Int):=by omega
    clear a0 H y a4;go_wp2_with fail;generalize wr.setCell ⟨w0.heap.size,2,Z⟩ (O Q (tab:Int))=co at L⊢;refine(EE w0 _ _ tab _ L.out.1 (by omega) (by have:=u.out;rw[ag,ag];show T.size+1+_+_<=_;omega)).mono ?_;rintro e b1 ⟨rfl,bE,bA⟩;have a6:B0 (Pr w0 (V (R m) f k) (T++⟨#[123]⟩++jf b++oL tab) (tab:Int) b1/\Kq w0.heap.size w b1):=⟨bE,L.out.2.trans bA⟩;clear bE bA cf a5;go_wp2_with fail;refine(aE w0 _ _ ⟨#[125]⟩ _ _ a6.out.1 (by have:=u.out;rw[ag,ag,ag,kD];show T.size+1+_+_+1<=_;omega)).mono ?_;rintro e c9 ⟨rfl,ce,cb⟩;go_wp2_with fail;go_end0
    refine⟨rfl,?_,a6.out.2.trans cb⟩;rw[<-af.out.1,<-aF,<-aF,<-aF];exact ce
def Wr(w0:U)(c:A4)(t:Int)(f:FuncId)(args:Array A4)(Y:ByteArray):Prop:=
 ∀(a:ByteArray)(b:U),Pr w0 c a t b->a.size+Y.size<=140737488355328->A6 A0 f args b fun e d=>e= A3 (A9 #[])/\Pr w0 c (a++Y) t d/\Kq w0.heap.size b d
abbrev pW(w0:U):A4:= A5 (R ⟨w0.heap.size,0,Z⟩)
abbrev ia(N:Nd)(vn vk:A4):Obj:= A7 #[O Q N.k,O Q N.f,O Q N.t,O Q N.l,O Q N.op,O Q N.n,A2 N.x,vn,vk] 35
structure NdR (w0:U) (p1:Addr) (i:Nat) (N:Nd) (an:Option Addr) (M cn:Nat) (ak:Option Addr) (L ck:Nat):Prop where
 nm:bu w0 (.slice an M cn) N.nm
 ks:bi w0 (.slice ak L ck) N.ks
 hM:N.nm.length=M
 hL:N.ks.length=L
 cap:L<=ck
 rd:∀W,A8 w0.heap.size w0 W->GI W (p1.add (i*9)) N (.slice an M cn) (.slice ak L ck)
def ij(w0:U)(p1:Addr)(e:List Nd):Prop:=
 ∀b a d c,e[b]?=R a->w0.cell? ⟨(p1.add (b*9)).block,(p1.add (b*9)).off+8,Z⟩=R (V d a.ks.length c)->a.ks.length<=c
theorem eG{w0:U}{p1:Addr}{n c1:Nat}{c:List Nd}(h:cg w0 (V (R p1) n c1) c)(k:ij w0 p1 c){i:Nat}(l:i<c.length):∃an f cn b e ck,NdR w0 p1 i (al c i) an f cn b e ck:=by
 have d:=ot l;obtain⟨o,g,q,p,a⟩:=h.get d;cases g;obtain⟨an,cn,rfl⟩:=a.hn.form;obtain⟨b,ck,rfl⟩:=a.hk.form;exact⟨an,_,cn,b,_,ck,a.hn,a.hk,rfl,rfl,k i _ b ck d a.c8,fun m j=>a.below j⟩
structure Bx (w0:U) (vt:A4) (t:Int) (w:U) (N:Nd) (vn vk:A4) (T:ByteArray) (W:U):Prop where
 pr:Pr w0 vt T t W
 kq:Kq w0.heap.size w W
 bx:de w.heap.size W 35 N vn vk
theorem Bx.new{w0:U}{b:A4}{t:Int}{w:U}{T:ByteArray}(h:Pr w0 b T t w)(N:Nd)(vn vk:A4):Bx w0 b t w N vn vk T (w.alloc (ia N vn vk)):=by
 have a:A8 w.heap.size w (w.alloc (ia N vn vk)):=(aj _ w).alloc (ah _) _;exact⟨h.below a,Kq.of_below a,aw w _⟩
theorem Bx.next{w0:U}{b:A4}{t:Int}{w:U}{N:Nd}{vn vk:A4}{T c:ByteArray}{d a:U}(h:Bx w0 b t w N vn vk T d)(e:w0.heap.size<w.heap.size)(p:Pr w0 b c t a)(k:Kq w0.heap.size d a):Bx w0 b t w N vn vk c a:=
 ⟨p,h.kq.trans k,k.box h.bx (by omega)⟩
theorem Bx.below{w0:U}{d:A4}{t:Int}{w:U}{N:Nd}{vn vk:A4}{T:ByteArray}{a c:U}(h:Bx w0 d t w N vn vk T a)(b:A8 a.heap.size a c):Bx w0 d t w N vn vk T c:=
 ⟨h.pr.below b,h.kq.trans (Kq.of_below b),h.bx.below b⟩
theorem Bx.cells{w0:U}{p:A4}{t:Int}{w:U}{N:Nd}{vn vk:A4}{T:ByteArray}{a:U}(h:Bx w0 p t w N vn vk T a):a.cell? ⟨w.heap.size,0,Z⟩=R (O Q N.k)/\a.cell? ⟨w.heap.size,1,Z⟩=R (O Q N.f)/\a.cell? ⟨w.heap.size,2,Z⟩=R (O Q N.t)/\a.cell? ⟨w.heap.size,3,Z⟩=R (O Q N.l)/\a.cell? ⟨w.heap.size,4,Z⟩=R (O Q N.op)/\a.cell? ⟨w.heap.size,5,Z⟩=R (O Q N.n)/\a.cell? ⟨w.heap.size,6,Z⟩=R (A2 N.x)/\a.cell? ⟨w.heap.size,7,Z⟩=R vn/\a.cell? ⟨w.heap.size,8,Z⟩=R vk:=by
 obtain⟨b,c,d,e,g,i,j,m,o,q⟩:=au h.bx;exact⟨b,c,d,e,g,i,j,m,o⟩
theorem Bx.kid0{w0:U}{g:A4}{t:Int}{w:U}{N:Nd}{vn:A4}{a:Addr}{b ck:Nat}{T:ByteArray}{c:U}(h:Bx w0 g t w N vn (V (R a) b ck) T c)(e:bi w0 (V (R a) b ck) N.ks){q:Int}(f:N.ks[0]?=R q):c.cell? a=R (O Q q):=by
 obtain⟨j,d,i⟩:=(e.below h.pr.bel).get f;cases d;simpa [Addr.add] using i
theorem Bx.kid{w0:U}{i:A4}{t:Int}{w:U}{N:Nd}{vn:A4}{a:Addr}{b ck:Nat}{T:ByteArray}{c:U}(h:Bx w0 i t w N vn (V (R a) b ck) T c)(f:bi w0 (V (R a) b ck) N.ks){j:Nat}{q:Int}(g:N.ks[j]?=R q)(e:j≠0):c.cell? ⟨a.block,a.off+j,Z⟩=R (O Q q):=by
 obtain⟨l,d,k⟩:=(f.below h.pr.bel).get g;cases d;exact na k e
theorem Bx.name0{w0:U}{g:A4}{t:Int}{w:U}{N:Nd}{a:Addr}{b cn:Nat}{vk:A4}{T:ByteArray}{c:U}(h:Bx w0 g t w N (V (R a) b cn) vk T c)(e:bu w0 (V (R a) b cn) N.nm){s:ByteArray}(f:N.nm[0]?=R s):c.cell? a=R (A2 s):=by
 obtain⟨j,d,i⟩:=(e.below h.pr.bel).get f;cases d;simpa [Addr.add] using i
theorem bi.ptr{d:U}{a:Option Addr}{c ck:Nat}{b:List Int}(h:bi d (V a c ck) b)(f:0<b.length):∃i,a=R i:=by
 obtain⟨g,e,_⟩:=h.get (aI f);exact⟨g,e⟩
theorem bu.ptr{d:U}{a:Option Addr}{c ck:Nat}{b:List ByteArray}(h:bu d (V a c ck) b)(f:0<b.length):∃i,a=R i:=by
 obtain⟨g,e,_⟩:=h.get (aI f);exact⟨g,e⟩
theorem dh{N:Nd}{j:Nat}{q:Int}(h:N.ks[j]?=R q):j<N.ks.length:=(List.getElem?_eq_some_iff.1 h).1
def tg(a:U)(b:Nat)(N:Nd)(vn vk:A4):Prop:=a.cell? ⟨b,0,Z⟩=R (O Q N.k)/\a.cell? ⟨b,1,Z⟩=R (O Q N.f)/\a.cell? ⟨b,2,Z⟩=R (O Q N.t)/\a.cell? ⟨b,3,Z⟩=R (O Q N.l)/\a.cell? ⟨b,4,Z⟩=R (O Q N.op)/\a.cell? ⟨b,5,Z⟩=R (O Q N.n)/\a.cell? ⟨b,6,Z⟩=R (A2 N.x)/\a.cell? ⟨b,7,Z⟩=R vn/\a.cell? ⟨b,8,Z⟩=R vk
theorem add_add(a:Addr)(i j:Nat):(a.add i).add j=a.add (i+j):=by
 unfold Addr.add;by_cases b:i=0
 ·subst b;simp
 ·by_cases c:j=0
  ·subst c;simp[b]
  ·simp[b,c];omega
theorem bi.take{e:U}{a:Option Addr}{n c:Nat}{d:List Int}(h:bi e (V a n c) d)(k:Nat)(i:k<=d.length):bi e (V a k c) (d.take k):=by
 rcases h with⟨rfl,f,j,g⟩|⟨f,j,g,m⟩
 ·have:k=0:=by simpa using i
  subst this;exact .inl ⟨rfl,a,c,rfl⟩
 ·cases g;by_cases l:k=0
  ·subst l;exact .inl ⟨by simp,_,_,rfl⟩
  ·refine .inr ⟨f,c,by rw[eJ,tH i],fun o p b=>m o p ?_⟩;rw[lc]at b;split at b
   ·exact b
   ·cases b
theorem bi.drop{e:U}{a:Addr}{n c d:Nat}{b:List Int}(h:bi e (V (R a) n c) b)(k m:Nat)(r:k<=b.length)(o:m=b.length-k):bi e (V (R (a.add k)) m d) (b.drop k):=by
 subst o;rcases h with⟨rfl,i,j,f⟩|⟨i,j,f,l⟩
 ·exact .inl ⟨by simp,R (a.add k),d,by simp⟩
 ·cases f;refine .inr ⟨a.add k,d,by rw[gJ],fun p q g=>?_⟩;rw[px]at g;rw[add_add];exact l (k+p) q g
