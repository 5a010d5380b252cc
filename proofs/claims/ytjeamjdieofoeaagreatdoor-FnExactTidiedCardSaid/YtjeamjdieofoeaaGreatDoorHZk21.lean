import Derived.Test.YtjeamjdieofoeaaGreatDoorHZk19
import Derived.Test.YtjeamjdieofoeaaGreatDoorHZk12
import Derived.Test.YtjeamjdieofoeaaGreatDoorHZk20
import Derived.Test.YtjeamjdieofoeaaGreatDoorHZk11
import Derived.Test.YtjeamjdieofoeaaGreatDoorHZk17
set_option linter.all false
set_option maxRecDepth 100000
set_option maxHeartbeats 25600000
open Option renaming some->M,none->V
open Bool renaming false->O,true->Q
open Go.Proofs.Tryz renaming prog->U
open Go renaming World->Y,Value->Ax,Calls->B4,TypeId->F1
open Go.Ending renaming returned->Z
open Go.Value renaming string->A0,pointer->Bs,slice->B0,int->B1,bool->B6,tuple->Er,ownBlock->E2,iface->Fs,int->F0,agg->F2,nilIface->G0
open Go.RowKit renaming Below->A2,Hid->A5,intOf->B7
open Go.Lib renaming repeatL->A9,asciiSpaceTab->E1,TabIs->Ga
open Go.IntKind renaming i64->B3
open ByteArray renaming empty->Cb
open Go.Obj renaming cells->C2
open List renaming replicate->E0
namespace Go.Proofs.YtjeamjdieofoeaaGreatDoor
open Go.RowKit Go.Maps Go.WideMaps
variable{Br:Int->ByteArray->ByteArray}{E:Int->ByteArray}{N:Nd}{S:Int->Nat->ByteArray}{T:ByteArray}{W W' w0:World}{b i j n q tab:Nat}{c:Int}{kv v vk vn vs:Value}{ns:List Nd}{zs:List Int}
def stB(a:List Nd)(N:Nd):Bool:=
 if N.k=1 then(sbB a N N.ks.length 0&&bC N O O O O)
 else if N.k=2 then(bC N O O O Q&&eG N 1 200&&lg a N N.ks.length 0)
 else if N.k=3 then(bC N O O O Q&&eG N 1 1&&((N.ks.length:Int)==1)&&lg a N 1 0)
 else if N.k=4 then(bC N O O O Q&&eG N 1 1&&((N.ks.length:Int)==1)&&(fh a N 0==36))
 else if N.k=5 then(bC N O Q O O&&(decide (1<=N.n/\N.n<(N.ks.length:Int))&&(tgB a N N.n.toNat 0&&lg a N (N.ks.length-N.n.toNat) N.n.toNat)))
 else if N.k=6 then(bC N O O O O&&((N.ks.length:Int)==1)&&(fh a N 0==34))
 else if N.k=7 then(bC N O O O O&&(decide (2<=N.ks.length/\N.ks.length<=3)&&(lg a N 1 0&&(!(fh a N 1 !=1)&&((N.ks.length:Int)==2||(fh a N 2==1||fh a N 2==7))))))
 else if N.k=8 then(bC N O O O O&&((N.ks.length:Int)==2)&&lg a N 1 0&&(fh a N 1==1))
 else if N.k=9 then(bC N O O O Q&&(eG N 1 1&&(((N.ks.length:Int)==3||(N.ks.length:Int)==4)&&(lg a N (N.ks.length-1) 0&&(fh a N (N.ks.length-1)==1)))))
 else if N.k=10 then(bC N O O O Q&&eG N 1 200&&((N.ks.length:Int)==2)&&lg a N 1 0&&(fh a N 1==1))
 else if N.k=11 then(bC N O O O O&&((N.ks.length:Int)==0))
 else if N.k=12 then(bC N O O O O&&((N.ks.length:Int)==0))
 else if N.k=13 then(bC N O O O O&&lg a N N.ks.length 0)
 else if N.k=14 then(bC N O O O Q&&eG N 1 2&&((N.ks.length:Int)==2)&&(fh a N 0==1)&&(fh a N 1==1))
 else if N.k=15 then(bC N O O O O&&((N.ks.length:Int)==1)&&lg a N 1 0)
 else if N.k=16 then(bC N O O O O&&((N.ks.length:Int)==1)&&(fh a N 0==34))
 else O
theorem alF{w:Y}{z:Ax}(g:NArg w z ns N vn vk)(hK:N.k=3\/N.k=8\/N.k=11\/N.k=12\/N.k=2\/N.k=4\/N.k=6\/N.k=16\/N.k=10\/N.k=13\/N.k=14\/N.k=15):
  B4 U 96 #[F2 #[z],jf N vn vk] w fun e w'=>e= Z (B6 (stB ns N))/\A2 w.heap.size w w':=by
 obtain⟨B,F,rfl⟩:=g.t.form;obtain⟨C,G,rfl⟩:=g.n.form;obtain⟨E,H,rfl⟩:=g.k.form;have a:=St.start g;have A:A5 (N.x.size<=1100000):=bL g.lx (by decide);clear g;rcases hK with hK|hK|hK|hK|hK|hK|hK|hK|hK|hK|hK|hK;all_goals
  unfold stB;simp only[hK,reduceIte,Int.reduceEq];have J:=kqf hK;have I:=kqs hK;first
  |(have b:N.k=3:=hK
    clear b hK;cases t0:bC N O O O Q
    case' true=>
     cases t1:eG N 1 1
     case' true=>
      cases t2:((N.ks.length:Int)==1)
      case' true=>
       have c:N.ks.length=1:=by have:=gE t2;omega
       have d:A5 (1<=N.ks.length):=by show _<=_;omega
       have f:A5 (0<N.ks.length):=by show _<_;omega
       clear c;cases t3:lg ns N 1 0)
  |(have b:N.k=8:=hK
    clear b hK;cases t0:bC N O O O O
    case' true=>
     cases t1:((N.ks.length:Int)==2)
     case' true=>
      have c:N.ks.length=2:=by have:=gE t1;omega
      have d:A5 (1<=N.ks.length):=by show _<=_;omega
      have f:A5 (0<N.ks.length):=by show _<_;omega
      have i:A5 (1<N.ks.length):=by show _<_;omega
      clear c;cases t2:lg ns N 1 0
      case' true=>
       cases t3:(fh ns N 1==1))
  |(have b:N.k=11\/N.k=12:=by first|exact .inl hK|exact .inr (hK)
    clear b hK;cases t0:bC N O O O O
    case' true=>
     cases t1:((N.ks.length:Int)==0))
  |(have b:N.k=2:=hK
    clear b hK;cases t0:bC N O O O Q
    case' true=>
     cases t1:eG N 1 200
     case' true=>
      cases t2:lg ns N N.ks.length 0)
  |(have b:N.k=4:=hK
    clear b hK;cases t0:bC N O O O Q
    case' true=>
     cases t1:eG N 1 1
     case' true=>
      cases t2:((N.ks.length:Int)==1)
      case' true=>
       have c:N.ks.length=1:=by have:=gE t2;omega
       have d:A5 (1<=N.ks.length):=by show _<=_;omega
       have f:A5 (0<N.ks.length):=by show _<_;omega
       clear c;cases t3:(fh ns N 0==36))
  |(have b:N.k=6\/N.k=16:=by first|exact .inl hK|exact .inr (hK)
    clear b hK;cases t0:bC N O O O O
    case' true=>
     cases t1:((N.ks.length:Int)==1)
     case' true=>
      have c:N.ks.length=1:=by have:=gE t1;omega
      have d:A5 (1<=N.ks.length):=by show _<=_;omega
      have f:A5 (0<N.ks.length):=by show _<_;omega
      clear c;cases t2:(fh ns N 0==34))
  |(have b:N.k=10:=hK
    clear b hK;cases t0:bC N O O O Q
    case' true=>
     cases t1:eG N 1 200
     case' true=>
      cases t2:((N.ks.length:Int)==2)
      case' true=>
       have c:N.ks.length=2:=by have:=gE t2;omega
       have d:A5 (1<=N.ks.length):=by show _<=_;omega
       have f:A5 (0<N.ks.length):=by show _<_;omega
       have i:A5 (1<N.ks.length):=by show _<_;omega
       clear c;cases t3:lg ns N 1 0
       case' true=>
        cases t4:(fh ns N 1==1))
  |(have b:N.k=13:=hK
    clear b hK;cases t0:bC N O O O O
    case' true=>
     cases t1:lg ns N N.ks.length 0)
  |(have b:N.k=14:=hK
    clear b hK;cases t0:bC N O O O Q
    case' true=>
     cases t1:eG N 1 2
     case' true=>
      cases t2:((N.ks.length:Int)==2)
      case' true=>
       have c:N.ks.length=2:=by have:=gE t2;omega
       have d:A5 (1<=N.ks.length):=by show _<=_;omega
       have f:A5 (0<N.ks.length):=by show _<_;omega
       have i:A5 (1<N.ks.length):=by show _<_;omega
       clear c;cases t3:(fh ns N 0==1)
       case' true=>
        cases t4:(fh ns N 1==1))
  |(have b:N.k=15:=hK
    clear b hK;cases t0:bC N O O O O
    case' true=>
     cases t1:((N.ks.length:Int)==1)
     case' true=>
      have c:N.ks.length=1:=by have:=gE t1;omega
      have d:A5 (1<=N.ks.length):=by show _<=_;omega
      have f:A5 (0<N.ks.length):=by show _<_;omega
      clear c;cases t2:lg ns N 1 0)
 all_goals
  unfold jf;go_in;go_wp2_with (first|(go_at_call 170;with_reducible refine a.bare fun h a=>?_;obtain⟨j,l,m,o,p,q,r,s,u,v⟩:=cd a.bn;have y:=a.bt)|(go_at_call 171;with_reducible refine a.named fun h a=>?_;obtain⟨j,l,m,o,p,q,r,s,u,v⟩:=cd a.bn;have y:=a.bt)|(go_at_call 172;(first|with_reducible refine a.ex1 d.out fun h a=>?_|with_reducible refine a.ex2 d.out fun h a=>?_|with_reducible refine a.exL fun h a=>?_);obtain⟨j,l,m,o,p,q,r,s,u,v⟩:=cd a.bn;have y:=a.bt)|(go_at_call 169;(first|with_reducible refine a.kid0 f.out fun h a=>?_|with_reducible refine a.kid1 i.out fun h a=>?_);obtain⟨j,l,m,o,p,q,r,s,u,v⟩:=cd a.bn;have y:=a.bt));go_ret;exact⟨rfl,a.bel⟩
section
variable {w : World} {vt : Value} {ns : List Nd} {N : Nd} {vn vk : Value} (A : NArg w vt ns N vn vk)
include A
theorem AE(h:jj N.k=Q):B4 U 96 #[F2 #[vt],jf N vn vk] w fun e w'=>e= Z (B6 (stB ns N))/\A2 w.heap.size w w':=by
 have a:=aH h;rcases(show(N.k=3\/N.k=8\/N.k=11\/N.k=12\/N.k=2\/N.k=4\/N.k=6\/N.k=16\/N.k=10\/N.k=13\/N.k=14\/N.k=15)\/N.k=1\/N.k=5\/N.k=7\/N.k=9 by omega) with hK|hK|hK|hK|hK
 ·exact alF A hK
 all_goals
  unfold stB;simp only[hK,reduceIte,Int.reduceEq];first|exact ajk A hK|exact ajn A hK|exact aiE A hK|exact ajm A hK
theorem zq:B4 U 97 #[F2 #[vt],jf N vn vk] w fun e w'=>e= Z (B6 (jA ns N))/\A2 w.heap.size w w':=by
 by_cases b:N.k=20\/N.k=21\/N.k=22\/N.k=27\/N.k=23\/N.k=24\/N.k=25\/N.k=26\/N.k=28\/N.k=29\/N.k=41\/N.k=32\/N.k=30\/N.k=31\/N.k=33\/N.k=34\/N.k=40\/N.k=42\/N.k=36\/N.k=37
 ·exact alz A b
 by_cases a:N.k=35
 ·unfold jA;simp only[a,reduceIte,Int.reduceEq];exact aga A a
 rw[show jA ns N=O by unfold jA;repeat rw[aa (by omega)]];refine ajj A fun d c=>?_;simp only[Bo,jb,se,si]at c;omega
end
def Ie(l:List Int)(i:Int):Nat->Nat->Bool
 |0,_=>Q
 |f+1,j=>decide (0<=l.getD j 0/\l.getD j 0<i)&&Ie l i f (j+1)
structure alG (l:List Int) (i:Int) (f j:Nat) (R:Bool):Prop where
 out:Ie l i f j=R
theorem yp(l:List Int)(i:Int):∀(f j:Nat),Ie l i f j=Q->∀k,j<=k->k<j+f->0<=l.getD k 0/\l.getD k 0<i
 |0,j,_,k,a,b=>by omega
 |f+1,j,h,k,a,b=>by
  rw[Ie,ci]at h;rcases iL a with rfl|h3
  ·exact aH h.1
  ·exact yp l i f (j+1) h.2 k h3 (by omega)
theorem alH(h:Ie N.ks i N.ks.length 0=Q)(d:i<=ns.length):za ns N:=by
 refine⟨fun e b=>?_⟩;obtain⟨c,a,rfl⟩:=ie b;have:=yp N.ks i N.ks.length 0 h c (by omega) (by omega);rw[be,aJ a]at this;simp only[gl]at this;omega
def aae(N:Nd):Bool:=decide (0<=N.f/\N.f<=N.t/\0<=N.l/\N.ks.length<=200)
def oF(a:List Nd)(N:Nd):Bool:=if jj N.k=Q then stB a N else jA a N
def jk(a:List Nd)(i:Nat)(N:Nd):Bool:=aae N&&(Ie N.ks i N.ks.length 0&&oF a N)
structure io (N:Nd):Prop where
 l1:N.nm.length<=1048576
 l2:N.ks.length<=1048576
 lx:N.x.size<=1048576
 ls:∀s∈N.nm,s.size<=1048576
theorem Hb(w:Y)(ao:Ax)(c:List Nd)(i:Nat)(N:Nd)(q:fs w ao c)(bf:c.length<=1048576)(p:c[i]?=M N)(hS:io N):
  B4 U 28 #[F2 #[ao],B1 B3 i] w fun e w'=>e= Z (B6 (jk c i N))/\A2 w.heap.size w w':=by
 obtain⟨bl,L,rfl⟩:=q.form;obtain⟨an,rfl,b0,bF,ba⟩:=q.get p;have bc:i<c.length:=by rcases bj i c.length with h|h;exact h;rw[jG h]at p;cases p
 have bt:(i:Int)<(c.length:Int):=by omega
 have bs:(0:Int)<=(i:Int):=by omega
 obtain⟨ak,av,a0,a4,a5,a6,a7,a8,a9,B,A⟩:=ba;obtain⟨J,ad,rfl⟩:=B.form;obtain⟨K,af,rfl⟩:=A.form;have bD:=xI ak;have n:=aq hS;have o:=lD q B A;have bA:=hS.l2;clear q B A hS p;unfold jk;by_cases v:N.f<0\/N.t<N.f\/N.l<0\/(200:Int)<(N.ks.length:Int)
 ·rw[show aae N=O from aC (by omega)];go_in;go_wp2;all_goals (go_ret;exact⟨rfl,(DB rfl).2.2.1⟩)
 rw[show aae N=Q from bH (by omega)];simp only[not_or]at v;obtain⟨v,bn,bo,br⟩:=v;obtain⟨I,hS⟩:=az (oF c N);rw[hS];have H:=aq hS;clear hS;obtain⟨s,x⟩:=az (Ie N.ks i N.ks.length 0);rw[x];have G:alG N.ks i N.ks.length 0 s:=⟨x⟩;clear x;go_in;go_wp2_with fail;generalize al:(w.alloc _).alloc _=u;obtain⟨am,z,d, -⟩:=DB al;replace am:u.cell? ⟨w.heap.size,0,V⟩=M (B0 (M an) c.length L):=(au _ _ _ _ _ _ am).trans rfl;replace z:qh (w.heap.size+1) u 45 N (B0 J N.nm.length ad) (B0 K N.ks.length af):=z;clear al;clear ak av a0 a4 a5 a6 a7 a8 a9;go_loop [7,37] (fun _ F=>∃a:Nat,F= B1 B3 a/\a<=N.ks.length/\alG N.ks i (N.ks.length-a) a s) (fun _ F=>N.ks.length-(B7 F).toNat)
 case atStart=>exact⟨0,rfl,by omega,G⟩
 case round=>
  obtain⟨a,rfl,bw,ar⟩:=hrel;have b:=ar.out;by_cases bh:a<N.ks.length
  ·have E:N.ks[a]?=M N.ks[a]:=aJ bh;obtain⟨bE,rfl,bb⟩:=(o.2.2.below d).get E;rw[show N.ks.length-a=(N.ks.length-(a+1))+1 by omega,Ie,be,E,gl]at b;have bd:(a:Int)<(N.ks.length:Int):=by omega
   have bx:(0:Int)<=(a:Int):=by omega
   generalize N.ks[a]=ap at b bb;clear E;by_cases z0:ap<0
   ·rw[aC (by omega),eo]at b;have g:=aq b;clear b;go_wp2_with fail;go_ret;exact⟨by rw[<-g.out];rfl,d⟩
   by_cases cb:(i:Int)<=ap
   ·rw[aC (by omega),eo]at b;have g:=aq b;clear b;go_wp2_with fail;go_ret;exact⟨by rw[<-g.out];rfl,d⟩
   rw[bH (by omega),eI]at b;have g:alG N.ks i (N.ks.length-(a+1)) (a+1) s:=⟨b⟩;clear b;go_wp2_with fail;go_round
   case rel=>exact⟨a+1,by go_num,by omega,g⟩
   case measure=>simp[B7];omega
  ·rw[show N.ks.length-a=0 by omega,Ie]at b;have g:=aq b;have bd:¬(a:Int)<(N.ks.length:Int):=by omega
   have C:za c N:=alH (by rw[G.out,<-g.out]) (gq bc);have m:NArg u (B0 (M an) c.length L) c N (B0 J N.nm.length ad) (B0 K N.ks.length af):=⟨o.1.below d,o.2.1.below d,o.2.2.below d,C,bf,n.l1,n.l2,n.lx,n.ls⟩;obtain⟨b1,b2,b3,b4,b5,b6,b7,b8,b9,ca⟩:=cd z;have r:=fun w=>Cg N.k w;clear b;cases hx:jj N.k with
   |true=>
    have j:=AE m hx;rw[hx]at r;rw[show stB c N=I by rw[<-H.out];unfold oF;rw[ab hx]]at j;unfold jf at j;clear hx m C;go_wp2_with (first|(go_at_call 95;refine dB (r _) ?_)|(go_at_call 96;refine j.mono ?_;rintro e bk ⟨rfl,y⟩));go_ret;exact⟨by rw[<-g.out];rfl,d.trans (y.mono d.size)⟩
   |false=>
    have j:=zq m;rw[hx]at r;rw[show jA c N=I by rw[<-H.out];unfold oF;rw[aa (by rw[hx];simp)]]at j;unfold jf at j;clear hx m C;go_wp2_with (first|(go_at_call 95;refine dB (r _) ?_)|(go_at_call 97;refine j.mono ?_;rintro e bk ⟨rfl,y⟩));go_ret;exact⟨by rw[<-g.out];rfl,d.trans (y.mono d.size)⟩
def iq(p:Nat->Bool):Nat->Nat->Option Nat
 |0,_=>V
 |f+1,j=>if p j=Q then M j else iq p f (j+1)
structure wI (p:Nat->Bool) (f j:Nat) (R:Option Nat):Prop where
 out:iq p f j=R
def Ky(i:Nat):List Int->List Int->List Int
 |[],D=>D
 |k::r,D=>Ky i r (D.set k.toNat (D.getD i 0+1))
def dpN(a:List Nd):Nat->List Int->List Int
 |0,D=>D
 |m+1,D=>dpN a m (Ky m (a.getD m Iv).ks D)
def Hc(a:List Nd):List Int:=dpN a a.length (E0 a.length 0)
def jL(a:List Nd):Bool:=decide (a.length=0\/3000<a.length\/(a.getD (a.length-1) Iv).k≠1)
def fj(a:List Nd)(i:Nat):Bool:=!(jk a i (a.getD i Iv))
def gx(S:List Int)(i:Nat):Bool:=S.getD i 0==0
def iA(D:List Int)(i:Nat):Bool:=decide (100<D.getD i 0)
def tf4:Option Nat->Int×Int
 |some i=>(4,(i:Int))
 |none=>(0,0)
def tf3(S D:List Int)(n:Nat):Option Nat->Int×Int
 |some i=>(3,(i:Int))
 |none=>if S.getD (n-1) 0≠(n:Int) then(3,(n:Int)-1) else tf4 (iq (iA D) n 0)
def tf2(S D:List Int)(n:Nat):Option Nat->Int×Int
 |some i=>(2,(i:Int))
 |none=>tf3 S D n (iq (gx S) n 0)
def dd(a:List Nd):Int×Int:=if jL a=Q then(1,0) else tf2 (iG a) (Hc a) a.length (iq (fj a) a.length 0)
def adz(n:Nat)(D:List Int):Prop:=D.length=n/\∀(j:Nat) z,D[j]?=M z->0<=z/\z<=(n:Int)-1-j
theorem adz.set{D:List Int}(h:adz n D)(i q:Nat)(g:i<n)(j:q<i):adz n (D.set q (D.getD i 0+1)):=by
 obtain⟨e,b⟩:=h;refine⟨by simp[e],fun d f a=>?_⟩;by_cases c:q=d
 ·subst c;rw[List.getElem?_set_self (by omega)]at a;obtain rfl:=bp a;rw[be,aJ (by omega)];have:=b i D[i] (aJ (by omega));simp;omega
 ·rw[List.getElem?_set_ne c]at a;exact b d f a
theorem rC{p:Nat->Bool}:∀{f j:Nat},iq p f j=V->∀k,j<=k->k<j+f->p k=O
 |0,j,_,k,a,b=>by omega
 |f+1,j,h,k,a,b=>by
  rw[iq]at h;split at h
  ·cases h
  ·rename_i c;rcases iL a with rfl|g
   ·simpa using c
   ·exact rC h k g (by omega)
def kD(b:Nat)(W:Y)(c n:Int):Prop:=W.heap[b]?=M (C2 #[B1 B3 c,B1 B3 n] 36 (0,0))
theorem jl{n:Int}(h:kD b W c n):W.cell? ⟨b,0,V⟩=M (B1 B3 c)/\W.cell? ⟨b,1,V⟩=M (B1 B3 n)/\∀j,W.frozen? ⟨b,j,V⟩=O:=by
 unfold kD at h;exact⟨by rw[au _ _ _ _ _ _ h];rfl,by rw[au _ _ _ _ _ _ h];rfl,fun j=>co _ _ _ _ _ h⟩
theorem pu{n:Int}(h:kD b W c n)(a n2:Int):kD b ((W.setCell ⟨b,0,V⟩ (B1 B3 a)).setCell ⟨b,1,V⟩ (B1 B3 n2)) a n2:=bz _ b 1 _ _ _ (bz _ b 0 _ _ _ h)
theorem kD.below{n:Int}(h:kD b W c n)(a:A2 W.heap.size W W'):kD b W' c n:=(a.block _ (ai h)).trans h
theorem J0(w:Y)(v:Ax)(a:List Nd)(h:fs w v a)(x:a.length<=1048576)(p:jL a=Q):
  B4 U 12 #[.agg #[v]] w fun e w'=>e= .returned (.agg #[.int .i64 1,.int .i64 0])/\A2 w.heap.size w w':=by
 obtain⟨F,G,rfl⟩:=h.form;have j:∀c d,A2 w.heap.size w ((w.alloc c).alloc d):=fun c d=>((ah _ w).alloc (ag _) c).alloc (by simp) d;have s:∀c (g:Array Ax) (l:F1),((w.alloc c).alloc (.cells g l)).heap[w.heap.size+1]?=M (.cells g l (0,0)):=fun c g l=>by
  have:=aA (w.alloc c) (.cells g l);rw[cD]at this;exact this
 have q:=aH p;by_cases f:a.length=0
 ·rw[f];go_in;go_wp2;exact aI (eu rfl _ _ (w.heap.size+1) _ _ _ _ rfl (s _ _ _) Tryz.underlying36 rfl (by kernel_rfl)) rfl ⟨rfl,j _ _⟩
 by_cases i:3000<a.length
 ·have B:(3000:Int)<(a.length:Int):=by omega
  have A:¬(a.length:Int)=0:=by omega
  generalize a.length=t at A B x⊢;clear h p q f i;go_in;go_wp2;exact aI (eu rfl _ _ (w.heap.size+1) _ _ _ _ rfl (s _ _ _) Tryz.underlying36 rfl (by kernel_rfl)) rfl ⟨rfl,j _ _⟩
 ·have C:(a.getD (a.length-1) Iv).k≠1:=by rcases q with e|e|e;exact absurd e f;exact absurd e i;exact e
  have r:a.length-1<a.length:=by omega
  obtain⟨m,o⟩:∃m,a[a.length-1]?=M m:=⟨_,aJ r⟩;rw[be,o,gl]at C;obtain⟨z,rfl,an,am,u⟩:=h.get o;have n:=u.c0;obtain⟨t,y⟩:=az a.length;rw[y]at n f i x r⊢;obtain⟨b,E⟩:∃b:Nat,t=b+1:=⟨t-1,by omega⟩;subst E;rw[mI]at n;have J:((b+1:Nat):Int)-1=(b:Int):=by omega
  have ad:¬((b+1:Nat):Int)=0:=by omega
  have af:¬(3000:Int)<((b+1:Nat):Int):=by omega
  have ak:(b:Int)<((b+1:Nat):Int):=by omega
  have L:(0:Int)<=(b:Int):=by omega
  have H:(((b:Int)+1)==0)=O:=by rw[cG];omega
  have I:decide ((3000:Int)<(b:Int)+1)=O:=aC (by omega);have al:(b:Int)<(b:Int)+1:=by omega
  have K:∀c d,((w.alloc c).alloc d).cell? (z.add (b*9))=M (.int .i64 m.k):=fun c d=>aj (j c d) n;clear h p q f i o u y r;go_in;go_wp2;exact aI (eu rfl _ _ (w.heap.size+1) _ _ _ _ rfl (s _ _ _) Tryz.underlying36 rfl (by kernel_rfl)) rfl ⟨rfl,j _ _⟩
structure J1 (w:Y) (v:Ax) (W:Y):Prop where
 tb:W.heap[w.heap.size]?=M (.cells #[v] 26 (0,0))
 fb:kD (w.heap.size+1) W 0 0
 bl:A2 w.heap.size w W
theorem J1.below{w:Y}(h:J1 w v W)(a:A2 W.heap.size W W'):J1 w v W':=
 ⟨(a.block _ (ai h.tb)).trans h.tb,h.fb.below a,h.bl.trans (a.mono h.bl.size)⟩
structure alI (w:Y) (v:Ax) (gd n:Nat) (ns:List Nd) (t:Nat) (D:List Int) (W:Y):Prop where
 tk:J1 w v W
 row:W.ownsRow w.heap.size 3 1 (.slice (M ⟨gd,0,V⟩) n n) n (D.map (F0 .i64))
 ok:adz n D
 rest:dpN ns t D=Hc ns
structure alJ (w:Y) (v:Ax) (gd n t:Nat) (ks D:List Int) (j:Nat) (E:List Int) (W:Y):Prop where
 tk:J1 w v W
 row:W.ownsRow w.heap.size 3 1 (.slice (M ⟨gd,0,V⟩) n n) n (E.map (F0 .i64))
 ok:adz n E
 rest:Ky t (ks.drop j) E=Ky t ks D
theorem dh{t:F1}(h:W.heap[b]?=M (C2 #[v] t (0,0))):W.cell? ⟨b,0,V⟩=M v:=by
 rw[au _ _ _ _ _ _ h];rfl
theorem J2(w:Y)(v:Ax)(c:List Nd)(h:fs w v c)(e8:c.length<=1048576)(d4:∀N∈c,io N)(b5:jL c=O):
  B4 U 12 #[.agg #[v]] w fun e w'=>e= .returned (.agg #[.int .i64 (dd c).1,.int .i64 (dd c).2])/\A2 w.heap.size w w':=by
 obtain⟨f5,z,rfl⟩:=h.form;have bo:=iz b5;have I:=lD h d4 b5;have c2:¬c.length=0:=fun e=>bo (.inl e);have ev:¬3000<c.length:=fun e=>bo (.inr (.inl e));have b1:(c.getD (c.length-1) Iv).k=1:=by
  by_cases a8:(c.getD (c.length-1) Iv).k=1
  ·exact a8
  ·exact absurd (.inr (.inr a8)) bo
 obtain⟨N,F⟩:∃N,c[c.length-1]?=M N:=⟨_,aJ (by omega)⟩;rw[be,F,gl]at b1;obtain⟨t,rfl,he,ha,c9⟩:=h.get F;have a7:=c9.c0;rw[b1]at a7;have e2:∀ap B,A2 w.heap.size w ((w.alloc ap).alloc B):=fun ap B=>((ah _ w).alloc (ag _) ap).alloc (by simp) B;obtain⟨ao,ca⟩:=az c.length;obtain⟨C,hF⟩:=az (dd c);have p:=gI ca hF;rw[hF];rw[ca]at I a7 c2 ev⊢;obtain⟨a,fg⟩:∃a:Nat,ao=a+1:=⟨ao-1,by omega⟩;have dz:ao-1=a:=by omega
 rw[dz]at a7;have d3:(0:Int)<=(a:Int):=by omega
 have fA:¬(ao:Int)=0:=by omega
 have fB:¬(3000:Int)<(ao:Int):=by omega
 have fF:(a:Int)<(ao:Int):=by omega
 have f2:(ao:Int)-1=(a:Int):=by omega
 have gb:(((a:Int)+1)==0)=O:=by rw[cG];omega
 have ge:decide ((3000:Int)<(a:Int)+1)=O:=aC (by omega);have g9:(a:Int)<(a:Int)+1:=by omega
 have e3:∀ap B,((w.alloc ap).alloc B).cell? (t.add (a*9))=M (.int .i64 1):=fun ap B=>aj (e2 ap B) a7;clear h b5 bo c2 b1 F c9 ca e8 d4 hF dz a7 fA fB fF f2;subst fg;go_in;go_wp2_with fail;generalize c6:(w.alloc _).alloc _=eg;obtain⟨cI,cn,cm, -⟩:=DB c6;have d5:J1 w (.slice (M t) (a+1) z) eg:=⟨cI,cn,cm⟩;clear c6;obtain⟨bE,b3⟩:=az (iq (fj c) (a+1) 0);have bA:=aq b3;have cs:wI (fj c) (a+1-0) 0 bE:=⟨b3⟩;clear b3 cI cn cm e3;go_loopw [39] (fun k wr=>∃b:Nat,b<=a+1/\k= .int .i64 b/\wI (fj c) (a+1-b) b bE/\J1 w (.slice (M t) (a+1) z) wr) (fun k _=>a+1-(B7 k).toNat)
 case atStart=>exact⟨0,aL _,rfl,cs,d5⟩
 case round=>
  obtain⟨b,dn,rfl,n,y⟩:=hrel;clear d5 cs;have d:=n.out;by_cases fa:b<a+1
  ·obtain⟨bf,a9⟩:=cy p.1 fa;have ds:(b:Int)<(a:Int)+1:=by omega
   have dq:(0:Int)<=(b:Int):=by omega
   have bw:=Hb wr (.slice (M t) (a+1) z) c b bf (I.1.below y.bl) (by rw[p.out.1];omega) a9 (I.2.1 bf (cH a9));have a0:=dh y.tb;obtain⟨af,al,am⟩:=jl y.fb;rw[show a+1-b=(a+1-(b+1))+1 by omega,iq]at d;have A:fj c b=!(jk c b bf):=by unfold fj;rw[be,a9];rfl
   rw[A]at d;have bd:=aq y;cases hx:jk c b bf with
   |true=>
    rw[hx]at bw d;rw[aa (by decide)]at d;have bb:wI (fj c) (a+1-(b+1)) (b+1) bE:=⟨d⟩;clear d hx A a9 y n af al am;go_wp2_with (go_at_call 28;refine bw.mono ?_;rintro e K ⟨rfl,an⟩);exact⟨⟨b+1,by omega,by go_num,bb,bd.below an⟩,by simp[B7];omega⟩
   |false=>
    rw[hx]at bw d;rw[ab (by decide)]at d;have H:A5 (C=(2,(b:Int))):=by
     show C=(2,(b:Int));rw[<-p.out.2];unfold dd;rw[I.out.2.2,aa (by decide),p.out.1,bA.out,<-d];rfl
    clear d hx A a9 y n af al am;go_wp2_with fail;refine bw.mono ?_;rintro e K ⟨rfl,an⟩;have i:=bd.below an;obtain⟨af,al,am⟩:=jl i.fb;have q:=aq i;clear i an;go_wp2_with fail;have i:=q.out;exact aI (eu rfl _ _ (w.heap.size+1) _ _ _ _ rfl (pu i.fb 2 b) Tryz.underlying36 rfl (by kernel_rfl)) rfl ⟨by rw[H.out],(i.bl.setCell (by simp) _).setCell (by simp) _⟩
  ·obtain rfl:b=a+1:=by omega
   rw[eC,iq]at d;have ea:=aq d.symm;have c7:=rC (show iq (fj c) (a+1) 0=V by rw[bA.out];exact d.symm);have a5:∀(G:Nat) N,c[G]?=M N->∀j∈N.ks,0<=j/\j<(G:Int):=fun G N F j f=>by
    have bs:G<a+1:=by rw[<-p.out.1];exact(List.getElem?_eq_some_iff.1 F).1
    have J:=c7 G (aL _) (by omega);unfold fj at J;rw[be,F,gl]at J;have b2:jk c G N=Q:=by simpa using J
    unfold jk at b2;have ex:Ie N.ks G N.ks.length 0=Q:=by
     rw[ci,ci]at b2;exact b2.2.1
    obtain⟨o,cf,rfl⟩:=ie f;have:=yp N.ks G N.ks.length 0 ex o (by omega) (by omega);rw[be,aJ cf]at this;simpa using this
   have cg:=Ji wr (.slice (M t) (a+1) z) c (I.1.below y.bl) (by rw[p.out.1];omega) (fun N F=>(I.2.1 N F).l2) a5;rw[p.out.1]at cg;have cw:=aq a5;have a0:=dh y.tb;have bd:=aq y;have fr:=y.bl.size;have g7:w.heap.size+1<wr.heap.size:=ai y.fb;clear d c7 a5 y n;go_wp2_with fail;refine cg.mono ?_;rintro e K ⟨a8,rfl,cb,an⟩;have i:=bd.below an;obtain⟨r,hS⟩:=az (iG c);have c5:r.length=a+1:=by rw[<-hS,js,p.out.1]
   rw[hS]at cb;have cx:A5 (iG c=r/\r.length=a+1/\Cp r):=⟨hS,c5,by rw[<-hS];exact zi c (fun N F j f=>by
    obtain⟨G,bs,e⟩:=ie F;exact(cw G N (by rw[aJ bs,e]) j f).1)⟩
   have q:=gI i cb;obtain⟨bh,bn⟩:=az (iq (gx r) (a+1) 0);have f4:=aq bn;have bb:wI (gx r) (a+1-0) 0 bh:=⟨bn⟩;have bD:A5 (dd c=tf3 r (Hc c) (a+1) bh):=by
    show dd c=_;unfold dd;rw[I.out.2.2,aa (by decide),p.out.1,bA.out,ea.out,hS];show tf3 r (Hc c) (a+1) (iq (gx r) (a+1) 0)=_;rw[bn]
   clear hS c5 bn i cb an cg a0;go_wp2_with fail;go_loop [53] (fun k=>∃b:Nat,b<=a+1/\k= .int .i64 b/\wI (gx r) (a+1-b) b bh) (fun k=>a+1-(B7 k).toNat)
   case atStart=>exact⟨0,aL _,rfl,bb⟩
   case round=>
    obtain⟨b,gt,rfl,n⟩:=hrel;clear bb;have d:=n.out;by_cases fc:b<a+1
    ·have ds:(b:Int)<(a:Int)+1:=by omega
     have dq:(0:Int)<=(b:Int):=by omega
     obtain⟨j,f⟩:=cy cx.2.1 fc;have b0:K.cell? ⟨a8,b,V⟩=M (.int .i64 j):=by rw[q.out.2.cellAt b (by omega),ce,f];rfl
     rw[show a+1-b=(a+1-(b+1))+1 by omega,iq]at d;have A:gx r b=(j==0):=by unfold gx;rw[be,f];rfl
     rw[A]at d;by_cases bt:j=0
     ·subst bt;rw[ab (by decide)]at d;have H:A5 (C=(3,(b:Int))):=by
       show C=(3,(b:Int));rw[<-p.out.2,bD.out,<-d];rfl
      obtain⟨af,al,am⟩:=jl q.1.fb;clear d A f n;go_wp2_with fail;have i:=q.1;exact aI (eu rfl _ _ (w.heap.size+1) _ _ _ _ rfl (pu i.fb 3 b) Tryz.underlying36 rfl (by kernel_rfl)) rfl ⟨by rw[H.out],(i.bl.setCell (by simp) _).setCell (by simp) _⟩
     ·rw[aa (by simpa using bt)]at d;have bx:wI (gx r) (a+1-(b+1)) (b+1) bh:=⟨d⟩;clear d A f n;go_wp2_with fail;go_round
      case rel=>exact⟨b+1,by omega,by go_num,bx⟩
      case measure=>simp[B7];omega
    ·obtain rfl:b=a+1:=by omega
     rw[eC,iq]at d;have ec:=aq d.symm;obtain⟨j,f⟩:=cy cx.2.1 (show a<a+1 by omega);have b0:K.cell? ⟨a8,a,V⟩=M (.int .i64 j):=by rw[q.out.2.cellAt a (by omega),ce,f];rfl
     have a3:r.getD a 0=j:=by rw[be,f];rfl
     have u:=bD.out;rw[ec.out,tf3,mI,a3]at u;by_cases fz:j=(a:Int)+1
     ·rw[aa (by omega)]at u;have ef:=aq u;subst fz;have a0:=dh q.1.tb;clear d u f a3 n;obtain⟨d3,bs,bt,fv,fx⟩:=du sj;have fn:=q.1.bl.size;go_wp2_with (at_make;refine A8 _ rfl _ _ 43 rfl w.heap.size 3 d3 (.int .i64 0) 1 Tryz.underlying43 bs bt fv .i64 .i64 _ _ (a+1) rfl rfl rfl rfl (by rw[fx];omega) (by unfold maxLen;omega) fn ?_;intro d7 cc a4;have b6:A2 K.heap.size K d7:=⟨a4.os,a4.tape,a4.output,a4.size,fun b dn=>a4.block b dn (by simp)⟩;have ei:=aj b6 a0);rw[show(madeCells (F0 .i64 0).cells ((a+1)*1)).toList=E0 (a+1) (F0 .i64 0) by rw[sh];exact AI _ _]at cc;have cl:alI w (.slice (M t) (a+1) z) K.heap.size (a+1) c (a+1) (E0 (a+1) 0) d7:=by
       refine⟨q.1.below b6,?_,⟨by simp,fun x j f=>?_⟩,?_⟩
       ·rw[List.map_replicate];exact cc
       ·rw[Fq]at f;split at f
        ·obtain rfl:=bp f;omega
        ·cases f
       ·unfold Hc;rw[p.out.1]
      have fo:w.heap.size+1<K.heap.size:=ai q.1.fb;clear cc a4 b6 ei a0 b0;obtain⟨s,a3⟩:=az K.heap.size;rw[a3]at cl fo⊢;have cB:=aq cl;clear cl a3 q bD;go_loopw [8] (fun k wr=>∃(g:Nat) (D:List Int),g<=a+1/\k= .int .i64 ((g:Int)-1)/\A5 (alI w (.slice (M t) (a+1) z) s (a+1) c g D wr)) (fun k _=>(B7 k+1).toNat)
      case atStart=>exact⟨a+1,_,ag _,by congr 1;omega,cB⟩
      case round=>
       obtain⟨g,D,g4,rfl,m⟩:=hrel;clear cB;cases g with
       |zero=>
        have gv:¬(0:Int)<=((0:Nat):Int)-1:=by omega
        have c3:D=Hc c:=m.rest;have ar:=lD m.tk m.row m.ok.1;have u:=ef.out;rw[<-c3]at u;obtain⟨bF,b4⟩:=az (iq (iA D) (a+1) 0);rw[b4,p.out.2]at u;have cF:=aq u;have cv:wI (iA D) (a+1-0) 0 bF:=⟨b4⟩;clear u b4 c3 m;go_wp2_with fail;go_loop [110] (fun k=>∃b:Nat,b<=a+1/\k= .int .i64 b/\wI (iA D) (a+1-b) b bF) (fun k=>a+1-(B7 k).toNat)
        case atStart=>exact⟨0,aL _,rfl,cv⟩
        case round=>
         obtain⟨b,gu,rfl,n⟩:=hrel;clear cv;have d:=n.out;by_cases fd:b<a+1
         ·have ds:(b:Int)<(a:Int)+1:=by omega
          have dq:(0:Int)<=(b:Int):=by omega
          obtain⟨j,f⟩:=cy ar.2.2 fd;have b0:wr.cell? ⟨s,b,V⟩=M (.int .i64 j):=by rw[ar.out.2.1.cellAt b (by omega),ce,f];rfl
          rw[show a+1-b=(a+1-(b+1))+1 by omega,iq]at d;have A:iA D b=decide (100<j):=by unfold iA;rw[be,f];rfl
          rw[A]at d;by_cases d0:100<j
          ·rw[ab (bH d0)]at d;have H:A5 (C=(4,(b:Int))):=by
            show C=(4,(b:Int));rw[cF.out,<-d];rfl
           obtain⟨af,al,am⟩:=jl ar.1.fb;clear d A f n;go_wp2_with fail;have i:=ar.1;exact aI (eu rfl _ _ (w.heap.size+1) _ _ _ _ rfl (pu i.fb 4 b) Tryz.underlying36 rfl (by kernel_rfl)) rfl ⟨by rw[H.out],(i.bl.setCell (by simp) _).setCell (by simp) _⟩
          ·rw[aa (by simpa using d0)]at d;have bx:wI (iA D) (a+1-(b+1)) (b+1) bF:=⟨d⟩;clear d A f n;go_wp2_with fail;go_round
           case rel=>exact⟨b+1,by omega,by go_num,bx⟩
           case measure=>simp[B7];omega
         ·obtain rfl:b=a+1:=by omega
          rw[eC,iq]at d;have H:A5 (C=(0,0)):=by
           show C=(0,0);rw[cF.out,<-d];rfl
          obtain⟨af,al,am⟩:=jl ar.1.fb;clear d n;go_wp2_with fail;have i:=ar.1;exact aI (eu rfl _ _ (w.heap.size+1) _ _ _ _ rfl (pu i.fb 0 0) Tryz.underlying36 rfl (by kernel_rfl)) rfl ⟨by rw[H.out],(i.bl.setCell (by simp) _).setCell (by simp) _⟩
       |succ g=>
        have eq:(((g+1:Nat)):Int)-1=(g:Int):=by omega
        rw[eq];have g6:(g:Int)<(a:Int)+1:=by omega
        have g5:(0:Int)<=(g:Int):=by omega
        obtain⟨E,a1⟩:=cy p.1 (show g<a+1 by omega);obtain⟨f6,e0,hg,hc,b7⟩:=I.1.get a1;obtain rfl:=bp e0;have ek:=aj m.tk.bl b7.c8;have a5:=cw.out g E a1;have b9:=b7.hk;obtain⟨eh,el,rfl⟩:=b9.form;obtain⟨av,bk⟩:=az E.ks.length;have e9:=(I.2.1 E (cH a1)).l2;rw[bk]at ek e9;have e7:m.rest=m.rest:=rfl;have ba:dpN c g (Ky g E.ks D)=Hc c:=by
         have:=m.rest;rw[dpN,be,a1,gl]at this;exact this
        have bc:=Kz bk a5 ba a1;have a0:=dh m.tk.tb;have d9:A5 (dw w (.slice eh av el) E.ks):=by rw[<-bk];exact b9
        have cr:A5 (alJ w (.slice (M t) (a+1) z) s (a+1) g E.ks D 0 D wr):=⟨m.tk,m.row,m.ok,rfl⟩;have fr:=m.tk.bl.size;clear a5 b9 ba b7 a1 bk m e7;go_wp2_with fail;go_loopw [95] (fun k f3=>∃(x:Nat) (ad:List Int),x<=av/\k= .int .i64 x/\A5 (alJ w (.slice (M t) (a+1) z) s (a+1) g E.ks D x ad f3)) (fun k _=>av-(B7 k).toNat)
        case atStart=>exact⟨0,D,aL _,rfl,cr⟩
        case round=>
         obtain⟨x,ad,gp,rfl,l⟩:=hrel;clear cr;by_cases e6:x<av
         ·have gs:(x:Int)<(av:Int):=by omega
          have gr:(0:Int)<=(x:Int):=by omega
          obtain⟨j,f⟩:=cy bc.1 e6;obtain⟨f7,e1,gn⟩:=(d9.below l.tk.bl).get f;subst e1;obtain⟨fu,g8⟩:=bc.2.1 j (cH f);obtain⟨o,rfl⟩:=uy fu;have cf:o<g:=by omega
          obtain⟨L,br⟩:=cy l.ok.1 (show g<a+1 by omega);obtain⟨es,df⟩:=cy l.ok.1 (show o<a+1 by omega);have gm:=l.ok.2 g L br;have a6:=l.row;have f9:wr.cell? ⟨s,g,V⟩=M (.int .i64 L):=by rw[a6.cellAt g (by omega),ce,br];rfl
          have f8:wr.cell? ⟨s,o,V⟩=M (.int .i64 es):=by rw[a6.cellAt o (by omega),ce,df];rfl
          have gf:=a6.frozenAt o;have e5:=(a6.lt s rfl).1;have b8:ad.getD g 0=L:=by rw[be,br];rfl
          have B:=(a6.stored o (.int .i64 (L+1))).1;rw[<-List.map_set]at B;have ch:=l.ok.set g o (by omega) cf;rw[b8]at ch;have ba:Ky g (E.ks.drop (x+1)) (ad.set o (L+1))=Ky g E.ks D:=by
           have J:=l.rest;have dk:=(List.getElem?_eq_some_iff.1 f);rw[jo dk.1,dk.2,Ky,b8]at J;exact J
          have fm:s≠w.heap.size:=by omega
          have fk:s≠w.heap.size+1:=by omega
          have d6:J1 w (.slice (M t) (a+1) z) (wr.setCell ⟨s,o,V⟩ (.int .i64 (L+1))):=
           ⟨(aB _ _ _ _ (dv fm)).trans l.tk.tb,(aB _ _ _ _ (dv fk)).trans l.tk.fb,l.tk.bl.setCell e5 _⟩
          have d8:A5 (alJ w (.slice (M t) (a+1) z) s (a+1) g E.ks D (x+1) (ad.set o (L+1)) (wr.setCell ⟨s,o,V⟩ (.int .i64 (L+1)))):=⟨d6,B,ch,ba⟩;have g0:(o:Int)<(a:Int)+1:=by omega
          have gz:(0:Int)<=(o:Int):=by omega
          clear f l B ch ba d6 a6 br df b8;go_wp2_with fail;exact⟨⟨x+1,_,by omega,by go_num,d8⟩,by simp[B7];omega⟩
         ·obtain rfl:x=av:=by omega
          have e4:A5 (alI w (.slice (M t) (a+1) z) s (a+1) c g ad wr):=by
           refine⟨l.tk,l.row,l.ok,?_⟩;have J:=l.rest;rw[jE (by rw[bc.out.1];exact ag _),Ky]at J;rw[J];exact bc.2.2.1
          clear l;go_wp2_with fail;exact⟨⟨g,ad,by omega,rfl,e4⟩,by simp[B7]⟩
     ·rw[ab (by omega)]at u;have H:A5 (C=(3,(a:Int))):=by
       show C=(3,(a:Int));rw[<-p.out.2,u]
       congr 1
       omega
      obtain⟨af,al,am⟩:=jl q.1.fb;clear d u f a3 n;go_wp2_with fail;have i:=q.1;exact aI (eu rfl _ _ (w.heap.size+1) _ _ _ _ rfl (pu i.fb 3 a) Tryz.underlying36 rfl (by kernel_rfl)) rfl ⟨by rw[H.out],(i.bl.setCell (by simp) _).setCell (by simp) _⟩
theorem wJ(w:Y)(v:Ax)(a:List Nd)(h:fs w v a)(b:a.length<=1048576)(c:∀N∈a,io N):
  B4 U 12 #[F2 #[v]] w fun e w'=>e= Z (F2 #[B1 B3 (dd a).1,B1 B3 (dd a).2])/\A2 w.heap.size w w':=by
 cases hb:jL a with
 |true=>
  have e:dd a=(1,0):=by unfold dd;rw[ab hb]
  rw[e];exact J0 w v a h b hb
 |false=>exact J2 w v a h b c hb
def vE:Int->ByteArray
 |1=>⟨#[115,116,97,116,42]⟩
 |2=>⟨#[101,120,112,114,42]⟩
 |3=>⟨#[101,120,112,114]⟩
 |4=>⟨#[102,110]⟩
 |6=>⟨#[99,97,108,108]⟩
 |7=>⟨#[101,120,112,114,32,98,108,111,99,107,32,101,108,115,101,63]⟩
 |8=>⟨#[101,120,112,114,32,98,108,111,99,107]⟩
 |9=>⟨#[101,120,112,114,32,101,120,112,114,32,101,120,112,114,63,32,98,108,111,99,107]⟩
 |10=>⟨#[101,120,112,114,32,98,108,111,99,107]⟩
 |11=>⟨#[]⟩
 |12=>⟨#[]⟩
 |13=>⟨#[101,120,112,114,42]⟩
 |14=>⟨#[98,108,111,99,107,32,98,108,111,99,107]⟩
 |15=>⟨#[101,120,112,114]⟩
 |16=>⟨#[99,97,108,108]⟩
 |20=>⟨#[]⟩
 |21=>⟨#[]⟩
 |22=>⟨#[]⟩
 |23=>⟨#[]⟩
 |24=>⟨#[]⟩
 |25=>⟨#[]⟩
 |26=>⟨#[]⟩
 |27=>⟨#[]⟩
 |28=>⟨#[101,120,112,114,32,101,120,112,114]⟩
 |29=>⟨#[101,120,112,114,32,101,120,112,114]⟩
 |30=>⟨#[101,120,112,114]⟩
 |31=>⟨#[101,120,112,114,32,101,120,112,114]⟩
 |32=>⟨#[98,97,115,101,32,101,120,112,114]⟩
 |33=>⟨#[98,97,115,101]⟩
 |34=>⟨#[98,97,115,101,32,101,120,112,114,42]⟩
 |35=>⟨#[101,110,116,114,121,42]⟩
 |36=>⟨#[98,108,111,99,107]⟩
 |37=>⟨#[109,97,110,121]⟩
 |40=>⟨#[101,120,112,114]⟩
 |41=>⟨#[101,120,112,114,32,101,120,112,114]⟩
 |42=>⟨#[101,120,112,114]⟩
 |_=>⟨#[]⟩
def aaf:Int->Option (List (Nat×Nat))
 |1=>M [(0,1)]
 |2=>M [(3,1)]
 |3=>M [(3,0)]
 |4=>M [(8,0)]
 |6=>M [(6,0)]
 |7=>M [(3,0),(1,0),(2,2)]
 |8=>M [(3,0),(1,0)]
 |9=>M [(3,0),(3,0),(3,2),(1,0)]
 |10=>M [(3,0),(1,0)]
 |11=>M []
 |12=>M []
 |13=>M [(3,1)]
 |14=>M [(1,0),(1,0)]
 |15=>M [(3,0)]
 |16=>M [(6,0)]
 |20=>M []
 |21=>M []
 |22=>M []
 |23=>M []
 |24=>M []
 |25=>M []
 |26=>M []
 |27=>M []
 |28=>M [(3,0),(3,0)]
 |29=>M [(3,0),(3,0)]
 |30=>M [(3,0)]
 |31=>M [(3,0),(3,0)]
 |32=>M [(4,0),(3,0)]
 |33=>M [(4,0)]
 |34=>M [(4,0),(3,1)]
 |35=>M [(9,1)]
 |36=>M [(1,0)]
 |37=>M [(7,0)]
 |40=>M [(3,0)]
 |41=>M [(3,0),(3,0)]
 |42=>M [(3,0)]
 |_=>V
def mD:List Int:=[1,2,3,4,6,7,8,9,10,11,12,13,14,15,16,20,21,22,23,24,25,26,27,28,29,30,31,32,33,34,35,36,37,40,41,42]
theorem Hd(k:Int)(h:k ∉ mD):aaf k=V/\vE k=⟨#[]⟩:=by
 simp only[mD,jb,se,si,not_or]at h;obtain⟨a,j,v,F,J,K,L,ad,b,c,d,e,f,g,i,l,m,n,o,p,q,r,s,t,u,w,x,y,z,A,B,C,E,G,H,I⟩:=h;constructor
 ·unfold aaf;split<;>first|rfl|contradiction
 ·unfold vE;split<;>first|rfl|contradiction
theorem J3(k:Int)(h:k∈mD):∃a,aaf k=M a/\Lib.fields (vE k).data.toList=a.map (fun x=>Ai x.1 x.2)/\(∀x∈a,x.1<10/\x.2<3)/\(vE k).size<100/\(∀(j:Nat) b,(vE k).data.toList[j]?=M b->b.toNat<128)/\a.length<10:=by
 have d:∀(c:List UInt8),(c.all fun b=>decide (b.toNat<128))=Q->∀(j:Nat) b,c[j]?=M b->b.toNat<128:=fun c f j b e=>by simpa using List.all_eq_true.1 f b (cH e)
 simp only[mD,jb,se,si]at h;rcases h with rfl|rfl|rfl|rfl|rfl|rfl|rfl|rfl|rfl|rfl|rfl|rfl|rfl|rfl|rfl|rfl|rfl|rfl|rfl|rfl|rfl|rfl|rfl|rfl|rfl|rfl|rfl|rfl|rfl|rfl|rfl|rfl|rfl|rfl|rfl|rfl;all_goals exact⟨_,rfl,rfl,by decide,by decide,d _ (by decide),by decide⟩
theorem age(k:Int)(w:Y)(h:k=1\/k=2\/k=3\/k=4\/k=6\/k=7\/k=8\/k=9\/k=10):B4 U 188 #[B1 B3 k] w fun e w'=>e= Z (Er #[A0 (vE k),B6 Q])/\w'=w:=by
 rcases h with rfl|rfl|rfl|rfl|rfl|rfl|rfl|rfl|rfl;all_goals
  simp only[vE];go_in;go_wp2;go_ret2;exact⟨rfl,rfl⟩
theorem agf(k:Int)(w:Y)(h:k=11\/k=12\/k=13\/k=14\/k=15\/k=16\/k=20\/k=21\/k=22):B4 U 188 #[B1 B3 k] w fun e w'=>e= Z (Er #[A0 (vE k),B6 Q])/\w'=w:=by
 rcases h with rfl|rfl|rfl|rfl|rfl|rfl|rfl|rfl|rfl;all_goals
  simp only[vE];go_in;go_wp2;go_ret2;exact⟨rfl,rfl⟩
theorem agh(k:Int)(w:Y)(h:k=23\/k=24\/k=25\/k=26\/k=27\/k=28\/k=29\/k=30\/k=31):B4 U 188 #[B1 B3 k] w fun e w'=>e= Z (Er #[A0 (vE k),B6 Q])/\w'=w:=by
 rcases h with rfl|rfl|rfl|rfl|rfl|rfl|rfl|rfl|rfl;all_goals
  simp only[vE];go_in;go_wp2;go_ret2;exact⟨rfl,rfl⟩
theorem agi(k:Int)(w:Y)(h:k=32\/k=33\/k=34\/k=35\/k=36\/k=37\/k=40\/k=41\/k=42):B4 U 188 #[B1 B3 k] w fun e w'=>e= Z (Er #[A0 (vE k),B6 Q])/\w'=w:=by
 rcases h with rfl|rfl|rfl|rfl|rfl|rfl|rfl|rfl|rfl;all_goals
  simp only[vE];go_in;go_wp2;go_ret2;exact⟨rfl,rfl⟩
theorem adA(k:Int)(w:Y)(h:k ∉ mD):B4 U 188 #[B1 B3 k] w fun e w'=>e= Z (Er #[A0 ⟨#[]⟩,B6 O])/\w'=w:=by
 simp only[mD,jb,se,si,not_or]at h;obtain⟨a,l,x,H,L,ad,af,ak,b,c,d,f,g,i,j,m,n,o,p,q,r,s,t,u,v,y,z,A,B,C,E,F,G,I,J,K⟩:=h;go_in;go_wp2;go_ret2;exact⟨rfl,rfl⟩
theorem J4(k:Int)(w:Y):B4 U 188 #[B1 B3 k] w fun e w'=>e= Z (Er #[A0 (vE k),B6 (aaf k).isSome])/\w'=w:=by
 by_cases h:k∈mD
 ·obtain⟨c,a,_⟩:=J3 k h;rw[a,Option.isSome_some];simp only[mD,jb,se,si]at h;rcases(show(k=1\/k=2\/k=3\/k=4\/k=6\/k=7\/k=8\/k=9\/k=10)\/(k=11\/k=12\/k=13\/k=14\/k=15\/k=16\/k=20\/k=21\/k=22)\/(k=23\/k=24\/k=25\/k=26\/k=27\/k=28\/k=29\/k=30\/k=31)\/(k=32\/k=33\/k=34\/k=35\/k=36\/k=37\/k=40\/k=41\/k=42) by omega) with h|h|h|h
  ·exact age k w h
  ·exact agf k w h
  ·exact agh k w h
  ·exact agi k w h
 ·obtain⟨a,b⟩:=Hd k h;rw[a,b];exact adA k w h
def D5(n:Nat):List (Nat×Nat):=E0 n (5,0)++[(3,0),(3,1)]
def setB(n:Nat):ByteArray:=⟨(A9 [116,97,114,103,101,116,32] n).toArray⟩++⟨#[101,120,112,114,32,101,120,112,114,42]⟩
theorem zr(n:Nat):(setB n).data.toList=A9 [116,97,114,103,101,116,32] n++[101,120,112,114,32,101,120,112,114,42]:=by
 unfold setB;rw[oc];simp
theorem Ak:∀n,Lib.fields (A9 [116,97,114,103,101,116,32] n++[101,120,112,114,32,101,120,112,114,42])=(D5 n).map fun x=>Ai x.1 x.2
 |0=>by decide
 |n+1=>by
  have b:=Ak n;have a:Lib.fields (A9 [116,97,114,103,101,116,32] (n+1)++[101,120,112,114,32,101,120,112,114,42])=[116,97,114,103,101,116]::Lib.fields (A9 [116,97,114,103,101,116,32] n++[101,120,112,114,32,101,120,112,114,42]):=by
   rw[A9];rfl
  rw[a,b];rfl
theorem aag(n:Nat):∀(j:Nat) b,(setB n).data.toList[j]?=M b->b.toNat<128:=by
 rw[zr];have c:∀(a:List UInt8),(a.all fun b=>decide (b.toNat<128))=Q->∀b∈a,b.toNat<128:=fun a d b hb=>by simpa using List.all_eq_true.1 d b hb
 have e:∀n,∀b∈A9 [116,97,114,103,101,116,32] n,b.toNat<128:=by
  intro n
  induction n with
  |zero=>intro b hb;simp[A9]at hb
  |succ n f=>
   intro b hb;rw[A9]at hb;rcases List.mem_append.1 hb with hb|hb
   ·exact c _ (by decide) b hb
   ·exact f b hb
 intro j b hb;rcases List.mem_append.1 (cH hb) with h|h
 ·exact e n b h
 ·exact c _ (by decide) b h
theorem adB(n:Nat):(setB n).size=7*n+10:=by
 have a:=congrArg List.length (zr n);rw[aK,Lib.repeatL_length]at a;simp at a;omega
theorem ajp(n:Nat):∀x∈D5 n,x.1<10/\x.2<3:=by
 intro x hx;unfold D5 at hx;rcases List.mem_append.1 hx with hx|hx
 ·rw[(List.mem_replicate.1 hx).2];decide
 ·simp at hx;rcases hx with rfl|rfl<;>decide
theorem J5(w:Y)(b:Nat)(nk t v u x:Int)(n:Nat)(q:n<=200)(vk:Ax)(ks:List Int)(g:gJ w vk ks)(p:ks.length<=1048576)(j:∀W,A2 w.heap.size w W->Ga U W "strings.asciiSpace" .u8 E1)
  (f:w.heap[b]?=M (C2 #[B1 B3 nk,B1 B3 t,B1 B3 v,B1 B3 u,B1 B3 x,vk,B1 B3 (n:Int)] 157 (0,0))):
  B4 U 109 #[Fs 154 (Bs (M ⟨b,0,V⟩))] w fun e w'=>e= Z (B6 (eH (D5 n) ks))/\A2 w.heap.size w w':=by
 have E:=fun w=>asT b w 154 (by decide);have h:=Lv n w q;have a:=fun W (i:A2 w.heap.size w W)=>wh W (setB n) (D5 n) vk ks (by rw[zr];exact Ak n) (ajp n) (by rw[adB];omega) (aag n) (j W i) (g.below i) p (by unfold D5;rw[aK,List.length_replicate];simp;omega);obtain⟨l,m,rfl⟩:=g.form;have c:w.cell? ⟨b,5,V⟩=M (B0 l ks.length m):=by rw[au _ _ _ _ _ _ f];rfl
 have C:w.cell? ⟨b,6,V⟩=M (B1 B3 (n:Int)):=by rw[au _ _ _ _ _ _ f];rfl
 have r:((⟨(A9 [116,97,114,103,101,116,32] n).toArray⟩:ByteArray)).size=7*n:=by
  have e:((⟨(A9 [116,97,114,103,101,116,32] n).toArray⟩:ByteArray)).size=(A9 [116,97,114,103,101,116,32] n).length:=by simp[ByteArray.size]
  rw[e,Lib.repeatL_length];simp;omega
 unfold setB at a;generalize eH (D5 n) ks=A at a⊢;generalize ks.length=z at a c;generalize (⟨(A9 [116,97,114,103,101,116,32] n).toArray⟩:ByteArray)=B at a h r;have k:=aq c;clear f g j c;go_in;go_wp21
 refine h.mono ?_;rintro e y ⟨rfl,d⟩;have c:=aj d k.out;have s:=a y d;clear a h;go_wp21
 refine s.mono ?_;rintro e F ⟨rfl,o⟩;go_wp21
 go_ret;exact⟨rfl,d.trans (o.mono d.size)⟩
theorem asS(k:Int)(h:de k≠1)(b:Nat)(w:Y):(Instr.typeAssert (Fs (jy (de k)) (Bs (M ⟨b,0,V⟩))) 49 154 Q).run U w= .ok (Er #[Bs V,B6 O]) w:=by
 have a:=h;rcases C9 k with g|g|g|g|g|g|g<;>rw[g]at a⊢;all_goals first|exact absurd rfl a|exact asF b w _ _ (by decide) (by decide) (by decide)
def rkB(k:Int)(ks:List Int):Bool:=match aaf k with|some a=>eH a ks|none=>O
theorem J6(w:Y)(b:Nat)(k:Int)(i:de k≠1)(vk:Ax)(ks:List Int)(f:gJ w vk ks)(v:ks.length<=1048576)(j:Ga U w "strings.asciiSpace" .u8 E1)
  (C:w.cell? ⟨b,0,V⟩=M (B1 B3 k)) (r:w.cell? ⟨b,5,V⟩=M vk):
  B4 U 109 #[er k b] w fun e w'=>e= Z (B6 (rkB k ks))/\A2 w.heap.size w w':=by
 have n:=fun w=>asS k i b w;have o:=fun w=>rB k b w;have p:=fun w=>da b w;have a:=fun w=>J4 k w;unfold er rkB;by_cases g:k∈mD
 ·obtain⟨q,c,d,l,s,m,t⟩:=J3 k g;have h:=wh w (vE k) q vk ks d l (by omega) m j f v (by omega);rw[c]at a⊢;simp only[Option.isSome_some]at a⊢;obtain⟨B,E,rfl⟩:=f.form;generalize ks.length=y at h r;generalize eH q ks=z at h⊢;generalize vE k=A at h a;generalize jy (de k)=x at n o⊢;clear f j d l s m t c g i;go_in;go_wp2_with (first|(go_at_call 336;refine dB (p _) ?_)|(go_at_call 188;refine dB (a _) ?_)|(go_at_call 187;refine h.mono ?_;rintro e F ⟨rfl,u⟩));go_ret;exact⟨rfl,u⟩
 ·obtain⟨c,d⟩:=Hd k g;rw[c,d]at a;rw[c];simp only[Option.isSome_none]at a⊢;generalize jy (de k)=x at n o⊢;clear f j g i c d;go_in;go_wp2_with (first|(go_at_call 336;refine dB (p _) ?_)|(go_at_call 188;refine dB (a _) ?_));go_ret;exact⟨rfl,ah _ _⟩
def ffB(N:Nd)(a:Nat):Nat->Bool
 |0=>decide (1<=(N.nm.length:Int)/\(N.nm.length:Int)<=C8 N.k)&&uf N.nm N.nm.length 0
 |1=>decide (1<=N.n/\N.n<(a:Int))
 |2=>Q
 |3=>txB N.k N.x
 |4=>if N.k=30 then(decide ((19:Int)<=N.op)&&decide (N.op<=22)) else(decide ((1:Int)<=N.op)&&decide (N.op<=18))
 |5=>uf N.nm N.nm.length 0
 |_=>Q
theorem D6(w:Y)(lb mb:Nat)(i:Ax)(h:Lk w lb mb i)(b:Nat)(N:Nd)(vn:Ax)(c:Int)(m:Option Addr)(g o:Nat)(y:g<=1048576)(q:cu w vn N.nm)(p:N.nm.length<=1048576)(r:∀s∈N.nm,s.size<=1048576)(A:N.x.size<=1048576)(a:ft w b N vn c (B0 m g o)):
  B4 U 108 #[Bs (M ⟨lb,0,V⟩),er N.k b] w fun e w'=>e= Z (B6 (ffB N g (de N.k)))/\A2 w.heap.size w w':=by
 unfold ft at a;unfold er;have d:∀{j:Bool},(B4 U 108 #[Bs (M ⟨lb,0,V⟩),Fs (jy (de N.k)) (Bs (M ⟨b,0,V⟩))] w fun e w'=>e= Z (B6 j)/\w'=w)->(B4 U 108 #[Bs (M ⟨lb,0,V⟩),Fs (jy (de N.k)) (Bs (M ⟨b,0,V⟩))] w fun e w'=>e= Z (B6 j)/\A2 w.heap.size w w'):=fun z=>z.mono fun e w' ⟨u,v⟩=>⟨u,v ▸ ah _ _⟩;rcases C9 N.k with hc|hc|hc|hc|hc|hc|hc
 ·refine d ?_;rw[hc]at a⊢;exact ff0 w lb mb i h b N.k N.f N.t N.l c _ vn N.nm q p r a
 ·rw[hc]at a⊢;exact ff1 w lb b N.k N.f N.t N.l c N.n m g o y a
 ·refine d ?_;rw[hc]at a⊢;exact ff2 w lb b
 ·rw[hc]at a⊢;exact ff3 w lb mb i h b N.k N.f N.t N.l c _ N.x (by omega) a
 ·refine d ?_;rw[hc]at a⊢;exact ff4 w lb b N.k N.f N.t N.l c N.op _ a
 ·refine d ?_;rw[hc]at a⊢;exact ff5 w lb mb i h b N.k N.f N.t N.l c _ vn (decide (N.op=1)) N.nm q p r a
 ·refine d ?_;rw[hc]at a⊢;exact ff6 w lb b
theorem ft.cells{a:Int}(h:ft W b N vn a kv):W.cell? ⟨b,0,V⟩=M (B1 B3 N.k)/\W.cell? ⟨b,1,V⟩=M (B1 B3 N.f)/\W.cell? ⟨b,2,V⟩=M (B1 B3 N.t)/\W.cell? ⟨b,4,V⟩=M (B1 B3 a)/\W.cell? ⟨b,5,V⟩=M kv/\∀j,W.frozen? ⟨b,j,V⟩=O:=by
 unfold ft at h;refine⟨?_,?_,?_,?_,?_,fun j=>co _ _ _ _ _ h⟩
 ·rw[au _ _ _ _ _ _ h];simp
 ·rw[au _ _ _ _ _ _ h];simp
 ·rw[au _ _ _ _ _ _ h];simp
 ·rw[au _ _ _ _ _ _ h];simp
 ·rw[au _ _ _ _ _ _ h];simp
def kfB(N:Nd)(ks:List Int):Bool:=if de N.k=1 then eH (D5 N.n.toNat) ks else rkB N.k ks
theorem J7(w:Y)(b:Nat)(N:Nd)(vn d:Ax)(j:Int)(ks:List Int)(g:gJ w d ks)(h:ks.length<=1048576)(i:∀W,A2 w.heap.size w W->Ga U W "strings.asciiSpace" .u8 E1)(c:ft w b N vn j d)(p:de N.k=1->0<=N.n/\N.n<=200):
  B4 U 109 #[er N.k b] w fun e w'=>e= Z (B6 (kfB N ks))/\A2 w.heap.size w w':=by
 unfold kfB;by_cases a:de N.k=1
 ·rw[ab a];obtain⟨q,r⟩:=p a;unfold ft at c;unfold er;rw[a]at c⊢;have e:N.n=((N.n.toNat:Nat):Int):=by omega
  refine J5 w b N.k N.f N.t N.l j N.n.toNat (by omega) d ks g h i ?_;rw[<-e];exact c
 ·rw[aa a];obtain⟨m,_,_,_,o,_⟩:=c.cells;exact J6 w b N.k a d ks g h (i w (ah _ _)) m o
structure Im where
 N:Nd
 b:Nat
 vn:Ax
 kv:Ax
def nV(x:Im):Ax:=er x.N.k x.b
def nK(a:List Im)(ks:List Int):List Ax:=ks.map fun c=>match a[c.toNat]? with|some b=>nV b|none=> G0
structure li (W:Y) (base:Nat) (vs:Ax) (L:List Im):Prop where
 row:W.ownsRow base 49 1 vs L.length (L.map nV)
 box:∀(i:Nat) x,L[i]?=M x->ft W x.b x.N x.vn i x.kv
 kid:∀(i:Nat) x,L[i]?=M x->W.ownsRow base 49 1 x.kv x.N.ks.length (nK (L.take i) x.N.ks)
 far:∀x∈L,x.kv.ownBlock=V\/x.kv.ownBlock≠vs.ownBlock
 rng:∀(i:Nat) x z,L[i]?=M x->z∈x.N.ks->0<=z/\z<(i:Int)
theorem ft.below{a:Int}(h:ft W b N vn a kv)(c:A2 W.heap.size W W'):ft W' b N vn a kv:=(c.block _ (ai h)).trans h
theorem li.below{base:Nat}{e:List Im}(h:li W base vs e)(a:A2 W.heap.size W W'):li W' base vs e:=
 ⟨cJ h.row a,fun c d b=>(h.box c d b).below a,fun c d b=>cJ (h.kid c d b) a,h.far,h.rng⟩
theorem qE{a:Nat}{f g:Array Ax}{d e:F1}{h i:Nat×Nat}(j:W.heap[a]?=M (C2 f d h))(k:W.heap[b]?=M (C2 g e i))(l:d≠e):a≠b:=by
 rintro rfl;have c:=j.symm.trans k;simp only[ee,kI]at c;exact l c.2.1
theorem pv(c:Nat):vw c≠49/\vw c≠95/\vw c≠45:=by
 unfold vw;split<;>decide
theorem Db{mb:Nat}{cs:Array Ax}{t:F1}{f:Nat×Nat}(h:W.ownsMap U 9 (plainElem (H:=Unit) U 3) mb 22 (xF 22))(c:W.heap[b]?=M (C2 cs t f)):mb≠b:=by
 rintro rfl;obtain⟨e,d,a,g⟩:=h;rw[c]at a;cases a
def ab0(W:Y)(g:Nat):Prop:=∃a,W.heap[g]?=M (C2 a 49 (0,0))
theorem oG{base g:Nat}{xs:List Ax}(h:W.ownsRow base 49 1 v n xs)(b:v.ownBlock=M g):ab0 W g/\base<=g:=by
 rcases bu h with⟨_,rfl⟩|⟨d,i,rfl⟩
 ·simp[E2]at b
 ·obtain rfl:d=g:=by simpa [E2] using b
  rcases h.2 with⟨a,_⟩|⟨k,j,c,a,e,f,_⟩
  ·cases a
  ·cases a;exact⟨⟨c,f⟩,e⟩
structure AF (w0:Y) (lb mb p bn:Nat) (vs:Ax) (L:List Im) (N:Nd) (vn vk kv:Ax) (j:Nat) (W:Y):Prop where
 lk:Lk W lb mb vs
 ns:li W w0.heap.size vs L
 rb:qh p W 45 N vn vk
 bx:ft W bn N vn L.length kv
 kr:W.ownsRow w0.heap.size 49 1 kv j (nK L (N.ks.take j))
 fr:kv.ownBlock=V\/kv.ownBlock≠vs.ownBlock
 fo:∀x∈L,x.kv.ownBlock=V\/x.kv.ownBlock≠kv.ownBlock
 bl:A2 w0.heap.size w0 W
 lo:w0.heap.size<=lb/\w0.heap.size<=bn/\w0.heap.size<=p
theorem AF.below{lb mb p c:Nat}{b:List Im}(h:AF w0 lb mb p c vs b N vn vk kv j W)(a:A2 W.heap.size W W'):AF w0 lb mb p c vs b N vn vk kv j W':=
 ⟨h.lk.below a,h.ns.below a,h.rb.below a,h.bx.below a,cJ h.kr a,h.fr,h.fo,h.bl.trans (a.mono h.bl.size),h.lo⟩
theorem AF.kid{lb mb p b:Nat}{n:List Im}(ao:nA w0)(h:AF w0 lb mb p b vs n N vn vk kv j W)(u:W.grownBy W' kv.ownBlock){g i H:Nat}(x:W'.ownsRow w0.heap.size 49 1 (B0 (M ⟨g,0,V⟩) (j+1) i) (j+1) (nK n (N.ks.take (j+1))))(an:kv.ownBlock=M g\/g=H)(av:W.heap.size=H):
  ft W' b N vn n.length kv/\AF w0 lb mb p b vs n N vn vk (B0 (M ⟨g,0,V⟩) (j+1) i) (j+1) (W'.setCell ⟨b,5,V⟩ (B0 (M ⟨g,0,V⟩) (j+1) i)):=by
 have C:∀a,kv.ownBlock=M a->ab0 W a/\w0.heap.size<=a:=fun a v=>oG h.kr v;have z:∀{r:Nat}{s:Array Ax}{l:F1},W.heap[r]?=M (C2 s l (0,0))->l≠49->W'.heap[r]?=M (C2 s l (0,0)):=fun f E=>
  (u.block _ (ai f) (fun e=>by obtain⟨⟨w,t⟩,_⟩:=C _ e.symm;exact qE f t E rfl)).trans f
 have o:ft W' b N vn n.length kv:=z h.bx (pv _).1;have ak:A2 w0.heap.size w0 W':=h.bl.grown u h.bl.size (fun a v=>(C a v).2);have J:A2 w0.heap.size w0 (W'.setCell ⟨b,5,V⟩ (B0 (M ⟨g,0,V⟩) (j+1) i)):=ak.setCell h.lo.2.1 _;have set:∀{r:Nat}{s:Array Ax}{l:F1},W'.heap[r]?=M (C2 s l (0,0))->l≠vw (de N.k)->(W'.setCell ⟨b,5,V⟩ (B0 (M ⟨g,0,V⟩) (j+1) i)).heap[r]?=M (C2 s l (0,0)):=fun f E=>
  (aB _ _ _ _ (fun e=>by exact qE f o E e)).trans f
 have F:∀{L:Ax}{K:Nat}{af:List Ax},W'.ownsRow w0.heap.size 49 1 L K af->(W'.setCell ⟨b,5,V⟩ (B0 (M ⟨g,0,V⟩) (j+1) i)).ownsRow w0.heap.size 49 1 L K af:=fun x=>
  x.kept (row:=M b) ⟨rfl,rfl,rfl,by simp[World.setCell],fun a v q=>aB _ _ _ _ (fun e=>q (by rw[e]))⟩ (by
   cases hv:E2 _ with
   |none=>exact .inl rfl
   |some a=>exact .inr (fun e=>by obtain⟨⟨w,t⟩,_⟩:=oG x hv;obtain rfl:=bp e;exact qE o t (pv _).1 rfl))
 have ad:vs.ownBlock=V\/vs.ownBlock≠kv.ownBlock:=by
  rcases h.fr with e|e
  ·cases hv:vs.ownBlock with
   |none=>exact .inl rfl
   |some a=>rw[e];exact .inr (by simp)
  ·exact .inr (dv e)
 have G:∀a,a<W.heap.size->kv.ownBlock≠M a->M g≠M a:=fun a v q e=>by
  obtain rfl:=bp e;rcases an with e2|e2
  ·exact q e2
  ·omega
 refine⟨o,⟨⟨set (z h.lk.b (by decide)) (dv (pv _).2.1),?_,ao.keep J⟩,⟨F (h.ns.row.kept u ad),?_,?_,h.ns.far,h.ns.rng⟩,set (z h.rb (by decide)) (dv (pv _).2.2),?_,F x,?_,?_,J,h.lo⟩⟩
 ·have I:=sF h.lk.m (u.block _ h.lk.m.lt (fun e=>by obtain⟨⟨w,t⟩,_⟩:=C _ e.symm;exact Db h.lk.m t rfl));exact sF I (aB _ _ _ _ (fun e=>by exact Db I o e))
 ·intro k c d;have f:=z (h.ns.box k c d) (pv _).1;by_cases q:c.b=b
  ·exfalso;have A:=h.ns.box k c d;have e2:=h.bx;unfold ft at A e2;rw[q,e2]at A;have al:=congrArg (fun ar=>match ar with|some (Obj.cells w _ _)=>w[4]?|_=>V) A;simp at al;have a0:k<n.length:=(List.getElem?_eq_some_iff.1 d).1;omega
  ·exact(aB _ _ _ _ q).trans f
 ·intro k c d;exact F ((h.ns.kid k c d).kept u (h.fo c (cH d)))
 ·unfold ft at o⊢;have:=bz W' b 5 _ _ (B0 (M ⟨g,0,V⟩) (j+1) i) o;rw[this];simp
 ·refine .inr fun e=>?_;have y:=e.symm;have B:=(h.ns.row.lt g y).2;exact G g B (by rcases ad with e2|e2;rw[e2]at y;cases y;rw[y]at e2;exact dv e2) rfl
 ·intro c d;cases hxk:c.kv.ownBlock with
  |none=>exact .inl rfl
  |some a=>
   refine .inr fun e=>?_;obtain⟨k,ap,am⟩:=ie d;have B:=((h.ns.kid k c (by rw[aJ ap,am])).lt a hxk).2;refine G a B ?_ e.symm;rcases h.fo c d with e2|e2
   ·rw[hxk]at e2;cases e2
   ·rw[hxk]at e2;exact dv e2
structure Ps (w0:Y) (vb:Nat) (T:ByteArray) (W:Y):Prop where
 pg:Pg w0 T W
 ne:vb≠w0.heap.size
 vi:W.heap[vb]?=M (.cells (K6 vb) 100 (0,0))
theorem Ps.below{b:Nat}(h:Ps w0 b T W)(a:A2 W.heap.size W W'):Ps w0 b T W':=
 ⟨h.pg.below a,h.ne,(a.block _ (ai h.vi)).trans h.vi⟩
theorem Ps.next{a:Nat}{b:ByteArray}(h:Ps w0 a T W)(p:Pg w0 b W')(k:Kq w0.heap.size W W'):Ps w0 a b W':=
 ⟨p,h.ne,(k.block a (ai h.vi) h.ne (fun d e c=>by rw[h.vi]at c;cases c)).trans h.vi⟩
def Pw(a:Y)(c:Nat)(f:FuncId)(args:Array Ax)(e:ByteArray):Prop:=
 ∀(b:ByteArray)(W':Y),Ps a c b W'->B4 U f args W' fun g d=>g= Z (Er #[])/\Ps a c (b++e) d/\Kq a.heap.size W' d
abbrev vP(a:Nat):Ax:= Bs (M ⟨a,0,V⟩)
theorem jB(a:Y)(i t:Nat)(s:ByteArray)(h:s.size<=100000000):Pw a i 335 #[na a t,A0 s] s:=fun d e b=>
 (ajo a t d s e b.pg h).mono fun j k ⟨f,g,c⟩=>⟨f,b.next g c,c⟩
theorem He(a:Y)(i t:Nat)(h:t<=1000000):Pw a i 334 #[na a t] (gH t):=fun d e b=>
 (JL a t h d e b.pg).mono fun j k ⟨f,g,c⟩=>⟨f,b.next g c,c⟩
def imD:Im:=⟨ndD,0,G0,G0⟩
def lj(a:List Im)(z:Int):Im:=a.getD z.toNat imD
def qF(W:Y)(e:List Im)(v:Ax)(b:List Int):Prop:=
 (b=[]/\∃a c,v= B0 a 0 c)\/∃a c,v= B0 (M a) b.length c/\b.length<=c/\∀j d,b[j]?=M d->W.cell? (a.add j)=M (nV (lj e d))
theorem qF.below{a:List Im}(h:qF W a v zs)(g:A2 W.heap.size W W'):qF W' a v zs:=by
 rcases h with h|⟨b,c,d,e,f⟩
 ·exact .inl h
 ·exact .inr ⟨b,c,d,e,fun j k i=>aj g (f j k i)⟩
theorem qF.form{b:List Im}(h:qF W b v zs):∃a c,v= B0 a zs.length c:=by
 rcases h with⟨rfl,a,c,rfl⟩|⟨a,c,rfl,_⟩
 ·exact⟨a,c,rfl⟩
 ·exact⟨M a,c,rfl⟩
theorem qF.get{d:List Im}{a:Option Addr}{c:Nat}(h:qF W d (B0 a n c) zs){z:Int}(e:zs[j]?=M z):∃b,a=M b/\zs.length<=c/\W.cell? (b.add j)=M (nV (lj d z)):=by
 rcases h with⟨rfl,_⟩|⟨b,k,f,g,i⟩
 ·simp at e
 ·cases f;exact⟨b,rfl,g,i j z e⟩
def rD(vn:Ax):Prop:=∀a n c,vn= B0 (M a) n c->n<=c/\a=⟨a.block,a.off,V⟩
structure Tp (w0:Y) (ns:List Nd) (L:List Im) (base:Nat) (vs:Ax):Prop where
 at_:li w0 base vs L
 map:L.map Im.N=ns
 nms:∀x∈L,cu w0 x.vn x.N.nm
 jn:∀x∈L,rD x.vn
theorem anq{a:List Im}(h:a.map Im.N=ns)(z:Int):(lj a z).N=ae ns z:=by
 unfold lj ae;rw[<-h,be,be,ce];cases a[z.toNat]?<;>rfl
structure NdQ (w0:Y) (L:List Im) (N:Nd) (b:Nat) (vn:Ax) (a:Option Addr) (n c:Nat):Prop where
 hn:N.ks.length=n
 rd:∀W,A2 w0.heap.size w0 W->∃num,ft W b N vn num (.slice a n c)
 ks:qF w0 L (.slice a n c) N.ks
 nm:cu w0 vn N.nm
 jn:rD vn
theorem vF{d:List Im}{base:Nat}(T:Tp w0 ns d base vs)(r:i<ns.length):∃b vn a n c,nV (lj d i)= Fs (jy (de (ae ns i).k)) (Bs (M ⟨b,0,V⟩))/\NdQ w0 d (ae ns i) b vn a n c:=by
 have C:i<d.length:=by rw[<-T.map,cj]at r;exact r
 have f:d[i]?=M (lj d i):=by
  unfold lj;rw[lG,be,aJ C];rfl
 have h:=anq T.map (i:Int);have A:=T.at_.box i _ f;have l:=T.at_.kid i _ f;obtain⟨a,c,s⟩:=bI l;have B:qF w0 d (lj d i).kv (lj d i).N.ks:=by
  rcases l.2 with⟨g,q⟩|⟨j,u,F,g,q,G,x,H,I,J⟩
  ·exact .inl ⟨ia q,V,0,g⟩
  ·refine .inr ⟨⟨j,0,V⟩,u,g,x,fun o e m=>?_⟩;have K:=(List.getElem?_eq_some_iff.1 m).1;have p:=l;rw[g]at p;have y:(⟨j,0,V⟩:Addr).add o=⟨j,o,V⟩:=by unfold Addr.add;split<;>simp_all
   rw[y,p.cellAt o (by omega)];unfold nK;rw[ce,m];obtain⟨z0,L⟩:=T.at_.rng i _ e f (cH m);have t:e.toNat<d.length:=by omega
   have v:(d.take i)[e.toNat]?=M (d[e.toNat]):=by rw[jH,ab (by omega),aJ t]
   have w:lj d e=d[e.toNat]:=by unfold lj;rw[be,aJ t];rfl
   simp only[uC,v,w]
 refine⟨(lj d i).b,(lj d i).vn,a,_,c,?_,rfl,fun E z=>⟨i,?_⟩,?_,?_,T.jn _ (cH f)⟩
 ·rw[<-h];rfl
 ·rw[<-h,<-s];exact A.below z
 ·rw[<-h,<-s];exact B
 ·rw[<-h];exact T.nms _ (cH f)
theorem NdQ.cells{e:List Im}{a:Option Addr}{c:Nat}(h:NdQ w0 e N b vn a n c)(f:A2 w0.heap.size w0 W):W.cell? ⟨b,0,V⟩=M (B1 B3 N.k)/\W.cell? ⟨b,5,V⟩=M (B0 a n c)/\∀v,(Kw N vn (de N.k))[0]?=M v->W.cell? ⟨b,6,V⟩=M v:=by
 obtain⟨i,d⟩:=h.rd W f;unfold ft at d;refine⟨by rw[au _ _ _ _ _ _ d];rfl,by rw[au _ _ _ _ _ _ d];rfl,fun v g=>?_⟩;rw[au _ _ _ _ _ _ d];simpa using g
abbrev DF(b:Y)(a:Nat)(c:List Im)(t:Nat)(z:Int)(d:ByteArray):Prop:=Pw b a 75 #[vP a,gG b t,nV (lj c z)] d
theorem py(k:Nat)(b:Nat)(w:Y):(method 443 (jy k) (Bs (M ⟨b,0,V⟩)) "loop.example/warp/impl.head").run U w= .ok (336,Bs (M ⟨b,0,V⟩)) w:=by
 match k with
 |0=>exact ru 0 b w
 |1=>exact ru 1 b w
 |2=>exact ru 2 b w
 |3=>exact ru 3 b w
 |4=>exact ru 4 b w
 |5=>exact ru 5 b w
 |k+6=>exact ru 6 b w
theorem Ps.mth{a:Nat}(h:Ps w0 a T W){k:Nat}(b:(K6 a)[k]?=M v):W.cell? ⟨a,k,V⟩=M v:=by
 rw[au _ _ _ _ _ _ h.vi];exact b
theorem agj(c:Y)(a:Nat)(r:List Nd)(h:List Im)(base:Nat)(I:Ax)(A:Tp c r h base I)(t i:Nat)(E:i<r.length)(b:Nat)(l:(ae r i).k=(b:Int))(am:b<43)(f:FuncId)(p:(K6 a)[b]?=M (mv a f))(af:∀(args:Array Ax) (w:Y),(callFunc f args).run U w= .ok (.enter f args) w)(o:ByteArray)
  (y:Pw c a f #[vP a,gG c t,nV (lj h i)] o):DF c a h t i o:=by
 intro n w e;obtain⟨j,av,K,ap,L,q,m⟩:=vF A E;rw[l]at q;have B:=(m.cells e.pg.bel).1;rw[l]at B;have ad:=e.mth p;have H:=fun w=>da j w;have F:=fun w=>py (de (b:Int)) j w;have g:A5 (Pw c a f #[vP a,gG c t,nV (lj h i)] o):=y;have x:Ps c a n w.drew:=e.below (aw (ah _ _));have s:A5 (Ps c a n w/\Ps c a n w.drew):=⟨e,x⟩;have sX:A5 (∀u d,Ps c a u d->d.cell? ⟨j,0,V⟩=M (B1 B3 (b:Int))/\d.cell? ⟨a,b,V⟩=M (mv a f)):=fun u d v=>⟨by have:=(m.cells v.pg.bel).1;rwa [l]at this,v.mth p⟩;rw[q]at g⊢;generalize gG c t=ao at g⊢;generalize jy (de (b:Int))=ar at g F⊢;have ak:(0:Int)<=(b:Int):=by omega
 have al:(b:Int)<43:=by omega
 clear y q m e p l x;go_enter Tryz.func75,Tryz.ntmps75;go_wp2_with fail;go_region_held3 (fun d=>d.cell? ⟨j,0,V⟩=M (B1 B3 (b:Int))/\d.cell? ⟨a,b,V⟩=M (mv a f)) (first|exact sX.out _ _ s.out.2|exact sX.out _ _ z|go_keep) (first|(go_at_call 336;refine(H _).mono ?_;rintro C J ⟨rfl,an⟩;subst J)|(refine(g.out _ _ s.out.2).mono ?_;rintro C a0 ⟨rfl,z,G⟩))
 go_wp2_with fail;go_end0
 exact⟨rfl,z,(Kq.of_below (aw (ah _ _))).trans G⟩
theorem J8(a:Y)(d:Nat)(i:List Im)(t:Nat)(e:List Int)(v:Ax)(q:qF a i v e)(a1:e.length<=1048576)(E:Int->ByteArray)(B:∀z∈e,DF a d i t z (E z)):
  Pw a d 114 #[vP d,gG a t,v] (cC (e.map E)):=by
 intro h s K;obtain⟨ao,ar,rfl⟩:=q.form;obtain⟨f,p⟩:∃f,e.length=f:=⟨_,rfl⟩;rw[p]at q a1⊢;have w:A5 (Ps a d h s/\qF a i (B0 ao f ar) e/\(∀z∈e,DF a d i t z (E z))/\e.length=f):=⟨K,q,B,p⟩;obtain⟨b,o⟩:∃b,e.map E=b:=⟨_,rfl⟩;rw[o];have G:A5 (e.map E=b/\b.length=f):=⟨o,by rw[<-o,cj];exact p⟩;have a0:=fun s=>pq a.heap.size (eB t) s;have y:A5 (Pw a d 335 #[na a t,A0 dL] dL):=jB a d t dL (by decide);have x:A5 (∀z∈e,Pw a d 75 #[vP d,gG a t,nV (lj i z)] (E z)):=B;unfold gG na at x y⊢;generalize eB t=a2 at a0 y x⊢;clear K q B p o;go_enter Tryz.func114,Tryz.ntmps114;go_wp2_with fail;go_loopw [10] (fun C wr=>∃c:Nat,c<=f/\C= B1 B3 c/\A5 (Ps a d (h++cC (b.take c)) wr/\Kq a.heap.size s wr)) (fun C _=>f-(B7 C).toNat)
 case atStart=>exact⟨0,by omega,rfl,by rw[show h++cC (b.take 0)=h from ByteArray.append_empty];exact w.out.1,Kq.refl _ _⟩
 case round=>
  obtain⟨c,a4,rfl,g⟩:=hrel;by_cases av:c<f
  ·obtain⟨z,r⟩:=cy w.out.2.2.2 av;obtain⟨ap,rfl,_,I⟩:=(w.out.2.1.below g.out.1.pg.bel).get r;have af:b[c]?=M (E z):=by rw[<-G.out.1,ce,r];rfl
   have ad:=oE b c (E z) af;have A:=x.out z (cH r);generalize nV (lj i z)=am at I A;have H:A5 (Pw a d 75 #[vP d,Fs 59 (F2 #[Bs (M ⟨a.heap.size,0,V⟩),A0 a2]),am] (E z)):=A;have n:A5 (cC (b.take (c+1))=(if c=0 then cC (b.take c) else cC (b.take c)++dL)++E z):=ad;clear ad r af A;by_cases L:c=0
   ·subst L;have l:cC (b.take (0+1))=cC (b.take 0)++E z:=by rw[n.out,ab rfl]
    have u:A5 (cC (b.take (0+1))=cC (b.take 0)++E z):=l;clear l n;have a3:wr.cell? ap=M am:=by simpa [Addr.add] using I
    go_wp2_with (go_at_call 75;fail);refine(H.out _ _ g.out.1).mono ?_;rintro J j ⟨rfl,p2,m⟩;have k:A5 (Ps a d (h++cC (b.take 0)++E z) j/\Kq a.heap.size wr j):=⟨p2,m⟩;clear p2 m;go_wp2_with fail;refine⟨⟨1,by omega,by go_num,?_,g.out.2.trans k.out.2⟩,by simp[B7];omega⟩;rw[show(1:Nat)=0+1 from rfl,u.out,<-bq];exact k.out.1
   ·have l:cC (b.take (c+1))=cC (b.take c)++dL++E z:=by rw[n.out,aa L]
    have u:A5 (cC (b.take (c+1))=cC (b.take c)++dL++E z):=l;clear l n;have a5:(0:Int)<(c:Int):=by omega
    go_wp2_with (go_at_call 335;fail);refine(y.out _ _ g.out.1).mono ?_;rintro J j ⟨rfl,p2,m⟩;have k:A5 (Ps a d (h++cC (b.take c)++dL) j/\Kq a.heap.size wr j):=⟨p2,m⟩;clear p2 m;go_wp2_with (go_at_call 75;fail);refine(H.out _ _ k.out.1).mono ?_;rintro J an ⟨rfl,al,ak⟩;have F:A5 (Ps a d (h++cC (b.take c)++dL++E z) an/\Kq a.heap.size j an):=⟨al,ak⟩;clear al ak;go_wp2_with fail;refine⟨⟨c+1,by omega,by go_num,?_,(g.out.2.trans k.out.2).trans F.out.2⟩,by simp[B7];omega⟩;rw[u.out,<-bq,<-bq];exact F.out.1
  ·obtain rfl:c=f:=by omega
   go_wp2_with fail;go_end0
   refine⟨rfl,?_,g.out.2⟩;have:=g.out.1
   rwa [cA (by rw[G.out.2];exact ag _)]at this
theorem mE(a:Y)(b:Nat)(t:Nat)(s X:ByteArray)(r:s.size<=100000000)(v:Ax)(h:Pw a b 114 #[vP b,gG a t,v] X):
  Pw a b 112 #[vP b,gG a t,A0 s,v] (s++X):=by
 intro d c g;have u:=fun c=>pq a.heap.size (eB t) c;have o:A5 (Pw a b 335 #[na a t,A0 s] s):=jB a b t s r;have p:A5 (Pw a b 114 #[vP b,gG a t,v] X):=h;have n:A5 (Ps a b d c):=g;unfold gG na at *;generalize eB t=w at *;clear g h;go_enter Tryz.func112,Tryz.ntmps112;go_wp2_with (go_at_call 335;fail);refine(o.out _ _ n.out).mono ?_;rintro q l ⟨rfl,p2,i⟩;have e:A5 (Ps a b (d++s) l/\Kq a.heap.size c l):=⟨p2,i⟩;clear p2 i;go_wp2_with (go_at_call 114;fail);refine(p.out _ _ e.out.1).mono ?_;rintro q m ⟨rfl,k,j⟩;have f:A5 (Ps a b (d++s++X) m/\Kq a.heap.size c m):=⟨k,e.out.2.trans j⟩;clear k j;go_wp2_with fail;go_end0
 exact⟨rfl,by rw[<-bq];exact f.out.1,f.out.2⟩
theorem wK(a:Y)(b:Nat)(t:Nat)(s X e:ByteArray)(v f:Ax)(l:Pw a b 112 #[vP b,gG a t,A0 s,v] X)(m:Pw a b 75 #[vP b,gG a t,f] e):
  Pw a b 116 #[vP b,gG a t,A0 s,v,f] (X++⟨#[32]⟩++e):=by
 intro d c k;have C:=fun c=>pq a.heap.size (eB t) c;have z:A5 (Pw a b 112 #[vP b,gG a t,A0 s,v] X):=l;have A:A5 (Pw a b 335 #[na a t,A0 ⟨#[32]⟩] ⟨#[32]⟩):=jB a b t _ (by decide);have B:A5 (Pw a b 75 #[vP b,gG a t,f] e):=m;have y:A5 (Ps a b d c):=k;unfold gG na at *;generalize eB t=E at *;clear k l m;go_enter Tryz.func116,Tryz.ntmps116;go_wp2_with (go_at_call 112;fail);refine(z.out _ _ y.out).mono ?_;rintro j u ⟨rfl,p2,n⟩;have g:A5 (Ps a b (d++X) u/\Kq a.heap.size c u):=⟨p2,n⟩;clear p2 n;go_wp2_with (go_at_call 335;fail);refine(A.out _ _ g.out.1).mono ?_;rintro j w ⟨rfl,q,o⟩;have h:A5 (Ps a b (d++X++⟨#[32]⟩) w/\Kq a.heap.size c w):=⟨q,g.out.2.trans o⟩;clear q o;go_wp2_with (go_at_call 75;fail);refine(B.out _ _ h.out.1).mono ?_;rintro j x ⟨rfl,r,p⟩;have i:A5 (Ps a b (d++X++⟨#[32]⟩++e) x/\Kq a.heap.size c x):=⟨r,h.out.2.trans p⟩;clear r p;go_wp21
 go_end0
 exact⟨rfl,by have:=i.out.1;simpa only[bq] using this,i.out.2⟩
theorem mh(a:Y)(f t:Nat)(s T:ByteArray)(l:s.size<=100000000)(u:FrameMode)(w:Y)(h:Ps a f T w):
  CallsD U 335 #[na a t,A0 s] u w fun e m w'=>m=u/\(e= Z (Er #[])/\Ps a f (T++s) w'/\Kq a.heap.size w w'):=by
 have c:∀d,A2 w.heap.size w (w.alloc d):=fun d=>(ah _ w).alloc (ag _) d;have i:A5 (∀b,A2 w.heap.size w b->B4 U 332 #[Bs (M ⟨a.heap.size,0,V⟩),A0 s] b fun e w'=>e= Z (Er #[])/\Pg a (T++s) w'/\Kq a.heap.size b w'):=fun b k=>G9 a T s b (h.pg.below k) l;have j:A5 (Ps a f T w):=h;unfold na;generalize eB t=n;clear h;go_enter_d Tryz.func335,Tryz.ntmps335
 go_wp2_with (go_at_call 332;refine(i.out _ (c _)).mono ?_;rintro e o ⟨rfl,p2,g⟩);go_end0
 exact⟨rfl,j.out.next p2 ((Kq.of_below (c _)).trans g),(Kq.of_below (c _)).trans g⟩
theorem sG(b:Nat)(a s:ByteArray)(w:Y):(invoke (.fn (.method "loop.example/warp/impl.put") #[]) #[Fs 59 (F2 #[Bs (M ⟨b,0,V⟩),A0 a]),A0 s]).run U w= .ok (.enter 335 #[F2 #[Bs (M ⟨b,0,V⟩),A0 a],A0 s]) w:=by kernel_rfl
theorem yq(a:Y)(b t:Nat)(v:Ax)(e:ByteArray)(l:Pw a b 75 #[vP b,gG a t,v] e):
  Pw a b 120 #[vP b,gG a t,v,B6 Q] (gi e):=by
 intro d c h;have B:=fun c=>pq a.heap.size (eB t) c;have w:A5 (Pw a b 335 #[na a t,A0 ⟨#[40]⟩] ⟨#[40]⟩):=jB a b t _ (by decide);have x:A5 (Pw a b 75 #[vP b,gG a t,v] e):=l;have y:A5 (∀d c,Ps a b d c->∀i,CallsD U 335 #[na a t,A0 ⟨#[41]⟩] i c fun g p q=>p=i/\(g= Z (Er #[])/\Ps a b (d++⟨#[41]⟩) q/\Kq a.heap.size c q)):=fun d c h i=>mh a b t _ d (by decide) i c h;have u:A5 (Ps a b d c):=h;unfold gG na at *;generalize eB t=C at *;clear h l;go_enter_defers Tryz.func120,Tryz.ntmps120
 go_wp2_with (go_at_call 335;fail);refine(w.out _ _ u.out).mono ?_;rintro g r ⟨rfl,p2,m⟩;have j:A5 (Ps a b (d++⟨#[40]⟩) r/\Kq a.heap.size c r):=⟨p2,m⟩;clear p2 m;go_wp2_with (go_at_call 75;fail);refine(x.out _ _ j.out.1).mono ?_;rintro g s ⟨rfl,o,n⟩;have k:A5 (Ps a b (d++⟨#[40]⟩++e) s/\Kq a.heap.size c s):=⟨o,j.out.2.trans n⟩;clear o n;go_wp2_with fail;refine lI (f:=335) (by simp) (sG _ _ _ _) ?_;refine(y.out _ _ k.out.1 .returning).mono ?_;rintro g p E ⟨rfl,rfl,A,z⟩;refine⟨_,dJ rfl _ _ _,rfl,?_,k.out.2.trans z⟩;unfold gi;simpa only[bq] using A
structure alK (ns:List Nd):Prop where
 len:1<=ns.length/\ns.length<=3000
 kid:∀(i:Nat) N,ns[i]?=M N->∀z∈N.ks,0<=z/\z<(i:Int)
 kn:∀N∈ns,N.ks.length<=200
theorem Dc(h:(dd ns).1=0):alK ns:=by
 unfold dd at h;by_cases i:jL ns=Q
 ·rw[ab i]at h;exact absurd h (by decide)
 rw[aa i]at h;have q:jL ns=O:=by simpa using i
 have k:=iz q;obtain⟨e,j⟩:∃e,iq (fj ns) ns.length 0=e:=⟨_,rfl⟩;rw[j]at h;cases e with
 |some a=>rw[tf2]at h;exact absurd h (by simp)
 |none=>
  have p:=rC j;have m:∀(a:Nat) b,ns[a]?=M b->jk ns a b=Q:=fun a b d=>by
   have l:a<ns.length:=(List.getElem?_eq_some_iff.1 d).1;have f:=p a (aL _) (by omega);unfold fj at f;rw[be,d,gl]at f;simpa using f
  refine⟨⟨?_,?_⟩,fun a b d u s=>?_,fun b d=>?_⟩
  ·rcases qd ns.length with g|g
   ·exact absurd (.inl g) k
   ·exact g
  ·rcases bj 3000 ns.length with g|g
   ·exact absurd (.inr (.inl g)) k
   ·exact g
  ·have c:=m a b d;unfold jk at c;have o:Ie b.ks a b.ks.length 0=Q:=by
    rw[ci,ci]at c;exact c.2.1
   obtain⟨t,r,rfl⟩:=ie s;have:=yp b.ks a b.ks.length 0 o t (by omega) (by omega);rw[be,aJ r]at this;simpa using this
  ·obtain⟨a,l,n⟩:=ie d;have c:=m a b (by rw[aJ l,n]);unfold jk aae at c;rw[ci]at c;exact(aH c.1).2.2.2
theorem agk(h:(dd ns).1=0):∀(i:Nat) N,ns[i]?=M N->jk ns i N=Q:=by
 unfold dd at h;by_cases d:jL ns=Q
 ·rw[ab d]at h;exact absurd h (by decide)
 rw[aa d]at h;obtain⟨e,c⟩:=az (iq (fj ns) ns.length 0);rw[c]at h;cases e with
 |some i=>rw[tf2]at h;exact absurd h (by simp)
 |none=>
  have f:=rC c;intro i N b;have g:i<ns.length:=(List.getElem?_eq_some_iff.1 b).1;have a:=f i (aL _) (by omega);unfold fj at a;rw[be,b,gl]at a;simpa using a
theorem alL{a b d:Bool}(h:bC N a b O d=Q):N.x.size<=4000:=by
 unfold bC at h;simp only[ci,FI]at h;have:=aH h.1.2;have c:N.x.toList.length=0:=by rw[this];rfl
 rw[fE]at c;have:N.x.size=0:=by simpa using c
 omega
theorem agl{s:ByteArray}(h:oL s=Q):s.size<=4000:=by
 have:=(aH h).1;omega
theorem anr{s:ByteArray}(h:fok s=Q):s.size<=4000:=by
 unfold fok at h;rw[ci]at h;have:=aH h.1;omega
theorem jC(h:jk ns i N=Q):oF ns N=Q/\N.ks.length<=200:=by
 unfold jk at h;rw[ci,ci]at h;exact⟨h.2.2,(aH h.1).2.2.2⟩
theorem yr(h:oF ns N=Q)(a:17<=N.k:=by omega):jA ns N=Q:=by
 unfold oF at h
 rwa [aa (by unfold jj;rw[decide_eq_true_eq];omega)]at h
theorem pz(h:oF ns N=Q)(a:1<=N.k/\N.k<=16:=by omega):stB ns N=Q:=by
 unfold oF at h
 rwa [ab (by unfold jj;rw[decide_eq_true_eq];omega)]at h
theorem agm(h:oF ns N=Q):(1<=N.k/\N.k<=16)\/(20<=N.k/\N.k<=37)\/(40<=N.k/\N.k<=42):=by
 by_cases a:1<=N.k/\N.k<=16
 ·exact .inl a
 ·unfold oF at h;rw[aa (by unfold jj;rw[decide_eq_true_eq];exact a)]at h;by_cases b:(20<=N.k/\N.k<=37)\/(40<=N.k/\N.k<=42)
  ·exact .inr b
  ·unfold jA at h
   repeat rw[aa (by omega)]at h
   cases h
theorem ab1(h:oF ns N=Q):bC N (decide (N.k=30\/N.k=31\/N.k=36)) (decide (N.k=5\/N.k=23)) (decide (N.k=24\/N.k=25\/N.k=26\/N.k=33\/N.k=42)) (decide (N.k=2\/N.k=3\/N.k=4\/N.k=9\/N.k=10\/N.k=14\/N.k=36))=Q:=by
 rcases agm h with g|g|g
 ·have h:=pz h g;unfold stB at h;rcases(show N.k=1\/N.k=2\/N.k=3\/N.k=4\/N.k=5\/N.k=6\/N.k=7\/N.k=8\/N.k=9\/N.k=10\/N.k=11\/N.k=12\/N.k=13\/N.k=14\/N.k=15\/N.k=16 by omega) with e|e|e|e|e|e|e|e|e|e|e|e|e|e|e|e;all_goals (simp[e]at h;simp[e,h])
 ·have h:=yr h;unfold jA at h;rcases(show N.k=20\/N.k=21\/N.k=22\/N.k=23\/N.k=24\/N.k=25\/N.k=26\/N.k=27\/N.k=28\/N.k=29\/N.k=30\/N.k=31\/N.k=32\/N.k=33\/N.k=34\/N.k=35\/N.k=36\/N.k=37 by omega) with e|e|e|e|e|e|e|e|e|e|e|e|e|e|e|e|e|e;all_goals (simp[e]at h;simp[e,h])
 ·have h:=yr h;unfold jA at h;rcases(show N.k=40\/N.k=41\/N.k=42 by omega) with e|e|e;all_goals (simp[e]at h;simp[e,h])
theorem wL(h:jk ns i N=Q):N.x.size<=4000:=by
 have b:=(jC h).1;have a:=ab1 b;by_cases c:N.k=24\/N.k=25\/N.k=26\/N.k=33\/N.k=42
 ·have h:=yr b;unfold jA at h;rcases c with e|e|e|e|e<;>simp[e]at h
  ·exact anr h.2
  ·omega
  all_goals exact agl h.2
 ·rw[aC c]at a;exact alL a
theorem ab2(a:List Nd):∀i,iG (a.take i)=(iG a).take i:=by
 refine Bj (p:=fun a=>∀i,iG (a.take i)=(iG a).take i) ?_ ?_ a
 ·intro i;simp[iG]
 ·intro b e d i;rcases bj i (b++[e]).length with h|h
  ·have c:i<=b.length:=by rw[aK]at h;simp at h;omega
   rw[List.take_append_of_le_length c,d,sC,List.take_append_of_le_length (by rw[js];exact c)]
  ·rw[cA h,cA (by rw[js];exact h)]
theorem al0(h:ns[i]?=M N):(iG ns).getD i 0=sA ((iG ns).take i) i N.ks:=by
 have e:i<ns.length:=(List.getElem?_eq_some_iff.1 h).1;have b:ns.take (i+1)=ns.take i++[N]:=by rw[iI,h];rfl
 have a:=ab2 ns (i+1);rw[b,sC,ab2,eD,js,uF (by omega),iI]at a;have c:(iG ns)[i]?=M ((iG ns).getD i 0):=by
  rw[be,aJ (by rw[js];exact e)];rfl
 rw[c]at a;have d:=List.append_cancel_left a;simpa using d.symm
def tA(S:List Int):List Int->Int
 |[]=>0
 |k::l=>S.getD k.toNat 0+tA S l
theorem agn(S:List Int)(a b:List Int):tA S (a++b)=tA S a+tA S b:=by
 induction a with
 |nil=>simp[tA]
 |cons d e c=>simp only[ej,tA,c];omega
theorem ago(S:List Int)(l:List Int):tA S l.reverse=tA S l:=by
 induction l with
 |nil=>rfl
 |cons b l a=>rw[List.reverse_cons,agn,a];simp only[tA];omega
theorem ab3{S:List Int}:∀(l:List Int)(a b:Int),Co S l a=M b->b=a-tA S l
 |[],a,b,h=>by simp[Co]at h;simp[tA];omega
 |k::r,a,b,h=>by
  rw[Co]at h;split at h
  ·have:=ab3 r _ _ h;simp only[tA];omega
  ·cases h
theorem agp(S:List Int)(i:Nat)(l:List Int)(h:∀k∈l,0<=k/\k<(i:Int)):tA (S.take i) l=tA S l:=by
 induction l with
 |nil=>rfl
 |cons k l c=>
  have a:=h k cE;have b:(S.take i).getD k.toNat 0=S.getD k.toNat 0:=by
   rw[be,be,List.getElem?_take_of_lt (by omega)]
  simp only[tA,b,c fun k a=>h k (dI _ a)]
structure ans (ns:List Nd):Prop where
 at_:∀(i:Nat) N,ns[i]?=M N->(iG ns).getD i 0=1+tA (iG ns) N.ks
 le:∀i,(iG ns).getD i 0<=3000
theorem ajq(h:(dd ns).1=0):ans ns:=by
 have i:=Dc h;unfold dd at h;by_cases k:jL ns=Q
 ·rw[ab k]at h;exact absurd h (by decide)
 rw[aa k]at h;obtain⟨l,p⟩:=az (iq (fj ns) ns.length 0);rw[p]at h;cases l with
 |some a=>rw[tf2]at h;exact absurd h (by simp)
 |none=>
  rw[tf2]at h;obtain⟨m,j⟩:=az (iq (gx (iG ns)) ns.length 0);rw[j]at h;cases m with
  |some a=>rw[tf3]at h;exact absurd h (by simp)
  |none=>
   have q:=rC j;have r:Cp (iG ns):=zi ns (fun d c g f=>by
    obtain⟨a,hi,e⟩:=ie c;exact(i.kid a d (by rw[aJ hi,e]) g f).1)
   refine⟨fun a d c=>?_,fun a=>?_⟩
   ·have hi:a<ns.length:=(List.getElem?_eq_some_iff.1 c).1;have b:=q a (aL _) (by omega);unfold gx at b;rw[al0 c]at b⊢;unfold sA at b⊢;cases hw:Co ((iG ns).take a) d.ks.reverse a with
    |none=>rw[hw]at b;simp at b
    |some n=>
     have e:=ab3 _ _ _ hw;rw[ago,agp _ _ _ (fun g f=>i.kid a d c g f)]at e;show(a:Int)-n+1=_;omega
   ·rcases bj a ns.length with hi|hi
    ·have o:(iG ns)[a]?=M ((iG ns).getD a 0):=by
      rw[be,aJ (by rw[js];exact hi)];rfl
     have:=r a _ o;have:=i.len;omega
    ·rw[be,jG (by rw[js];exact hi)];decide
theorem ng(a:List Nd)(N:Nd)(j:Nat):fh a N j=(ae a (dG N j)).k:=rfl
theorem gA:∀(f j:Nat),lg ns N f j=Q->∀q,j<=q->q<j+f->fe (ae ns (dG N q)).k=Q
 |0,j,_,q,a,b=>by omega
 |f+1,j,h,q,a,b=>by
  rw[lg,ci]at h;rcases iL a with rfl|h3
  ·exact h.1
  ·exact gA f (j+1) h.2 q h3 (by omega)
theorem J9:∀(f j:Nat),sbB ns N f j=Q->∀q,j<=q->q<j+f->jj (ae ns (dG N q)).k=Q
 |0,j,_,q,a,b=>by omega
 |f+1,j,h,q,a,b=>by
  rw[sbB,ci]at h;rcases iL a with rfl|h3
  ·exact h.1
  ·exact J9 f (j+1) h.2 q h3 (by omega)
theorem adC{k:Int}(h:zJ k=Q):fe k=Q:=by
 have:=aH h;exact bH (by omega)
theorem agq:∀(f j:Nat),tgB ns N f j=Q->∀q,j<=q->q<j+f->fe (ae ns (dG N q)).k=Q
 |0,j,_,q,a,b=>by omega
 |f+1,j,h,q,a,b=>by
  rw[tgB,ci]at h;rcases iL a with rfl|h3
  ·exact adC h.1
  ·exact agq f (j+1) h.2 q h3 (by omega)
theorem ab4:∀(f j:Nat),enB ns N f j=Q->∀q,j<=q->q<j+f->40<=(ae ns (dG N q)).k/\(ae ns (dG N q)).k<=42
 |0,j,_,q,a,b=>by omega
 |f+1,j,h,q,a,b=>by
  rw[enB,ci]at h;rcases iL a with rfl|h3
  ·exact aH h.1
  ·exact ab4 f (j+1) h.2 q h3 (by omega)
structure Kid (ns:List Nd) (i:Nat) (N:Nd) (j q:Nat):Prop where
 at_:N.ks[j]?=M (q:Int)
 lt:q<i
 len:q<ns.length
 id:dG N j=(q:Int)
theorem gB(h:jk ns i N=Q)(d:i<ns.length)(j:Nat)(b:j<N.ks.length):∃q,Kid ns i N j q:=by
 unfold jk at h;rw[ci,ci]at h;have c:=yp N.ks i N.ks.length 0 h.2.1 j (by omega) (by omega);have a:N.ks[j]?=M (N.ks.getD j 0):=by rw[be,aJ b];rfl
 refine⟨(N.ks.getD j 0).toNat,?_,by omega,by omega,?_⟩
 ·rw[a];congr 1;omega
 ·show N.ks.getD j 0=_;omega
theorem oy{z:Int}(h:z∈N.ks):∃j,j<N.ks.length/\dG N j=z:=by
 obtain⟨j,a,b⟩:=ie h;exact⟨j,a,by unfold dG;rw[be,aJ a];exact b⟩
theorem mF(h:oF ns N=Q)(a:N.k=28\/N.k=29\/N.k=31\/N.k=32\/N.k=41:=by omega):N.ks.length=2/\lg ns N 2 0=Q/\(N.k=31->1<=N.op/\N.op<=18):=by
 have h:=yr h;unfold jA at h;rcases a with e|e|e|e|e<;>simp[e]at h<;>exact⟨by omega,by simp[h],by omega⟩
theorem oa(h:oF ns N=Q)(a:N.k=30\/N.k=33\/N.k=37\/N.k=40\/N.k=42:=by omega):N.ks.length=1/\fe (ae ns (dG N 0)).k=Q/\(N.k=30->19<=N.op/\N.op<=22):=by
 have h:=yr h;unfold jA at h;rcases a with e|e|e|e|e<;>simp[e,ng]at h
 ·exact⟨by omega,gA 1 0 h.1.1.1.2 0 (by omega) (by omega),by omega⟩
 ·exact⟨by omega,gA 1 0 h.1.1.1.2 0 (by omega) (by omega),by omega⟩
 ·exact⟨by omega,bH (by omega),by omega⟩
 ·exact⟨by omega,gA 1 0 h.1.2 0 (by omega) (by omega),by omega⟩
 ·exact⟨by omega,gA 1 0 h.1.1.2 0 (by omega) (by omega),by omega⟩
theorem Hf(h:oF ns N=Q)(a:N.k=34):1<=N.ks.length/\lg ns N N.ks.length 0=Q:=by
 have h:=yr h;unfold jA at h;simp[a,ng]at h;exact⟨by omega,h.1.1.2⟩
theorem Dd(h:oF ns N=Q)(a:N.k=35):enB ns N N.ks.length 0=Q:=by
 have h:=yr h;unfold jA at h;simp[a]at h;exact h.1
theorem ur{a b:Int}(h:eG N a b=Q)(c:b<=200):a<=(N.nm.length:Int)/\N.nm.length<=200:=by
 unfold eG at h;rw[ci]at h;have:=aH h.1;omega
theorem agr(h:oF ns N=Q)(a:N.k=36):N.ks.length=1/\(ae ns (dG N 0)).k=1/\N.nm.length<=200/\(N.op=0\/N.op=1):=by
 have h:=yr h;unfold jA at h;simp[a,ng]at h;exact⟨by omega,h.1.1.1.2,(ur h.1.2 (by omega)).2,h.2⟩
theorem yu(h:oF ns N=Q)(a:N.k=1):sbB ns N N.ks.length 0=Q:=by
 have h:=pz h;unfold stB at h;simp[a]at h;exact h.1
def sN(a:List Nd)(i:Int):Nat:=((iG a).getD i.toNat 0).toNat
def sK(a:List Nd):List Int->Nat
 |[]=>0
 |k::l=>sN a k+sK a l
theorem al3(c:List Nd)(a b:List Int):sK c (a++b)=sK c a+sK c b:=by
 induction a with
 |nil=>simp[sK]
 |cons e f d=>simp only[ej,sK,d];omega
theorem De(a:List Nd)(l:List Int)(n:Nat):sK a l=sK a (l.take n)+sK a (l.drop n):=by rw[<-al3,Fi]
structure Szd (ns:List Nd):Prop where
 nb:∀i:Nat,i<ns.length->jk ns i (ae ns i)=Q
 at_:∀i:Nat,i<ns.length->sN ns i=1+sK ns (ae ns i).ks
 le:∀i:Int,sN ns i<=3000
theorem ags(h:(dd ns).1=0):Szd ns:=by
 have g:=ajq h;have p:=Dc h;have n:=agk h;have l:Cp (iG ns):=zi ns (fun i j e k=>by
  obtain⟨a,b,c⟩:=ie j;exact(p.kid a i (by rw[aJ b,c]) e k).1)
 have o:∀a:Nat,0<=(iG ns).getD a 0:=by
  intro a;rw[be];cases c:(iG ns)[a]? with
  |none=>decide
  |some r=>exact(l a r c).1
 have q:∀d:List Int,tA (iG ns) d=(sK ns d:Int):=by
  intro d
  induction d with
  |nil=>rfl
  |cons e s m=>
   have:=o e.toNat;simp only[tA,sK,m,sN];omega
 have f:∀a:Nat,a<ns.length->ns[a]?=M (ae ns a):=fun a b=>by
  unfold ae;rw[lG,List.getD,aJ b];rfl
 refine⟨fun a b=>n a _ (f a b),fun a b=>?_,fun a=>?_⟩
 ·have c:=g.at_ a _ (f a b);rw[q]at c;show((iG ns).getD (a:Int).toNat 0).toNat=_;rw[lG,c];omega
 ·have:=g.le a.toNat;unfold sN;omega
theorem EL(l:List ByteArray):(cC l).size<=(l.map fun x=>x.size+2).sum:=by
 have d:∀a,(cC (l.take a)).size<=((l.take a).map fun x=>x.size+2).sum:=by
  intro a
  induction a with
  |zero=>show(Cb).size<=_;exact aL _
  |succ a b=>
   rcases bj a l.length with h|h
   ·rw[oE l a _ (aJ h),ay,List.take_succ_eq_append_getElem h,dF,List.sum_append];have c:dL.size=2:=rfl;have:(if a=0 then cC (l.take a) else cC (l.take a)++dL).size<=(cC (l.take a)).size+2:=by
     split
     ·omega
     ·rw[ay,c];exact ag _
    simp only[kK,List.map_nil,List.sum_cons,List.sum_nil];omega
   ·rw[cA (by omega)];rw[cA (by omega)]at b;exact b
 have:=d l.length
 rwa [cA (ag _)]at this
theorem aah(d:List Nd)(b:Int->Nat)(c:Nat)(a:List Int)(h:∀z∈a,b z+10000<=2000000*sN d z)(k:c<=10000):(a.map fun z=>b z+c).sum<=2000000*sK d a:=by
 induction a with
 |nil=>exact aL _
 |cons z l f=>
  have i:=h z cE;have j:=f fun g e=>h g (dI _ e);simp only[kK,List.sum_cons,sK,Nat.mul_add];omega
theorem sH(b:List Nd)(E:Int->ByteArray)(a:List Int)(h:∀z∈a,(E z).size+10000<=2000000*sN b z):(cC (a.map E)).size<=2000000*sK b a:=by
 refine bL (EL _) ?_;rw[List.map_map];exact aah b (fun z=>(E z).size) 2 a h (by omega)
theorem yv(l:List ByteArray)(h:∀s∈l,s.size<=4000):(cC l).size<=4002*l.length:=by
 refine bL (EL _) ?_
 induction l with
 |nil=>exact aL _
 |cons c g b=>
  have e:=h c cE;have f:=b fun d a=>h d (dI _ a);simp only[kK,List.sum_cons,bB];omega
theorem E3(l:List ByteArray):(gw l).size=(l.map ByteArray.size).sum:=by
 have c:∀(a:ByteArray),(l.foldl (· ++·) a).size=a.size+(l.map ByteArray.size).sum:=by
  induction l with
  |nil=>intro a;simp
  |cons e d b=>intro a;rw[qe,b,ay,kK,List.sum_cons];omega
 have:=c Cb;rw[show ByteArray.empty.size=0 from rfl]at this;unfold gw;omega
theorem al4(b:List Nd)(S:Int->Nat->ByteArray)(a:List Int)(tab:Nat)(f:tab<=9000)(h:∀z∈a,(S z (tab+1)).size+10000<=2000000*sN b z):(Az S a tab).size+10000<=2000000*(1+sK b a)-900000:=by
 unfold Az;by_cases c:a=[]
 ·rw[ab c];show 2+10000<=_;omega
 ·rw[aa c,ay,ay,ay,E3,ld,List.map_map];have d:(a.map (ByteArray.size ∘ fun e=>gH (tab+1)++S e (tab+1)))=a.map fun z=>(S z (tab+1)).size+(tab+2):=by
   apply List.map_congr_left;intro z g;simp only[Function.comp];rw[ay,ld];omega
  rw[d];have:=aah b (fun z=>(S z (tab+1)).size) (tab+2) a h (by omega);show 1+_+(tab+1)+1+10000<=_;omega
theorem yw(h:lg ns N 1 0=Q):fe (ae ns (dG N 0)).k=Q:=gA 1 0 h 0 (by omega) (by omega)
theorem aai(h:oF ns N=Q)(a:N.k=2):lg ns N N.ks.length 0=Q/\N.nm.length<=200:=by
 have h:=pz h;unfold stB at h;simp only[a]at h;simp at h;exact⟨h.2,(ur h.1.2 (by omega)).2⟩
theorem Df(h:oF ns N=Q)(b:N.k=3):N.ks.length=1/\fe (ae ns (dG N 0)).k=Q/\N.nm.length=1:=by
 have h:=pz h;unfold stB at h;simp[b]at h;have:=ur h.1.1.2 (by omega);have a:=h.1.1.2;unfold eG at a;rw[ci]at a;have:=aH a.1;exact⟨by omega,yw h.2,by omega⟩
theorem aaj(h:oF ns N=Q)(b:N.k=4):N.ks.length=1/\(ae ns (dG N 0)).k=36/\N.nm.length=1:=by
 have h:=pz h;unfold stB at h;simp[b,ng]at h;have a:=h.1.1.2;unfold eG at a;rw[ci]at a;have:=aH a.1;exact⟨by omega,h.2,by omega⟩
theorem agt(h:oF ns N=Q)(a:N.k=5):1<=N.n/\N.n<(N.ks.length:Int)/\tgB ns N N.n.toNat 0=Q/\lg ns N (N.ks.length-N.n.toNat) N.n.toNat=Q:=by
 have h:=pz h;unfold stB at h;simp[a]at h;exact⟨h.2.1.1,h.2.1.2,h.2.2.1,h.2.2.2⟩
theorem E4(h:oF ns N=Q)(a:N.k=6\/N.k=16):N.ks.length=1/\(ae ns (dG N 0)).k=34:=by
 have h:=pz h;unfold stB at h;rcases a with e|e<;>simp[e,ng]at h<;>exact⟨by omega,h.2⟩
theorem agu(h:oF ns N=Q)(a:N.k=7):2<=N.ks.length/\N.ks.length<=3/\fe (ae ns (dG N 0)).k=Q/\(ae ns (dG N 1)).k=1/\(N.ks.length=2\/(ae ns (dG N 2)).k=1\/(ae ns (dG N 2)).k=7):=by
 have h:=pz h;unfold stB at h;simp[a,ng]at h;exact⟨h.2.1.1,h.2.1.2,yw h.2.2.1,h.2.2.2.1,by omega⟩
theorem Dg(h:oF ns N=Q)(a:N.k=8):N.ks.length=2/\fe (ae ns (dG N 0)).k=Q/\(ae ns (dG N 1)).k=1:=by
 have h:=pz h;unfold stB at h;simp[a,ng]at h;exact⟨by omega,yw h.1.2,h.2⟩
theorem aak(h:oF ns N=Q)(b:N.k=9):(N.ks.length=3\/N.ks.length=4)/\lg ns N (N.ks.length-1) 0=Q/\(ae ns (dG N (N.ks.length-1))).k=1/\N.nm.length=1:=by
 have h:=pz h;unfold stB at h;simp[b,ng]at h;have a:=h.2.1;unfold eG at a;rw[ci]at a;have:=aH a.1;exact⟨by omega,h.2.2.2.1,h.2.2.2.2,by omega⟩
theorem Hg(h:oF ns N=Q)(a:N.k=10):N.ks.length=2/\fe (ae ns (dG N 0)).k=Q/\(ae ns (dG N 1)).k=1/\N.nm.length<=200:=by
 have h:=pz h;unfold stB at h;simp[a,ng]at h;exact⟨by omega,yw h.1.2,h.2,(ur h.1.1.1.2 (by omega)).2⟩
theorem agv(h:oF ns N=Q)(a:N.k=13):lg ns N N.ks.length 0=Q:=by
 have h:=pz h;unfold stB at h;simp[a]at h;exact h.2
theorem aal(h:oF ns N=Q)(a:N.k=14):N.ks.length=2/\(ae ns (dG N 0)).k=1/\(ae ns (dG N 1)).k=1/\N.nm.length<=200:=by
 have h:=pz h;unfold stB at h;simp[a,ng]at h;exact⟨by omega,h.1.2,h.2,(ur h.1.1.1.2 (by omega)).2⟩
theorem Dh(h:oF ns N=Q)(a:N.k=15):N.ks.length=1/\fe (ae ns (dG N 0)).k=Q:=by
 have h:=pz h;unfold stB at h;simp[a]at h;exact⟨by omega,yw h.2⟩
theorem ab5{l:List ByteArray}:∀(f j:Nat),uf l f j=Q->∀q,j<=q->q<j+f->oL (l.getD q Cb)=Q
 |0,j,_,q,a,b=>by omega
 |f+1,j,h,q,a,b=>by
  rw[uf,ci]at h;rcases iL a with rfl|h3
  ·exact h.1
  ·exact ab5 f (j+1) h.2 q h3 (by omega)
theorem mG{a b:Int}(h:eG N a b=Q):(∀s∈N.nm,oL s=Q)/\a<=(N.nm.length:Int)/\(N.nm.length:Int)<=b:=by
 unfold eG at h;rw[ci]at h;refine⟨fun s e=>?_,aH h.1⟩;obtain⟨f,d,c⟩:=ie e;have:=ab5 _ 0 h.2 f (by omega) (by omega);rw[be,aJ d]at this;rw[<-c];exact this
theorem ant(h:oF ns N=Q):∀s∈N.nm,oL s=Q:=by
 have a:=ab1 h;by_cases c:N.k=2\/N.k=3\/N.k=4\/N.k=9\/N.k=10\/N.k=14\/N.k=36
 ·by_cases d:N.k=36
  ·have h:=yr h;unfold jA at h;simp[d]at h;exact(mG h.1.2).1
  ·have h:=pz h;unfold stB at h;rcases c with e|e|e|e|e|e|e<;>simp[e]at h
   ·exact(mG h.1.2).1
   ·exact(mG h.1.1.2).1
   ·exact(mG h.1.1.2).1
   ·exact(mG h.2.1).1
   ·exact(mG h.1.1.1.2).1
   ·exact(mG h.1.1.1.2).1
 ·rw[aC c]at a;unfold bC at a;simp at a;intro s b;rw[a.2]at b;cases b
theorem rE(h:oF ns N=Q):∀s∈N.nm,s.size<=4000:=fun s a=>agl (ant h s a)
theorem Di(h:j<N.ks.length):N.ks[j]=dG N j:=by unfold dG;rw[be,aJ h];rfl
theorem qG(a:List Nd)(h:N.ks.length=1):sK a N.ks=sN a (dG N 0):=by
 unfold dG
 match e:N.ks,h with
 |[b],_=>simp[sK]
theorem zt(a:List Nd)(h:N.ks.length=2):sK a N.ks=sN a (dG N 0)+sN a (dG N 1):=by
 unfold dG
 match e:N.ks,h with
 |[b,c],_=>simp[sK]
theorem agw(a:List Nd)(h:N.ks.length=3):sK a N.ks=sN a (dG N 0)+sN a (dG N 1)+sN a (dG N 2):=by
 unfold dG
 match e:N.ks,h with
 |[b,c,d],_=>simp[sK];omega
theorem ajr(a:List Nd)(h:0<N.ks.length):sK a N.ks=sK a (N.ks.take (N.ks.length-1))+sN a (dG N (N.ks.length-1)):=by
 rw[De a N.ks (N.ks.length-1)]
 congr 1
 rw[jo (by omega),Di,jE (by omega)];simp[sK]
theorem ajs(b:List Nd)(h:0<N.ks.length):sK b N.ks=sN b (dG N 0)+sK b (N.ks.drop 1):=by
 rw[De b N.ks 1]
 congr 1
 unfold dG
 match e:N.ks,h with
 |a::c,_=>simp[sK]
theorem E5(n:Int)(b:n<=9223372036854775807):(Cy n).size<=30:=by
 unfold Cy;split
 ·rw[Cu];omega
 ·rename_i a;have:=Lib.itoa_length_le n (by omega) b;show(Lib.decDigits n.toNat).toArray.size<=30;rw[gj];unfold Lib.itoa at this;simp only[a,if_false]at this;omega
theorem agx(N:Nd)(b:N.x.size<=4000)(a:N.n<=9223372036854775807):(plB N).size<=20000:=by
 unfold plB
 repeat' split
 ·show 3<=_;omega
 ·show 4<=_;omega
 ·show 5<=_;omega
 ·have:=E5 N.n a;omega
 ·omega
 ·have:=yE N.x;unfold aey at this;omega
 ·show 3<=_;omega
 ·show 0<=_;omega
theorem zu(b:List Nd)(E:Int->ByteArray)(k a:Int):(po b E k a).size<=(E k).size+2:=by
 unfold po;split
 ·rw[vB];omega
 ·omega
theorem Hh(a:List Nd)(E:Int->ByteArray)(k:Int):(bsB a E k).size<=(E k).size+2:=by
 unfold bsB;split
 ·omega
 ·rw[vB];omega
theorem ajt(a:List Nd)(N:Nd):(unS a N).size<=4:=by
 unfold unS
 repeat' split
 ·show 4<=4;omega
 ·show 1<=4;omega
 ·show 1<=4;omega
 ·show 2<=4;omega
 ·show 1<=4;omega
theorem Dj{a:Int}(h:1<=a/\a<=18):(pG (60+a)).size<=4:=by
 obtain⟨b,c⟩:=h;rcases(show a=1\/a=2\/a=3\/a=4\/a=5\/a=6\/a=7\/a=8\/a=9\/a=10\/a=11\/a=12\/a=13\/a=14\/a=15\/a=16\/a=17\/a=18 by omega) with rfl|rfl|rfl|rfl|rfl|rfl|rfl|rfl|rfl|rfl|rfl|rfl|rfl|rfl|rfl|rfl|rfl|rfl;all_goals decide+kernel
structure SzE (ns:List Nd) (E:Int->ByteArray) (S:Int->Nat->ByteArray) (i:Nat) (tab:Nat):Prop where
 e:∀z:Nat,z<i->(E z).size+10000<=2000000*sN ns z
 s:∀z:Nat,z<i->(S z (tab+1)).size+10000<=2000000*sN ns z
theorem SzE.kid(h:SzE ns E S i tab)(d:Szd ns)(k:q<=i)(a:q<ns.length):∀z∈(ae ns q).ks,(E z).size+10000<=2000000*sN ns z/\(S z (tab+1)).size+10000<=2000000*sN ns z:=by
 intro z g;obtain⟨j,f,rfl⟩:=oy g;obtain⟨c,b⟩:=gB (d.nb q a) a j f;rw[b.id];have:=b.lt;exact⟨h.e c (by omega),h.s c (by omega)⟩
theorem SzE.blk(h:SzE ns E S i tab)(a:Szd ns)(d:tab<=9000)(c:q<=i)(b:q<ns.length):(Az S (ae ns q).ks tab).size+910000<=2000000*sN ns q:=by
 have:=al4 ns S (ae ns q).ks tab d (fun f e=>(h.kid a c b f e).2);rw[a.at_ q b];omega
theorem agy(h:oF ns N=Q)(b:N.nm.length<=200):(adp N).size<=810000:=by
 unfold adp;have:=yv N.nm (rE h);simp only[ay];have a:(if N.op=1 then(if N.nm=[] then(⟨#[46,46,46]⟩:ByteArray) else dL++⟨#[46,46,46]⟩) else Cb).size<=5:=by
  repeat' split
  ·show 3<=5;omega
  ·show 5<=5;omega
  ·show 0<=5;omega
 show 1+_+_+2<=_;omega
theorem SzE.bod(h:SzE ns E S i tab)(a:Szd ns)(j:tab<=9000)(g:q<=i)(b:q<ns.length)(f:(ae ns q).k=36):(JB ns S (ae ns q) tab).size+20000<=2000000*sN ns q:=by
 obtain⟨d,m,e,n⟩:=agr (jC (a.nb q b)).1 f;obtain⟨o,c⟩:=gB (a.nb q b) b 0 (by omega);have l:=h.blk a j (bL (gq c.lt) g) c.len;unfold JB;rw[ay,c.id,a.at_ q b,qG ns d,c.id];have:=agy (jC (a.nb q b)).1 e;omega
theorem agz(h:SzE ns E S i tab)(c:Szd ns)(s:q<=i)(b:q<ns.length)(r:40<=(ae ns q).k/\(ae ns q).k<=42):(Ay ns E (ae ns q)).size+10000<=2000000*sN ns q:=by
 have m:=(jC (c.nb q b)).1;have t:=wL (c.nb q b);have g:=fun p o=>gB (c.nb q b) b p o;rw[c.at_ q b];unfold Ay;by_cases j:(ae ns q).k=41
 ·rw[ab j];obtain⟨f,_,_⟩:=mF m;obtain⟨d,a⟩:=g 0 (by omega);obtain⟨n,l⟩:=g 1 (by omega);rw[zt ns f,a.id,l.id];have:=h.e d (by have:=a.lt;omega);have:=h.e n (by have:=l.lt;omega);simp only[ay];show 1+_+4+_+_<=_;omega
 ·rw[aa j];obtain⟨f,_,_⟩:=oa m (show _ by omega);obtain⟨d,a⟩:=g 0 (by omega);rw[qG ns f,a.id];have:=h.e d (by have:=a.lt;omega);split
  ·simp only[ay];show 1+_+3+_+_<=_;omega
  ·omega
theorem agA(h:SzE ns E S i tab)(c:Szd ns)(K:tab<=9000)(d:i<ns.length)(J:(ae ns i).n<=9223372036854775807):(prE ns E S (ae ns i) tab).size+10000<=2000000*sN ns i:=by
 have j:=(jC (c.nb i d)).1;have L:=wL (c.nb i d);have g:=fun m s=>gB (c.nb i d) d m s;have v:∀(x:ByteArray)(w:Int),x.size<=100->((ae ns i).k=28\/(ae ns i).k=29\/(ae ns i).k=31\/(ae ns i).k=32\/(ae ns i).k=41)->(GA ns E (ae ns i) x w).size+10000<=2000000*sN ns i:=by
  intro x w af I;obtain⟨f,_,_⟩:=mF j I;obtain⟨b,a⟩:=g 0 (by omega);obtain⟨l,k⟩:=g 1 (by omega);rw[c.at_ i d,zt ns f,a.id,k.id];unfold GA;rw[a.id,k.id];have:=h.e b a.lt;have:=h.e l k.lt;have:=zu ns E b (Ae (ae ns i) w);have:=zu ns E l (tj (ae ns i).k (ae ns i).op);simp only[ay];omega
 unfold prE;by_cases y:(ae ns i).k=28
 ·rw[ab y];exact v _ _ (by show 5<=100;omega) (by omega)
 rw[aa y];by_cases A:(ae ns i).k=29
 ·rw[ab A];exact v _ _ (by show 4<=100;omega) (by omega)
 rw[aa A];by_cases o:(ae ns i).k=31
 ·rw[ab o];have:=Dj ((mF j).2.2 o);exact v _ _ (by simp only[ay];show 1+_+1<=_;omega) (by omega)
 rw[aa o];by_cases B:(ae ns i).k=30
 ·rw[ab B];obtain⟨f,_,_⟩:=oa j;obtain⟨b,a⟩:=g 0 (by omega);rw[c.at_ i d,qG ns f,a.id];unfold unB;rw[a.id];have:=h.e b a.lt;have:=zu ns E b 11;have:=ajt ns (ae ns i);simp only[ay];omega
 rw[aa B];by_cases C:(ae ns i).k=32
 ·rw[ab C];obtain⟨f,_,_⟩:=mF j;obtain⟨b,a⟩:=g 0 (by omega);obtain⟨l,k⟩:=g 1 (by omega);rw[c.at_ i d,zt ns f,a.id,k.id];have:=h.e b a.lt;have:=h.e l k.lt;have:=Hh ns E b;simp only[ay];show _+1+_+1+_<=_;omega
 rw[aa C];by_cases F:(ae ns i).k=33
 ·rw[ab F];obtain⟨f,_,_⟩:=oa j;obtain⟨b,a⟩:=g 0 (by omega);rw[c.at_ i d,qG ns f,a.id];have:=h.e b a.lt;have:=Hh ns E b;simp only[ay];show _+(1+_)+_<=_;omega
 rw[aa F];by_cases p:(ae ns i).k=34
 ·rw[ab p];obtain⟨f,_⟩:=Hf j p;obtain⟨b,a⟩:=g 0 (by omega);rw[c.at_ i d,ajs ns (by omega),a.id];have:=h.e b a.lt;have:=Hh ns E b;have:=sH ns E ((ae ns i).ks.drop 1) (fun H u=>(h.kid c (ag _) d H (List.mem_of_mem_drop u)).1);simp only[ay];show _+1+_+1+_<=_;omega
 rw[aa p];by_cases q:(ae ns i).k=35
 ·rw[ab q];unfold afx;have f:=Dd j q;have:=sH ns (fun ad=>Ay ns E (ae ns ad)) (ae ns i).ks (fun H u=>by
   obtain⟨m,s,rfl⟩:=oy u;obtain⟨ak,t⟩:=g m s;have G:=ab4 _ 0 f m (by omega) (by omega);rw[t.id]at G⊢;exact agz h c (gq t.lt) t.len G)
  rw[c.at_ i d];simp only[ay];show 1+_+1+_<=_;omega
 rw[aa q];by_cases r:(ae ns i).k=36
 ·rw[ab r];have:=h.bod c K (ag _) d r;simp only[ay];show 2+_+_<=_;omega
 rw[aa r];by_cases z:(ae ns i).k=37
 ·rw[ab z];obtain⟨f,_,_⟩:=oa j;obtain⟨b,a⟩:=g 0 (by omega);rw[c.at_ i d,qG ns f,a.id,vB];have:=h.e b a.lt;omega
 rw[aa z];have:=agx (ae ns i) L J;rw[c.at_ i d];omega
theorem adD(h:SzE ns E S i tab)(a:Szd ns)(m:tab<=9000)(e:i<ns.length)(s:(ae ns i).k=7)
  (q:∀(z:Nat)(w:ByteArray),z<i->(ae ns z).k=7->w.size<=10->(Br z w).size+10000<=2000000*sN ns z) (n:ByteArray) (G:n.size<=10):(Cz ns E S Br (ae ns i) n tab).size+10000<=2000000*sN ns i:=by
 have t:=(jC (a.nb i e)).1;have j:=fun u r=>gB (a.nb i e) e u r;obtain⟨A,B,C,F,p⟩:=agu t s;obtain⟨o,c⟩:=j 0 (by omega);obtain⟨v,b⟩:=j 1 (by omega);have x:=h.e o c.lt;have y:=h.blk a m (gq b.lt) b.len;unfold Cz;rw[c.id,b.id,a.at_ i e];simp only[ay];rcases bj (ae ns i).ks.length 3 with g|g
 ·rw[ab g,zt ns (by omega),c.id,b.id];show _+_+1+_+0+_<=_;omega
 ·rw[aa (by omega),agw ns (by omega),c.id,b.id];obtain⟨l,d⟩:=j 2 (by omega);rw[d.id]at p⊢;by_cases f:(ae ns l).k=7
  ·rw[ab f];have:=q l ⟨#[32,101,108,105,102,32]⟩ d.lt f (by show 6<=10;omega);show _+_+1+_+_+_<=_;omega
  ·rw[aa f];have:=h.blk a m (gq d.lt) d.len;rw[ay];show _+_+1+_+(6+_)+_<=_;omega
theorem agB(h:oF ns N=Q):(nm0 N).size<=4000:=by
 unfold nm0;rw[be];cases e:N.nm[0]? with
 |none=>show 0<=4000;omega
 |some a=>exact rE h a (cH e)
theorem agC(h:SzE ns E S i tab)(a:Szd ns)(q:tab<=9000)(c:i<ns.length)
  (ad:(ae ns i).k=7->(Br (-1) ⟨#[105,102,32]⟩).size+10000<=2000000*sN ns i):(prS ns E S Br (ae ns i) tab).size+10000<=2000000*sN ns i:=by
 have f:=(jC (a.nb i c)).1;have m:=fun al af=>gB (a.nb i c) c al af;have s:=fun p o=>(h.kid a (ag _) c p o).1;have nm0:=agB f;have an:=yv (ae ns i).nm (rE f);unfold prS;by_cases C:(ae ns i).k=1
 ·rw[ab C];have:=h.blk a q (ag _) c;omega
 rw[aa C];by_cases v:(ae ns i).k=2
 ·rw[ab v,a.at_ i c];obtain⟨d,j⟩:=aai f v;have:=sH ns E (ae ns i).ks s;simp only[ay];split
  ·show 4+_+0+_<=_;omega
  ·rw[ay];show 4+_+(3+_)+_<=_;omega
 rw[aa v];by_cases w:(ae ns i).k=3
 ·rw[ab w,a.at_ i c];obtain⟨d,j,r⟩:=Df f w;obtain⟨g,b⟩:=m 0 (by omega);rw[qG ns d,b.id];have:=h.e g b.lt;simp only[ay];show 6+_+3+_+_<=_;omega
 rw[aa w];by_cases x:(ae ns i).k=4
 ·rw[ab x,a.at_ i c];obtain⟨d,j,r⟩:=aaj f x;obtain⟨g,b⟩:=m 0 (by omega);rw[qG ns d];rw[b.id]at j⊢;have:=h.bod a q (gq b.lt) b.len j;simp only[ay];show 3+_+_+_<=_;omega
 rw[aa x];by_cases J:(ae ns i).k=5
 ·rw[ab J,a.at_ i c,De ns (ae ns i).ks (ae ns i).n.toNat];have:=sH ns E ((ae ns i).ks.take (ae ns i).n.toNat) (fun p o=>s p (Bb o));have:=sH ns E ((ae ns i).ks.drop (ae ns i).n.toNat) (fun p o=>s p (List.mem_of_mem_drop o));simp only[ay];show _+3+_+_<=_;omega
 rw[aa J];by_cases K:(ae ns i).k=6
 ·rw[ab K,a.at_ i c];obtain⟨d,j⟩:=E4 f (by omega);obtain⟨g,b⟩:=m 0 (by omega);rw[qG ns d,b.id];have:=h.e g b.lt;omega
 rw[aa K];by_cases y:(ae ns i).k=7
 ·rw[ab y];exact ad y
 rw[aa y];by_cases z:(ae ns i).k=8
 ·rw[ab z,a.at_ i c];obtain⟨d,j,r⟩:=Dg f z;obtain⟨g,b⟩:=m 0 (by omega);obtain⟨B,l⟩:=m 1 (by omega);rw[zt ns d,b.id,l.id];have:=h.e g b.lt;have:=h.blk a q (gq l.lt) l.len;simp only[ay];show 6+_+1+_+_<=_;omega
 rw[aa z];by_cases A:(ae ns i).k=9\/(ae ns i).k=10
 ·rw[ab A,a.at_ i c];have ak:0<(ae ns i).ks.length/\(ae ns i).nm.length<=200:=by
   rcases A with e|e
   ·obtain⟨d,j,r,L⟩:=aak f e;omega
   ·obtain⟨d,j,r,L⟩:=Hg f e;omega
  obtain⟨B,l⟩:=m ((ae ns i).ks.length-1) (by omega);rw[ajr ns ak.1,l.id];have:=sH ns E ((ae ns i).ks.take ((ae ns i).ks.length-1)) (fun p o=>s p (Bb o));have:=h.blk a q (gq l.lt) l.len;have am:(if(ae ns i).k=9 then(⟨#[32,61,32]⟩:ByteArray) else⟨#[32,105,110,32]⟩).size<=4:=by
   split
   ·show 3<=4;omega
   ·show 4<=4;omega
  simp only[ay];show 4+_+_+_+1+_+_<=_;omega
 rw[aa A];by_cases F:(ae ns i).k=11
 ·rw[ab F,a.at_ i c];show 5+_<=_;omega
 rw[aa F];by_cases G:(ae ns i).k=12
 ·rw[ab G,a.at_ i c];show 4+_<=_;omega
 rw[aa G];by_cases H:(ae ns i).k=13
 ·rw[ab H,a.at_ i c];have:=sH ns E (ae ns i).ks s;simp only[ay];split
  ·show 6+0+_<=_;omega
  ·rw[ay];show 6+(1+_)+_<=_;omega
 rw[aa H];by_cases t:(ae ns i).k=14
 ·rw[ab t,a.at_ i c];obtain⟨d,j,r,L⟩:=aal f t;obtain⟨g,b⟩:=m 0 (by omega);obtain⟨B,l⟩:=m 1 (by omega);rw[zt ns d,b.id,l.id];have:=h.blk a q (gq b.lt) b.len;have:=h.blk a q (gq l.lt) l.len;simp only[ay];show 4+_+7+_+1+_+_<=_;omega
 rw[aa t];by_cases u:(ae ns i).k=15
 ·rw[ab u,a.at_ i c];obtain⟨d,j⟩:=Dh f u;obtain⟨g,b⟩:=m 0 (by omega);rw[qG ns d,b.id];have:=h.e g b.lt;simp only[ay];show 6+_+_<=_;omega
 rw[aa u];by_cases I:(ae ns i).k=16
 ·rw[ab I,a.at_ i c];obtain⟨d,j⟩:=E4 f (by omega);obtain⟨g,b⟩:=m 0 (by omega);rw[qG ns d,b.id];have:=h.e g b.lt;simp only[ay];show 6+_+_<=_;omega
 rw[aa I,a.at_ i c];show 0+_<=_;omega
theorem ab6(e:Szd ns)(o:∀i:Int,(ae ns i).n<=9223372036854775807):∀(f i tab:Nat),i<ns.length->tab+f<=8000->
  (rI ns f i tab).size+10000<=2000000*sN ns i/\(rJ ns f i tab).size+10000<=2000000*sN ns i/\((ae ns i).k=7->∀w:ByteArray,w.size<=10->(yk ns f i w tab).size+10000<=2000000*sN ns i)
 |0,i,tab,g,q=>by
  have:=e.at_ i g;refine⟨?_,?_,fun _ w _=>?_⟩;all_goals (first|(rw[rI];show 0+_<=_;omega)|(rw[rJ];show 0+_<=_;omega)|(rw[yk];show 0+_<=_;omega))
 |f+1,i,tab,g,q=>by
  have j:=fun (a d:Nat) (c:a<i) (p:d+f<=8000)=>ab6 e o f a d (by omega) p;have l:SzE ns (fun k=>rI ns f k tab) (fun k d=>rJ ns f k d) i tab:=⟨fun a c=>(j a tab c (by omega)).1,fun a c=>(j a (tab+1) c (by omega)).2.1⟩;have m:(ae ns i).k=7->∀w:ByteArray,w.size<=10->(Cz ns (fun k=>rI ns f k tab) (fun k d=>rJ ns f k d) (fun k w=>yk ns f k w tab) (ae ns i) w tab).size+10000<=2000000*sN ns i:=fun b w h=>
   adD l e (by omega) g b (fun a w c b h=>(j a tab c (by omega)).2.2 b w h) w h
  refine⟨?_,?_,?_⟩
  ·rw[rI];exact agA l e (by omega) g (o _)
  ·rw[rJ];exact agC l e (by omega) g (fun b=>m b _ (by show 3<=10;omega))
  ·intro b w h;rw[yk];exact m b w h
theorem aam(b:Szd ns)(j:∀i:Int,(ae ns i).n<=9223372036854775807)(s:ns.length<=3000)(o:0<ns.length):(lh ns).size<=6000000000:=by
 unfold lh;rw[E3,List.map_map];have e:((ns.length:Int)-1)=((ns.length-1:Nat):Int):=by omega
 rw[e];have h:∀a∈(ae ns ((ns.length-1:Nat):Int)).ks,(rJ ns ns.length a 0).size+10000<=2000000*sN ns a:=by
  intro a d;obtain⟨k,g,rfl⟩:=oy d;obtain⟨m,c⟩:=gB (b.nb _ (by omega)) (by omega) k g;rw[c.id];exact(ab6 b j ns.length m 0 c.len (by omega)).2.1
 have p:=aah ns (fun a=>(rJ ns ns.length a 0).size) 1 _ h (by omega);have q:=b.at_ (ns.length-1) (by omega);have r:=b.le ((ns.length-1:Nat):Int);have f:((ae ns ((ns.length-1:Nat):Int)).ks.map (ByteArray.size ∘ fun l=>rJ ns ns.length l 0++⟨#[10]⟩))=(ae ns ((ns.length-1:Nat):Int)).ks.map fun a=>(rJ ns ns.length a 0).size+1:=by
  apply List.map_congr_left;intro a d;simp only[Function.comp];rw[ay];rfl
 rw[f];omega
