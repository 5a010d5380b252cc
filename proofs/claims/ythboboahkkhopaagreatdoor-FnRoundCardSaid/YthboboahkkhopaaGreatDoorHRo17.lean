import Derived.Test.YthboboahkkhopaaGreatDoorHRo15
import Derived.Test.YthboboahkkhopaaGreatDoorHRo14
set_option linter.all false
set_option maxRecDepth 100000
set_option maxHeartbeats 25600000
open Go.Proofs.Tryz
open Bool renaming false->M,true->Y
open Option renaming some->O,none->X
open Go.IntKind renaming i64->Q
open Go.Value renaming int->U,slice->V,agg->A9,int->Br,bool->B1
open Go renaming Value->Z,World->Ax,Calls->B0,TypeId->B2
open Go.Proofs.Tryz renaming prog->A0
open Go.RowKit renaming intOf->A2
open List renaming replicate->A5
namespace Go.Proofs.YthboboahkkhopaaGreatDoor
open Go.RowKit Go.Maps Go.WideMaps
variable{W:World}{b:Nat}{c n:Int}{ns:List Nd}
def stB(ns:List Nd)(N:Nd):Bool:=
 if N.k=1 then(Ei ns N N.ks.length 0&&aL N M M M M)
 else if N.k=2 then(aL N M M M Y&&fj N 1 200&&jF ns N N.ks.length 0)
 else if N.k=3 then(aL N M M M Y&&fj N 1 1&&((N.ks.length:Int)==1)&&jF ns N 1 0)
 else if N.k=4 then(aL N M M M Y&&fj N 1 1&&((N.ks.length:Int)==1)&&(dK ns N 0==36))
 else if N.k=5 then(aL N M Y M M&&(decide (1<=N.n/\N.n<(N.ks.length:Int))&&(BD ns N N.n.toNat 0&&jF ns N (N.ks.length-N.n.toNat) N.n.toNat)))
 else if N.k=6 then(aL N M M M M&&((N.ks.length:Int)==1)&&(dK ns N 0==34))
 else if N.k=7 then(aL N M M M M&&(decide (2<=N.ks.length/\N.ks.length<=3)&&(jF ns N 1 0&&(!(dK ns N 1 !=1)&&((N.ks.length:Int)==2||(dK ns N 2==1||dK ns N 2==7))))))
 else if N.k=8 then(aL N M M M M&&((N.ks.length:Int)==2)&&jF ns N 1 0&&(dK ns N 1==1))
 else if N.k=9 then(aL N M M M Y&&(fj N 1 1&&(((N.ks.length:Int)==3||(N.ks.length:Int)==4)&&(jF ns N (N.ks.length-1) 0&&(dK ns N (N.ks.length-1)==1)))))
 else if N.k=10 then(aL N M M M Y&&fj N 1 200&&((N.ks.length:Int)==2)&&jF ns N 1 0&&(dK ns N 1==1))
 else if N.k=11 then(aL N M M M M&&((N.ks.length:Int)==0))
 else if N.k=12 then(aL N M M M M&&((N.ks.length:Int)==0))
 else if N.k=13 then(aL N M M M M&&jF ns N N.ks.length 0)
 else if N.k=14 then(aL N M M M Y&&fj N 1 2&&((N.ks.length:Int)==2)&&(dK ns N 0==1)&&(dK ns N 1==1))
 else if N.k=15 then(aL N M M M M&&((N.ks.length:Int)==1)&&jF ns N 1 0)
 else if N.k=16 then(aL N M M M M&&((N.ks.length:Int)==1)&&(dK ns N 0==34))
 else M
def aol{w:Ax}{z:Z}{N:Nd}{y v:Z}(A:NArg w z ns N y v)(hK:N.k=3\/N.k=8\/N.k=11\/N.k=12\/N.k=2\/N.k=4\/N.k=6\/N.k=16\/N.k=10\/N.k=13\/N.k=14\/N.k=15):
  B0 A0 84 #[A9 #[z],jG N y v] w (gy w (B1 (stB ns N))):=by
 obtain⟨C,G,rfl⟩:=A.t.form;obtain⟨E,H,rfl⟩:=A.n.form;obtain⟨F,I,rfl⟩:=A.k.form;have a:=St.start A;have B:Hid (N.x.size<=1100000):=di A.lx (by decide);clear A;rcases hK with hK|hK|hK|hK|hK|hK|hK|hK|hK|hK|hK|hK;all_goals
  unfold stB;simp only[hK,reduceIte,Int.reduceEq];have K:=kqf hK;have J:=kqs hK;first
  |(have b:N.k=3:=hK
    clear b hK;cases t0:aL N M M M Y
    case' true=>
     cases t1:fj N 1 1
     case' true=>
      cases t2:((N.ks.length:Int)==1)
      case' true=>
       have c:N.ks.length=1:=by have:=jq t2;omega
       have d:Hid (1<=N.ks.length):=by show _<=_;omega
       have e:Hid (0<N.ks.length):=by show _<_;omega
       clear c;cases t3:jF ns N 1 0)
  |(have b:N.k=8:=hK
    clear b hK;cases t0:aL N M M M M
    case' true=>
     cases t1:((N.ks.length:Int)==2)
     case' true=>
      have c:N.ks.length=2:=by have:=jq t1;omega
      have d:Hid (1<=N.ks.length):=by show _<=_;omega
      have e:Hid (0<N.ks.length):=by show _<_;omega
      have g:Hid (1<N.ks.length):=by show _<_;omega
      clear c;cases t2:jF ns N 1 0
      case' true=>
       cases t3:(dK ns N 1==1))
  |(have b:N.k=11\/N.k=12:=by first|exact .inl hK|exact .inr (hK)
    clear b hK;cases t0:aL N M M M M
    case' true=>
     cases t1:((N.ks.length:Int)==0))
  |(have b:N.k=2:=hK
    clear b hK;cases t0:aL N M M M Y
    case' true=>
     cases t1:fj N 1 200
     case' true=>
      cases t2:jF ns N N.ks.length 0)
  |(have b:N.k=4:=hK
    clear b hK;cases t0:aL N M M M Y
    case' true=>
     cases t1:fj N 1 1
     case' true=>
      cases t2:((N.ks.length:Int)==1)
      case' true=>
       have c:N.ks.length=1:=by have:=jq t2;omega
       have d:Hid (1<=N.ks.length):=by show _<=_;omega
       have e:Hid (0<N.ks.length):=by show _<_;omega
       clear c;cases t3:(dK ns N 0==36))
  |(have b:N.k=6\/N.k=16:=by first|exact .inl hK|exact .inr (hK)
    clear b hK;cases t0:aL N M M M M
    case' true=>
     cases t1:((N.ks.length:Int)==1)
     case' true=>
      have c:N.ks.length=1:=by have:=jq t1;omega
      have d:Hid (1<=N.ks.length):=by show _<=_;omega
      have e:Hid (0<N.ks.length):=by show _<_;omega
      clear c;cases t2:(dK ns N 0==34))
  |(have b:N.k=10:=hK
    clear b hK;cases t0:aL N M M M Y
    case' true=>
     cases t1:fj N 1 200
     case' true=>
      cases t2:((N.ks.length:Int)==2)
      case' true=>
       have c:N.ks.length=2:=by have:=jq t2;omega
       have d:Hid (1<=N.ks.length):=by show _<=_;omega
       have e:Hid (0<N.ks.length):=by show _<_;omega
       have g:Hid (1<N.ks.length):=by show _<_;omega
       clear c;cases t3:jF ns N 1 0
       case' true=>
        cases t4:(dK ns N 1==1))
  |(have b:N.k=13:=hK
    clear b hK;cases t0:aL N M M M M
    case' true=>
     cases t1:jF ns N N.ks.length 0)
  |(have b:N.k=14:=hK
    clear b hK;cases t0:aL N M M M Y
    case' true=>
     cases t1:fj N 1 2
     case' true=>
      cases t2:((N.ks.length:Int)==2)
      case' true=>
       have c:N.ks.length=2:=by have:=jq t2;omega
       have d:Hid (1<=N.ks.length):=by show _<=_;omega
       have e:Hid (0<N.ks.length):=by show _<_;omega
       have g:Hid (1<N.ks.length):=by show _<_;omega
       clear c;cases t3:(dK ns N 0==1)
       case' true=>
        cases t4:(dK ns N 1==1))
  |(have b:N.k=15:=hK
    clear b hK;cases t0:aL N M M M M
    case' true=>
     cases t1:((N.ks.length:Int)==1)
     case' true=>
      have c:N.ks.length=1:=by have:=jq t1;omega
      have d:Hid (1<=N.ks.length):=by show _<=_;omega
      have e:Hid (0<N.ks.length):=by show _<_;omega
      clear c;cases t2:jF ns N 1 0)
 all_goals
  unfold jG;go_in;go_wp2_with (first|(go_at_call 139;with_reducible refine a.bare λf a=>?_;obtain⟨h,i,j,l,m,o,p,q,r,s⟩:=bu a.bn;have u:=a.bt)|(go_at_call 140;with_reducible refine a.named λf a=>?_;obtain⟨h,i,j,l,m,o,p,q,r,s⟩:=bu a.bn;have u:=a.bt)|(go_at_call 141;(first|with_reducible refine a.ex1 d.out λf a=>?_|with_reducible refine a.ex2 d.out λf a=>?_|with_reducible refine a.exL λf a=>?_);obtain⟨h,i,j,l,m,o,p,q,r,s⟩:=bu a.bn;have u:=a.bt)|(go_at_call 138;(first|with_reducible refine a.kid0 e.out λf a=>?_|with_reducible refine a.kid1 g.out λf a=>?_);obtain⟨h,i,j,l,m,o,p,q,r,s⟩:=bu a.bn;have u:=a.bt));go_ret;exact⟨rfl,a.bel⟩
section
variable {w : World} {vt : Value} {ns : List Nd} {N : Nd} {vn vk : Value} (A : NArg w vt ns N vn vk)
include A
def Ch(h:eA N.k=Y):B0 A0 84 #[A9 #[vt],jG N vn vk] w (gy w (B1 (stB ns N))):=by
 have a:=aG h;rcases(show(N.k=3\/N.k=8\/N.k=11\/N.k=12\/N.k=2\/N.k=4\/N.k=6\/N.k=16\/N.k=10\/N.k=13\/N.k=14\/N.k=15)\/N.k=1\/N.k=5\/N.k=7\/N.k=9 by omega) with hK|hK|hK|hK|hK
 .exact aol A hK
 all_goals
  unfold stB;simp only[hK,reduceIte,Int.reduceEq];first|exact akI A hK|exact akL A hK|exact akF A hK|exact akK A hK
def A3:B0 A0 85 #[A9 #[vt],jG N vn vk] w (gy w (B1 (gh ns N))):=by
 by_cases b:N.k=20\/N.k=21\/N.k=22\/N.k=27\/N.k=23\/N.k=24\/N.k=25\/N.k=26\/N.k=28\/N.k=29\/N.k=41\/N.k=32\/N.k=30\/N.k=31\/N.k=33\/N.k=34\/N.k=40\/N.k=42\/N.k=36\/N.k=37
 .exact aob A b
 by_cases a:N.k=35
 .unfold gh;simp only[a,reduceIte,Int.reduceEq];exact ahq A a
 rw[show gh ns N=M by unfold gh;repeat rw[aa (by omega)]];refine akE A λd c=>?_;simp only[C7,pd,rh,rm]at c;omega
end
def G6(l:List Int)(i:Int):Nat->Nat->Bool
 |0,_=>Y
 |f+1,j=>decide (0<=l.getD j 0/\l.getD j 0<i)&&G6 l i f (j+1)
structure aom (l:List Int) (i:Int) (f j:Nat) (R:Bool):Prop where
 out:G6 l i f j=R
def zw(l:List Int)(i:Int):∀(f j:Nat),G6 l i f j=Y->∀k,j<=k->k<j+f->0<=l.getD k 0/\l.getD k 0<i
 |0,j,_,k,a,b=>by omega
 |f+1,j,h,k,a,b=>by
  rw[G6,ch]at h;rcases jz a with rfl|h3
  .exact aG h.1
  .exact zw l i f (j+1) h.2 k h3 (by omega)
def aon{N:Nd}{i:Nat}(h:G6 N.ks i N.ks.length 0=Y)(d:i<=ns.length):Ay ns N:=by
 refine⟨λe b=>?_⟩;obtain⟨c,a,rfl⟩:=iw b;have:=zw N.ks i N.ks.length 0 h c (by omega) (by omega);rw[aD,az a]at this;simp only[ie]at this;omega
def aak(N:Nd):Bool:=decide (0<=N.f/\N.f<=N.t/\0<=N.l/\N.ks.length<=200)
def lg(ns:List Nd)(N:Nd):Bool:=if eA N.k=Y then stB ns N else gh ns N
def lh(ns:List Nd)(i:Nat)(N:Nd):Bool:=aak N&&(G6 N.ks i N.ks.length 0&&lg ns N)
structure jE (N:Nd):Prop where
 l1:N.nm.length<=1048576
 l2:N.ks.length<=1048576
 lx:N.x.size<=1048576
 ls:∀s∈N.nm,s.size<=1048576
def Je(w:Ax)(an:Z)(ns:List Nd)(i:Nat)(N:Nd)(ht:dy w an ns)(bc:ns.length<=1048576)(n:ns[i]?=O N)(hS:jE N):
  B0 A0 21 #[A9 #[an],U Q i] w (gy w (B1 (lh ns i N))):=by
 obtain⟨bh,I,rfl⟩:=ht.form;obtain⟨al,rfl,bx,bw,a8⟩:=ht.get n;have ba:i<ns.length:=by rcases bI i ns.length with h|h;exact h;rw[jp h]at n;cases n
 have bo:(i:Int)<(ns.length:Int):=by omega
 have bn:(0:Int)<=(i:Int):=by omega
 obtain⟨L,ar,au,av,ax,a0,a4,a5,a6,y,x⟩:=a8;obtain⟨G,J,rfl⟩:=y.form;obtain⟨H,K,rfl⟩:=x.form;have bt:=yG L;have j:=am hS;have m:=mo ht y x;have bs:=hS.l2;clear ht y x hS n;unfold lh;by_cases r:N.f<0\/N.t<N.f\/N.l<0\/(200:Int)<(N.ks.length:Int)
 .rw[show aak N=M from aE (by omega)];go_in;go_wp2;all_goals (go_ret;exact⟨rfl,(If rfl).2.2.1⟩)
 rw[show aak N=Y from aI (by omega)];simp only[not_or]at r;obtain⟨r,bj,bk,bl⟩:=r;have⟨F,hS⟩:=aJ (lg ns N);rw[hS];have E:=am hS;clear hS;have⟨p,s⟩:=aJ (G6 N.ks i N.ks.length 0);rw[s];have C:aom N.ks i N.ks.length 0 p:=⟨s⟩;clear s;go_in;go_wp2_with fail;generalize ad:(w.alloc _).alloc _=q;obtain⟨ak,v,c, -⟩:=If ad;replace ak:q.cell? ⟨w.heap.size,0,X⟩=O (V (O al) ns.length I):=(aj _ _ _ _ _ _ ak).trans rfl;replace v:nA (w.heap.size+1) q 61 N (V G N.nm.length J) (V H N.ks.length K):=v;clear ad;clear L ar au av ax a0 a4 a5 a6;go_loop [7,37] (λ_ B=>∃a:Nat,B= U Q a/\a<=N.ks.length/\aom N.ks i (N.ks.length-a) a p) (λ_ B=>N.ks.length-(A2 B).toNat)
 case atStart=>exact⟨0,rfl,by omega,C⟩
 case round=>
  obtain⟨a,rfl,bp,ap⟩:=hrel;have b:=ap.out;by_cases bd:a<N.ks.length
  .have A:N.ks[a]?=O N.ks[a]:=az bd;obtain⟨bv,rfl,a9⟩:=(m.2.2.below c).get A;rw[show N.ks.length-a=(N.ks.length-(a+1))+1 by omega,G6,aD,A,ie]at b;have bb:(a:Int)<(N.ks.length:Int):=by omega
   have br:(0:Int)<=(a:Int):=by omega
   generalize N.ks[a]=ao at b a9;clear A;by_cases z0:ao<0
   .rw[aE (by omega),fw]at b;have d:=am b;clear b;go_wp2;go_ret;exact⟨by rw[<-d.out];rfl,c⟩
   by_cases b6:(i:Int)<=ao
   .rw[aE (by omega),fw]at b;have d:=am b;clear b;go_wp2;go_ret;exact⟨by rw[<-d.out];rfl,c⟩
   rw[aI (by omega),gE]at b;have d:aom N.ks i (N.ks.length-(a+1)) (a+1) p:=⟨b⟩;clear b;go_wp2;go_round
   case rel=>exact⟨a+1,by go_num,by omega,d⟩
   case measure=>simp[A2];omega
  .rw[show N.ks.length-a=0 by omega,G6]at b;have d:=am b;have bb:¬(a:Int)<(N.ks.length:Int):=by omega
   have z:Ay ns N:=aon (by rw[C.out,<-d.out]) (iA ba);have g:NArg q (V (O al) ns.length I) ns N (V G N.nm.length J) (V H N.ks.length K):=⟨m.1.below c,m.2.1.below c,m.2.2.below c,z,bc,j.l1,j.l2,j.lx,j.ls⟩;have⟨bA,bD,bE,bF,b0,b1,b2,b3,b4,b5⟩:=bu v;have o:=λw=>DK N.k w;clear b;cases hx:eA N.k with
   |true=>
    have e:=Ch g hx;rw[hx]at o;rw[show stB ns N=F by rw[<-E.out];unfold lg;rw[ae hx]]at e;unfold jG at e;clear hx g z;go_wp2_with (first|(go_at_call 83;refine iI (o _) ?_)|(go_at_call 84;refine e.mono ?_;rintro a7 bf ⟨rfl,u⟩));go_ret;exact⟨by rw[<-d.out];rfl,c.trans (u.mono c.size)⟩
   |false=>
    have e:=A3 g;rw[hx]at o;rw[show gh ns N=F by rw[<-E.out];unfold lg;rw[aa (by rw[hx];simp)]]at e;unfold jG at e;clear hx g z;go_wp2_with (first|(go_at_call 83;refine iI (o _) ?_)|(go_at_call 85;refine e.mono ?_;rintro a7 bf ⟨rfl,u⟩));go_ret;exact⟨by rw[<-d.out];rfl,c.trans (u.mono c.size)⟩
def li(p:Nat->Bool):Nat->Nat->Option Nat
 |0,_=>X
 |f+1,j=>if p j=Y then O j else li p f (j+1)
structure Ci (p:Nat->Bool) (f j:Nat) (R:Option Nat):Prop where
 out:li p f j=R
def Er(i:Nat):List Int->List Int->List Int
 |[],D=>D
 |k::r,D=>Er i r (D.set k.toNat (D.getD i 0+1))
def dpN(ns:List Nd):Nat->List Int->List Int
 |0,D=>D
 |m+1,D=>dpN ns m (Er m (ns.getD m xL).ks D)
def F7(ns:List Nd):List Int:=dpN ns ns.length (A5 ns.length 0)
def js(ns:List Nd):Bool:=decide (ns.length=0\/3000<ns.length\/(ns.getD (ns.length-1) xL).k≠1)
def gF(ns:List Nd)(i:Nat):Bool:=!(lh ns i (ns.getD i xL))
def jt(S:List Int)(i:Nat):Bool:=S.getD i 0==0
def ku(D:List Int)(i:Nat):Bool:=decide (100<D.getD i 0)
def tf4:Option Nat->Int×Int
 |some i=>(4,(i:Int))
 |none=>(0,0)
def tf3(S D:List Int)(n:Nat):Option Nat->Int×Int
 |some i=>(3,(i:Int))
 |none=>if S.getD (n-1) 0≠(n:Int) then(3,(n:Int)-1) else tf4 (li (ku D) n 0)
def tf2(S D:List Int)(n:Nat):Option Nat->Int×Int
 |some i=>(2,(i:Int))
 |none=>tf3 S D n (li (jt S) n 0)
def eG(ns:List Nd):Int×Int:=if js ns=Y then(1,0) else tf2 (jj ns) (F7 ns) ns.length (li (gF ns) ns.length 0)
def afq(n:Nat)(D:List Int):Prop:=D.length=n/\∀(j:Nat) z,D[j]?=O z->0<=z/\z<=(n:Int)-1-j
def afq.set{n:Nat}{D:List Int}(h:afq n D)(i b:Nat)(j:i<n)(k:b<i):afq n (D.set b (D.getD i 0+1)):=by
 obtain⟨f,c⟩:=h;refine⟨by simp[f],λe g a=>?_⟩;by_cases d:b=e
 .subst d;rw[List.getElem?_set_self (by omega)]at a;obtain rfl:=bz a;rw[aD,az (by omega)];have:=c i D[i] (az (by omega));simp;omega
 .rw[jK d]at a;exact c e g a
def oh{p:Nat->Bool}:∀{f j:Nat},li p f j=X->∀k,j<=k->k<j+f->p k=M
 |0,j,_,k,a,b=>by omega
 |f+1,j,h,k,a,b=>by
  rw[li]at h;split at h
  .cases h
  .rename_i c;rcases jz a with rfl|g
   .simpa using c
   .exact oh h k g (by omega)
def oA(b:Nat)(W:Ax)(c n:Int):Prop:=W.heap[b]?=O (.cells #[U Q c,U Q n] 29 (0,0))
def pz(h:oA b W c n):W.cell? ⟨b,0,X⟩=O (U Q c)/\W.cell? ⟨b,1,X⟩=O (U Q n)/\∀j,W.frozen? ⟨b,j,X⟩=M:=by
 unfold oA at h;exact⟨by rw[aj _ _ _ _ _ _ h];rfl,by rw[aj _ _ _ _ _ _ h];rfl,λj=>cC _ _ _ _ _ h⟩
def ym(h:oA b W c n)(a n2:Int):oA b ((W.setCell ⟨b,0,X⟩ (U Q a)).setCell ⟨b,1,X⟩ (U Q n2)) a n2:=bg _ b 1 _ _ _ (bg _ b 0 _ _ _ h)
def oA.below{a:Ax}(h:oA b W c n)(d:be W a):oA b a c n:=(d.block _ (ai h)).trans h
def aal(w:Ax)(v:Z)(ns:List Nd)(h:dy w v ns)(q:ns.length<=1048576)(y:js ns=Y):
  B0 A0 8 #[A9 #[v]] w (gy w (A9 #[U Q 1,U Q 0])):=by
 obtain⟨E,F,rfl⟩:=h.form;have f:∀b c,be w ((w.alloc b).alloc c):=λb c=>((ah _ w).alloc (af _) b).alloc (by simp) c;have m:∀b (d:Array Z) (g:B2),((w.alloc b).alloc (.cells d g)).heap[w.heap.size+1]?=O (.cells d g (0,0)):=λb d g=>by
  have:=aB (w.alloc b) (.cells d g);rw[dm]at this;exact this
 have z:=aG y;by_cases l:ns.length=0
 .rw[l];go_in;go_wp2;exact bH (iF rfl _ _ (w.heap.size+1) _ _ _ _ rfl (m _ _ _) underlying29 rfl (by kernel_rfl)) rfl ⟨rfl,f _ _⟩
 by_cases o:3000<ns.length
 .have u:(3000:Int)<(ns.length:Int):=by omega
  have t:¬(ns.length:Int)=0:=by omega
  generalize ns.length=n at t u q⊢;go_in;go_wp2;exact bH (iF rfl _ _ (w.heap.size+1) _ _ _ _ rfl (m _ _ _) underlying29 rfl (by kernel_rfl)) rfl ⟨rfl,f _ _⟩
 .have x:(ns.getD (ns.length-1) xL).k≠1:=by rcases z with e|e|e;exact absurd e l;exact absurd e o;exact e
  have r:ns.length-1<ns.length:=by omega
  obtain⟨i,p⟩:∃i,ns[ns.length-1]?=O i:=⟨_,az r⟩;rw[aD,p,ie]at x;obtain⟨s,rfl,ao,an,A⟩:=h.get p;have j:=A.c0;have⟨n,C⟩:=aJ ns.length;rw[C]at j l o q r⊢;obtain⟨a,B⟩:∃a:Nat,n=a+1:=⟨n-1,by omega⟩;subst B;rw[re]at j;have I:((a+1:Nat):Int)-1=(a:Int):=by omega
  have L:¬((a+1:Nat):Int)=0:=by omega
  have ad:¬(3000:Int)<((a+1:Nat):Int):=by omega
  have ak:(a:Int)<((a+1:Nat):Int):=by omega
  have K:(0:Int)<=(a:Int):=by omega
  have G:(((a:Int)+1)==0)=M:=by rw[eJ];omega
  have H:decide ((3000:Int)<(a:Int)+1)=M:=aE (by omega);have al:(a:Int)<(a:Int)+1:=by omega
  have J:∀b c,((w.alloc b).alloc c).cell? (s.add (a*9))=O (U Q i.k):=λb c=>ag (f b c) j;go_in;go_wp2;exact bH (iF rfl _ _ (w.heap.size+1) _ _ _ _ rfl (m _ _ _) underlying29 rfl (by kernel_rfl)) rfl ⟨rfl,f _ _⟩
structure aam (w:Ax) (v:Z) (W:Ax):Prop where
 tb:W.heap[w.heap.size]?=O (.cells #[v] 25 (0,0))
 fb:oA (w.heap.size+1) W 0 0
 bl:be w W
def aam.below{w:Ax}{v:Z}{b:Ax}(h:aam w v W)(a:be W b):aam w v b:=
 ⟨(a.block _ (ai h.tb)).trans h.tb,h.fb.below a,h.bl.trans (a.mono h.bl.size)⟩
structure aoo (w:Ax) (v:Z) (gd n:Nat) (ns:List Nd) (t:Nat) (D:List Int) (W:Ax):Prop where
 tk:aam w v W
 row:W.ownsRow w.heap.size 3 1 (.slice (O ⟨gd,0,X⟩) n n) n (D.map (Br .i64))
 ok:afq n D
 rest:dpN ns t D=F7 ns
structure aop (w:Ax) (v:Z) (gd n t:Nat) (ks D:List Int) (j:Nat) (E:List Int) (W:Ax):Prop where
 tk:aam w v W
 row:W.ownsRow w.heap.size 3 1 (.slice (O ⟨gd,0,X⟩) n n) n (E.map (Br .i64))
 ok:afq n E
 rest:Er t (ks.drop j) E=Er t ks D
def eI{v:Z}{t:B2}(h:W.heap[b]?=O (.cells #[v] t (0,0))):W.cell? ⟨b,0,X⟩=O v:=by
 rw[aj _ _ _ _ _ _ h];rfl
def aan(w:Ax)(v:Z)(ns:List Nd)(h:dy w v ns)(eo:ns.length<=1048576)(dd:∀N∈ns,jE N)(b1:js ns=M):
  B0 A0 8 #[A9 #[v]] w (gy w (A9 #[U Q (eG ns).1,U Q (eG ns).2])):=by
 obtain⟨fd,x,rfl⟩:=h.form;have bk:=mh b1;have G:=mo h dd b1;have cv:¬ns.length=0:=λI=>bk (.inl I);have ec:¬3000<ns.length:=λI=>bk (.inr (.inl I));have bD:(ns.getD (ns.length-1) xL).k=1:=by
  by_cases a7:(ns.getD (ns.length-1) xL).k=1
  .exact a7
  .exact absurd (.inr (.inr a7)) bk
 obtain⟨N,C⟩:∃N,ns[ns.length-1]?=O N:=⟨_,az (by omega)⟩;rw[aD,C,ie]at bD;obtain⟨r,rfl,gi,ge,cF⟩:=h.get C;have a6:=cF.c0;rw[bD]at a6;have eh:∀ar z,be w ((w.alloc ar).alloc z):=λar z=>((ah _ w).alloc (af _) ar).alloc (by simp) z;obtain⟨ap,b6⟩:=aJ ns.length;obtain⟨A,hF⟩:=aJ (eG ns);have n:=iK b6 hF;rw[hF];rw[b6]at G a6 cv ec⊢;obtain⟨a,ev⟩:∃a:Nat,ap=a+1:=⟨ap-1,by omega⟩;have c9:ap-1=a:=by omega
 rw[c9]at a6;have dc:(0:Int)<=(a:Int):=by omega
 have e4:¬(ap:Int)=0:=by omega
 have e5:¬(3000:Int)<(ap:Int):=by omega
 have e6:(a:Int)<(ap:Int):=by omega
 have e7:(ap:Int)-1=(a:Int):=by omega
 have fo:(((a:Int)+1)==0)=M:=by rw[eJ];omega
 have fr:decide ((3000:Int)<(a:Int)+1)=M:=aE (by omega);have gb:(a:Int)<(a:Int)+1:=by omega
 have ei:∀ar z,((w.alloc ar).alloc z).cell? (r.add (a*9))=O (U Q 1):=λar z=>ag (eh ar z) a6;clear h b1 bk cv bD C cF b6 eo dd hF c9 a6 e4 e5 e6 e7;subst ev;go_in;go_wp2_with fail;generalize cy:(w.alloc _).alloc _=d4;obtain⟨cu,ce,cd, -⟩:=If cy;have df:aam w (V (O r) (a+1) x) d4:=⟨cu,ce,cd⟩;clear cy;obtain⟨bw,bF⟩:=aJ (li (gF ns) (a+1) 0);have bt:=am bF;have cl:Ci (gF ns) (a+1-0) 0 bw:=⟨bF⟩;clear bF cu ce cd ei;go_loopw [39] (λi wr=>∃b:Nat,b<=a+1/\i= U Q b/\Ci (gF ns) (a+1-b) b bw/\aam w (V (O r) (a+1) x) wr) (λi _=>a+1-(A2 i).toNat)
 case atStart=>exact⟨0,aH _,rfl,cl,df⟩
 case round=>
  obtain⟨b,c3,rfl,l,u⟩:=hrel;clear df cl;have c:=l.out;by_cases eq:b<a+1
  .obtain⟨bd,a8⟩:=cA n.1 eq;have c7:(b:Int)<(a:Int)+1:=by omega
   have c6:(0:Int)<=(b:Int):=by omega
   have br:=Je wr (V (O r) (a+1) x) ns b bd (G.1.below u.bl) (by rw[n.out.1];omega) a8 (G.2.1 bd (cG a8));have ax:=eI u.tb;obtain⟨ad,al,an⟩:=pz u.fb;rw[show a+1-b=(a+1-(b+1))+1 by omega,li]at c;have y:gF ns b=!(lh ns b bd):=by unfold gF;rw[aD,a8];rfl
   rw[y]at c;have bc:=am u;cases hx:lh ns b bd with
   |true=>
    rw[hx]at br c;rw[aa (by decide)]at c;have ba:Ci (gF ns) (a+1-(b+1)) (b+1) bw:=⟨c⟩;clear c hx y a8 u l ad al an;go_wp2_with (go_at_call 21;refine br.mono ?_;rintro I K ⟨rfl,ao⟩);exact⟨⟨b+1,by omega,by go_num,ba,bc.below ao⟩,by simp[A2];omega⟩
   |false=>
    rw[hx]at br c;rw[ae (by decide)]at c;have F:Hid (A=(2,(b:Int))):=by
     show A=(2,(b:Int));rw[<-n.out.2];unfold eG;rw[G.out.2.2,aa (by decide),n.out.1,bt.out,<-c];rfl
    clear c hx y a8 u l ad al an;go_wp2_with fail;refine br.mono ?_;rintro I K ⟨rfl,ao⟩;have f:=bc.below ao;obtain⟨ad,al,an⟩:=pz f.fb;have o:=am f;clear f ao;go_wp2_with fail;have f:=o.out;exact bH (iF rfl _ _ (w.heap.size+1) _ _ _ _ rfl (ym f.fb 2 b) underlying29 rfl (by kernel_rfl)) rfl ⟨by rw[F.out],(f.bl.setCell (by simp) _).setCell (by simp) _⟩
  .obtain rfl:b=a+1:=by omega
   rw[fH,li]at c;have dx:=am c.symm;have cB:=oh (show li (gF ns) (a+1) 0=X by rw[bt.out];exact c.symm);have a4:∀(E:Nat) N,ns[E]?=O N->∀g∈N.ks,0<=g/\g<(E:Int):=λE N C g d=>by
    have bo:E<a+1:=by rw[<-n.out.1];exact(List.getElem?_eq_some_iff.1 C).1
    have H:=cB E (aH _) (by omega);unfold gF at H;rw[aD,C,ie]at H;have bE:lh ns E N=Y:=by simpa using H
    unfold lh at bE;have ee:G6 N.ks E N.ks.length 0=Y:=by
     rw[ch,ch]at bE;exact bE.2.1
    obtain⟨m,b9,rfl⟩:=iw d;have:=zw N.ks E N.ks.length 0 ee m (by omega) (by omega);rw[aD,az b9]at this;simpa using this
   have ca:=aai wr (V (O r) (a+1) x) ns (G.1.below u.bl) (by rw[n.out.1];omega) (λN C=>(G.2.1 N C).l2) a4;rw[n.out.1]at ca;have cn:=am a4;have ax:=eI u.tb;have bc:=am u;have eL:=u.bl.size;have f8:w.heap.size+1<wr.heap.size:=ai u.fb;clear c cB a4 u l;go_wp2_with fail;refine ca.mono ?_;rintro I K ⟨a7,rfl,b7,ao⟩;have f:=bc.below ao;obtain⟨p,hS⟩:=aJ (jj ns);have cx:p.length=a+1:=by rw[<-hS,my,n.out.1]
   rw[hS]at b7;have cp:Hid (jj ns=p/\p.length=a+1/\F6 p):=⟨hS,cx,by rw[<-hS];exact AJ ns (λN C g d=>by
    obtain⟨E,bo,I⟩:=iw C;exact(cn E N (by rw[az bo,I]) g d).1)⟩
   have o:=iK f b7;obtain⟨bf,bj⟩:=aJ (li (jt p) (a+1) 0);have e9:=am bj;have ba:Ci (jt p) (a+1-0) 0 bf:=⟨bj⟩;have bv:Hid (eG ns=tf3 p (F7 ns) (a+1) bf):=by
    show eG ns=_;unfold eG;rw[G.out.2.2,aa (by decide),n.out.1,bt.out,dx.out,hS];show tf3 p (F7 ns) (a+1) (li (jt p) (a+1) 0)=_;rw[bj]
   clear hS cx bj f b7 ao ca ax;go_wp2;go_loop [53] (λi=>∃b:Nat,b<=a+1/\i= U Q b/\Ci (jt p) (a+1-b) b bf) (λi=>a+1-(A2 i).toNat)
   case atStart=>exact⟨0,aH _,rfl,ba⟩
   case round=>
    obtain⟨b,fB,rfl,l⟩:=hrel;clear ba;have c:=l.out;by_cases er:b<a+1
    .have c7:(b:Int)<(a:Int)+1:=by omega
     have c6:(0:Int)<=(b:Int):=by omega
     obtain⟨g,d⟩:=cA cp.2.1 er;have bA:K.cell? ⟨a7,b,X⟩=O (U Q g):=by rw[o.out.2.cellAt b (by omega),ci,d];rfl
     rw[show a+1-b=(a+1-(b+1))+1 by omega,li]at c;have y:jt p b=(g==0):=by unfold jt;rw[aD,d];rfl
     rw[y]at c;by_cases bp:g=0
     .subst bp;rw[ae (by decide)]at c;have F:Hid (A=(3,(b:Int))):=by
       show A=(3,(b:Int));rw[<-n.out.2,bv.out,<-c];rfl
      obtain⟨ad,al,an⟩:=pz o.1.fb;clear c y d l;go_wp2_with fail;have f:=o.1;exact bH (iF rfl _ _ (w.heap.size+1) _ _ _ _ rfl (ym f.fb 3 b) underlying29 rfl (by kernel_rfl)) rfl ⟨by rw[F.out],(f.bl.setCell (by simp) _).setCell (by simp) _⟩
     .rw[aa (by simpa using bp)]at c;have bs:Ci (jt p) (a+1-(b+1)) (b+1) bf:=⟨c⟩;clear c y d l;go_wp2;go_round
      case rel=>exact⟨b+1,by omega,by go_num,bs⟩
      case measure=>simp[A2];omega
    .obtain rfl:b=a+1:=by omega
     rw[fH,li]at c;have d0:=am c.symm;obtain⟨g,d⟩:=cA cp.2.1 (show a<a+1 by omega);have bA:K.cell? ⟨a7,a,X⟩=O (U Q g):=by rw[o.out.2.cellAt a (by omega),ci,d];rfl
     have a1:p.getD a 0=g:=by rw[aD,d];rfl
     have s:=bv.out;rw[d0.out,tf3,re,a1]at s;by_cases e3:g=(a:Int)+1
     .rw[aa (by omega)]at s;have d3:=am s;subst e3;have ax:=eI o.1.tb;clear c s d a1 l;obtain⟨dc,bo,bp,e1,e2⟩:=eu wI;have ey:=o.1.bl.size;go_wp2_with (at_make;refine CG _ rfl _ _ 59 rfl w.heap.size 3 dc (U Q 0) 1 underlying59 bo bp e1 Q Q _ _ (a+1) rfl rfl rfl rfl (by rw[e2];omega) (by unfold maxLen;omega) ey ?_;intro dn b8 a3;have b2:be K dn:=⟨a3.os,a3.tape,a3.output,a3.size,λb c3=>a3.block b c3 (by simp)⟩;have d6:=ag b2 ax);rw[show(madeCells (Br Q 0).cells ((a+1)*1)).toList=A5 (a+1) (Br Q 0) by rw[uf];exact Cy _ _]at b8;have cc:aoo w (V (O r) (a+1) x) K.heap.size (a+1) ns (a+1) (A5 (a+1) 0) dn:=by
       refine⟨o.1.below b2,?_,⟨by simp,λt g d=>?_⟩,?_⟩
       .rw[List.map_replicate];exact b8
       .rw[CC]at d;split at d
        .obtain rfl:=bz d;omega
        .cases d
       .unfold F7;rw[n.out.1]
      have eF:w.heap.size+1<K.heap.size:=ai o.1.fb;clear b8 a3 b2 d6 ax bA;obtain⟨q,a1⟩:=aJ K.heap.size;rw[a1]at cc eF⊢;have cr:=am cc;clear cc a1 o bv;go_loopw [8] (λi wr=>∃(e:Nat) (D:List Int),e<=a+1/\i= U Q ((e:Int)-1)/\Hid (aoo w (V (O r) (a+1) x) q (a+1) ns e D wr)) (λi _=>(A2 i+1).toNat)
      case atStart=>exact⟨a+1,_,af _,by congr 1;omega,cr⟩
      case round=>
       obtain⟨e,D,f5,rfl,k⟩:=hrel;clear cr;cases e with
       |zero=>
        have f2:¬(0:Int)<=((0:Nat):Int)-1:=by omega
        have cw:D=F7 ns:=k.rest;have au:=mo k.tk k.row k.ok.1;have s:=d3.out;rw[<-cw]at s;obtain⟨bx,b0⟩:=aJ (li (ku D) (a+1) 0);rw[b0,n.out.2]at s;have cs:=am s;have cm:Ci (ku D) (a+1-0) 0 bx:=⟨b0⟩;clear s b0 cw k;go_wp2;go_loop [110] (λi=>∃b:Nat,b<=a+1/\i= U Q b/\Ci (ku D) (a+1-b) b bx) (λi=>a+1-(A2 i).toNat)
        case atStart=>exact⟨0,aH _,rfl,cm⟩
        case round=>
         obtain⟨b,fF,rfl,l⟩:=hrel;clear cm;have c:=l.out;by_cases es:b<a+1
         .have c7:(b:Int)<(a:Int)+1:=by omega
          have c6:(0:Int)<=(b:Int):=by omega
          obtain⟨g,d⟩:=cA au.2.2 es;have bA:wr.cell? ⟨q,b,X⟩=O (U Q g):=by rw[au.out.2.1.cellAt b (by omega),ci,d];rfl
          rw[show a+1-b=(a+1-(b+1))+1 by omega,li]at c;have y:ku D b=decide (100<g):=by unfold ku;rw[aD,d];rfl
          rw[y]at c;by_cases da:100<g
          .rw[ae (aI da)]at c;have F:Hid (A=(4,(b:Int))):=by
            show A=(4,(b:Int));rw[cs.out,<-c];rfl
           obtain⟨ad,al,an⟩:=pz au.1.fb;clear c y d l;go_wp2_with fail;have f:=au.1;exact bH (iF rfl _ _ (w.heap.size+1) _ _ _ _ rfl (ym f.fb 4 b) underlying29 rfl (by kernel_rfl)) rfl ⟨by rw[F.out],(f.bl.setCell (by simp) _).setCell (by simp) _⟩
          .rw[aa (by simpa using da)]at c;have bs:Ci (ku D) (a+1-(b+1)) (b+1) bx:=⟨c⟩;clear c y d l;go_wp2;go_round
           case rel=>exact⟨b+1,by omega,by go_num,bs⟩
           case measure=>simp[A2];omega
         .obtain rfl:b=a+1:=by omega
          rw[fH,li]at c;have F:Hid (A=(0,0)):=by
           show A=(0,0);rw[cs.out,<-c];rfl
          obtain⟨ad,al,an⟩:=pz au.1.fb;clear c l;go_wp2_with fail;have f:=au.1;exact bH (iF rfl _ _ (w.heap.size+1) _ _ _ _ rfl (ym f.fb 0 0) underlying29 rfl (by kernel_rfl)) rfl ⟨by rw[F.out],(f.bl.setCell (by simp) _).setCell (by simp) _⟩
       |succ e=>
        have d9:(((e+1:Nat)):Int)-1=(e:Int):=by omega
        rw[d9];have f7:(e:Int)<(a:Int)+1:=by omega
        have f6:(0:Int)<=(e:Int):=by omega
        obtain⟨B,a0⟩:=cA n.1 (show e<a+1 by omega);obtain⟨fg,ef,gj,gf,b3⟩:=G.1.get a0;obtain rfl:=bz ef;have d7:=ag k.tk.bl b3.c8;have a4:=cn.out e B a0;have b5:=b3.hk;obtain⟨d5,d8,rfl⟩:=b5.form;obtain⟨av,bh⟩:=aJ B.ks.length;have ep:=(G.2.1 B (cG a0)).l2;rw[bh]at d7 ep;have en:k.rest=k.rest:=rfl;have a9:dpN ns e (Er e B.ks D)=F7 ns:=by
         have:=k.rest;rw[dpN,aD,a0,ie]at this;exact this
        have bb:=Dl bh a4 a9 a0;have ax:=eI k.tk.tb;have ds:Hid (dh w (V d5 av d8) B.ks):=by rw[<-bh];exact b5
        have cf:Hid (aop w (V (O r) (a+1) x) q (a+1) e B.ks D 0 D wr):=⟨k.tk,k.row,k.ok,rfl⟩;have eL:=k.tk.bl.size;clear a4 b5 a9 b3 a0 bh k en;go_wp2;go_loopw [95] (λi e8=>∃(t:Nat) (L:List Int),t<=av/\i= U Q t/\Hid (aop w (V (O r) (a+1) x) q (a+1) e B.ks D t L e8)) (λi _=>av-(A2 i).toNat)
        case atStart=>exact⟨0,D,aH _,rfl,cf⟩
        case round=>
         obtain⟨t,L,fx,rfl,j⟩:=hrel;clear cf;by_cases el:t<av
         .have fA:(t:Int)<(av:Int):=by omega
          have fz:(0:Int)<=(t:Int):=by omega
          obtain⟨g,d⟩:=cA bb.1 el;obtain⟨fk,eg,fv⟩:=(ds.below j.tk.bl).get d;subst eg;obtain⟨e0,f9⟩:=bb.2.1 g (cG d);obtain⟨m,rfl⟩:=lr e0;have b9:m<e:=by omega
          obtain⟨J,bn⟩:=cA j.ok.1 (show e<a+1 by omega);obtain⟨ea,cI⟩:=cA j.ok.1 (show m<a+1 by omega);have fu:=j.ok.2 e J bn;have a5:=j.row;have fn:wr.cell? ⟨q,e,X⟩=O (U Q J):=by rw[a5.cellAt e (by omega),ci,bn];rfl
          have fm:wr.cell? ⟨q,m,X⟩=O (U Q ea):=by rw[a5.cellAt m (by omega),ci,cI];rfl
          have ft:=a5.frozenAt m;have ek:=(a5.lt q rfl).1;have b4:L.getD e 0=J:=by rw[aD,bn];rfl
          have z:=(a5.stored m (U Q (J+1))).1;rw[<-List.map_set]at z;have cb:=j.ok.set e m (by omega) b9;rw[b4]at cb;have a9:Er e (B.ks.drop (t+1)) (L.set m (J+1))=Er e B.ks D:=by
           have H:=j.rest;have c2:=(List.getElem?_eq_some_iff.1 d);rw[mI c2.1,c2.2,Er,b4]at H;exact H
          have ex:q≠w.heap.size:=by omega
          have ew:q≠w.heap.size+1:=by omega
          have dg:aam w (V (O r) (a+1) x) (wr.setCell ⟨q,m,X⟩ (U Q (J+1))):=
           ⟨(aC _ _ _ _ (ez ex)).trans j.tk.tb,(aC _ _ _ _ (ez ew)).trans j.tk.fb,j.tk.bl.setCell ek _⟩
          have dq:Hid (aop w (V (O r) (a+1) x) q (a+1) e B.ks D (t+1) (L.set m (J+1)) (wr.setCell ⟨q,m,X⟩ (U Q (J+1)))):=⟨dg,z,cb,a9⟩;have f4:(m:Int)<(a:Int)+1:=by omega
          have f3:(0:Int)<=(m:Int):=by omega
          clear d j z cb a9 dg a5 bn cI b4;go_wp2;exact⟨⟨t+1,_,by omega,by go_num,dq⟩,by simp[A2];omega⟩
         .obtain rfl:t=av:=by omega
          have ej:Hid (aoo w (V (O r) (a+1) x) q (a+1) ns e L wr):=by
           refine⟨j.tk,j.row,j.ok,?_⟩;have H:=j.rest;rw[ma (by rw[bb.out.1];exact af _),Er]at H;rw[H];exact bb.2.2.1
          clear j;go_wp2;exact⟨⟨e,L,by omega,rfl,ej⟩,by simp[A2]⟩
     .rw[ae (by omega)]at s;have F:Hid (A=(3,(a:Int))):=by
       show A=(3,(a:Int));rw[<-n.out.2,s]
       congr 1
       omega
      obtain⟨ad,al,an⟩:=pz o.1.fb;clear c s d a1 l;go_wp2_with fail;have f:=o.1;exact bH (iF rfl _ _ (w.heap.size+1) _ _ _ _ rfl (ym f.fb 3 a) underlying29 rfl (by kernel_rfl)) rfl ⟨by rw[F.out],(f.bl.setCell (by simp) _).setCell (by simp) _⟩
def Et(w:Ax)(v:Z)(ns:List Nd)(h:dy w v ns)(a:ns.length<=1048576)(c:∀N∈ns,jE N):
  B0 A0 8 #[A9 #[v]] w (gy w (A9 #[U Q (eG ns).1,U Q (eG ns).2])):=by
 cases hb:js ns with
 |true=>
  have b:eG ns=(1,0):=by unfold eG;rw[ae hb]
  rw[b];exact aal w v ns h a hb
 |false=>exact aan w v ns h a c hb
structure aoq (ns:List Nd):Prop where
 len:1<=ns.length/\ns.length<=3000
 kid:∀(i:Nat) N,ns[i]?=O N->∀z∈N.ks,0<=z/\z<(i:Int)
 kn:∀N∈ns,N.ks.length<=200
def aao{o:Option Nat}(h:(tf4 o).1=0):o=X:=by
 cases o with
 |none=>rfl
 |some a=>simp[tf4]at h
def tB(h:(eG ns).1=0):aoq ns:=by
 unfold eG at h;by_cases i:js ns=Y
 .rw[ae i]at h;exact absurd h (by decide)
 rw[aa i]at h;have q:js ns=M:=by simpa using i
 have k:=mh q;obtain⟨e,j⟩:∃e,li (gF ns) ns.length 0=e:=⟨_,rfl⟩;rw[j]at h;cases e with
 |some a=>rw[tf2]at h;exact absurd h (by simp)
 |none=>
  have p:=oh j;have m:∀(a:Nat) b,ns[a]?=O b->lh ns a b=Y:=λa b d=>by
   have l:a<ns.length:=(List.getElem?_eq_some_iff.1 d).1;have f:=p a (aH _) (by omega);unfold gF at f;rw[aD,d,ie]at f;simpa using f
  refine⟨⟨?_,?_⟩,λa b d u s=>?_,λb d=>?_⟩
  .rcases nK ns.length with g|g
   .exact absurd (.inl g) k
   .exact g
  .rcases bI 3000 ns.length with g|g
   .exact absurd (.inr (.inl g)) k
   .exact g
  .have c:=m a b d;unfold lh at c;have o:G6 b.ks a b.ks.length 0=Y:=by
    rw[ch,ch]at c;exact c.2.1
   obtain⟨t,r,rfl⟩:=iw s;have:=zw b.ks a b.ks.length 0 o t (by omega) (by omega);rw[aD,az r]at this;simpa using this
  .obtain⟨a,l,n⟩:=iw d;have c:=m a b (by rw[az l,n]);unfold lh aak at c;rw[ch]at c;exact(aG c.1).2.2.2
structure TkC (cs:Array Z) (T:Tk) (q:Nat) (l:Int):Prop where
 c0:cs[q*6]?=O (.int .i64 T.k)
 c1:cs[q*6+1]?=O (.int .i64 T.f)
 c2:cs[q*6+2]?=O (.int .i64 T.t)
 c3:cs[q*6+3]?=O (.int .i64 l)
 c4:cs[q*6+4]?=O (.int .i64 T.n)
 c5:cs[q*6+5]?=O (.string T.x)
 hl:T.k≠6->l=T.l
def TkR(cs:Array Z)(tk:Nat->Tk)(n:Nat):Prop:=∀q,q<n->∃l,TkC cs (tk q) q l
structure Pe where
 base:Nat
 pb:Nat
 tb:Nat
 cap:Nat
 n:Nat
 tk:Nat->Tk
abbrev pV(E:Pe):Z:= .pointer (O ⟨E.pb,0,X⟩)
abbrev s0:Z:= V X 0 0
abbrev wo(k:Int)(T:Tk):Array Z:=#[U Q k,U Q T.f,U Q T.t,U Q T.l,U Q T.n,.string T.x]
abbrev Bxs:=List (Nat×B2×Array Z)
section
end
section
def TkW(E:Pe)(a:Nat)(w:Ax):Prop:=w.cell? ⟨E.tb,a*6,X⟩=O (U Q (E.tk a).k)/\w.cell? ⟨E.tb,a*6+1,X⟩=O (U Q (E.tk a).f)/\w.cell? ⟨E.tb,a*6+2,X⟩=O (U Q (E.tk a).t)/\w.cell? ⟨E.tb,a*6+3,X⟩=O (U Q (E.tk a).l)/\w.cell? ⟨E.tb,a*6+4,X⟩=O (U Q (E.tk a).n)/\w.cell? ⟨E.tb,a*6+5,X⟩=O (.string (E.tk a).x)
end
section
end
section
def asv(a b c d e f:Z)(w:Ax):(Instr.field 74 (A9 #[a,b,c,d,e,f]) 0).run A0 w= .ok a w:=by kernel_rfl
section
end
end
section
variable (E : Pe)
end
inductive Ls (E:Pe) (C:Nat->Fo->Nat->Prop):Nat->Nat->Fo->Nat->Prop where
 |stop {k:Nat}:(E.tk k).k≠46->k<E.n->Ls E C 0 k .nil k
 |go {m k k1 j:Nat}{x R:Fo}:(E.tk k).k=46->k<E.n->C (k+1) x k1->Ls E C m k1 R j->Ls E C (m+1) k (x.app R) j
inductive Ss (E:Pe) (C:Nat->Fo->Nat->Prop):Nat->Nat->Fo->Nat->Prop where
 |stop {k:Nat}:k<E.n->Ss E C 0 k .nil k
 |sep {m k j:Nat}{R:Fo}:(E.tk k).k=5->k<E.n->Ss E C m (k+1) R j->Ss E C (m+1) k R j
 |go {m k k1 j:Nat}{x R:Fo}:(E.tk k).k≠5->(E.tk k).k≠6->(E.tk k).k≠43->k<E.n->C k x k1->Ss E C m k1 R j->Ss E C (m+1) k (x.app R) j
inductive Es (E:Pe) (C:Nat->Fo->Nat->Prop):Nat->Nat->Fo->Nat->Prop where
 |stop {k:Nat}:(E.tk k).k=43->k<E.n->Es E C 0 k .nil k
 |com {m k k1 j:Nat}{x R:Fo}:(E.tk k).k≠43->k<E.n->C k x k1->(E.tk k1).k=46->k1<E.n->Es E C m (k1+1) R j->Es E C (m+1) k (x.app R) j
 |last {m k k1 j:Nat}{x R:Fo}:(E.tk k).k≠43->k<E.n->C k x k1->(E.tk k1).k≠46->k1<E.n->Es E C m k1 R j->Es E C (m+1) k (x.app R) j
section
end
