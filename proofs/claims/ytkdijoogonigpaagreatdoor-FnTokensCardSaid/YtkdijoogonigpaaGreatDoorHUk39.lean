import Derived.Test.YtkdijoogonigpaaGreatDoorHUk23
import Derived.Test.YtkdijoogonigpaaGreatDoorHUk24
import Derived.Test.YtkdijoogonigpaaGreatDoorHUk25
import Derived.Test.YtkdijoogonigpaaGreatDoorHUk26
import Derived.Test.YtkdijoogonigpaaGreatDoorHUk27
import Derived.Test.YtkdijoogonigpaaGreatDoorHUk28
import Derived.Test.YtkdijoogonigpaaGreatDoorHUk29
import Derived.Test.YtkdijoogonigpaaGreatDoorHUk30
import Derived.Test.YtkdijoogonigpaaGreatDoorHUk31
import Derived.Test.YtkdijoogonigpaaGreatDoorHUk32
import Derived.Test.YtkdijoogonigpaaGreatDoorHUk33
import Derived.Test.YtkdijoogonigpaaGreatDoorHUk36
set_option linter.all false
set_option maxRecDepth 100000
set_option maxHeartbeats 12800000
open Bool renaming false->M,true->O
open Option renaming some->Q,none->Z
open Go.Value renaming int->T,slice->V,int->B2,string->B3,agg->B6
open Go.IntKind renaming i64->U
open Go renaming World->X,Value->Ax,Calls->B5
open Go.Obj renaming cells->Y
open ByteArray renaming empty->A0
open Go.RowKit renaming Below->A2,intOf->B0,Hid->B4
open Go.Proofs.Tryz renaming prog->Br
open List renaming replicate->B1
namespace Go.Proofs.YtkdijoogonigpaaGreatDoor
open Go.RowKit Go.Maps Go.WideMaps
def yv(ns:List Nd)(N:Nd):Bool:=
 if N.k=1 then(sbB ns N N.ks.length 0&&aA N M M M M)
 else if N.k=2 then(aA N M M M O&&dw N 1 200&&gc ns N N.ks.length 0)
 else if N.k=3 then(aA N M M M O&&dw N 1 1&&((N.ks.length:Int)==1)&&gc ns N 1 0)
 else if N.k=4 then(aA N M M M O&&dw N 1 1&&((N.ks.length:Int)==1)&&(dm ns N 0==36))
 else if N.k=5 then(aA N M O M M&&(decide (1<=N.n/\N.n<(N.ks.length:Int))&&(tgB ns N N.n.toNat 0&&gc ns N (N.ks.length-N.n.toNat) N.n.toNat)))
 else if N.k=6 then(aA N M M M M&&((N.ks.length:Int)==1)&&(dm ns N 0==34))
 else if N.k=7 then(aA N M M M M&&(decide (2<=N.ks.length/\N.ks.length<=3)&&(gc ns N 1 0&&(!(dm ns N 1 !=1)&&((N.ks.length:Int)==2||(dm ns N 2==1||dm ns N 2==7))))))
 else if N.k=8 then(aA N M M M M&&((N.ks.length:Int)==2)&&gc ns N 1 0&&(dm ns N 1==1))
 else if N.k=9 then(aA N M M M O&&(dw N 1 1&&(((N.ks.length:Int)==3||(N.ks.length:Int)==4)&&(gc ns N (N.ks.length-1) 0&&(dm ns N (N.ks.length-1)==1)))))
 else if N.k=10 then(aA N M M M O&&dw N 1 200&&((N.ks.length:Int)==2)&&gc ns N 1 0&&(dm ns N 1==1))
 else if N.k=11 then(aA N M M M M&&((N.ks.length:Int)==0))
 else if N.k=12 then(aA N M M M M&&((N.ks.length:Int)==0))
 else if N.k=13 then(aA N M M M M&&gc ns N N.ks.length 0)
 else if N.k=14 then(aA N M M M O&&dw N 1 2&&((N.ks.length:Int)==2)&&(dm ns N 0==1)&&(dm ns N 1==1))
 else if N.k=15 then(aA N M M M M&&((N.ks.length:Int)==1)&&gc ns N 1 0)
 else if N.k=16 then(aA N M M M M&&((N.ks.length:Int)==1)&&(dm ns N 0==34))
 else M
def mg(ns:List Nd)(N:Nd):Bool:=
 if N.k=20 then(((N.ks.length:Int)==0)&&aA N M M M M)
 else if N.k=21 then(((N.ks.length:Int)==0)&&aA N M M M M)
 else if N.k=22 then(((N.ks.length:Int)==0)&&aA N M M M M)
 else if N.k=27 then(((N.ks.length:Int)==0)&&aA N M M M M)
 else if N.k=23 then(((N.ks.length:Int)==0)&&aA N M O M M)
 else if N.k=24 then(((N.ks.length:Int)==0)&&aA N M M O M&&Bk N.x)
 else if N.k=25 then(((N.ks.length:Int)==0)&&aA N M M O M&&decide ((N.x.size:Int)<=4000))
 else if N.k=26 then(((N.ks.length:Int)==0)&&aA N M M O M&&iu N.x)
 else if N.k=28 then(((N.ks.length:Int)==2)&&gc ns N 2 0&&aA N M M M M)
 else if N.k=29 then(((N.ks.length:Int)==2)&&gc ns N 2 0&&aA N M M M M)
 else if N.k=32 then(((N.ks.length:Int)==2)&&gc ns N 2 0&&(dm ns N 0 !=27)&&aA N M M M M)
 else if N.k=30 then(((N.ks.length:Int)==1)&&gc ns N 1 0&&aA N O M M M&&decide ((19:Int)<=N.op)&&decide (N.op<=22))
 else if N.k=31 then(((N.ks.length:Int)==2)&&gc ns N 2 0&&aA N O M M M&&decide ((1:Int)<=N.op)&&decide (N.op<=18))
 else if N.k=33 then(((N.ks.length:Int)==1)&&gc ns N 1 0&&(dm ns N 0 !=27)&&aA N M M O M&&iu N.x)
 else if N.k=34 then(decide ((1:Int)<=(N.ks.length:Int))&&gc ns N N.ks.length 0&&(dm ns N 0 !=27)&&aA N M M M M)
 else if N.k=35 then(enB ns N N.ks.length 0&&aA N M M M M)
 else if N.k=36 then(((N.ks.length:Int)==1)&&(dm ns N 0==1)&&aA N O M M O&&dw N 0 200&&(N.op==0||N.op==1))
 else if N.k=37 then(((N.ks.length:Int)==1)&&(dm ns N 0==34||dm ns N 0==27)&&aA N M M M M)
 else if N.k=40 then(((N.ks.length:Int)==1)&&gc ns N 1 0&&aA N M M M M)
 else if N.k=41 then(((N.ks.length:Int)==2)&&gc ns N 2 0&&aA N M M M M)
 else if N.k=42 then(((N.ks.length:Int)==1)&&gc ns N 1 0&&aA N M M O M&&iu N.x)
 else M
theorem tL{w:X}{t:Ax}{ns:List Nd}{N:Nd}{vn vk:Ax}(a:ez w t ns N vn vk)(u:jE N.k=O):
  B5 Br 135 #[B6 #[t],cE N vn vk] w fun e v=>e= .returned (.bool (yv ns N))/\A2 w.heap.size w v:=by
 unfold yv;by_cases b:N.k=1
 ·rw[ab b];exact aa9 a b
 rw[aa b];by_cases l:N.k=2
 ·rw[ab l];exact abh a l
 rw[aa l];by_cases m:N.k=3
 ·rw[ab m];exact abf a m
 rw[aa m];by_cases n:N.k=4
 ·rw[ab n];exact abi a n
 rw[aa n];by_cases o:N.k=5
 ·rw[ab o];exact abe a o
 rw[aa o];by_cases p:N.k=6
 ·rw[ab p];exact abj a p
 rw[aa p];by_cases q:N.k=7
 ·rw[ab q];exact abk a q
 rw[aa q];by_cases r:N.k=8
 ·rw[ab r];exact abg a r
 rw[aa r];by_cases s:N.k=9
 ·rw[ab s];exact abm a s
 rw[aa s];by_cases c:N.k=10
 ·rw[ab c];exact J0 a c
 rw[aa c];by_cases d:N.k=11
 ·rw[ab d];exact JJ a d
 rw[aa d];by_cases f:N.k=12
 ·rw[ab f];exact JK a f
 rw[aa f];by_cases g:N.k=13
 ·rw[ab g];exact J1 a g
 rw[aa g];by_cases h:N.k=14
 ·rw[ab h];exact J2 a h
 rw[aa h];by_cases i:N.k=15
 ·rw[ab i];exact J3 a i
 rw[aa i];by_cases j:N.k=16
 ·rw[ab j];exact JL a j
 rw[aa j];exact absurd (aI u) (by omega)
theorem td{w:X}{z:Ax}{ns:List Nd}{N:Nd}{vn vk:Ax}(a:ez w z ns N vn vk):
  B5 Br 136 #[B6 #[z],cE N vn vk] w fun e B=>e= .returned (.bool (mg ns N))/\A2 w.heap.size w B:=by
 unfold mg;by_cases b:N.k=20
 ·rw[ab b];exact Jo a b
 rw[aa b];by_cases c:N.k=21
 ·rw[ab c];exact Jp a c
 rw[aa c];by_cases d:N.k=22
 ·rw[ab d];exact Jq a d
 rw[aa d];by_cases j:N.k=27
 ·rw[ab j];exact Jr a j
 rw[aa j];by_cases f:N.k=23
 ·rw[ab f];exact Js a f
 rw[aa f];by_cases g:N.k=24
 ·rw[ab g];exact Jt a g
 rw[aa g];by_cases h:N.k=25
 ·rw[ab h];exact Ju a h
 rw[aa h];by_cases i:N.k=26
 ·rw[ab i];exact Jv a i
 rw[aa i];by_cases l:N.k=28
 ·rw[ab l];exact Jx a l
 rw[aa l];by_cases m:N.k=29
 ·rw[ab m];exact Jy a m
 rw[aa m];by_cases p:N.k=32
 ·rw[ab p];exact Jz a p
 rw[aa p];by_cases n:N.k=30
 ·rw[ab n];exact JA a n
 rw[aa n];by_cases o:N.k=31
 ·rw[ab o];exact JB a o
 rw[aa o];by_cases q:N.k=33
 ·rw[ab q];exact JC a q
 rw[aa q];by_cases r:N.k=34
 ·rw[ab r];exact JD a r
 rw[aa r];by_cases s:N.k=35
 ·rw[ab s];exact Jg a s
 rw[aa s];by_cases t:N.k=36
 ·rw[ab t];exact JH a t
 rw[aa t];by_cases u:N.k=37
 ·rw[ab u];exact JI a u
 rw[aa u];by_cases v:N.k=40
 ·rw[ab v];exact JE a v
 rw[aa v];by_cases x:N.k=41
 ·rw[ab x];exact JF a x
 rw[aa x];by_cases y:N.k=42
 ·rw[ab y];exact JG a y
 rw[aa y];refine aa8 a fun C A=>?_;simp only[Fw,List.mem_cons,List.not_mem_nil,or_false]at A;omega
def Ks(l:List Int)(i:Int):Nat->Nat->Bool
 |0,_=>O
 |f+1,j=>decide (0<=l.getD j 0/\l.getD j 0<i)&&Ks l i f (j+1)
structure ad5 (l:List Int) (i:Int) (f j:Nat) (R:Bool):Prop where
 out:Ks l i f j=R
theorem rI(l:List Int)(i:Int):∀(f j:Nat),Ks l i f j=O->∀k,j<=k->k<j+f->0<=l.getD k 0/\l.getD k 0<i
 |0,j,_,k,b,c=>by omega
 |f+1,j,a,k,b,c=>by
  rw[Ks,aw]at a;rcases gI b with rfl|h3
  ·exact aI a.1
  ·exact rI l i f (j+1) a.2 k h3 (by omega)
theorem ad6{ns:List Nd}{N:Nd}{i:Nat}(a:Ks N.ks i N.ks.length 0=O)(e:i<=ns.length):sB ns N:=by
 refine⟨fun f c=>?_⟩;obtain⟨d,b,rfl⟩:=gp c;have:=rI N.ks i N.ks.length 0 a d (by omega) (by omega);rw[bF,aF b]at this;simp only[ga]at this;omega
def DI(N:Nd):Bool:=decide (0<=N.f/\N.f<=N.t/\0<=N.l/\N.ks.length<=200)
def pt(ns:List Nd)(N:Nd):Bool:=if jE N.k=O then yv ns N else mg ns N
def iy(ns:List Nd)(i:Nat)(N:Nd):Bool:=DI N&&(Ks N.ks i N.ks.length 0&&pt ns N)
structure rJ (N:Nd):Prop where
 l1:N.nm.length<=1048576
 l2:N.ks.length<=1048576
 lx:N.x.size<=1048576
 ls:∀s∈N.nm,s.size<=1048576
theorem Aj(w:X)(am:Ax)(ns:List Nd)(i:Nat)(N:Nd)(z:bI w am ns)(bo:ns.length<=1048576)(y:ns[i]?=Q N)(hS:rJ N):
  B5 Br 105 #[B6 #[am],T U i] w fun e br=>e= .returned (.bool (iy ns i N))/\A2 w.heap.size w br:=by
 obtain⟨bt,m,rfl⟩:=z.form;obtain⟨r,rfl,b9,b8,bd⟩:=z.get y;have bl:i<ns.length:=by rcases be i ns.length with h|h;exact h;rw[dL h]at y;cases y
 have b2:(i:Int)<(ns.length:Int):=by omega
 have b1:(0:Int)<=(i:Int):=by omega
 obtain⟨ak,a0,a4,a5,a6,a7,a8,a9,bb,G,F⟩:=bd;obtain⟨g,o,rfl⟩:=G.form;obtain⟨j,p,rfl⟩:=F.form;have b:A2 w.heap.size w ((w.alloc (Y #[V (Q r) ns.length m] 76)).alloc (Y #[T U N.k,T U N.f,T U N.t,T U N.l,T U N.op,T U N.n,B3 N.x,V g N.nm.length o,V j N.ks.length p] 96)):=((aq _ w).alloc (ag _) _).alloc (by simp) _;have b6:=ui ak;have u:=ar hS;have v:=gy z G F;have b5:=hS.l2;have bj:((w.alloc (Y #[V (Q r) ns.length m] 76)).alloc (Y #[T U N.k,T U N.f,T U N.t,T U N.l,T U N.op,T U N.n,B3 N.x,V g N.nm.length o,V j N.ks.length p] 96)).cell? ⟨w.heap.size,0,Z⟩=Q (V (Q r) ns.length m):=by
  rw[ay _ _ _ _ _ _ ((cg _ _ _ (by simp)).trans (ax w _))];rfl
 have al:cw (w.heap.size+1) ((w.alloc (Y #[V (Q r) ns.length m] 76)).alloc (Y #[T U N.k,T U N.f,T U N.t,T U N.l,T U N.op,T U N.n,B3 N.x,V g N.nm.length o,V j N.ks.length p] 96)) 96 N (V g N.nm.length o) (V j N.ks.length p):=by
  have:=ax (w.alloc (Y #[V (Q r) ns.length m] 76)) (Y #[T U N.k,T U N.f,T U N.t,T U N.l,T U N.op,T U N.n,B3 N.x,V g N.nm.length o,V j N.ks.length p] 96);rw[dI]at this;exact this
 clear z G F hS y;unfold iy;by_cases bw:N.f<0
 ·rw[show DI N=M from bk (by omega)];go_in;go_wp2;all_goals (go_ret;exact⟨rfl,b⟩)
 by_cases bx:N.t<N.f
 ·rw[show DI N=M from bk (by omega)];go_in;go_wp2;all_goals (go_ret;exact⟨rfl,b⟩)
 by_cases bE:N.l<0
 ·rw[show DI N=M from bk (by omega)];go_in;go_wp2;all_goals (go_ret;exact⟨rfl,b⟩)
 by_cases b0:(200:Int)<(N.ks.length:Int)
 ·rw[show DI N=M from bk (by omega)];go_in;go_wp2;all_goals (go_ret;exact⟨rfl,b⟩)
 rw[show DI N=O from cG (by omega)];obtain⟨af,hS⟩:=aD (pt ns N);rw[hS];have L:=ar hS;clear hS;obtain⟨B,C⟩:=aD (Ks N.ks i N.ks.length 0);rw[C];have K:ad5 N.ks i N.ks.length 0 B:=⟨C⟩;clear C;go_in;go_wp2_with fail;generalize (w.alloc (Y #[V (Q r) ns.length m] 76)).alloc (Y #[T U N.k,T U N.f,T U N.t,T U N.l,T U N.op,T U N.n,B3 N.x,V g N.nm.length o,V j N.ks.length p] 96)=av at b bj al⊢;clear ak a0 a4 a5 a6 a7 a8 a9 bb;go_loop [7,37] (fun _ J=>∃a:Nat,J= T U a/\a<=N.ks.length/\ad5 N.ks i (N.ks.length-a) a B) (fun _ J=>N.ks.length-(B0 J).toNat)
 case atStart=>exact⟨0,rfl,by omega,K⟩
 case round=>
  obtain⟨a,rfl,b3,ap⟩:=hrel;have c:=ap.out;by_cases bp:a<N.ks.length
  ·have I:N.ks[a]?=Q N.ks[a]:=aF bp;obtain⟨b7,rfl,bf⟩:=(v.out.2.2.below b).get I;rw[show N.ks.length-a=(N.ks.length-(a+1))+1 by omega,Ks,bF,I,ga]at c;have bn:(a:Int)<(N.ks.length:Int):=by omega
   have b4:(0:Int)<=(a:Int):=by omega
   generalize N.ks[a]=an at c bf;clear I;by_cases z0:an<0
   ·rw[bk (by omega),ip]at c;have d:=ar c;clear c;go_wp2_with fail;go_ret;exact⟨by rw[<-d.out];rfl,b⟩
   by_cases cq:(i:Int)<=an
   ·rw[bk (by omega),ip]at c;have d:=ar c;clear c;go_wp2_with fail;go_ret;exact⟨by rw[<-d.out];rfl,b⟩
   rw[cG (by omega),jf]at c;have d:ad5 N.ks i (N.ks.length-(a+1)) (a+1) B:=⟨c⟩;clear c;go_wp2_with fail;go_round
   case rel=>exact⟨a+1,by go_num,by omega,d⟩
   case measure=>simp[B0];omega
  ·rw[show N.ks.length-a=0 by omega,Ks]at c;have d:=ar c;have bn:¬(a:Int)<(N.ks.length:Int):=by omega
   have H:sB ns N:=ad6 (by rw[K.out,<-d.out]) (dD bl);have s:ez av (V (Q r) ns.length m) ns N (V g N.nm.length o) (V j N.ks.length p):=⟨v.out.1.below b,v.out.2.1.below b,v.out.2.2.below b,H,bo,u.out.l1,u.out.l2,u.out.lx,u.out.ls⟩;obtain⟨ca,cb,cc,ce,cf,ck,cl,cm,cn,cp⟩:=aj al;have A:=fun w=>vy N.k w;clear c;cases hx:jE N.k with
   |true=>
    have q:=tL s hx;rw[hx]at A;rw[show yv ns N=af by rw[<-L.out];unfold pt;rw[ab hx]]at q;unfold cE at q;clear hx s H;go_wp2_with (first|(go_at_call 134;refine dz (A _) ?_)|(go_at_call 135;refine q.mono ?_;rintro e bs ⟨rfl,E⟩));go_ret;exact⟨by rw[<-d.out];rfl,b.trans (E.mono b.size)⟩
   |false=>
    have q:=td s;rw[hx]at A;rw[show mg ns N=af by rw[<-L.out];unfold pt;rw[aa (by rw[hx];simp)]]at q;unfold cE at q;clear hx s H;go_wp2_with (first|(go_at_call 134;refine dz (A _) ?_)|(go_at_call 136;refine q.mono ?_;rintro e bs ⟨rfl,E⟩));go_ret;exact⟨by rw[<-d.out];rfl,b.trans (E.mono b.size)⟩
def kD(p:Nat->Bool):Nat->Nat->Option Nat
 |0,_=>Z
 |f+1,j=>if p j=O then Q j else kD p f (j+1)
structure Ak (p:Nat->Bool) (f j:Nat) (R:Option Nat):Prop where
 out:kD p f j=R
def dpK(i:Nat):List Int->List Int->List Int
 |[],D=>D
 |k::r,D=>dpK i r (D.set k.toNat (D.getD i 0+1))
def dpN(ns:List Nd):Nat->List Int->List Int
 |0,D=>D
 |m+1,D=>dpN ns m (dpK m (ns.getD m zNd).ks D)
def dps(ns:List Nd):List Int:=dpN ns ns.length (B1 ns.length 0)
def iz(ns:List Nd):Bool:=decide (ns.length=0\/3000<ns.length\/(ns.getD (ns.length-1) zNd).k≠1)
def fJ(ns:List Nd)(i:Nat):Bool:=!(iy ns i (ns.getD i zNd))
def ia(S:List Int)(i:Nat):Bool:=S.getD i 0==0
def nD(D:List Int)(i:Nat):Bool:=decide (100<D.getD i 0)
def tf4:Option Nat->Int×Int
 |some i=>(4,(i:Int))
 |none=>(0,0)
def tf3(S D:List Int)(n:Nat):Option Nat->Int×Int
 |some i=>(3,(i:Int))
 |none=>if S.getD (n-1) 0≠(n:Int) then(3,(n:Int)-1) else tf4 (kD (nD D) n 0)
def tf2(S D:List Int)(n:Nat):Option Nat->Int×Int
 |some i=>(2,(i:Int))
 |none=>tf3 S D n (kD (ia S) n 0)
def fy(ns:List Nd):Int×Int:=if iz ns=O then(1,0) else tf2 (jA ns) (dps ns) ns.length (kD (fJ ns) ns.length 0)
def Kt(n:Nat)(D:List Int):Prop:=D.length=n/\∀(a:Nat) z,D[a]?=Q z->0<=z/\z<=(n:Int)-1-a
theorem Kt.set{n:Nat}{D:List Int}(e:Kt n D)(i q:Nat)(h:i<n)(j:q<i):Kt n (D.set q (D.getD i 0+1)):=by
 obtain⟨f,b⟩:=e;refine⟨by simp[f],fun d g a=>?_⟩;by_cases c:q=d
 ·subst c;rw[List.getElem?_set_self (by omega)]at a;obtain rfl:=dr a;rw[bF,aF (by omega)];have:=b i D[i] (aF (by omega));simp;omega
 ·rw[List.getElem?_set_ne c]at a;exact b d g a
theorem mF{p:Nat->Bool}:∀{f j:Nat},kD p f j=Z->∀k,j<=k->k<j+f->p k=M
 |0,j,_,k,b,c=>by omega
 |f+1,j,a,k,b,c=>by
  rw[kD]at a;split at a
  ·cases a
  ·rename_i d;rcases gI b with rfl|g
   ·simpa using d
   ·exact mF a k g (by omega)
def rK(b:Nat)(a:X)(c n:Int):Prop:=a.heap[b]?=Q (Y #[T U c,T U n] 101 (0,0))
theorem mG{b:Nat}{a:X}{c n:Int}(d:rK b a c n):a.cell? ⟨b,0,Z⟩=Q (T U c)/\a.cell? ⟨b,1,Z⟩=Q (T U n)/\∀j,a.frozen? ⟨b,j,Z⟩=M:=by
 unfold rK at d;exact⟨by rw[ay _ _ _ _ _ _ d];rfl,by rw[ay _ _ _ _ _ _ d];rfl,fun j=>dp _ _ _ _ _ d⟩
theorem wm{b:Nat}{a:X}{c n:Int}(f:rK b a c n)(d e:Int):rK b ((a.setCell ⟨b,0,Z⟩ (T U d)).setCell ⟨b,1,Z⟩ (T U e)) d e:=bK _ b 1 _ _ _ (bK _ b 0 _ _ _ f)
theorem rK.below{b:Nat}{a d:X}{c n:Int}(e:rK b a c n)(f:A2 a.heap.size a d):rK b d c n:=(f.block _ (au e)).trans e
theorem Cj(w:X)(v:Ax)(ns:List Nd)(h:bI w v ns)(u:ns.length<=1048576)(o:iz ns=O):
  B5 Br 79 #[.agg #[v]] w fun e E=>e= .returned (.agg #[.int .i64 1,.int .i64 0])/\A2 w.heap.size w E:=by
 obtain⟨F,G,rfl⟩:=h.form;have i:∀b c,A2 w.heap.size w ((w.alloc b).alloc c):=fun b c=>((aq _ w).alloc (ag _) b).alloc (by simp) c;have r:∀b (f:Array Ax) (j:TypeId),((w.alloc b).alloc (.cells f j)).heap[w.heap.size+1]?=Q (.cells f j (0,0)):=fun b f j=>by
  have:=ax (w.alloc b) (.cells f j);rw[dI]at this;exact this
 have p:=aI o;by_cases d:ns.length=0
 ·rw[d];go_in;go_wp2;exact bg (fz rfl _ _ (w.heap.size+1) _ _ _ _ rfl (r _ _ _) Tryz.underlying101 rfl (by kernel_rfl)) rfl ⟨rfl,i _ _⟩
 by_cases g:3000<ns.length
 ·have A:(3000:Int)<(ns.length:Int):=by omega
  have z:¬(ns.length:Int)=0:=by omega
  generalize ns.length=s at z A u⊢;clear h o p d g;go_in;go_wp2;exact bg (fz rfl _ _ (w.heap.size+1) _ _ _ _ rfl (r _ _ _) Tryz.underlying101 rfl (by kernel_rfl)) rfl ⟨rfl,i _ _⟩
 ·have B:(ns.getD (ns.length-1) zNd).k≠1:=by rcases p with e|e|e;exact absurd e d;exact absurd e g;exact e
  have q:ns.length-1<ns.length:=by omega
  obtain⟨l,n⟩:∃l,ns[ns.length-1]?=Q l:=⟨_,aF q⟩;rw[bF,n,ga]at B;obtain⟨y,rfl,ap,an,t⟩:=h.get n;have m:=t.c0;obtain⟨s,x⟩:=aD ns.length;rw[x]at m d g u q⊢;obtain⟨a,C⟩:∃a:Nat,s=a+1:=⟨s-1,by omega⟩;subst C;rw[Em]at m;have J:((a+1:Nat):Int)-1=(a:Int):=by omega
  have af:¬((a+1:Nat):Int)=0:=by omega
  have ak:¬(3000:Int)<((a+1:Nat):Int):=by omega
  have al:(a:Int)<((a+1:Nat):Int):=by omega
  have L:(0:Int)<=(a:Int):=by omega
  have H:(((a:Int)+1)==0)=M:=by rw[aC];omega
  have I:decide ((3000:Int)<(a:Int)+1)=M:=bk (by omega);have am:(a:Int)<(a:Int)+1:=by omega
  have K:∀b c,((w.alloc b).alloc c).cell? (y.add (a*9))=Q (.int .i64 l.k):=fun b c=>bm (i b c) m;clear h o p d g n t x q;go_in;go_wp2;exact bg (fz rfl _ _ (w.heap.size+1) _ _ _ _ rfl (r _ _ _) Tryz.underlying101 rfl (by kernel_rfl)) rfl ⟨rfl,i _ _⟩
structure Cl (w:X) (v:Ax) (W:X):Prop where
 tb:W.heap[w.heap.size]?=Q (.cells #[v] 76 (0,0))
 fb:rK (w.heap.size+1) W 0 0
 bl:A2 w.heap.size w W
theorem Cl.below{w:X}{v:Ax}{b d:X}(a:Cl w v b)(c:A2 b.heap.size b d):Cl w v d:=
 ⟨(c.block _ (au a.tb)).trans a.tb,a.fb.below c,a.bl.trans (c.mono a.bl.size)⟩
structure ad7 (w:X) (v:Ax) (gd n:Nat) (ns:List Nd) (t:Nat) (D:List Int) (W:X):Prop where
 tk:Cl w v W
 row:W.ownsRow w.heap.size 3 1 (.slice (Q ⟨gd,0,Z⟩) n n) n (D.map (B2 .i64))
 ok:Kt n D
 rest:dpN ns t D=dps ns
structure ad8 (w:X) (v:Ax) (gd n t:Nat) (ks D:List Int) (j:Nat) (E:List Int) (W:X):Prop where
 tk:Cl w v W
 row:W.ownsRow w.heap.size 3 1 (.slice (Q ⟨gd,0,Z⟩) n n) n (E.map (B2 .i64))
 ok:Kt n E
 rest:dpK t (ks.drop j) E=dpK t ks D
theorem kL{b:Nat}{a:X}{v:Ax}{t:TypeId}(c:a.heap[b]?=Q (Y #[v] t (0,0))):a.cell? ⟨b,0,Z⟩=Q v:=by
 rw[ay _ _ _ _ _ _ c];rfl
theorem Cm(w:X)(v:Ax)(ns:List Nd)(br:bI w v ns)(e6:ns.length<=1048576)(ec:∀N∈ns,rJ N)(cc:iz ns=M):
  B5 Br 79 #[.agg #[v]] w fun e f7=>e= .returned (.agg #[.int .i64 (fy ns).1,.int .i64 (fy ns).2])/\A2 w.heap.size w f7:=by
 obtain⟨gf,k,rfl⟩:=br.form;have bw:=na cc;have G:=gy br ec cc;have dg:¬ns.length=0:=fun e=>bw (.inl e);have ew:¬3000<ns.length:=fun e=>bw (.inr (.inl e));have b8:(ns.getD (ns.length-1) zNd).k=1:=by
  by_cases a9:(ns.getD (ns.length-1) zNd).k=1
  ·exact a9
  ·exact absurd (.inr (.inr a9)) bw
 obtain⟨N,C⟩:∃N,ns[ns.length-1]?=Q N:=⟨_,aF (by omega)⟩;rw[bF,C,ga]at b8;obtain⟨i,rfl,hC,hA,d0⟩:=br.get C;have a8:=d0.c0;rw[b8]at a8;have dx:∀ap z,A2 w.heap.size w ((w.alloc ap).alloc z):=fun ap z=>((aq _ w).alloc (ag _) ap).alloc (by simp) z;obtain⟨an,cn⟩:=aD ns.length;obtain⟨A,hF⟩:=aD (fy ns);have p:=cH cn hF;rw[hF];rw[cn]at G a8 dg ew⊢;obtain⟨a,fc⟩:∃a:Nat,an=a+1:=⟨an-1,by omega⟩;have d8:an-1=a:=by omega
 rw[d8]at a8;have ea:(0:Int)<=(a:Int):=by omega
 have f3:¬(an:Int)=0:=by omega
 have f4:¬(3000:Int)<(an:Int):=by omega
 have f5:(a:Int)<(an:Int):=by omega
 have f6:(an:Int)-1=(a:Int):=by omega
 have g4:(((a:Int)+1)==0)=M:=by rw[aC];omega
 have g5:decide ((3000:Int)<(a:Int)+1)=M:=bk (by omega);have hy:(a:Int)<(a:Int)+1:=by omega
 have e1:∀ap z,((w.alloc ap).alloc z).cell? (i.add (a*9))=Q (.int .i64 1):=fun ap z=>bm (dx ap z) a8;clear br cc bw dg b8 C d0 cn e6 ec hF d8 a8 f3 f4 f5 f6;subst fc;go_in;go_wp2_with fail;have df:((w.alloc (.cells #[.slice (Q i) (a+1) k] 76)).alloc (.cells #[.int .i64 0,.int .i64 0] 101)).heap[w.heap.size]?=Q (.cells #[.slice (Q i) (a+1) k] 76 (0,0)):=(cg _ _ _ (by simp)).trans (ax w _);have c3:rK (w.heap.size+1) ((w.alloc (.cells #[.slice (Q i) (a+1) k] 76)).alloc (.cells #[.int .i64 0,.int .i64 0] 101)) 0 0:=by
  have:=ax (w.alloc (.cells #[.slice (Q i) (a+1) k] 76)) (.cells #[.int .i64 0,.int .i64 0] 101);rw[dI]at this;exact this
 have c2:=dx (.cells #[.slice (Q i) (a+1) k] 76) (.cells #[.int .i64 0,.int .i64 0] 101);have cy:Cl w (.slice (Q i) (a+1) k) ((w.alloc (.cells #[.slice (Q i) (a+1) k] 76)).alloc (.cells #[.int .i64 0,.int .i64 0] 101)):=⟨df,c3,c2⟩;generalize (w.alloc (.cells #[.slice (Q i) (a+1) k] 76)).alloc (.cells #[.int .i64 0,.int .i64 0] 101)=ge at cy⊢;obtain⟨b5,ca⟩:=aD (kD (fJ ns) (a+1) 0);have b3:=ar ca;have c6:Ak (fJ ns) (a+1-0) 0 b5:=⟨ca⟩;clear ca df c3 c2 e1;go_loopw [39] (fun j wr=>∃b:Nat,b<=a+1/\j= .int .i64 b/\Ak (fJ ns) (a+1-b) b b5/\Cl w (.slice (Q i) (a+1) k) wr) (fun j _=>a+1-(B0 j).toNat)
 case atStart=>exact⟨0,aG _,rfl,c6,cy⟩
 case round=>
  obtain⟨b,d5,rfl,n,x⟩:=hrel;clear cy c6;have c:=n.out;by_cases e8:b<a+1
  ·obtain⟨bo,bb⟩:=eA p.out.1 e8;have d7:(b:Int)<(a:Int)+1:=by omega
   have d6:(0:Int)<=(b:Int):=by omega
   have b1:=Aj wr (.slice (Q i) (a+1) k) ns b bo (G.out.1.below x.bl) (by rw[p.out.1];omega) bb (G.out.2.1 bo (dC bb));have a1:=kL x.tb;obtain⟨L,af,al⟩:=mG x.fb;rw[show a+1-b=(a+1-(b+1))+1 by omega,kD]at c;have y:fJ ns b=!(iy ns b bo):=by unfold fJ;rw[bF,bb];rfl
   rw[y]at c;have bn:=ar x;cases hx:iy ns b bo with
   |true=>
    rw[hx]at b1 c;rw[aa (by decide)]at c;have bf:Ak (fJ ns) (a+1-(b+1)) (b+1) b5:=⟨c⟩;clear c hx y bb x n L af al;go_wp2_with (go_at_call 105;refine b1.mono ?_;rintro e I ⟨rfl,am⟩);exact⟨⟨b+1,by omega,by go_num,bf,bn.out.below am⟩,by simp[B0];omega⟩
   |false=>
    rw[hx]at b1 c;rw[ab (by decide)]at c;have F:B4 (A=(2,(b:Int))):=by
     show A=(2,(b:Int));rw[<-p.out.2];unfold fy;rw[G.out.2.2,aa (by decide),p.out.1,b3.out,<-c];rfl
    clear c hx y bb x n L af al;go_wp2_with fail;refine b1.mono ?_;rintro e I ⟨rfl,am⟩;have g:=bn.out.below am;obtain⟨L,af,al⟩:=mG g.fb;have q:=ar g;clear g am;go_wp2_with fail;have g:=q.out;exact bg (fz rfl _ _ (w.heap.size+1) _ _ _ _ rfl (wm g.fb 2 b) Tryz.underlying101 rfl (by kernel_rfl)) rfl ⟨by rw[F.out],(g.bl.setCell (by simp) _).setCell (by simp) _⟩
  ·obtain rfl:b=a+1:=by omega
   rw[fC,kD]at c;have ej:=ar c.symm;have ds:=mF (show kD (fJ ns) (a+1) 0=Z by rw[b3.out];exact c.symm);have a6:∀(E:Nat) N,ns[E]?=Q N->∀h∈N.ks,0<=h/\h<(E:Int):=fun E N C h d=>by
    have bE:E<a+1:=by rw[<-p.out.1];exact(List.getElem?_eq_some_iff.1 C).1
    have H:=ds E (aG _) (by omega);unfold fJ at H;rw[bF,C,ga]at H;have b9:iy ns E N=O:=by simpa using H
    unfold iy at b9;have ex:Ks N.ks E N.ks.length 0=O:=by
     rw[aw,aw]at b9;exact b9.2.1
    obtain⟨o,cs,rfl⟩:=gp d;have:=rI N.ks E N.ks.length 0 ex o (by omega) (by omega);rw[bF,aF cs]at this;simpa using this
   have cu:=Cb wr (.slice (Q i) (a+1) k) ns (G.out.1.below x.bl) (by rw[p.out.1];omega) (fun N C=>(G.out.2.1 N C).l2) a6;rw[p.out.1]at cu;have c9:=ar a6;have a1:=kL x.tb;have bn:=ar x;have fu:=x.bl.size;have hv:w.heap.size+1<wr.heap.size:=au x.fb;clear c ds a6 x n;go_wp2_with fail;refine cu.mono ?_;rintro e I ⟨a9,rfl,cp,am⟩;have g:=bn.out.below am;obtain⟨r,hS⟩:=aD (jA ns);have dn:r.length=a+1:=by rw[<-hS,ma,p.out.1]
   rw[hS]at cp;have da:B4 (jA ns=r/\r.length=a+1/\Ca r):=⟨hS,dn,by rw[<-hS];exact Ab ns (fun N C h d=>by
    obtain⟨E,bE,e⟩:=gp C;exact(c9.out E N (by rw[aF bE,e]) h d).1)⟩
   have q:=cH g cp;obtain⟨bp,bt⟩:=aD (kD (ia r) (a+1) 0);have f9:=ar bt;have bf:Ak (ia r) (a+1-0) 0 bp:=⟨bt⟩;have b4:B4 (fy ns=tf3 r (dps ns) (a+1) bp):=by
    show fy ns=_;unfold fy;rw[G.out.2.2,aa (by decide),p.out.1,b3.out,ej.out,hS];show tf3 r (dps ns) (a+1) (kD (ia r) (a+1) 0)=_;rw[bt]
   clear hS dn bt g cp am cu a1;go_wp2_with fail;go_loop [53] (fun j=>∃b:Nat,b<=a+1/\j= .int .i64 b/\Ak (ia r) (a+1-b) b bp) (fun j=>a+1-(B0 j).toNat)
   case atStart=>exact⟨0,aG _,rfl,bf⟩
   case round=>
    obtain⟨b,he,rfl,n⟩:=hrel;clear bf;have c:=n.out;by_cases e9:b<a+1
    ·have d7:(b:Int)<(a:Int)+1:=by omega
     have d6:(0:Int)<=(b:Int):=by omega
     obtain⟨h,d⟩:=eA da.out.2.1 e9;have b7:I.cell? ⟨a9,b,Z⟩=Q (.int .i64 h):=by rw[q.out.2.cellAt b (by omega),dj,d];rfl
     rw[show a+1-b=(a+1-(b+1))+1 by omega,kD]at c;have y:ia r b=(h==0):=by unfold ia;rw[bF,d];rfl
     rw[y]at c;by_cases b0:h=0
     ·subst b0;rw[ab (by decide)]at c;have F:B4 (A=(3,(b:Int))):=by
       show A=(3,(b:Int));rw[<-p.out.2,b4.out,<-c];rfl
      obtain⟨L,af,al⟩:=mG q.out.1.fb;clear c y d n;go_wp2_with fail;have g:=q.out.1;exact bg (fz rfl _ _ (w.heap.size+1) _ _ _ _ rfl (wm g.fb 3 b) Tryz.underlying101 rfl (by kernel_rfl)) rfl ⟨by rw[F.out],(g.bl.setCell (by simp) _).setCell (by simp) _⟩
     ·rw[aa (by simpa using b0)]at c;have b2:Ak (ia r) (a+1-(b+1)) (b+1) bp:=⟨c⟩;clear c y d n;go_wp2_with fail;go_round
      case rel=>exact⟨b+1,by omega,by go_num,b2⟩
      case measure=>simp[B0];omega
    ·obtain rfl:b=a+1:=by omega
     rw[fC,kD]at c;have ek:=ar c.symm;obtain⟨h,d⟩:=eA da.out.2.1 (show a<a+1 by omega);have b7:I.cell? ⟨a9,a,Z⟩=Q (.int .i64 h):=by rw[q.out.2.cellAt a (by omega),dj,d];rfl
     have a4:r.getD a 0=h:=by rw[bF,d];rfl
     have t:=b4.out;rw[ek.out,tf3,Em,a4]at t;by_cases f2:h=(a:Int)+1
     ·rw[aa (by omega)]at t;have el:=ar t;subst f2;have a1:=kL q.out.1.tb;clear c t d a4 n;obtain⟨ea,bE,b0,fB,fF⟩:=fd uj;have fn:=q.out.1.bl.size;go_wp2_with (at_make;refine Et _ rfl _ _ 94 rfl w.heap.size 3 ea (.int .i64 0) 1 Tryz.underlying94 bE b0 fB .i64 .i64 _ _ (a+1) rfl rfl rfl rfl (by rw[fF];omega) (by unfold maxLen;omega) fn ?_;intro ef cr a5;have ce:A2 I.heap.size I ef:=⟨a5.os,a5.tape,a5.output,a5.size,fun b d5=>a5.block b d5 (by simp)⟩;have ep:=bm ce a1);rw[show(madeCells (B2 .i64 0).cells ((a+1)*1)).toList=B1 (a+1) (B2 .i64 0) by rw[yI];exact Eo _ _]at cr;have cF:ad7 w (.slice (Q i) (a+1) k) I.heap.size (a+1) ns (a+1) (B1 (a+1) 0) ef:=by
       refine⟨q.out.1.below ce,?_,⟨by simp,fun u h d=>?_⟩,?_⟩
       ·rw[List.map_replicate];exact cr
       ·rw[Es]at d;split at d
        ·obtain rfl:=dr d;omega
        ·cases d
       ·unfold dps;rw[p.out.1]
      have fr:w.heap.size+1<I.heap.size:=au q.out.1.fb;clear cr a5 ce ep a1 b7;obtain⟨s,a4⟩:=aD I.heap.size;rw[a4]at cF fr⊢;have dc:=ar cF;clear cF a4 q b4;go_loopw [8] (fun j wr=>∃(f:Nat) (D:List Int),f<=a+1/\j= .int .i64 ((f:Int)-1)/\B4 (ad7 w (.slice (Q i) (a+1) k) s (a+1) ns f D wr)) (fun j _=>(B0 j+1).toNat)
      case atStart=>exact⟨a+1,_,ag _,by congr 1;omega,dc⟩
      case round=>
       obtain⟨f,D,hr,rfl,m⟩:=hrel;clear dc;cases f with
       |zero=>
        have hh:¬(0:Int)<=((0:Nat):Int)-1:=by omega
        have dk:D=dps ns:=m.out.rest;have av:=gy m.out.tk m.out.row m.out.ok.1;have t:=el.out;rw[<-dk]at t;obtain⟨b6,cb⟩:=aD (kD (nD D) (a+1) 0);rw[cb,p.out.2]at t;have dd:=ar t;have c7:Ak (nD D) (a+1-0) 0 b6:=⟨cb⟩;clear t cb dk m;go_wp2_with fail;go_loop [110] (fun j=>∃b:Nat,b<=a+1/\j= .int .i64 b/\Ak (nD D) (a+1-b) b b6) (fun j=>a+1-(B0 j).toNat)
        case atStart=>exact⟨0,aG _,rfl,c7⟩
        case round=>
         obtain⟨b,hg,rfl,n⟩:=hrel;clear c7;have c:=n.out;by_cases fa:b<a+1
         ·have d7:(b:Int)<(a:Int)+1:=by omega
          have d6:(0:Int)<=(b:Int):=by omega
          obtain⟨h,d⟩:=eA av.out.2.2 fa;have b7:wr.cell? ⟨s,b,Z⟩=Q (.int .i64 h):=by rw[av.out.2.1.cellAt b (by omega),dj,d];rfl
          rw[show a+1-b=(a+1-(b+1))+1 by omega,kD]at c;have y:nD D b=decide (100<h):=by unfold nD;rw[bF,d];rfl
          rw[y]at c;by_cases d9:100<h
          ·rw[ab (cG d9)]at c;have F:B4 (A=(4,(b:Int))):=by
            show A=(4,(b:Int));rw[dd.out,<-c];rfl
           obtain⟨L,af,al⟩:=mG av.out.1.fb;clear c y d n;go_wp2_with fail;have g:=av.out.1;exact bg (fz rfl _ _ (w.heap.size+1) _ _ _ _ rfl (wm g.fb 4 b) Tryz.underlying101 rfl (by kernel_rfl)) rfl ⟨by rw[F.out],(g.bl.setCell (by simp) _).setCell (by simp) _⟩
          ·rw[aa (by simpa using d9)]at c;have b2:Ak (nD D) (a+1-(b+1)) (b+1) b6:=⟨c⟩;clear c y d n;go_wp2_with fail;go_round
           case rel=>exact⟨b+1,by omega,by go_num,b2⟩
           case measure=>simp[B0];omega
         ·obtain rfl:b=a+1:=by omega
          rw[fC,kD]at c;have F:B4 (A=(0,0)):=by
           show A=(0,0);rw[dd.out,<-c];rfl
          obtain⟨L,af,al⟩:=mG av.out.1.fb;clear c n;go_wp2_with fail;have g:=av.out.1;exact bg (fz rfl _ _ (w.heap.size+1) _ _ _ _ rfl (wm g.fb 0 0) Tryz.underlying101 rfl (by kernel_rfl)) rfl ⟨by rw[F.out],(g.bl.setCell (by simp) _).setCell (by simp) _⟩
       |succ f=>
        have es:(((f+1:Nat)):Int)-1=(f:Int):=by omega
        rw[es];have hu:(f:Int)<(a:Int)+1:=by omega
        have hs:(0:Int)<=(f:Int):=by omega
        obtain⟨B,a3⟩:=eA p.out.1 (show f<a+1 by omega);obtain⟨gr,eF,hD,hB,cf⟩:=G.out.1.get a3;obtain rfl:=dr eF;have eq:=bm m.out.tk.bl cf.c8;have a6:=c9.out f B a3;have cm:=cf.hk;obtain⟨en,er,rfl⟩:=cm.form;obtain⟨a0,bs⟩:=aD B.ks.length;have e7:=(G.out.2.1 B (dC a3)).l2;rw[bs]at eq e7;have e5:m.out.rest=m.out.rest:=rfl;have bd:dpN ns f (dpK f B.ks D)=dps ns:=by
         have:=m.out.rest;rw[dpN,bF,a3,ga]at this;exact this
        have bj:=wI bs a6 bd a3;have a1:=kL m.out.tk.tb;have eh:B4 (aJ w (.slice en a0 er) B.ks):=by rw[<-bs];exact cm
        have c5:B4 (ad8 w (.slice (Q i) (a+1) k) s (a+1) f B.ks D 0 D wr):=⟨m.out.tk,m.out.row,m.out.ok,rfl⟩;have fu:=m.out.tk.bl.size;clear a6 cm bd cf a3 bs m e5;go_wp2_with fail;go_loopw [95] (fun j f8=>∃(u:Nat) (K:List Int),u<=a0/\j= .int .i64 u/\B4 (ad8 w (.slice (Q i) (a+1) k) s (a+1) f B.ks D u K f8)) (fun j _=>a0-(B0 j).toNat)
        case atStart=>exact⟨0,D,aG _,rfl,c5⟩
        case round=>
         obtain⟨u,K,g9,rfl,l⟩:=hrel;clear c5;by_cases e4:u<a0
         ·have hc:(u:Int)<(a0:Int):=by omega
          have ha:(0:Int)<=(u:Int):=by omega
          obtain⟨h,d⟩:=eA bj.out.1 e4;obtain⟨gs,e0,g8⟩:=(eh.out.below l.out.tk.bl).get d;subst e0;obtain⟨fA,hw⟩:=bj.out.2.1 h (dC d);obtain⟨o,rfl⟩:=fe fA;have cs:o<f:=by omega
          obtain⟨J,bx⟩:=eA l.out.ok.1 (show f<a+1 by omega);obtain⟨ev,d3⟩:=eA l.out.ok.1 (show o<a+1 by omega);have g7:=l.out.ok.2 f J bx;have a7:=l.out.row;have g0:wr.cell? ⟨s,f,Z⟩=Q (.int .i64 J):=by rw[a7.cellAt f (by omega),dj,bx];rfl
          have gt:wr.cell? ⟨s,o,Z⟩=Q (.int .i64 ev):=by rw[a7.cellAt o (by omega),dj,d3];rfl
          have g6:=a7.frozenAt o;have e3:=(a7.lt s rfl).1;have cl:K.getD f 0=J:=by rw[bF,bx];rfl
          have z:=(a7.stored o (.int .i64 (J+1))).1;rw[<-List.map_set]at z;have cv:=l.out.ok.set f o (by omega) cs;rw[cl]at cv;have bd:dpK f (B.ks.drop (u+1)) (K.set o (J+1))=dpK f B.ks D:=by
           have H:=l.out.rest;have d4:=(List.getElem?_eq_some_iff.1 d);rw[lB d4.1,d4.2,dpK,cl]at H;exact H
          have fk:s≠w.heap.size:=by omega
          have fg:s≠w.heap.size+1:=by omega
          have ee:Cl w (.slice (Q i) (a+1) k) (wr.setCell ⟨s,o,Z⟩ (.int .i64 (J+1))):=
           ⟨(bC _ _ _ _ (de fk)).trans l.out.tk.tb,(bC _ _ _ _ (de fg)).trans l.out.tk.fb,l.out.tk.bl.setCell e3 _⟩
          have eg:B4 (ad8 w (.slice (Q i) (a+1) k) s (a+1) f B.ks D (u+1) (K.set o (J+1)) (wr.setCell ⟨s,o,Z⟩ (.int .i64 (J+1)))):=⟨ee,z,cv,bd⟩;have hp:(o:Int)<(a:Int)+1:=by omega
          have ho:(0:Int)<=(o:Int):=by omega
          clear d l z cv bd ee a7 bx d3 cl;go_wp2_with fail;exact⟨⟨u+1,_,by omega,by go_num,eg⟩,by simp[B0];omega⟩
         ·obtain rfl:u=a0:=by omega
          have e2:B4 (ad7 w (.slice (Q i) (a+1) k) s (a+1) ns f K wr):=by
           refine⟨l.out.tk,l.out.row,l.out.ok,?_⟩;have H:=l.out.rest;rw[qv (by rw[bj.out.1];exact ag _),dpK]at H;rw[H];exact bj.out.2.2.1
          clear l;go_wp2_with fail;exact⟨⟨f,K,by omega,rfl,e2⟩,by simp[B0]⟩
     ·rw[ab (by omega)]at t;have F:B4 (A=(3,(a:Int))):=by
       show A=(3,(a:Int));rw[<-p.out.2,t]
       congr 1
       omega
      obtain⟨L,af,al⟩:=mG q.out.1.fb;clear c t d a4 n;go_wp2_with fail;have g:=q.out.1;exact bg (fz rfl _ _ (w.heap.size+1) _ _ _ _ rfl (wm g.fb 3 a) Tryz.underlying101 rfl (by kernel_rfl)) rfl ⟨by rw[F.out],(g.bl.setCell (by simp) _).setCell (by simp) _⟩
theorem DJ(w:X)(v:Ax)(ns:List Nd)(a:bI w v ns)(b:ns.length<=1048576)(c:∀N∈ns,rJ N):
  B5 Br 79 #[B6 #[v]] w fun e d=>e= .returned (B6 #[T U (fy ns).1,T U (fy ns).2])/\A2 w.heap.size w d:=by
 cases hb:iz ns with
 |true=>
  have e:fy ns=(1,0):=by unfold fy;rw[ab hb]
  rw[e];exact Cj w v ns a b hb
 |false=>exact Cm w v ns a b c hb
structure ad9 (ns:List Nd):Prop where
 len:1<=ns.length/\ns.length<=3000
 kid:∀(i:Nat) N,ns[i]?=Q N->∀z∈N.ks,0<=z/\z<(i:Int)
 kn:∀N∈ns,N.ks.length<=200
theorem rL{ns:List Nd}(c:(fy ns).1=0):ad9 ns:=by
 unfold fy at c;by_cases i:iz ns=O
 ·rw[ab i]at c;exact absurd c (by decide)
 rw[aa i]at c;have q:iz ns=M:=by simpa using i
 have k:=na q;obtain⟨f,j⟩:∃f,kD (fJ ns) ns.length 0=f:=⟨_,rfl⟩;rw[j]at c;cases f with
 |some a=>rw[tf2]at c;exact absurd c (by simp)
 |none=>
  have p:=mF j;have m:∀(a:Nat) b,ns[a]?=Q b->iy ns a b=O:=fun a b e=>by
   have l:a<ns.length:=(List.getElem?_eq_some_iff.1 e).1;have h:=p a (aG _) (by omega);unfold fJ at h;rw[bF,e,ga]at h;simpa using h
  refine⟨⟨?_,?_⟩,fun a b e u s=>?_,fun b e=>?_⟩
  ·rcases jk ns.length with g|g
   ·exact absurd (.inl g) k
   ·exact g
  ·rcases be 3000 ns.length with g|g
   ·exact absurd (.inr (.inl g)) k
   ·exact g
  ·have d:=m a b e;unfold iy at d;have o:Ks b.ks a b.ks.length 0=O:=by
    rw[aw,aw]at d;exact d.2.1
   obtain⟨t,r,rfl⟩:=gp s;have:=rI b.ks a b.ks.length 0 o t (by omega) (by omega);rw[bF,aF r]at this;simpa using this
  ·obtain⟨a,l,n⟩:=gp e;have d:=m a b (by rw[aF l,n]);unfold iy DI at d;rw[aw]at d;exact(aI d.1).2.2.2
theorem Ku{ns:List Nd}(a:(fy ns).1=0):∀(i:Nat) N,ns[i]?=Q N->iy ns i N=O:=by
 unfold fy at a;by_cases e:iz ns=O
 ·rw[ab e]at a;exact absurd a (by decide)
 rw[aa e]at a;obtain⟨f,d⟩:=aD (kD (fJ ns) ns.length 0);rw[d]at a;cases f with
 |some i=>rw[tf2]at a;exact absurd a (by simp)
 |none=>
  have g:=mF d;intro i N c;have h:i<ns.length:=(List.getElem?_eq_some_iff.1 c).1;have b:=g i (aG _) (by omega);unfold fJ at b;rw[bF,c,ga]at b;simpa using b
theorem ai{N:Nd}{a b d:Bool}(c:aA N a b M d=O):N.x.size<=4000:=by
 unfold aA at c;simp only[aw,Bool.false_or]at c;have:=aI c.1.2;have e:N.x.toList.length=0:=by rw[this];rfl
 rw[eo]at e;have:N.x.size=0:=by simpa using e
 omega
theorem eK{s:ByteArray}(a:iu s=O):s.size<=4000:=by
 have:=(aI a).1;omega
theorem gG{s:ByteArray}(a:Bk s=O):s.size<=4000:=by
 unfold Bk at a;rw[aw]at a;have:=aI a.1;omega
theorem aK{c:Prop}[Decidable c] {a b:Bool}(d:(if c then a else b)=O):a=O\/b=O:=by
 by_cases e:c
 ·rw[ab e]at d;exact .inl d
 ·rw[aa e]at d;exact .inr d
theorem DK{ns:List Nd}{i:Nat}{N:Nd}(a:iy ns i N=O):N.x.size<=4000:=by
 unfold iy at a;rw[aw,aw]at a;have h2:=a.2.2;unfold pt at h2;rcases aK h2 with h2|h2
 ·unfold yv at h2;rcases aK h2 with h2|h2
  ·(simp only[aw]at h2;first|exact ai h2.1|exact ai h2.2|exact ai h2.1.1|exact ai h2.1.1.1|exact ai h2.1.1.1.1|exact ai h2.1.1.1.1.1)
  rcases aK h2 with h2|h2
  ·(simp only[aw]at h2;first|exact ai h2.1|exact ai h2.2|exact ai h2.1.1|exact ai h2.1.1.1|exact ai h2.1.1.1.1|exact ai h2.1.1.1.1.1)
  rcases aK h2 with h2|h2
  ·(simp only[aw]at h2;first|exact ai h2.1|exact ai h2.2|exact ai h2.1.1|exact ai h2.1.1.1|exact ai h2.1.1.1.1|exact ai h2.1.1.1.1.1)
  rcases aK h2 with h2|h2
  ·(simp only[aw]at h2;first|exact ai h2.1|exact ai h2.2|exact ai h2.1.1|exact ai h2.1.1.1|exact ai h2.1.1.1.1|exact ai h2.1.1.1.1.1)
  rcases aK h2 with h2|h2
  ·(simp only[aw]at h2;first|exact ai h2.1|exact ai h2.2|exact ai h2.1.1|exact ai h2.1.1.1|exact ai h2.1.1.1.1|exact ai h2.1.1.1.1.1)
  rcases aK h2 with h2|h2
  ·(simp only[aw]at h2;first|exact ai h2.1|exact ai h2.2|exact ai h2.1.1|exact ai h2.1.1.1|exact ai h2.1.1.1.1|exact ai h2.1.1.1.1.1)
  rcases aK h2 with h2|h2
  ·(simp only[aw]at h2;first|exact ai h2.1|exact ai h2.2|exact ai h2.1.1|exact ai h2.1.1.1|exact ai h2.1.1.1.1|exact ai h2.1.1.1.1.1)
  rcases aK h2 with h2|h2
  ·(simp only[aw]at h2;first|exact ai h2.1|exact ai h2.2|exact ai h2.1.1|exact ai h2.1.1.1|exact ai h2.1.1.1.1|exact ai h2.1.1.1.1.1)
  rcases aK h2 with h2|h2
  ·(simp only[aw]at h2;first|exact ai h2.1|exact ai h2.2|exact ai h2.1.1|exact ai h2.1.1.1|exact ai h2.1.1.1.1|exact ai h2.1.1.1.1.1)
  rcases aK h2 with h2|h2
  ·(simp only[aw]at h2;first|exact ai h2.1|exact ai h2.2|exact ai h2.1.1|exact ai h2.1.1.1|exact ai h2.1.1.1.1|exact ai h2.1.1.1.1.1)
  rcases aK h2 with h2|h2
  ·(simp only[aw]at h2;first|exact ai h2.1|exact ai h2.2|exact ai h2.1.1|exact ai h2.1.1.1|exact ai h2.1.1.1.1|exact ai h2.1.1.1.1.1)
  rcases aK h2 with h2|h2
  ·(simp only[aw]at h2;first|exact ai h2.1|exact ai h2.2|exact ai h2.1.1|exact ai h2.1.1.1|exact ai h2.1.1.1.1|exact ai h2.1.1.1.1.1)
  rcases aK h2 with h2|h2
  ·(simp only[aw]at h2;first|exact ai h2.1|exact ai h2.2|exact ai h2.1.1|exact ai h2.1.1.1|exact ai h2.1.1.1.1|exact ai h2.1.1.1.1.1)
  rcases aK h2 with h2|h2
  ·(simp only[aw]at h2;first|exact ai h2.1|exact ai h2.2|exact ai h2.1.1|exact ai h2.1.1.1|exact ai h2.1.1.1.1|exact ai h2.1.1.1.1.1)
  rcases aK h2 with h2|h2
  ·(simp only[aw]at h2;first|exact ai h2.1|exact ai h2.2|exact ai h2.1.1|exact ai h2.1.1.1|exact ai h2.1.1.1.1|exact ai h2.1.1.1.1.1)
  rcases aK h2 with h2|h2
  ·(simp only[aw]at h2;first|exact ai h2.1|exact ai h2.2|exact ai h2.1.1|exact ai h2.1.1.1|exact ai h2.1.1.1.1|exact ai h2.1.1.1.1.1)
  exact absurd h2 (by decide)
 ·unfold mg at h2;rcases aK h2 with h2|h2
  ·(simp only[aw]at h2;first|exact ai h2.2|exact gG h2.2|exact eK h2.2|exact(by have:=aI h2.2;omega)|exact ai h2.1.2|exact ai h2.1.1.2|exact ai h2.1.1.1.2)
  rcases aK h2 with h2|h2
  ·(simp only[aw]at h2;first|exact ai h2.2|exact gG h2.2|exact eK h2.2|exact(by have:=aI h2.2;omega)|exact ai h2.1.2|exact ai h2.1.1.2|exact ai h2.1.1.1.2)
  rcases aK h2 with h2|h2
  ·(simp only[aw]at h2;first|exact ai h2.2|exact gG h2.2|exact eK h2.2|exact(by have:=aI h2.2;omega)|exact ai h2.1.2|exact ai h2.1.1.2|exact ai h2.1.1.1.2)
  rcases aK h2 with h2|h2
  ·(simp only[aw]at h2;first|exact ai h2.2|exact gG h2.2|exact eK h2.2|exact(by have:=aI h2.2;omega)|exact ai h2.1.2|exact ai h2.1.1.2|exact ai h2.1.1.1.2)
  rcases aK h2 with h2|h2
  ·(simp only[aw]at h2;first|exact ai h2.2|exact gG h2.2|exact eK h2.2|exact(by have:=aI h2.2;omega)|exact ai h2.1.2|exact ai h2.1.1.2|exact ai h2.1.1.1.2)
  rcases aK h2 with h2|h2
  ·(simp only[aw]at h2;first|exact ai h2.2|exact gG h2.2|exact eK h2.2|exact(by have:=aI h2.2;omega)|exact ai h2.1.2|exact ai h2.1.1.2|exact ai h2.1.1.1.2)
  rcases aK h2 with h2|h2
  ·(simp only[aw]at h2;first|exact ai h2.2|exact gG h2.2|exact eK h2.2|exact(by have:=aI h2.2;omega)|exact ai h2.1.2|exact ai h2.1.1.2|exact ai h2.1.1.1.2)
  rcases aK h2 with h2|h2
  ·(simp only[aw]at h2;first|exact ai h2.2|exact gG h2.2|exact eK h2.2|exact(by have:=aI h2.2;omega)|exact ai h2.1.2|exact ai h2.1.1.2|exact ai h2.1.1.1.2)
  rcases aK h2 with h2|h2
  ·(simp only[aw]at h2;first|exact ai h2.2|exact gG h2.2|exact eK h2.2|exact(by have:=aI h2.2;omega)|exact ai h2.1.2|exact ai h2.1.1.2|exact ai h2.1.1.1.2)
  rcases aK h2 with h2|h2
  ·(simp only[aw]at h2;first|exact ai h2.2|exact gG h2.2|exact eK h2.2|exact(by have:=aI h2.2;omega)|exact ai h2.1.2|exact ai h2.1.1.2|exact ai h2.1.1.1.2)
  rcases aK h2 with h2|h2
  ·(simp only[aw]at h2;first|exact ai h2.2|exact gG h2.2|exact eK h2.2|exact(by have:=aI h2.2;omega)|exact ai h2.1.2|exact ai h2.1.1.2|exact ai h2.1.1.1.2)
  rcases aK h2 with h2|h2
  ·(simp only[aw]at h2;first|exact ai h2.2|exact gG h2.2|exact eK h2.2|exact(by have:=aI h2.2;omega)|exact ai h2.1.2|exact ai h2.1.1.2|exact ai h2.1.1.1.2)
  rcases aK h2 with h2|h2
  ·(simp only[aw]at h2;first|exact ai h2.2|exact gG h2.2|exact eK h2.2|exact(by have:=aI h2.2;omega)|exact ai h2.1.2|exact ai h2.1.1.2|exact ai h2.1.1.1.2)
  rcases aK h2 with h2|h2
  ·(simp only[aw]at h2;first|exact ai h2.2|exact gG h2.2|exact eK h2.2|exact(by have:=aI h2.2;omega)|exact ai h2.1.2|exact ai h2.1.1.2|exact ai h2.1.1.1.2)
  rcases aK h2 with h2|h2
  ·(simp only[aw]at h2;first|exact ai h2.2|exact gG h2.2|exact eK h2.2|exact(by have:=aI h2.2;omega)|exact ai h2.1.2|exact ai h2.1.1.2|exact ai h2.1.1.1.2)
  rcases aK h2 with h2|h2
  ·(simp only[aw]at h2;first|exact ai h2.2|exact gG h2.2|exact eK h2.2|exact(by have:=aI h2.2;omega)|exact ai h2.1.2|exact ai h2.1.1.2|exact ai h2.1.1.1.2)
  rcases aK h2 with h2|h2
  ·(simp only[aw]at h2;first|exact ai h2.2|exact gG h2.2|exact eK h2.2|exact(by have:=aI h2.2;omega)|exact ai h2.1.2|exact ai h2.1.1.2|exact ai h2.1.1.1.2)
  rcases aK h2 with h2|h2
  ·(simp only[aw]at h2;first|exact ai h2.2|exact gG h2.2|exact eK h2.2|exact(by have:=aI h2.2;omega)|exact ai h2.1.2|exact ai h2.1.1.2|exact ai h2.1.1.1.2)
  rcases aK h2 with h2|h2
  ·(simp only[aw]at h2;first|exact ai h2.2|exact gG h2.2|exact eK h2.2|exact(by have:=aI h2.2;omega)|exact ai h2.1.2|exact ai h2.1.1.2|exact ai h2.1.1.1.2)
  rcases aK h2 with h2|h2
  ·(simp only[aw]at h2;first|exact ai h2.2|exact gG h2.2|exact eK h2.2|exact(by have:=aI h2.2;omega)|exact ai h2.1.2|exact ai h2.1.1.2|exact ai h2.1.1.1.2)
  rcases aK h2 with h2|h2
  ·(simp only[aw]at h2;first|exact ai h2.2|exact gG h2.2|exact eK h2.2|exact(by have:=aI h2.2;omega)|exact ai h2.1.2|exact ai h2.1.1.2|exact ai h2.1.1.1.2)
  exact absurd h2 (by decide)
theorem FH(ns:List Nd):∀i,jA (ns.take i)=(jA ns).take i:=by
 refine po (p:=fun ns=>∀i,jA (ns.take i)=(jA ns).take i) ?_ ?_ ns
 ·intro i;simp[jA]
 ·intro a d c i;rcases be i (a++[d]).length with h|h
  ·have b:i<=a.length:=by rw[aH]at h;simp at h;omega
   rw[List.take_append_of_le_length b,c,rD,List.take_append_of_le_length (by rw[ma];exact b)]
  ·rw[cC h,cC (by rw[ma];exact h)]
theorem Kv{ns:List Nd}{i:Nat}{N:Nd}(b:ns[i]?=Q N):(jA ns).getD i 0=rC ((jA ns).take i) i N.ks:=by
 have f:i<ns.length:=(List.getElem?_eq_some_iff.1 b).1;have c:ns.take (i+1)=ns.take i++[N]:=by rw[iq,b];rfl
 have a:=FH ns (i+1);rw[c,rD,FH,jh,ma,ze (by omega),iq]at a;have d:(jA ns)[i]?=Q ((jA ns).getD i 0):=by
  rw[bF,aF (by rw[ma];exact f)];rfl
 rw[d]at a;have e:=List.append_cancel_left a;simpa using e.symm
def nI(S:List Int):List Int->Int
 |[]=>0
 |k::l=>S.getD k.toNat 0+nI S l
theorem Kw(S:List Int)(a b:List Int):nI S (a++b)=nI S a+nI S b:=by
 induction a with
 |nil=>simp[nI]
 |cons d e c=>simp only[gn,nI,c];omega
theorem Kx(S:List Int)(l:List Int):nI S l.reverse=nI S l:=by
 induction l with
 |nil=>rfl
 |cons b l a=>rw[List.reverse_cons,Kw,a];simp only[nI];omega
theorem FI{S:List Int}:∀(l:List Int)(a b:Int),wg S l a=Q b->b=a-nI S l
 |[],a,b,c=>by simp[wg]at c;simp[nI];omega
 |k::r,a,b,c=>by
  rw[wg]at c;split at c
  ·have:=FI r _ _ c;simp only[nI];omega
  ·cases c
theorem Ky(S:List Int)(i:Nat)(l:List Int)(a:∀k∈l,0<=k/\k<(i:Int)):nI (S.take i) l=nI S l:=by
 induction l with
 |nil=>rfl
 |cons k l d=>
  have b:=a k dt;have c:(S.take i).getD k.toNat 0=S.getD k.toNat 0:=by
   rw[bF,bF,List.getElem?_take_of_lt (by omega)]
  simp only[nI,c,d fun k b=>a k (dJ _ b)]
structure afB (ns:List Nd):Prop where
 at_:∀(i:Nat) N,ns[i]?=Q N->(jA ns).getD i 0=1+nI (jA ns) N.ks
 le:∀i,(jA ns).getD i 0<=3000
theorem abx{ns:List Nd}(b:(fy ns).1=0):afB ns:=by
 have i:=rL b;unfold fy at b;by_cases k:iz ns=O
 ·rw[ab k]at b;exact absurd b (by decide)
 rw[aa k]at b;obtain⟨l,p⟩:=aD (kD (fJ ns) ns.length 0);rw[p]at b;cases l with
 |some a=>rw[tf2]at b;exact absurd b (by simp)
 |none=>
  rw[tf2]at b;obtain⟨m,j⟩:=aD (kD (ia (jA ns)) ns.length 0);rw[j]at b;cases m with
  |some a=>rw[tf3]at b;exact absurd b (by simp)
  |none=>
   have q:=mF j;have r:Ca (jA ns):=Ab ns (fun e d h g=>by
    obtain⟨a,hi,f⟩:=gp d;exact(i.kid a e (by rw[aF hi,f]) h g).1)
   refine⟨fun a e d=>?_,fun a=>?_⟩
   ·have hi:a<ns.length:=(List.getElem?_eq_some_iff.1 d).1;have c:=q a (aG _) (by omega);unfold ia at c;rw[Kv d]at c⊢;unfold rC at c⊢;cases hw:wg ((jA ns).take a) e.ks.reverse a with
    |none=>rw[hw]at c;simp at c
    |some n=>
     have f:=FI _ _ _ hw;rw[Kx,Ky _ _ _ (fun h g=>i.kid a e d h g)]at f;show(a:Int)-n+1=_;omega
   ·rcases be a ns.length with hi|hi
    ·have o:(jA ns)[a]?=Q ((jA ns).getD a 0):=by
      rw[bF,aF (by rw[ma];exact hi)];rfl
     have:=r a _ o;have:=i.len;omega
    ·rw[bF,dL (by rw[ma];exact hi)];decide
theorem jq(ns:List Nd)(N:Nd)(j:Nat):dm ns N j=(nodeI ns (bz N j)).k:=rfl
theorem iA{ns:List Nd}{N:Nd}:∀(f j:Nat),gc ns N f j=O->∀q,j<=q->q<j+f->fj (nodeI ns (bz N q)).k=O
 |0,j,_,q,b,c=>by omega
 |f+1,j,a,q,b,c=>by
  rw[gc,aw]at a;rcases gI b with rfl|h3
  ·exact a.1
  ·exact iA f (j+1) a.2 q h3 (by omega)
theorem FJ{ns:List Nd}{N:Nd}:∀(f j:Nat),sbB ns N f j=O->∀q,j<=q->q<j+f->jE (nodeI ns (bz N q)).k=O
 |0,j,_,q,b,c=>by omega
 |f+1,j,a,q,b,c=>by
  rw[sbB,aw]at a;rcases gI b with rfl|h3
  ·exact a.1
  ·exact FJ f (j+1) a.2 q h3 (by omega)
theorem G7{k:Int}(a:BA k=O):fj k=O:=by
 have:=aI a;exact cG (by omega)
theorem act{ns:List Nd}{N:Nd}:∀(f j:Nat),tgB ns N f j=O->∀q,j<=q->q<j+f->fj (nodeI ns (bz N q)).k=O
 |0,j,_,q,b,c=>by omega
 |f+1,j,a,q,b,c=>by
  rw[tgB,aw]at a;rcases gI b with rfl|h3
  ·exact G7 a.1
  ·exact act f (j+1) a.2 q h3 (by omega)
theorem FK{ns:List Nd}{N:Nd}:∀(f j:Nat),enB ns N f j=O->∀q,j<=q->q<j+f->40<=(nodeI ns (bz N q)).k/\(nodeI ns (bz N q)).k<=42
 |0,j,_,q,b,c=>by omega
 |f+1,j,a,q,b,c=>by
  rw[enB,aw]at a;rcases gI b with rfl|h3
  ·exact aI a.1
  ·exact FK f (j+1) a.2 q h3 (by omega)
structure Kid (ns:List Nd) (i:Nat) (N:Nd) (j q:Nat):Prop where
 at_:N.ks[j]?=Q (q:Int)
 lt:q<i
 len:q<ns.length
 id:bz N j=(q:Int)
theorem eD{ns:List Nd}{i:Nat}{N:Nd}(a:iy ns i N=O)(e:i<ns.length)(j:Nat)(c:j<N.ks.length):∃q,Kid ns i N j q:=by
 unfold iy at a;rw[aw,aw]at a;have d:=rI N.ks i N.ks.length 0 a.2.1 j (by omega) (by omega);have b:N.ks[j]?=Q (N.ks.getD j 0):=by rw[bF,aF c];rfl
 refine⟨(N.ks.getD j 0).toNat,?_,by omega,by omega,?_⟩
 ·rw[b];congr 1;omega
 ·show N.ks.getD j 0=_;omega
theorem iB{N:Nd}{z:Int}(c:z∈N.ks):∃j,j<N.ks.length/\bz N j=z:=by
 obtain⟨j,a,b⟩:=gp c;exact⟨j,a,by unfold bz;rw[bF,aF a];exact b⟩
theorem il{ns:List Nd}{i:Nat}{N:Nd}(a:iy ns i N=O):pt ns N=O/\N.ks.length<=200:=by
 unfold iy at a;rw[aw,aw]at a;exact⟨a.2.2,(aI a.1).2.2.2⟩
theorem wn{ns:List Nd}{N:Nd}(a:pt ns N=O)(b:17<=N.k):mg ns N=O:=by
 unfold pt at a
 rwa [aa (by unfold jE;rw[decide_eq_true_eq];omega)]at a
theorem mh{ns:List Nd}{N:Nd}(a:pt ns N=O)(b:1<=N.k/\N.k<=16):yv ns N=O:=by
 unfold pt at a
 rwa [ab (by unfold jE;rw[decide_eq_true_eq];omega)]at a
theorem ja{ns:List Nd}{N:Nd}(a:pt ns N=O)(b:N.k=28\/N.k=29\/N.k=31\/N.k=32\/N.k=41):N.ks.length=2/\gc ns N 2 0=O/\(N.k=31->1<=N.op/\N.op<=18):=by
 have a:=wn a (by omega);unfold mg at a;rcases b with e|e|e|e|e<;>simp[e]at a<;>exact⟨by omega,by simp[a],by omega⟩
theorem jD{ns:List Nd}{N:Nd}(a:pt ns N=O)(b:N.k=30\/N.k=33\/N.k=37\/N.k=40\/N.k=42):N.ks.length=1/\fj (nodeI ns (bz N 0)).k=O/\(N.k=30->19<=N.op/\N.op<=22):=by
 have a:=wn a (by omega);unfold mg at a;rcases b with e|e|e|e|e<;>simp[e,jq]at a
 ·exact⟨by omega,iA 1 0 a.1.1.1.2 0 (by omega) (by omega),by omega⟩
 ·exact⟨by omega,iA 1 0 a.1.1.1.2 0 (by omega) (by omega),by omega⟩
 ·exact⟨by omega,cG (by omega),by omega⟩
 ·exact⟨by omega,iA 1 0 a.1.2 0 (by omega) (by omega),by omega⟩
 ·exact⟨by omega,iA 1 0 a.1.1.2 0 (by omega) (by omega),by omega⟩
theorem Al{ns:List Nd}{N:Nd}(a:pt ns N=O)(b:N.k=34):1<=N.ks.length/\gc ns N N.ks.length 0=O:=by
 have a:=wn a (by omega);unfold mg at a;simp[b,jq]at a;exact⟨by omega,a.1.1.2⟩
theorem wo{ns:List Nd}{N:Nd}(a:pt ns N=O)(b:N.k=35):enB ns N N.ks.length 0=O:=by
 have a:=wn a (by omega);unfold mg at a;simp[b]at a;exact a.1
theorem oy{N:Nd}{a b:Int}(c:dw N a b=O)(d:b<=200):a<=(N.nm.length:Int)/\N.nm.length<=200:=by
 unfold dw at c;rw[aw]at c;have:=aI c.1;omega
theorem Kz{ns:List Nd}{N:Nd}(a:pt ns N=O)(b:N.k=36):N.ks.length=1/\(nodeI ns (bz N 0)).k=1/\N.nm.length<=200/\(N.op=0\/N.op=1):=by
 have a:=wn a (by omega);unfold mg at a;simp[b,jq]at a;exact⟨by omega,a.1.1.1.2,(oy a.1.2 (by omega)).2,a.2⟩
theorem ws{ns:List Nd}{N:Nd}(a:pt ns N=O)(b:N.k=1):sbB ns N N.ks.length 0=O:=by
 have a:=mh a (by omega);unfold yv at a;simp[b]at a;exact a.1
theorem KA{ns:List Nd}{N:Nd}(a:pt ns N=O)(b:20<=N.k/\N.k<=27):N.ks.length=0:=by
 have a:=wn a (by omega);unfold mg at a;rcases(show N.k=20\/N.k=21\/N.k=22\/N.k=23\/N.k=24\/N.k=25\/N.k=26\/N.k=27 by omega) with e|e|e|e|e|e|e|e<;>simp[e]at a<;>simp[a]
theorem Cn{ns:List Nd}{N:Nd}(a:pt ns N=O):(1<=N.k/\N.k<=16)\/(20<=N.k/\N.k<=37)\/(40<=N.k/\N.k<=42):=by
 by_cases b:1<=N.k/\N.k<=16
 ·exact .inl b
 ·unfold pt at a;rw[aa (by unfold jE;rw[decide_eq_true_eq];exact b)]at a;by_cases c:(20<=N.k/\N.k<=37)\/(40<=N.k/\N.k<=42)
  ·exact .inr c
  ·unfold mg at a
   repeat rw[aa (by omega)]at a
   cases a
def sN(ns:List Nd)(i:Int):Nat:=((jA ns).getD i.toNat 0).toNat
def sK(ns:List Nd):List Int->Nat
 |[]=>0
 |k::l=>sN ns k+sK ns l
theorem aea(ns:List Nd)(a b:List Int):sK ns (a++b)=sK ns a+sK ns b:=by
 induction a with
 |nil=>simp[sK]
 |cons d e c=>simp only[gn,sK,c];omega
theorem wt(ns:List Nd)(l:List Int)(n:Nat):sK ns l=sK ns (l.take n)+sK ns (l.drop n):=by rw[<-aea,qy]
structure KB (ns:List Nd):Prop where
 nb:∀i:Nat,i<ns.length->iy ns i (nodeI ns i)=O
 at_:∀i:Nat,i<ns.length->sN ns i=1+sK ns (nodeI ns i).ks
 le:∀i:Int,sN ns i<=3000
theorem KC{ns:List Nd}(e:(fy ns).1=0):KB ns:=by
 have h:=abx e;have p:=rL e;have n:=Ku e;have l:Ca (jA ns):=Ab ns (fun i j f k=>by
  obtain⟨a,b,c⟩:=gp j;exact(p.kid a i (by rw[aF b,c]) f k).1)
 have o:∀a:Nat,0<=(jA ns).getD a 0:=by
  intro a;rw[bF];cases c:(jA ns)[a]? with
  |none=>decide
  |some r=>exact(l a r c).1
 have q:∀d:List Int,nI (jA ns) d=(sK ns d:Int):=by
  intro d
  induction d with
  |nil=>rfl
  |cons f s m=>
   have:=o f.toNat;simp only[nI,sK,m,sN];omega
 have g:∀a:Nat,a<ns.length->ns[a]?=Q (nodeI ns a):=fun a b=>by
  unfold nodeI;rw[jJ,List.getD,aF b];rfl
 refine⟨fun a b=>n a _ (g a b),fun a b=>?_,fun a=>?_⟩
 ·have c:=h.at_ a _ (g a b);rw[q]at c;show((jA ns).getD (a:Int).toNat 0).toNat=_;rw[jJ,c];omega
 ·have:=h.le a.toNat;unfold sN;omega
theorem yw(l:List ByteArray):(bv l).size<=(l.map fun x=>x.size+2).sum:=by
 have d:∀a,(bv (l.take a)).size<=((l.take a).map fun x=>x.size+2).sum:=by
  intro a
  induction a with
  |zero=>show(A0).size<=_;exact aG _
  |succ a b=>
   rcases be a l.length with h|h
   ·rw[kJ l a _ (aF h),ae,List.take_succ_eq_append_getElem h,eL,List.sum_append];have c:di.size=2:=rfl;have:(if a=0 then bv (l.take a) else bv (l.take a)++di).size<=(bv (l.take a)).size+2:=by
     split
     ·omega
     ·rw[ae,c];exact ag _
    simp only[fo,List.map_nil,List.sum_cons,List.sum_nil];omega
   ·rw[cC (by omega)];rw[cC (by omega)]at b;exact b
 have:=d l.length
 rwa [cC (ag _)]at this
theorem DL(ns:List Nd)(b:Int->Nat)(d:Nat)(a:List Int)(c:∀z∈a,b z+10000<=2000000*sN ns z)(j:d<=10000):(a.map fun z=>b z+d).sum<=2000000*sK ns a:=by
 induction a with
 |nil=>exact aG _
 |cons z k f=>
  have h:=c z dt;have i:=f fun g e=>c g (dJ _ e);simp only[fo,List.sum_cons,sK,Nat.mul_add];omega
theorem nE(ns:List Nd)(E:Int->ByteArray)(a:List Int)(b:∀z∈a,(E z).size+10000<=2000000*sN ns z):(bv (a.map E)).size<=2000000*sK ns a:=by
 refine bA (yw _) ?_;rw[List.map_map];exact DL ns (fun z=>(E z).size) 2 a b (by omega)
theorem Co(l:List ByteArray)(a:∀s∈l,s.size<=4000):(bv l).size<=4002*l.length:=by
 refine bA (yw _) ?_
 induction l with
 |nil=>exact aG _
 |cons d h c=>
  have f:=a d dt;have g:=c fun e b=>a e (dJ _ b);simp only[fo,List.sum_cons,db];omega
theorem yx(l:List ByteArray):(fw l).size=(l.map ByteArray.size).sum:=by
 have c:∀(a:ByteArray),(l.foldl (· ++·) a).size=a.size+(l.map ByteArray.size).sum:=by
  induction l with
  |nil=>intro a;simp
  |cons e d b=>intro a;rw[ni,b,ae,fo,List.sum_cons];omega
 have:=c A0;rw[show ByteArray.empty.size=0 from rfl]at this;unfold fw;omega
theorem aeb(ns:List Nd)(S:Int->Nat->ByteArray)(a:List Int)(tab:Nat)(f:tab<=9000)(d:∀z∈a,(S z (tab+1)).size+10000<=2000000*sN ns z):(tK S a tab).size+10000<=2000000*(1+sK ns a)-900000:=by
 unfold tK;by_cases b:a=[]
 ·rw[ab b];show 2+10000<=_;omega
 ·rw[aa b,ae,ae,ae,yx,iK,List.map_map];have c:(a.map (ByteArray.size ∘ fun e=>ij (tab+1)++S e (tab+1)))=a.map fun z=>(S z (tab+1)).size+(tab+2):=by
   apply List.map_congr_left;intro z g;simp only[Function.comp];rw[ae,iK];omega
  rw[c];have:=DL ns (fun z=>(S z (tab+1)).size) (tab+2) a d (by omega);show 1+_+(tab+1)+1+10000<=_;omega
theorem sa{ns:List Nd}{N:Nd}(a:gc ns N 1 0=O):fj (nodeI ns (bz N 0)).k=O:=iA 1 0 a 0 (by omega) (by omega)
theorem KD{ns:List Nd}{N:Nd}(a:pt ns N=O)(b:N.k=2):gc ns N N.ks.length 0=O/\N.nm.length<=200:=by
 have a:=mh a (by omega);unfold yv at a;simp only[b]at a;simp at a;exact⟨a.2,(oy a.1.2 (by omega)).2⟩
theorem wu{ns:List Nd}{N:Nd}(a:pt ns N=O)(c:N.k=3):N.ks.length=1/\fj (nodeI ns (bz N 0)).k=O/\N.nm.length=1:=by
 have a:=mh a (by omega);unfold yv at a;simp[c]at a;have:=oy a.1.1.2 (by omega);have b:=a.1.1.2;unfold dw at b;rw[aw]at b;have:=aI b.1;exact⟨by omega,sa a.2,by omega⟩
theorem D0{ns:List Nd}{N:Nd}(a:pt ns N=O)(c:N.k=4):N.ks.length=1/\(nodeI ns (bz N 0)).k=36/\N.nm.length=1:=by
 have a:=mh a (by omega);unfold yv at a;simp[c,jq]at a;have b:=a.1.1.2;unfold dw at b;rw[aw]at b;have:=aI b.1;exact⟨by omega,a.2,by omega⟩
theorem aec{ns:List Nd}{N:Nd}(a:pt ns N=O)(b:N.k=5):1<=N.n/\N.n<(N.ks.length:Int)/\tgB ns N N.n.toNat 0=O/\gc ns N (N.ks.length-N.n.toNat) N.n.toNat=O:=by
 have a:=mh a (by omega);unfold yv at a;simp[b]at a;exact⟨a.2.1.1,a.2.1.2,a.2.2.1,a.2.2.2⟩
theorem yy{ns:List Nd}{N:Nd}(a:pt ns N=O)(b:N.k=6\/N.k=16):N.ks.length=1/\(nodeI ns (bz N 0)).k=34:=by
 have a:=mh a (by omega);unfold yv at a;rcases b with e|e<;>simp[e,jq]at a<;>exact⟨by omega,a.2⟩
theorem KE{ns:List Nd}{N:Nd}(a:pt ns N=O)(b:N.k=7):2<=N.ks.length/\N.ks.length<=3/\fj (nodeI ns (bz N 0)).k=O/\(nodeI ns (bz N 1)).k=1/\(N.ks.length=2\/(nodeI ns (bz N 2)).k=1\/(nodeI ns (bz N 2)).k=7):=by
 have a:=mh a (by omega);unfold yv at a;simp[b,jq]at a;exact⟨a.2.1.1,a.2.1.2,sa a.2.2.1,a.2.2.2.1,by omega⟩
theorem wv{ns:List Nd}{N:Nd}(a:pt ns N=O)(b:N.k=8):N.ks.length=2/\fj (nodeI ns (bz N 0)).k=O/\(nodeI ns (bz N 1)).k=1:=by
 have a:=mh a (by omega);unfold yv at a;simp[b,jq]at a;exact⟨by omega,sa a.1.2,a.2⟩
theorem D1{ns:List Nd}{N:Nd}(a:pt ns N=O)(c:N.k=9):(N.ks.length=3\/N.ks.length=4)/\gc ns N (N.ks.length-1) 0=O/\(nodeI ns (bz N (N.ks.length-1))).k=1/\N.nm.length=1:=by
 have a:=mh a (by omega);unfold yv at a;simp[c,jq]at a;have b:=a.2.1;unfold dw at b;rw[aw]at b;have:=aI b.1;exact⟨by omega,a.2.2.2.1,a.2.2.2.2,by omega⟩
theorem Am{ns:List Nd}{N:Nd}(a:pt ns N=O)(b:N.k=10):N.ks.length=2/\fj (nodeI ns (bz N 0)).k=O/\(nodeI ns (bz N 1)).k=1/\N.nm.length<=200:=by
 have a:=mh a (by omega);unfold yv at a;simp[b,jq]at a;exact⟨by omega,sa a.1.2,a.2,(oy a.1.1.1.2 (by omega)).2⟩
theorem aed{ns:List Nd}{N:Nd}(a:pt ns N=O)(b:N.k=13):gc ns N N.ks.length 0=O:=by
 have a:=mh a (by omega);unfold yv at a;simp[b]at a;exact a.2
theorem D2{ns:List Nd}{N:Nd}(a:pt ns N=O)(b:N.k=14):N.ks.length=2/\(nodeI ns (bz N 0)).k=1/\(nodeI ns (bz N 1)).k=1/\N.nm.length<=200:=by
 have a:=mh a (by omega);unfold yv at a;simp[b,jq]at a;exact⟨by omega,a.1.2,a.2,(oy a.1.1.1.2 (by omega)).2⟩
theorem ww{ns:List Nd}{N:Nd}(a:pt ns N=O)(b:N.k=15):N.ks.length=1/\fj (nodeI ns (bz N 0)).k=O:=by
 have a:=mh a (by omega);unfold yv at a;simp[b]at a;exact⟨by omega,sa a.2⟩
theorem FL(l:List ByteArray):∀(f j:Nat),Dr l f j=O->∀q,j<=q->q<j+f->(l.getD q A0).size<=4000
 |0,j,_,q,b,c=>by omega
 |f+1,j,a,q,b,c=>by
  rw[Dr,aw]at a;rcases gI b with rfl|h3
  ·exact eK a.1
  ·exact FL l f (j+1) a.2 q h3 (by omega)
theorem ad{N:Nd}{a b:Int}(c:dw N a b=O):∀s∈N.nm,s.size<=4000:=by
 unfold dw at c;rw[aw]at c;intro s f;obtain⟨g,e,d⟩:=gp f;have:=FL N.nm N.nm.length 0 c.2 g (by omega) (by omega);rw[bF,aF e,d]at this;exact this
theorem ah{N:Nd}{a b c:Bool}(d:aA N a b c M=O):∀s∈N.nm,s.size<=4000:=by
 unfold aA at d;simp at d;intro s e;rw[d.2]at e;cases e
theorem wy{ns:List Nd}{N:Nd}(h:pt ns N=O):∀s∈N.nm,s.size<=4000:=by
 rcases Cn h with hk|hk
 ·have h:=mh h hk;unfold yv at h;rcases aK h with h|h
  ·(simp only[aw]at h;first|exact ah h.1|exact ah h.2|exact ah h.1.1|exact ah h.1.1.1|exact ah h.1.2|exact ah h.1.1.2|exact ad h.2|exact ad h.1.2|exact ad h.1.1.2|exact ad h.1.1.1.2|exact ad h.2.1)
  rcases aK h with h|h
  ·(simp only[aw]at h;first|exact ah h.1|exact ah h.2|exact ah h.1.1|exact ah h.1.1.1|exact ah h.1.2|exact ah h.1.1.2|exact ad h.2|exact ad h.1.2|exact ad h.1.1.2|exact ad h.1.1.1.2|exact ad h.2.1)
  rcases aK h with h|h
  ·(simp only[aw]at h;first|exact ah h.1|exact ah h.2|exact ah h.1.1|exact ah h.1.1.1|exact ah h.1.2|exact ah h.1.1.2|exact ad h.2|exact ad h.1.2|exact ad h.1.1.2|exact ad h.1.1.1.2|exact ad h.2.1)
  rcases aK h with h|h
  ·(simp only[aw]at h;first|exact ah h.1|exact ah h.2|exact ah h.1.1|exact ah h.1.1.1|exact ah h.1.2|exact ah h.1.1.2|exact ad h.2|exact ad h.1.2|exact ad h.1.1.2|exact ad h.1.1.1.2|exact ad h.2.1)
  rcases aK h with h|h
  ·(simp only[aw]at h;first|exact ah h.1|exact ah h.2|exact ah h.1.1|exact ah h.1.1.1|exact ah h.1.2|exact ah h.1.1.2|exact ad h.2|exact ad h.1.2|exact ad h.1.1.2|exact ad h.1.1.1.2|exact ad h.2.1)
  rcases aK h with h|h
  ·(simp only[aw]at h;first|exact ah h.1|exact ah h.2|exact ah h.1.1|exact ah h.1.1.1|exact ah h.1.2|exact ah h.1.1.2|exact ad h.2|exact ad h.1.2|exact ad h.1.1.2|exact ad h.1.1.1.2|exact ad h.2.1)
  rcases aK h with h|h
  ·(simp only[aw]at h;first|exact ah h.1|exact ah h.2|exact ah h.1.1|exact ah h.1.1.1|exact ah h.1.2|exact ah h.1.1.2|exact ad h.2|exact ad h.1.2|exact ad h.1.1.2|exact ad h.1.1.1.2|exact ad h.2.1)
  rcases aK h with h|h
  ·(simp only[aw]at h;first|exact ah h.1|exact ah h.2|exact ah h.1.1|exact ah h.1.1.1|exact ah h.1.2|exact ah h.1.1.2|exact ad h.2|exact ad h.1.2|exact ad h.1.1.2|exact ad h.1.1.1.2|exact ad h.2.1)
  rcases aK h with h|h
  ·(simp only[aw]at h;first|exact ah h.1|exact ah h.2|exact ah h.1.1|exact ah h.1.1.1|exact ah h.1.2|exact ah h.1.1.2|exact ad h.2|exact ad h.1.2|exact ad h.1.1.2|exact ad h.1.1.1.2|exact ad h.2.1)
  rcases aK h with h|h
  ·(simp only[aw]at h;first|exact ah h.1|exact ah h.2|exact ah h.1.1|exact ah h.1.1.1|exact ah h.1.2|exact ah h.1.1.2|exact ad h.2|exact ad h.1.2|exact ad h.1.1.2|exact ad h.1.1.1.2|exact ad h.2.1)
  rcases aK h with h|h
  ·(simp only[aw]at h;first|exact ah h.1|exact ah h.2|exact ah h.1.1|exact ah h.1.1.1|exact ah h.1.2|exact ah h.1.1.2|exact ad h.2|exact ad h.1.2|exact ad h.1.1.2|exact ad h.1.1.1.2|exact ad h.2.1)
  rcases aK h with h|h
  ·(simp only[aw]at h;first|exact ah h.1|exact ah h.2|exact ah h.1.1|exact ah h.1.1.1|exact ah h.1.2|exact ah h.1.1.2|exact ad h.2|exact ad h.1.2|exact ad h.1.1.2|exact ad h.1.1.1.2|exact ad h.2.1)
  rcases aK h with h|h
  ·(simp only[aw]at h;first|exact ah h.1|exact ah h.2|exact ah h.1.1|exact ah h.1.1.1|exact ah h.1.2|exact ah h.1.1.2|exact ad h.2|exact ad h.1.2|exact ad h.1.1.2|exact ad h.1.1.1.2|exact ad h.2.1)
  rcases aK h with h|h
  ·(simp only[aw]at h;first|exact ah h.1|exact ah h.2|exact ah h.1.1|exact ah h.1.1.1|exact ah h.1.2|exact ah h.1.1.2|exact ad h.2|exact ad h.1.2|exact ad h.1.1.2|exact ad h.1.1.1.2|exact ad h.2.1)
  rcases aK h with h|h
  ·(simp only[aw]at h;first|exact ah h.1|exact ah h.2|exact ah h.1.1|exact ah h.1.1.1|exact ah h.1.2|exact ah h.1.1.2|exact ad h.2|exact ad h.1.2|exact ad h.1.1.2|exact ad h.1.1.1.2|exact ad h.2.1)
  rcases aK h with h|h
  ·(simp only[aw]at h;first|exact ah h.1|exact ah h.2|exact ah h.1.1|exact ah h.1.1.1|exact ah h.1.2|exact ah h.1.1.2|exact ad h.2|exact ad h.1.2|exact ad h.1.1.2|exact ad h.1.1.1.2|exact ad h.2.1)
  cases h
 ·have h:=wn h (by omega);unfold mg at h;rcases aK h with h|h
  ·(simp only[aw]at h;first|exact ah h.1|exact ah h.2|exact ah h.1.1|exact ah h.1.1.1|exact ah h.1.2|exact ah h.1.1.2|exact ad h.2|exact ad h.1.2|exact ad h.1.1.2|exact ad h.1.1.1.2|exact ad h.2.1)
  rcases aK h with h|h
  ·(simp only[aw]at h;first|exact ah h.1|exact ah h.2|exact ah h.1.1|exact ah h.1.1.1|exact ah h.1.2|exact ah h.1.1.2|exact ad h.2|exact ad h.1.2|exact ad h.1.1.2|exact ad h.1.1.1.2|exact ad h.2.1)
  rcases aK h with h|h
  ·(simp only[aw]at h;first|exact ah h.1|exact ah h.2|exact ah h.1.1|exact ah h.1.1.1|exact ah h.1.2|exact ah h.1.1.2|exact ad h.2|exact ad h.1.2|exact ad h.1.1.2|exact ad h.1.1.1.2|exact ad h.2.1)
  rcases aK h with h|h
  ·(simp only[aw]at h;first|exact ah h.1|exact ah h.2|exact ah h.1.1|exact ah h.1.1.1|exact ah h.1.2|exact ah h.1.1.2|exact ad h.2|exact ad h.1.2|exact ad h.1.1.2|exact ad h.1.1.1.2|exact ad h.2.1)
  rcases aK h with h|h
  ·(simp only[aw]at h;first|exact ah h.1|exact ah h.2|exact ah h.1.1|exact ah h.1.1.1|exact ah h.1.2|exact ah h.1.1.2|exact ad h.2|exact ad h.1.2|exact ad h.1.1.2|exact ad h.1.1.1.2|exact ad h.2.1)
  rcases aK h with h|h
  ·(simp only[aw]at h;first|exact ah h.1|exact ah h.2|exact ah h.1.1|exact ah h.1.1.1|exact ah h.1.2|exact ah h.1.1.2|exact ad h.2|exact ad h.1.2|exact ad h.1.1.2|exact ad h.1.1.1.2|exact ad h.2.1)
  rcases aK h with h|h
  ·(simp only[aw]at h;first|exact ah h.1|exact ah h.2|exact ah h.1.1|exact ah h.1.1.1|exact ah h.1.2|exact ah h.1.1.2|exact ad h.2|exact ad h.1.2|exact ad h.1.1.2|exact ad h.1.1.1.2|exact ad h.2.1)
  rcases aK h with h|h
  ·(simp only[aw]at h;first|exact ah h.1|exact ah h.2|exact ah h.1.1|exact ah h.1.1.1|exact ah h.1.2|exact ah h.1.1.2|exact ad h.2|exact ad h.1.2|exact ad h.1.1.2|exact ad h.1.1.1.2|exact ad h.2.1)
  rcases aK h with h|h
  ·(simp only[aw]at h;first|exact ah h.1|exact ah h.2|exact ah h.1.1|exact ah h.1.1.1|exact ah h.1.2|exact ah h.1.1.2|exact ad h.2|exact ad h.1.2|exact ad h.1.1.2|exact ad h.1.1.1.2|exact ad h.2.1)
  rcases aK h with h|h
  ·(simp only[aw]at h;first|exact ah h.1|exact ah h.2|exact ah h.1.1|exact ah h.1.1.1|exact ah h.1.2|exact ah h.1.1.2|exact ad h.2|exact ad h.1.2|exact ad h.1.1.2|exact ad h.1.1.1.2|exact ad h.2.1)
  rcases aK h with h|h
  ·(simp only[aw]at h;first|exact ah h.1|exact ah h.2|exact ah h.1.1|exact ah h.1.1.1|exact ah h.1.2|exact ah h.1.1.2|exact ad h.2|exact ad h.1.2|exact ad h.1.1.2|exact ad h.1.1.1.2|exact ad h.2.1)
  rcases aK h with h|h
  ·(simp only[aw]at h;first|exact ah h.1|exact ah h.2|exact ah h.1.1|exact ah h.1.1.1|exact ah h.1.2|exact ah h.1.1.2|exact ad h.2|exact ad h.1.2|exact ad h.1.1.2|exact ad h.1.1.1.2|exact ad h.2.1)
  rcases aK h with h|h
  ·(simp only[aw]at h;first|exact ah h.1|exact ah h.2|exact ah h.1.1|exact ah h.1.1.1|exact ah h.1.2|exact ah h.1.1.2|exact ad h.2|exact ad h.1.2|exact ad h.1.1.2|exact ad h.1.1.1.2|exact ad h.2.1)
  rcases aK h with h|h
  ·(simp only[aw]at h;first|exact ah h.1|exact ah h.2|exact ah h.1.1|exact ah h.1.1.1|exact ah h.1.2|exact ah h.1.1.2|exact ad h.2|exact ad h.1.2|exact ad h.1.1.2|exact ad h.1.1.1.2|exact ad h.2.1)
  rcases aK h with h|h
  ·(simp only[aw]at h;first|exact ah h.1|exact ah h.2|exact ah h.1.1|exact ah h.1.1.1|exact ah h.1.2|exact ah h.1.1.2|exact ad h.2|exact ad h.1.2|exact ad h.1.1.2|exact ad h.1.1.1.2|exact ad h.2.1)
  rcases aK h with h|h
  ·(simp only[aw]at h;first|exact ah h.1|exact ah h.2|exact ah h.1.1|exact ah h.1.1.1|exact ah h.1.2|exact ah h.1.1.2|exact ad h.2|exact ad h.1.2|exact ad h.1.1.2|exact ad h.1.1.1.2|exact ad h.2.1)
  rcases aK h with h|h
  ·(simp only[aw]at h;first|exact ah h.1|exact ah h.2|exact ah h.1.1|exact ah h.1.1.1|exact ah h.1.2|exact ah h.1.1.2|exact ad h.2|exact ad h.1.2|exact ad h.1.1.2|exact ad h.1.1.1.2|exact ad h.2.1)
  rcases aK h with h|h
  ·(simp only[aw]at h;first|exact ah h.1|exact ah h.2|exact ah h.1.1|exact ah h.1.1.1|exact ah h.1.2|exact ah h.1.1.2|exact ad h.2|exact ad h.1.2|exact ad h.1.1.2|exact ad h.1.1.1.2|exact ad h.2.1)
  rcases aK h with h|h
  ·(simp only[aw]at h;first|exact ah h.1|exact ah h.2|exact ah h.1.1|exact ah h.1.1.1|exact ah h.1.2|exact ah h.1.1.2|exact ad h.2|exact ad h.1.2|exact ad h.1.1.2|exact ad h.1.1.1.2|exact ad h.2.1)
  rcases aK h with h|h
  ·(simp only[aw]at h;first|exact ah h.1|exact ah h.2|exact ah h.1.1|exact ah h.1.1.1|exact ah h.1.2|exact ah h.1.1.2|exact ad h.2|exact ad h.1.2|exact ad h.1.1.2|exact ad h.1.1.1.2|exact ad h.2.1)
  rcases aK h with h|h
  ·(simp only[aw]at h;first|exact ah h.1|exact ah h.2|exact ah h.1.1|exact ah h.1.1.1|exact ah h.1.2|exact ah h.1.1.2|exact ad h.2|exact ad h.1.2|exact ad h.1.1.2|exact ad h.1.1.1.2|exact ad h.2.1)
  cases h
theorem wz{N:Nd}{j:Nat}(a:j<N.ks.length):N.ks[j]=bz N j:=by unfold bz;rw[bF,aF a];rfl
theorem mt(ns:List Nd){N:Nd}(a:N.ks.length=1):sK ns N.ks=sN ns (bz N 0):=by
 unfold bz
 match e:N.ks,a with
 |[b],_=>simp[sK]
theorem tg(ns:List Nd){N:Nd}(a:N.ks.length=2):sK ns N.ks=sN ns (bz N 0)+sN ns (bz N 1):=by
 unfold bz
 match e:N.ks,a with
 |[b,c],_=>simp[sK]
theorem KF(ns:List Nd){N:Nd}(a:N.ks.length=3):sK ns N.ks=sN ns (bz N 0)+sN ns (bz N 1)+sN ns (bz N 2):=by
 unfold bz
 match e:N.ks,a with
 |[b,c,d],_=>simp[sK];omega
theorem aby(ns:List Nd){N:Nd}(a:0<N.ks.length):sK ns N.ks=sK ns (N.ks.take (N.ks.length-1))+sN ns (bz N (N.ks.length-1)):=by
 rw[wt ns N.ks (N.ks.length-1)]
 congr 1
 rw[lB (by omega),wz,qv (by omega)];simp[sK]
theorem abz(ns:List Nd){N:Nd}(b:0<N.ks.length):sK ns N.ks=sN ns (bz N 0)+sK ns (N.ks.drop 1):=by
 rw[wt ns N.ks 1]
 congr 1
 unfold bz
 match e:N.ks,b with
 |a::c,_=>simp[sK]
theorem yz(n:Int)(b:n<=9223372036854775807):(lr n).size<=30:=by
 unfold lr;split
 ·rw[lq];omega
 ·rename_i a;have:=Lib.itoa_length_le n (by omega) b;show(Lib.decDigits n.toNat).toArray.size<=30;rw[oC];unfold Lib.itoa at this;simp only[a,if_false]at this;omega
theorem KH(N:Nd)(b:N.x.size<=4000)(a:N.n<=9223372036854775807):(GH N).size<=20000:=by
 unfold GH
 repeat' split
 ·show 3<=_;omega
 ·show 4<=_;omega
 ·show 5<=_;omega
 ·have:=yz N.n a;omega
 ·omega
 ·have:=GB N.x;unfold adg at this;omega
 ·show 3<=_;omega
 ·show 0<=_;omega
theorem th(ns:List Nd)(E:Int->ByteArray)(k a:Int):(ik ns E k a).size<=(E k).size+2:=by
 unfold ik;split
 ·rw[pq];omega
 ·omega
theorem An(ns:List Nd)(E:Int->ByteArray)(k:Int):(Hr ns E k).size<=(E k).size+2:=by
 unfold Hr;split
 ·omega
 ·rw[pq];omega
theorem abA(ns:List Nd)(N:Nd):(unS ns N).size<=4:=by
 unfold unS
 repeat' split
 ·show 4<=4;omega
 ·show 1<=4;omega
 ·show 1<=4;omega
 ·show 2<=4;omega
 ·show 1<=4;omega
theorem Cp{op:Int}(a:1<=op/\op<=18):(px (60+op)).size<=4:=by
 obtain⟨b,c⟩:=a;rcases(show op=1\/op=2\/op=3\/op=4\/op=5\/op=6\/op=7\/op=8\/op=9\/op=10\/op=11\/op=12\/op=13\/op=14\/op=15\/op=16\/op=17\/op=18 by omega) with rfl|rfl|rfl|rfl|rfl|rfl|rfl|rfl|rfl|rfl|rfl|rfl|rfl|rfl|rfl|rfl|rfl|rfl;all_goals decide+kernel
structure KI (ns:List Nd) (E:Int->ByteArray) (S:Int->Nat->ByteArray) (i:Nat) (tab:Nat):Prop where
 e:∀z:Nat,z<i->(E z).size+10000<=2000000*sN ns z
 s:∀z:Nat,z<i->(S z (tab+1)).size+10000<=2000000*sN ns z
theorem KI.kid{ns:List Nd}{E:Int->ByteArray}{S:Int->Nat->ByteArray}{i tab:Nat}(a:KI ns E S i tab)(d:KB ns){q:Nat}(k:q<=i)(b:q<ns.length):∀z∈(nodeI ns q).ks,(E z).size+10000<=2000000*sN ns z/\(S z (tab+1)).size+10000<=2000000*sN ns z:=by
 intro z h;obtain⟨j,g,rfl⟩:=iB h;obtain⟨f,c⟩:=eD (d.nb q b) b j g;rw[c.id];have:=c.lt;exact⟨a.e f (by omega),a.s f (by omega)⟩
theorem KI.blk{ns:List Nd}{E:Int->ByteArray}{S:Int->Nat->ByteArray}{i tab:Nat}(b:KI ns E S i tab)(d:KB ns)(e:tab<=9000){q:Nat}(c:q<=i)(a:q<ns.length):(tK S (nodeI ns q).ks tab).size+910000<=2000000*sN ns q:=by
 have:=aeb ns S (nodeI ns q).ks tab e (fun g f=>(b.kid d c a g f).2);rw[d.at_ q a];omega
theorem KJ{ns:List Nd}{N:Nd}(a:pt ns N=O)(c:N.nm.length<=200):(GJ N).size<=810000:=by
 unfold GJ;have:=Co N.nm (wy a);simp only[ae];have b:(if N.op=1 then(if N.nm=[] then(⟨#[46,46,46]⟩:ByteArray) else di++⟨#[46,46,46]⟩) else A0).size<=5:=by
  repeat' split
  ·show 3<=5;omega
  ·show 5<=5;omega
  ·show 0<=5;omega
 show 1+_+_+2<=_;omega
theorem KI.bod{ns:List Nd}{E:Int->ByteArray}{S:Int->Nat->ByteArray}{i tab:Nat}(c:KI ns E S i tab)(d:KB ns)(j:tab<=9000){q:Nat}(h:q<=i)(a:q<ns.length)(g:(nodeI ns q).k=36):(wj ns S (nodeI ns q) tab).size+20000<=2000000*sN ns q:=by
 obtain⟨e,m,f,n⟩:=Kz (il (d.nb q a)).1 g;obtain⟨o,b⟩:=eD (d.nb q a) a 0 (by omega);have l:=c.blk d j (bA (dD b.lt) h) b.len;unfold wj;rw[ae,b.id,d.at_ q a,mt ns e,b.id];have:=KJ (il (d.nb q a)).1 f;omega
theorem KL{ns:List Nd}{E:Int->ByteArray}{S:Int->Nat->ByteArray}{i tab:Nat}(f:KI ns E S i tab)(d:KB ns){q:Nat}(s:q<=i)(b:q<ns.length)(r:40<=(nodeI ns q).k/\(nodeI ns q).k<=42):(iD ns E (nodeI ns q)).size+10000<=2000000*sN ns q:=by
 have m:=(il (d.nb q b)).1;have t:=DK (d.nb q b);have h:=fun p o=>eD (d.nb q b) b p o;rw[d.at_ q b];unfold iD;by_cases j:(nodeI ns q).k=41
 ·rw[ab j];obtain⟨g,_,_⟩:=ja m (by omega);obtain⟨c,a⟩:=h 0 (by omega);obtain⟨n,l⟩:=h 1 (by omega);rw[tg ns g,a.id,l.id];have:=f.e c (by have:=a.lt;omega);have:=f.e n (by have:=l.lt;omega);simp only[ae];show 1+_+4+_+_<=_;omega
 ·rw[aa j];obtain⟨g,_,_⟩:=jD m (show _ by omega);obtain⟨c,a⟩:=h 0 (by omega);rw[mt ns g,a.id];have:=f.e c (by have:=a.lt;omega);split
  ·simp only[ae];show 1+_+3+_+_<=_;omega
  ·omega
theorem K0{ns:List Nd}{E:Int->ByteArray}{S:Int->Nat->ByteArray}{i tab:Nat}(g:KI ns E S i tab)(d:KB ns)(K:tab<=9000)(c:i<ns.length)(J:(nodeI ns i).n<=9223372036854775807):(prE ns E S (nodeI ns i) tab).size+10000<=2000000*sN ns i:=by
 have j:=(il (d.nb i c)).1;have L:=DK (d.nb i c);have h:=fun m s=>eD (d.nb i c) c m s;have v:∀(x:ByteArray)(w:Int),x.size<=100->((nodeI ns i).k=28\/(nodeI ns i).k=29\/(nodeI ns i).k=31\/(nodeI ns i).k=32\/(nodeI ns i).k=41)->(tJ ns E (nodeI ns i) x w).size+10000<=2000000*sN ns i:=by
  intro x w ak I;obtain⟨f,_,_⟩:=ja j I;obtain⟨b,a⟩:=h 0 (by omega);obtain⟨l,k⟩:=h 1 (by omega);rw[d.at_ i c,tg ns f,a.id,k.id];unfold tJ;rw[a.id,k.id];have:=g.e b a.lt;have:=g.e l k.lt;have:=th ns E b (Kf (nodeI ns i) w);have:=th ns E l (rG (nodeI ns i).k (nodeI ns i).op);simp only[ae];omega
 unfold prE;by_cases y:(nodeI ns i).k=28
 ·rw[ab y];exact v _ _ (by show 5<=100;omega) (by omega)
 rw[aa y];by_cases A:(nodeI ns i).k=29
 ·rw[ab A];exact v _ _ (by show 4<=100;omega) (by omega)
 rw[aa A];by_cases o:(nodeI ns i).k=31
 ·rw[ab o];have:=Cp ((ja j (by omega)).2.2 o);exact v _ _ (by simp only[ae];show 1+_+1<=_;omega) (by omega)
 rw[aa o];by_cases B:(nodeI ns i).k=30
 ·rw[ab B];obtain⟨f,_,_⟩:=jD j (by omega);obtain⟨b,a⟩:=h 0 (by omega);rw[d.at_ i c,mt ns f,a.id];unfold GG;rw[a.id];have:=g.e b a.lt;have:=th ns E b 11;have:=abA ns (nodeI ns i);simp only[ae];omega
 rw[aa B];by_cases C:(nodeI ns i).k=32
 ·rw[ab C];obtain⟨f,_,_⟩:=ja j (by omega);obtain⟨b,a⟩:=h 0 (by omega);obtain⟨l,k⟩:=h 1 (by omega);rw[d.at_ i c,tg ns f,a.id,k.id];have:=g.e b a.lt;have:=g.e l k.lt;have:=An ns E b;simp only[ae];show _+1+_+1+_<=_;omega
 rw[aa C];by_cases F:(nodeI ns i).k=33
 ·rw[ab F];obtain⟨f,_,_⟩:=jD j (by omega);obtain⟨b,a⟩:=h 0 (by omega);rw[d.at_ i c,mt ns f,a.id];have:=g.e b a.lt;have:=An ns E b;simp only[ae];show _+(1+_)+_<=_;omega
 rw[aa F];by_cases p:(nodeI ns i).k=34
 ·rw[ab p];obtain⟨f,_⟩:=Al j p;obtain⟨b,a⟩:=h 0 (by omega);rw[d.at_ i c,abz ns (by omega),a.id];have:=g.e b a.lt;have:=An ns E b;have:=nE ns E ((nodeI ns i).ks.drop 1) (fun H u=>(g.kid d (ag _) c H (List.mem_of_mem_drop u)).1);simp only[ae];show _+1+_+1+_<=_;omega
 rw[aa p];by_cases q:(nodeI ns i).k=35
 ·rw[ab q];unfold GI;have f:=wo j q;have:=nE ns (fun af=>iD ns E (nodeI ns af)) (nodeI ns i).ks (fun H u=>by
   obtain⟨m,s,rfl⟩:=iB u;obtain⟨al,t⟩:=h m s;have G:=FK _ 0 f m (by omega) (by omega);rw[t.id]at G⊢;exact KL g d (dD t.lt) t.len G)
  rw[d.at_ i c];simp only[ae];show 1+_+1+_<=_;omega
 rw[aa q];by_cases r:(nodeI ns i).k=36
 ·rw[ab r];have:=g.bod d K (ag _) c r;simp only[ae];show 2+_+_<=_;omega
 rw[aa r];by_cases z:(nodeI ns i).k=37
 ·rw[ab z];obtain⟨f,_,_⟩:=jD j (by omega);obtain⟨b,a⟩:=h 0 (by omega);rw[d.at_ i c,mt ns f,a.id,pq];have:=g.e b a.lt;omega
 rw[aa z];have:=KH (nodeI ns i) L J;rw[d.at_ i c];omega
theorem G8{ns:List Nd}{E:Int->ByteArray}{S:Int->Nat->ByteArray}{l:Int->ByteArray->ByteArray}{i tab:Nat}(h:KI ns E S i tab)(d:KB ns)(n:tab<=9000)(e:i<ns.length)(t:(nodeI ns i).k=7)
  (r:∀(z:Nat)(w:ByteArray),z<i->(nodeI ns z).k=7->w.size<=10->(l z w).size+10000<=2000000*sN ns z) (o:ByteArray) (H:o.size<=10):(wk ns E S l (nodeI ns i) o tab).size+10000<=2000000*sN ns i:=by
 have u:=(il (d.nb i e)).1;have j:=fun v s=>eD (d.nb i e) e v s;obtain⟨B,C,F,G,q⟩:=KE u t;obtain⟨p,b⟩:=j 0 (by omega);obtain⟨x,a⟩:=j 1 (by omega);have y:=h.e p b.lt;have A:=h.blk d n (dD a.lt) a.len;unfold wk;rw[b.id,a.id,d.at_ i e];simp only[ae];rcases be (nodeI ns i).ks.length 3 with g|g
 ·rw[ab g,tg ns (by omega),b.id,a.id];show _+_+1+_+0+_<=_;omega
 ·rw[aa (by omega),KF ns (by omega),b.id,a.id];obtain⟨m,c⟩:=j 2 (by omega);rw[c.id]at q⊢;by_cases f:(nodeI ns m).k=7
  ·rw[ab f];have:=r m ⟨#[32,101,108,105,102,32]⟩ c.lt f (by show 6<=10;omega);show _+_+1+_+_+_<=_;omega
  ·rw[aa f];have:=h.blk d n (dD c.lt) c.len;rw[ae];show _+_+1+_+(6+_)+_<=_;omega
theorem K4{ns:List Nd}{N:Nd}(a:pt ns N=O):(nm0 N).size<=4000:=by
 unfold nm0;rw[bF];cases e:N.nm[0]? with
 |none=>show 0<=4000;omega
 |some b=>exact wy a b (dC e)
theorem K7{ns:List Nd}{E:Int->ByteArray}{S:Int->Nat->ByteArray}{B:Int->ByteArray->ByteArray}{i tab:Nat}(f:KI ns E S i tab)(d:KB ns)(q:tab<=9000)(b:i<ns.length)
  (ak:(nodeI ns i).k=7->(B (-1) ⟨#[105,102,32]⟩).size+10000<=2000000*sN ns i):(prS ns E S B (nodeI ns i) tab).size+10000<=2000000*sN ns i:=by
 have g:=(il (d.nb i b)).1;have m:=fun an al=>eD (d.nb i b) b an al;have s:=fun p o=>(f.kid d (ag _) b p o).1;have nm0:=K4 g;have av:=Co (nodeI ns i).nm (wy g);unfold prS;by_cases F:(nodeI ns i).k=1
 ·rw[ab F];have:=f.blk d q (ag _) b;omega
 rw[aa F];by_cases v:(nodeI ns i).k=2
 ·rw[ab v,d.at_ i b];obtain⟨c,j⟩:=KD g v;have:=nE ns E (nodeI ns i).ks s;simp only[ae];split
  ·show 4+_+0+_<=_;omega
  ·rw[ae];show 4+_+(3+_)+_<=_;omega
 rw[aa v];by_cases w:(nodeI ns i).k=3
 ·rw[ab w,d.at_ i b];obtain⟨c,j,r⟩:=wu g w;obtain⟨h,a⟩:=m 0 (by omega);rw[mt ns c,a.id];have:=f.e h a.lt;simp only[ae];show 6+_+3+_+_<=_;omega
 rw[aa w];by_cases x:(nodeI ns i).k=4
 ·rw[ab x,d.at_ i b];obtain⟨c,j,r⟩:=D0 g x;obtain⟨h,a⟩:=m 0 (by omega);rw[mt ns c];rw[a.id]at j⊢;have:=f.bod d q (dD a.lt) a.len j;simp only[ae];show 3+_+_+_<=_;omega
 rw[aa x];by_cases K:(nodeI ns i).k=5
 ·rw[ab K,d.at_ i b,wt ns (nodeI ns i).ks (nodeI ns i).n.toNat];have:=nE ns E ((nodeI ns i).ks.take (nodeI ns i).n.toNat) (fun p o=>s p (qD o));have:=nE ns E ((nodeI ns i).ks.drop (nodeI ns i).n.toNat) (fun p o=>s p (List.mem_of_mem_drop o));simp only[ae];show _+3+_+_<=_;omega
 rw[aa K];by_cases L:(nodeI ns i).k=6
 ·rw[ab L,d.at_ i b];obtain⟨c,j⟩:=yy g (by omega);obtain⟨h,a⟩:=m 0 (by omega);rw[mt ns c,a.id];have:=f.e h a.lt;omega
 rw[aa L];by_cases y:(nodeI ns i).k=7
 ·rw[ab y];exact ak y
 rw[aa y];by_cases z:(nodeI ns i).k=8
 ·rw[ab z,d.at_ i b];obtain⟨c,j,r⟩:=wv g z;obtain⟨h,a⟩:=m 0 (by omega);obtain⟨C,l⟩:=m 1 (by omega);rw[tg ns c,a.id,l.id];have:=f.e h a.lt;have:=f.blk d q (dD l.lt) l.len;simp only[ae];show 6+_+1+_+_<=_;omega
 rw[aa z];by_cases A:(nodeI ns i).k=9\/(nodeI ns i).k=10
 ·rw[ab A,d.at_ i b];have am:0<(nodeI ns i).ks.length/\(nodeI ns i).nm.length<=200:=by
   rcases A with e|e
   ·obtain⟨c,j,r,af⟩:=D1 g e;omega
   ·obtain⟨c,j,r,af⟩:=Am g e;omega
  obtain⟨C,l⟩:=m ((nodeI ns i).ks.length-1) (by omega);rw[aby ns am.1,l.id];have:=nE ns E ((nodeI ns i).ks.take ((nodeI ns i).ks.length-1)) (fun p o=>s p (qD o));have:=f.blk d q (dD l.lt) l.len;have ap:(if(nodeI ns i).k=9 then(⟨#[32,61,32]⟩:ByteArray) else⟨#[32,105,110,32]⟩).size<=4:=by
   split
   ·show 3<=4;omega
   ·show 4<=4;omega
  simp only[ae];show 4+_+_+_+1+_+_<=_;omega
 rw[aa A];by_cases G:(nodeI ns i).k=11
 ·rw[ab G,d.at_ i b];show 5+_<=_;omega
 rw[aa G];by_cases H:(nodeI ns i).k=12
 ·rw[ab H,d.at_ i b];show 4+_<=_;omega
 rw[aa H];by_cases I:(nodeI ns i).k=13
 ·rw[ab I,d.at_ i b];have:=nE ns E (nodeI ns i).ks s;simp only[ae];split
  ·show 6+0+_<=_;omega
  ·rw[ae];show 6+(1+_)+_<=_;omega
 rw[aa I];by_cases t:(nodeI ns i).k=14
 ·rw[ab t,d.at_ i b];obtain⟨c,j,r,af⟩:=D2 g t;obtain⟨h,a⟩:=m 0 (by omega);obtain⟨C,l⟩:=m 1 (by omega);rw[tg ns c,a.id,l.id];have:=f.blk d q (dD a.lt) a.len;have:=f.blk d q (dD l.lt) l.len;simp only[ae];show 4+_+7+_+1+_+_<=_;omega
 rw[aa t];by_cases u:(nodeI ns i).k=15
 ·rw[ab u,d.at_ i b];obtain⟨c,j⟩:=ww g u;obtain⟨h,a⟩:=m 0 (by omega);rw[mt ns c,a.id];have:=f.e h a.lt;simp only[ae];show 6+_+_<=_;omega
 rw[aa u];by_cases J:(nodeI ns i).k=16
 ·rw[ab J,d.at_ i b];obtain⟨c,j⟩:=yy g (by omega);obtain⟨h,a⟩:=m 0 (by omega);rw[mt ns c,a.id];have:=f.e h a.lt;simp only[ae];show 6+_+_<=_;omega
 rw[aa J,d.at_ i b];show 0+_<=_;omega
theorem F3{ns:List Nd}(d:KB ns)(o:∀i:Int,(nodeI ns i).n<=9223372036854775807):∀(f i tab:Nat),i<ns.length->tab+f<=8000->
  (sJ ns f i tab).size+10000<=2000000*sN ns i/\(nF ns f i tab).size+10000<=2000000*sN ns i/\((nodeI ns i).k=7->∀w:ByteArray,w.size<=10->(rH ns f i w tab).size+10000<=2000000*sN ns i)
 |0,i,tab,g,q=>by
  have:=d.at_ i g;refine⟨?_,?_,fun _ w _=>?_⟩;all_goals (first|(rw[sJ];show 0+_<=_;omega)|(rw[nF];show 0+_<=_;omega)|(rw[rH];show 0+_<=_;omega))
 |f+1,i,tab,g,q=>by
  have j:=fun (a e:Nat) (c:a<i) (p:e+f<=8000)=>F3 d o f a e (by omega) p;have l:KI ns (fun k=>sJ ns f k tab) (fun k e=>nF ns f k e) i tab:=⟨fun a c=>(j a tab c (by omega)).1,fun a c=>(j a (tab+1) c (by omega)).2.1⟩;have m:(nodeI ns i).k=7->∀w:ByteArray,w.size<=10->(wk ns (fun k=>sJ ns f k tab) (fun k e=>nF ns f k e) (fun k w=>rH ns f k w tab) (nodeI ns i) w tab).size+10000<=2000000*sN ns i:=fun b w h=>
   G8 l d (by omega) g b (fun a w c b h=>(j a tab c (by omega)).2.2 b w h) w h
  refine⟨?_,?_,?_⟩
  ·rw[sJ];exact K0 l d (by omega) g (o _)
  ·rw[nF];exact K7 l d (by omega) g (fun b=>m b _ (by show 3<=10;omega))
  ·intro b w h;rw[rH];exact m b w h
theorem D3{ns:List Nd}(d:KB ns)(j:∀i:Int,(nodeI ns i).n<=9223372036854775807)(s:ns.length<=3000)(o:0<ns.length):(iL ns).size<=6000000000:=by
 unfold iL;rw[yx,List.map_map];have e:((ns.length:Int)-1)=((ns.length-1:Nat):Int):=by omega
 rw[e];have h:∀a∈(nodeI ns ((ns.length-1:Nat):Int)).ks,(nF ns ns.length a 0).size+10000<=2000000*sN ns a:=by
  intro a c;obtain⟨k,g,rfl⟩:=iB c;obtain⟨m,b⟩:=eD (d.nb _ (by omega)) (by omega) k g;rw[b.id];exact(F3 d j ns.length m 0 b.len (by omega)).2.1
 have p:=DL ns (fun a=>(nF ns ns.length a 0).size) 1 _ h (by omega);have q:=d.at_ (ns.length-1) (by omega);have r:=d.le ((ns.length-1:Nat):Int);have f:((nodeI ns ((ns.length-1:Nat):Int)).ks.map (ByteArray.size ∘ fun l=>nF ns ns.length l 0++⟨#[10]⟩))=(nodeI ns ((ns.length-1:Nat):Int)).ks.map fun a=>(nF ns ns.length a 0).size+1:=by
  apply List.map_congr_left;intro a c;simp only[Function.comp];rw[ae];rfl
 rw[f];omega
