import Derived.Test.YtnoojdbdapljoaaGreatDoorHOk27
import Derived.Test.YtnoojdbdapljoaaGreatDoorHOk08
set_option linter.all false
open Go.Lib renaming hasPrefix->A
open Bool renaming true->B,false->F
open ByteArray renaming empty->C
namespace Go.Proofs.YtnoojdbdapljoaaGreatDoor
open Go.RowKit Go.Maps Go.WideMaps
def wdP(s:ByteArray)(p:Nat):Int×ByteArray:=match ue eE (s.extract p (qk s (s.size+1) p)) 22 0 with|some a=>(10+(a:Int),⟨#[]⟩)|none=>(1,s.extract p (qk s (s.size+1) p))
theorem ajI(s:ByteArray)(p:Nat):wdT s p= .agg #[.int .i64 (wdP s p).1,.int .i64 p,.int .i64 (qk s (s.size+1) p),.int .i64 0,.int .i64 0,.string (wdP s p).2]:=by
 unfold wdT wdP;cases ue eE (s.extract p (qk s (s.size+1) p)) 22 0<;>rfl
theorem Jy(s:ByteArray)(a b i:Nat)(d:b<=s.size)(e:a+i<b):aK (s.extract a b) i=aK s (a+i):=by
 rw[CK,CK];have c:(s.extract a b).data.toList=(s.data.toList.drop a).take (b-a):=by rw[<-gH,Lib.extract_toList]
 rw[c,lc,ab (by omega),px]
theorem ac0(s:ByteArray)(a b:Nat)(c:b<=s.size):(s.extract a b).size=b-a:=by rw[xG];omega
def Hm(s:ByteArray)(p:Nat):Int×Int×ByteArray:=
 if aK s p=48/\aK s (p+1)=120 then(2,wrap64 (vy s (p+2) ((fC s p).1-(p+2)):Int),⟨#[]⟩)
 else match (if nKd s p=B then none else xi s p ((fC s p).1-p)) with
  |some a=>(2,(a:Int),⟨#[]⟩)
  |none=>(3,0,s.extract p (fC s p).1)
theorem aij(s:ByteArray)(p:Nat)(a:(fC s p).2=B):xm s p= .agg #[.int .i64 (Hm s p).1,.int .i64 p,.int .i64 ((fC s p).1:Int),.int .i64 0,.int .i64 (Hm s p).2.1,.string (Hm s p).2.2]/\uu s p= -1:=by
 unfold xm uu Hm;by_cases b:aK s p=48/\aK s (p+1)=120
 ·have c:fC s p=mu s (p+2):=by unfold fC;rw[ab b]
  rw[c]at a⊢;simp only[ab b];unfold hxA hxF;rw[ab a,ab a];exact⟨rfl,rfl⟩
 ·have c:fC s p=nH s (nA1 s (nA0 s p)):=by unfold fC;rw[aa b]
  rw[c]at a⊢;simp only[aa b];unfold nmA nmF;rw[ab a,ab a];cases nKd s p with
  |true=>exact⟨rfl,rfl⟩
  |false=>
   simp only[aa (show ¬F=B by simp)];cases xi s p ((nH s (nA1 s (nA0 s p))).1-p)<;>exact⟨rfl,by trivial⟩
theorem Fk(s:ByteArray)(p:Nat)(a:(fC s p).2=F):uu s p=((fC s p).1:Int):=by
 unfold uu;by_cases b:aK s p=48/\aK s (p+1)=120
 ·have c:fC s p=mu s (p+2):=by unfold fC;rw[ab b]
  rw[c]at a⊢;rw[ab b];unfold hxF;rw[aa (by rw[a];simp)]
 ·have c:fC s p=nH s (nA1 s (nA0 s p)):=by unfold fC;rw[aa b]
  rw[c]at a⊢;rw[aa b];unfold nmF;rw[aa (by rw[a];simp)]
def LA(V:Array Value)(base:Int)(r:ByteArray):Nat->Nat->Int×Nat->Int×Nat
 |0,_,a=>a
 |f+1,i,a=>LA V base r f (i+1) (if a.2<(dB V i).size/\A r.data.toList (dB V i).data.toList=B then(base+(i:Int),(dB V i).size) else a)
def vL(r:ByteArray):Int:=if aK r 0=59 then 5 else if aK r 0=10 then 7 else(LA Ei 61 r 18 0 (LA pz 40 r 11 0 (0,0))).1
theorem Hn(V:Array Value)(base:Int)(r:ByteArray)(d:0<=base)(N:Int):∀(f i:Nat)(a:Int×Nat),0<=a.1->a.1<=N->base+((i+f:Nat):Int)<=N+1->0<=(LA V base r f i a).1/\(LA V base r f i a).1<=N
 |0,i,a,b,c,_=>⟨b,c⟩
 |f+1,i,a,b,c,e=>by
  unfold LA;refine Hn V base r d N f (i+1) _ ?_ ?_ (by omega)
  ·split
   ·simp only;omega
   ·exact b
  ·split
   ·simp only;omega
   ·exact c
theorem aik(r:ByteArray):0<=vL r/\vL r<=78:=by
 unfold vL;split
 ·omega
 split
 ·omega
 have a:=Hn pz 40 r (by omega) 50 11 0 (0,0) (by simp) (by simp) (by simp);exact Hn Ei 61 r (by omega) 78 18 0 _ a.1 (by omega) (by simp)
structure Rd where
 ok:Bool
 a:Nat
 d:Int
 k:Int
 n:Int
 x:ByteArray
def fj(s:ByteArray)(p:Nat):Rd:=
 if cK (aK s p)=B then⟨B,qk s (s.size+1) p,0,(wdP s p).1,0,(wdP s p).2⟩
 else if dl (aK s p)=B then(if(fC s p).2=B then⟨B,(fC s p).1,0,(Hm s p).1,(Hm s p).2.1,(Hm s p).2.2⟩ else⟨F,(fC s p).1,0,0,0,C⟩)
 else if aK s p=34 then(if(iu s (s.size+1) (p+1) []).1=B then⟨B,(iu s (s.size+1) (p+1) []).2.1,0,4,0,ga (iu s (s.size+1) (p+1) []).2.2⟩ else⟨F,(iu s (s.size+1) (p+1) []).2.1,0,0,0,C⟩)
 else if vL (s.extract p s.size)=0 then⟨F,p,0,0,0,C⟩ else⟨B,p+(ug (vL (s.extract p s.size))).size,if vL (s.extract p s.size)=7 then 1 else 0,vL (s.extract p s.size),0,C⟩
theorem agf(i:Nat)(h:i<11):ug (40+(i:Int))=dB pz i:=by
 unfold ug;rw[aa (by omega),aa (by omega),aa (by omega),ab (by omega)];rw[show(40+(i:Int)-40).toNat=i by omega]
theorem agh(i:Nat)(h:i<18):ug (61+(i:Int))=dB Ei i:=by
 unfold ug;rw[aa (by omega),aa (by omega),aa (by omega),aa (by omega),ab (by omega)];rw[show(61+(i:Int)-61).toNat=i by omega]
def Sgn(r:ByteArray)(k:Int)(n:Nat):Prop:=(k=0/\n=0)\/(n=(ug k).size/\1<=n/\A r.data.toList (ug k).data.toList=B/\k≠0)
theorem Dl(V:Array Value)(base:Int)(r:ByteArray)(N:Nat)(c:0<base)(b:∀i,i<N->ug (base+(i:Int))=dB V i):∀(f i:Nat)(a:Int×Nat),i+f<=N->Sgn r a.1 a.2->Sgn r (LA V base r f i a).1 (LA V base r f i a).2
 |0,i,a,_,h=>h
 |f+1,i,a,e,h=>by
  unfold LA;refine Dl V base r N c b f (i+1) _ (by omega) ?_;split
  ·rename_i d;refine .inr ⟨?_,?_,?_,?_⟩
   ·show(dB V i).size=_;rw[b i (by omega)]
   ·show 1<=(dB V i).size;omega
   ·show A _ (ug (base+(i:Int))).data.toList=B;rw[b i (by omega)];exact d.2
   ·show base+(i:Int)≠0;omega
  ·exact h
theorem agi(r x:ByteArray)(h:A r.data.toList x.data.toList=B):x.size<=r.size:=by
 unfold A at h;rw[yd]at h;have:=h.length_le
 rwa [iq,iq]at this
theorem agj(r:ByteArray)(h:0<r.size)(a:vL r≠0):1<=(ug (vL r)).size/\(ug (vL r)).size<=r.size:=by
 unfold vL at a⊢;split
 ·exact⟨by decide,by show 1<=r.size;omega⟩
 split
 ·exact⟨by decide,by show 1<=r.size;omega⟩
 rename_i c d;rw[aa c,aa d]at a;have f:=Dl pz 40 r 11 (by omega) agf 11 0 (0,0) (by omega) (.inl ⟨rfl,rfl⟩);have g:=Dl Ei 61 r 18 (by omega) agh 18 0 _ (by omega) f;rcases g with⟨b,_⟩|⟨b,i,e,_⟩
 ·exact absurd b a
 ·exact⟨by omega,agi r _ e⟩
theorem agk(s:ByteArray)(p:Nat)(h:cK (aK s p)=B):p<qk s (s.size+1) p:=by
 have a:p<s.size:=by
  rcases cA p s.size with h1|h1
  ·exact h1
  ·exact absurd (.inl h) (CJ (by omega))
 rw[qk,ab (.inl h)];have:=ze s s.size (p+1) (by omega);omega
theorem jB(s:ByteArray)(p:Nat)(i:p<s.size)(b:(fj s p).ok=B):p<(fj s p).a/\(fj s p).a<=s.size/\0<=(fj s p).d/\(fj s p).d<=1:=by
 unfold fj at b⊢;split
 ·rename_i h;exact⟨agk s p h,(ze s _ p (by omega)).2,by simp,by simp⟩
 split
 ·rename_i c e;rw[aa c,ab e]at b;have:=I5 s p i;split
  ·exact⟨this.1,this.2,by simp,by simp⟩
  ·rename_i f;rw[aa f]at b;cases b
 split
 ·rename_i c e f;rw[aa c,aa e,ab f]at b;have:=ud s (s.size+1) (p+1) [] (by omega);split
  ·exact⟨by simp only;omega,this.2.1,by simp,by simp⟩
  ·rename_i g;rw[aa g]at b;cases b
 ·rename_i c e f;rw[aa c,aa e,aa f]at b;split
  ·rename_i g;rw[ab g]at b;cases b
  ·rename_i g;have j:=ac0 s p s.size (ah _);have:=agj (s.extract p s.size) (by omega) g;refine⟨by simp only;omega,by simp only;omega,?_,?_⟩
   ·simp only;split<;>omega
   ·simp only;split<;>omega
def nnB(c:Int):Bool:=decide (c≠10/\c≠ -1)
theorem ac1:nnB (-1)=F:=by decide
def nlE(s:ByteArray)(p:Nat):Nat:=iL nnB s (s.size+1) p
def blk(s:ByteArray):Nat->Nat->Nat
 |0,p=>p
 |f+1,p=>if s.size<=p then p else if CH (aK s p)=B then blk s f (p+1) else if aK s p=45/\aK s (p+1)=45 then blk s f (nlE s p) else p
theorem ac3(s:ByteArray)(p:Nat)(h:p<=s.size):p<=nlE s p/\nlE s p<=s.size:=og nnB ac1 s _ p h
theorem agl(s:ByteArray)(p:Nat)(h:aK s p=45):p<nlE s p:=by
 have a:=dE h (by omega);unfold nlE;rw[iL,ab (by rw[h];decide)];have:=og nnB ac1 s s.size (p+1) (by omega);omega
theorem jC(s:ByteArray):∀(f p:Nat),p<=s.size->p<=blk s f p/\blk s f p<=s.size
 |0,p,h=>⟨ah _,h⟩
 |f+1,p,h=>by
  unfold blk;split
  ·exact⟨ah _,h⟩
  split
  ·have:=jC s f (p+1) (by omega);omega
  split
  ·have a:=ac3 s p h;have:=jC s f (nlE s p) a.2;omega
  ·exact⟨ah _,h⟩
def scn(s:ByteArray):Nat->Nat->Int->Bool×Nat×List Tk
 |0,_,_=>(B,0,[])
 |f+1,p,b=>
  if s.size<=blk s (s.size+1) p then(B,0,[])
  else if(fj s (blk s (s.size+1) p)).ok=B then
   ((scn s f (fj s (blk s (s.size+1) p)).a (b+(fj s (blk s (s.size+1) p)).d)).1,(scn s f (fj s (blk s (s.size+1) p)).a (b+(fj s (blk s (s.size+1) p)).d)).2.1,
    ⟨(fj s (blk s (s.size+1) p)).k,(blk s (s.size+1) p:Nat),((fj s (blk s (s.size+1) p)).a:Nat),b,(fj s (blk s (s.size+1) p)).n,(fj s (blk s (s.size+1) p)).x⟩::(scn s f (fj s (blk s (s.size+1) p)).a (b+(fj s (blk s (s.size+1) p)).d)).2.2)
  else(F,(fj s (blk s (s.size+1) p)).a,[])
structure Rel (s:ByteArray) (E:Bool×Nat×List Tk) (pre:List Tk) (p:Nat) (l:Int) (f:Nat):Prop where
 fu:s.size<p+f
 le:p<=s.size
 l0:0<=l
 l1:l<=(p:Int)+1
 cn:pre.length<=p
 eq:E=((scn s f p l).1,(scn s f p l).2.1,pre++(scn s f p l).2.2)
theorem agm(s:ByteArray)(p:Nat)(a:¬CH (aK s p)=B)(b:¬(aK s p=45/\aK s (p+1)=45)):blk s (s.size+1) p=p:=by
 rw[blk,aa a,aa b];split<;>rfl
theorem Rel.tok{s:ByteArray}{E:Bool×Nat×List Tk}{pre:List Tk}{p b:Nat}{c:Int}(h:Rel s E pre p c b)(j:p<s.size)(g:¬CH (aK s p)=B)(i:¬(aK s p=45/\aK s (p+1)=45))(e:(fj s p).ok=B):
  Rel s E (pre++[⟨(fj s p).k,(p:Nat),((fj s p).a:Nat),c,(fj s p).n,(fj s p).x⟩]) (fj s p).a (c+(fj s p).d) (b-1):=by
 have l:=jB s p j e;have m:=h.fu;obtain⟨b,rfl⟩:∃f,b=f+1:=⟨b-1,by omega⟩;refine⟨by omega,l.2.1,by have:=h.l0;omega,by have:=h.l1;omega,by have:=h.cn;simp;omega,?_⟩;rw[h.eq,scn,agm s p g i,aa (by omega),ab e];simp
def pB(a b c:Int)(x:ByteArray):Bool:=decide ((x.size=0\/a=aK x 0)/\(x.size<=1\/b=aK x 1)/\(x.size<=2\/c=aK x 2))
theorem ac4(r x:ByteArray)(i:Nat)(b:i<x.size):r.data.toList[i]?=x.data.toList[i]?↔aK r i=aK x i:=by
 have d:x.data.toList[i]?=some x[i]:=by rw[rk];exact yh b
 rw[d,jy];have c:aK x i=(x[i].toNat:Int):=by unfold aK;rw[oe b]
 rw[c];constructor
 ·exact fun a=>a.2
 ·intro a;refine⟨?_,a⟩;rcases cA i r.size with h1|h1
  ·exact h1
  ·rw[er (by omega)]at a;omega
theorem ail(r x:ByteArray)(h:x.size<=3):A r.data.toList x.data.toList=pB (aK r 0) (aK r 1) (aK r 2) x:=by
 unfold A pB;rw[Cx,yd,ob,List.prefix_iff_getElem?];have i:x.data.toList.length=x.size:=iq;have f:(∀a (b:a<x.data.toList.length),r.data.toList[a]?=some x.data.toList[a])↔∀a,a<x.size->aK r a=aK x a:=by
  constructor
  ·intro g a b;rw[<-ac4 r x a b,g a (by omega)];exact(aI (by omega)).symm
  ·intro g a b;rw[(ac4 r x a (by omega)).2 (g a (by omega))];exact aI b
 rw[f];constructor
 ·intro g;refine⟨?_,?_,?_⟩
  ·rcases li x.size with h0|h0
   ·exact .inl h0
   ·exact .inr (g 0 h0)
  ·rcases cA 1 x.size with h0|h0
   ·exact .inr (g 1 h0)
   ·exact .inl h0
  ·rcases cA 2 x.size with h0|h0
   ·exact .inr (g 2 h0)
   ·exact .inl h0
 ·rintro ⟨c,d,e⟩ a b;rcases(show a=0\/a=1\/a=2 by omega) with rfl|rfl|rfl
  ·rcases c with g|g
   ·omega
   ·exact g
  ·rcases d with g|g
   ·omega
   ·exact g
  ·rcases e with g|g
   ·omega
   ·exact g
def Dm(q:ByteArray->Bool)(V:Array Value)(base:Int):Nat->Nat->Int×Nat->Int×Nat
 |0,_,a=>a
 |f+1,i,a=>Dm q V base f (i+1) (if a.2<(dB V i).size/\q (dB V i)=B then(base+(i:Int),(dB V i).size) else a)
def skq(a:Int)(q:ByteArray->Bool):Int:=if a=59 then 5 else if a=10 then 7 else(Dm q Ei 61 18 0 (Dm q pz 40 11 0 (0,0))).1
def uC(q:ByteArray->Bool):Nat->Nat->Option Nat
 |0,_=>none
 |f+1,k=>if q (dB lH k)=B then some k else uC q f (k+1)
theorem ac5(V:Array Value)(base:Int)(r:ByteArray):∀(f i:Nat)(a:Int×Nat),LA V base r f i a=Dm (fun x=>A r.data.toList x.data.toList) V base f i a
 |0,i,a=>rfl
 |f+1,i,a=>by rw[LA,Dm];exact ac5 V base r f (i+1) _
theorem th(q b:ByteArray->Bool)(V:Array Value)(base:Int)(N:Nat)(h:∀i,i<N->q (dB V i)=b (dB V i)):∀(f i:Nat)(a:Int×Nat),i+f<=N->Dm q V base f i a=Dm b V base f i a
 |0,i,a,_=>rfl
 |f+1,i,a,c=>by rw[Dm,Dm,h i (by omega)];exact th q b V base N h f (i+1) _ (by omega)
theorem zI(q a:ByteArray->Bool)(h:∀i,i<30->q (dB lH i)=a (dB lH i)):∀(f i:Nat),i+f<=30->uC q f i=uC a f i
 |0,i,_=>rfl
 |f+1,i,b=>by rw[uC,uC,h i (by omega),zI q a h f (i+1) (by omega)]
def AE(S:List Int)(b:Int):Int:=if b∈S then b else 0
theorem Dn(S:List Int)(d:(0:Int) ∉ S)(b a:Int)(c:a∈S):AE S b=a↔b=a:=by
 unfold AE;split
 ·exact Iff.rfl
 ·rename_i e;constructor
  ·rintro rfl;exact absurd c d
  ·rintro rfl;exact absurd c e
def fb0:List Int:=[46,60,62,61,126,47,40,41,123,125,91,93,44,59,35,43,45,42,37,38,124]
def fb1:List Int:=[46,60,61,62,47]
def fb2:List Int:=[46]
def inB(x:ByteArray):Bool:=decide (x.size<=3/\(x.size=0\/aK x 0∈fb0)/\(x.size<=1\/aK x 1∈fb1)/\(x.size<=2\/aK x 2∈fb2))
theorem aim:∀i:Fin 11,inB (dB pz i.val)=B:=by decide+kernel
theorem ain:∀i:Fin 18,inB (dB Ei i.val)=B:=by decide+kernel
theorem aio:∀i:Fin 30,inB (dB lH i.val)=B:=by decide+kernel
theorem aip(a b c:Int)(x:ByteArray)(h:inB x=B):pB a b c x=pB (AE fb0 a) (AE fb1 b) (AE fb2 c) x:=by
 unfold inB at h;rw[ob]at h;obtain⟨_,g,i,j⟩:=h;have d:(x.size=0\/a=aK x 0)↔(x.size=0\/AE fb0 a=aK x 0):=by
  rcases g with h|h
  ·simp[h]
  ·rw[Dn fb0 (by decide) a _ h]
 have e:(x.size<=1\/b=aK x 1)↔(x.size<=1\/AE fb1 b=aK x 1):=by
  rcases i with h|h
  ·simp[h]
  ·rw[Dn fb1 (by decide) b _ h]
 have f:(x.size<=2\/c=aK x 2)↔(x.size<=2\/AE fb2 c=aK x 2):=by
  rcases j with h|h
  ·simp[h]
  ·rw[Dn fb2 (by decide) c _ h]
 unfold pB;rw[CC,d,e,f]
def ahe(a b c:Int):Bool:=match uC (pB a b c) 30 0 with
 |some d=>decide (skq a (pB a b c)=xe (dB lH d)/\(ug (skq a (pB a b c))).size=(dB lH d).size/\skq a (pB a b c)≠0/\skq a (pB a b c)≠7)
 |none=>decide (skq a (pB a b c)=0)
theorem ac6:∀a∈0::fb0,∀b∈0::fb1,∀c∈0::fb2,ahe a b c=B:=by decide+kernel
theorem Ho(S:List Int)(b:Int):AE S b∈0::S:=by
 unfold AE;split
 ·exact dJ _ (by assumption)
 ·exact cH
def Do(r:ByteArray):Prop:=match uC (fun b=>A r.data.toList b.data.toList) 30 0 with
 |some a=>vL r=xe (dB lH a)/\(ug (vL r)).size=(dB lH a).size/\vL r≠0/\vL r≠7
 |none=>vL r=0
theorem Jz(r:ByteArray)(h:aK r 0≠10):Do r:=by
 have g:∀a,inB a=B->A r.data.toList a.data.toList=pB (AE fb0 (aK r 0)) (AE fb1 (aK r 1)) (AE fb2 (aK r 2)) a:=fun a f=>by
  rw[<-aip _ _ _ a f];unfold inB at f;rw[ob]at f;exact ail r a f.1
 have l:vL r=skq (AE fb0 (aK r 0)) (pB (AE fb0 (aK r 0)) (AE fb1 (aK r 1)) (AE fb2 (aK r 2))):=by
  unfold vL skq;rw[ac5,ac5,th _ _ pz 40 11 (fun d c=>g _ (aim ⟨d,c⟩)) 11 0 _ (by omega),th _ _ Ei 61 18 (fun d c=>g _ (ain ⟨d,c⟩)) 18 0 _ (by omega)];have i:=Dn fb0 (by decide) (aK r 0) 59 (by decide);have k:AE fb0 (aK r 0)≠10:=by
   unfold AE;split
   ·exact h
   ·decide
  rw[aa h,aa k];by_cases e:aK r 0=59
  ·rw[ab e,ab (i.2 e)]
  ·rw[aa e,aa (fun j=>e (i.1 j))]
 have b:=ac6 _ (Ho fb0 (aK r 0)) _ (Ho fb1 (aK r 1)) _ (Ho fb2 (aK r 2));unfold Do;rw[zI _ _ (fun d c=>g _ (aio ⟨d,c⟩)) 30 0 (by omega),l];unfold ahe at b;cases hf:uC (pB (AE fb0 (aK r 0)) (AE fb1 (aK r 1)) (AE fb2 (aK r 2))) 30 0 with
 |some m=>rw[hf]at b;exact bc b
 |none=>rw[hf]at b;exact bc b
