import Derived.Test.YtoahhnnflblfaaaGreatDoorHVk18
import Derived.Test.YtoahhnnflblfaaaGreatDoorHVk17
import Derived.Test.YtoahhnnflblfaaaGreatDoorHVk09
set_option linter.all false
set_option maxRecDepth 100000
set_option maxHeartbeats 6400000
open Go.Value renaming slice->M,int->Q,string->A1,pointer->A6,tuple->A8
open Option renaming some->O,none->A2
open Go.IntKind renaming i64->R
open Bool renaming true->S,false->Y
open Go.Lib renaming hasPrefix->U,decDigits->A3
open Go renaming World->Z,Value->A5,Calls->A7
open Go.RowKit renaming Hid->Ax,Below->A9
open ByteArray renaming empty->A0
open Go.Obj renaming cells->A4
namespace Go.Proofs.YtoahhnnflblfaaaGreatDoor
open Go.RowKit Go.Maps Go.WideMaps
def ss:List Int:=[32,9,13,10,41,93,125,44,59]
structure Ag (T:ByteArray) (p:Nat) (x:ByteArray):Prop where
 at_:∀i,i<x.size->aw T (p+i)=aw x i
 bl:aw T (p+x.size)∈ss
section
variable {T x : ByteArray} {p : Nat}
theorem Ag.lt(h:Ag T p x):p+x.size<T.size:=by
 rcases bv (p+x.size) T.size with g|g
 ·exact g
 ·have:=h.bl;rw[dD (by omega)]at this;exact absurd this (by decide)
theorem Ag.q(h:Ag T p x)(q:Int->Bool)(a:∀c∈ss,q c=Y)(b:q (-1)=Y){i:Nat}(d:i<=x.size):q (aw T (p+i))=q (aw x i):=by
 rcases bv i x.size with g|g
 ·rw[h.at_ i g]
 ·obtain rfl:i=x.size:=by omega
  rw[a _ h.bl,dD (by omega),b]
theorem Ag.eq(h:Ag T p x){c:Int}(a:c ∉ ss)(e:c≠ -1){i:Nat}(b:i<=x.size):aw T (p+i)=c↔aw x i=c:=by
 have:=h.q (fun z=>decide (z=c)) (fun z d=>az fun g=>a (g ▸ d)) (by simp;omega) b;simpa using this
theorem Ag.ext(h:Ag T p x):T.extract p (p+x.size)=x:=by
 have c:=h.lt;apply jh;apply Array.toList_inj.1;apply List.ext_getElem?;intro a;rcases bv a x.size with g|g
 ·have b:x.data.toList[a]?=O (x.data.toList[a]'(by rw[eB];exact g)):=aE _;rw[b];refine(fJ _ _ _).2 ⟨by rw[oy];omega,?_⟩;rw[mJ T p (p+x.size) a (by omega) (by omega),h.at_ a g];exact((fJ _ _ _).1 b).2
 ·rw[fm (by rw[eB];show(T.extract p (p+x.size)).size<=a;rw[oy];omega),fm (by rw[eB];exact g)]
theorem tu(q:Int->Bool)(s:ByteArray):∀(n f p:Nat),(∀i,i<n->q (aw s (p+i))=S)->q (aw s (p+n))=Y->n<f->iw q s f p=p+n
 |n,0,p,_,_,h=>by omega
 |0,f+1,p,b,a,_=>by rw[iw,aa (by rw[gI]at a;rw[a];simp)];rfl
 |n+1,f+1,p,b,a,h=>by
  rw[iw,ab (by have:=b 0 (by omega);rwa [gI]at this)];rw[tu q s n f (p+1) (fun i c=>by rw[show p+1+i=p+(i+1) by omega];exact b (i+1) (by omega)) (by rw[show p+1+n=p+(n+1) by omega];exact a) (by omega)];omega
theorem Ag.run(h:Ag T p x)(q:Int->Bool)(o:∀c∈ss,q c=Y)(d:q (-1)=Y){a:Nat}(r:a<=x.size):iw q T (T.size+1) (p+a)=p+iw q x (x.size+1) a:=by
 have i:=oD q d x (x.size+1) a r;have e:=sa q x (x.size+1) a;have j:=F9 q d x (x.size+1) a (by omega);have u:=h.lt;obtain⟨b,s⟩:∃b,iw q x (x.size+1) a=b:=⟨_,rfl⟩;rw[s]at i e j⊢;rw[tu q T (b-a) (T.size+1) (p+a) (fun v t=>by rw[iu,h.q q o d (by omega)];exact e _ (by omega) (by omega)) (by rw[iu,show a+(b-a)=b by omega,h.q q o d i.2];exact j) (by omega)];omega
theorem zq(s:ByteArray):∀f p,pC s f p=iw (fun c=>bC c||ch c) s f p
 |0,p=>rfl
 |f+1,p=>by
  rw[pC,iw,zq s f (p+1)];by_cases h:bC (aw s p)=S\/ch (aw s p)=S
  ·rw[ab h,ab (by simpa using h)]
  ·rw[aa h,aa (by simpa using h)]
theorem Ag.nm(h:Ag T p x):pC T (T.size+1) p=p+pC x (x.size+1) 0:=by
 rw[zq,zq];exact h.run (fun a=>bC a||ch a) (by decide) (by decide) (aG _)
theorem Ag.dig(h:Ag T p x){a:Nat}(b:a<=x.size):qJ T (p+a)=p+qJ x a:=h.run ch (by decide) (by decide) b
theorem Ag.hx(h:Ag T p x){a:Nat}(b:a<=x.size):KB T (p+a)=p+KB x a:=h.run mj (by decide) (by decide) b
theorem Ag.a0(h:Ag T p x)(d:0<x.size):nA0 T p=p+nA0 x 0:=by
 unfold nA0;have b:=h.eq (c:=48) (by decide) (by decide) (aG x.size);rw[gI]at b;by_cases a:aw x 0=48
 ·rw[ab (b.2 a),ab a]
 ·rw[aa (fun g=>a (b.1 g)),aa a,h.dig (by omega)]
theorem Ag.a1(h:Ag T p x){a:Nat}(o:a<=x.size):nA1 T (p+a)=p+nA1 x a:=by
 unfold nA1;have i:=h.eq (c:=46) (by decide) (by decide) o;by_cases b:aw x a=46
 ·have j:a+1<=x.size:=bm b (by omega);have e:=h.q ch (by decide) (by decide) j;rw[<-iu]at e;by_cases d:ch (aw x (a+1))=S
  ·rw[ab ⟨i.2 b,by rw[e];exact d⟩,ab ⟨b,d⟩,iu,h.dig j]
  ·rw[aa (fun g=>d (by rw[<-e];exact g.2)),aa (fun g=>d g.2)]
 ·rw[aa (fun g=>b (i.1 g.1)),aa (fun g=>b g.1)]
theorem Ag.ex(h:Ag T p x){a:Nat}(q:a<=x.size):nJ T (p+a)=(p+(nJ x a).1,(nJ x a).2):=by
 unfold nJ;have i:=h.eq (c:=101) (by decide) (by decide) q;by_cases b:aw x a=101
 ·have o:a+1<=x.size:=bm b (by omega);have d:=h.eq (c:=43) (by decide) (by decide) o;have e:=h.eq (c:=45) (by decide) (by decide) o;rw[<-iu]at d e;have j:nA2 T (p+a)=p+nA2 x a/\nA2 x a<=x.size:=by
   unfold nA2;by_cases g:aw x (a+1)=43\/aw x (a+1)=45
   ·have:a+1<x.size:=by rcases g with g|g<;>exact bm g (by omega)
    rw[ab g,ab (by rw[d,e];exact g)];omega
   ·rw[aa g,aa (by rw[d,e];exact g)];omega
  rw[ab (i.2 b),ab b,j.1,h.dig j.2];simp
 ·rw[aa (fun g=>b (i.1 g)),aa b]
theorem Ag.x2(h:Ag T p x)(d:0<x.size):(aw T p=48/\aw T (p+1)=120)↔(aw x 0=48/\aw x 1=120):=by
 have a:=h.eq (c:=48) (by decide) (by decide) (aG x.size);have b:=h.eq (c:=120) (by decide) (by decide) (show 1<=x.size by omega);rw[gI]at a;rw[a,b]
theorem Ag.num(h:Ag T p x)(b:0<x.size):fe T p=(p+(fe x 0).1,(fe x 0).2):=by
 unfold fe;by_cases a:aw x 0=48/\aw x (0+1)=120
 ·rw[ab a,ab ((h.x2 b).2 a)];unfold na;have:=bm a.2 (by omega);rw[h.hx (show 2<=x.size by omega)];simp only[fE];by_cases g:2+16<KB x 2
  ·rw[ab g,ab (by omega)];simp
  ·rw[aa g,aa (by omega)];simp
 ·rw[aa a,aa (fun g=>a ((h.x2 b).1 g)),h.a0 b];have c:=Ee x 0 b;have d:=Ef x (nA0 x 0) c.2;rw[h.a1 c.2,h.ex d.2]
theorem Ag.kd(h:Ag T p x)(d:0<x.size):FC T p=FC x 0:=by
 unfold FC;have a:=Ee x 0 d;have i:=Ef x (nA0 x 0) a.2;rw[h.a0 d,h.a1 a.2];have j:=h.eq (c:=46) (by decide) (by decide) a.2;have o:=h.eq (c:=101) (by decide) (by decide) i.2;refine decide_eq_decide.2 ?_;rw[j,o];by_cases e:aw x (nA0 x 0)=46
 ·have b:=h.q ch (by decide) (by decide) (show nA0 x 0+1<=x.size from bm e (by omega));rw[<-iu]at b;rw[b]
 ·simp[e]
theorem Ag.dc(h:Ag T p x):∀n,n<=x.size->rC T p n=rC x 0 n
 |0,_=>rfl
 |n+1,a=>by rw[rC,rC,h.dc n (by omega),h.at_ n (by omega),fE]
theorem Ag.hv(h:Ag T p x)(a:Nat):∀n,a+n<=x.size->tg T (p+a) n=tg x a n
 |0,_=>rfl
 |n+1,b=>by rw[tg,tg,h.hv a n (by omega),iu,h.at_ (a+n) (by omega)]
theorem Ag.nu(h:Ag T p x)(b:0<x.size)(c:(fe x 0).1=x.size):AC T p=AC x 0:=by
 unfold AC;rw[h.num b,h.kd b,c];by_cases a:aw x 0=48/\aw x (0+1)=120
 ·rw[ab a,ab ((h.x2 b).2 a)];have:=bm a.2 (by omega);rw[show p+x.size-(p+2)=x.size-2 by omega,h.hv 2 (x.size-2) (by omega)]
 ·rw[aa a,aa (fun g=>a ((h.x2 b).1 g)),show p+x.size-p=x.size by omega,h.dc x.size (ag _),h.ext,gh];rfl
theorem Lz{s:ByteArray}{i:Nat}(h:¬iC (aw s i)<0):i<s.size:=by
 rcases bv i s.size with g|g
 ·exact g
 ·rw[dD (by omega)]at h;exact absurd (by decide) h
theorem Ag.hexI(h:Ag T p x){a:Nat}(b:(hexI x a).2.2=S):hexI T (p+a)=((hexI x a).1,p+(hexI x a).2.1,S):=by
 unfold Go.Proofs.YtoahhnnflblfaaaGreatDoor.hexI at b⊢;by_cases c:iC (aw x a)<0
 ·rw[ab c]at b;cases b
 rw[aa c]at b;by_cases d:iC (aw x (a+1))<0
 ·rw[ab d]at b;cases b
 rw[h.at_ a (Lz c),aa c,iu,h.at_ (a+1) (Lz d),aa d,aa c,aa d];rfl
theorem Ag.esc(h:Ag T p x){a:Nat}(b:(iH x a).2.2=S):iH T (p+a)=((iH x a).1,p+(iH x a).2.1,S):=by
 have j:a<x.size:=by
  rcases bv a x.size with g|g
  ·exact g
  ·unfold iH at b;rw[dD (by omega)]at b;revert b;simp
 unfold iH at b⊢;rw[h.at_ a j];by_cases c:aw x a=110
 ·rw[ab c,ab c];rfl
 rw[aa c]at b;rw[aa c,aa c];by_cases d:aw x a=116
 ·rw[ab d,ab d];rfl
 rw[aa d]at b;rw[aa d,aa d];by_cases e:aw x a=34\/aw x a=92
 ·rw[ab e,ab e];rfl
 rw[aa e]at b;rw[aa e,aa e];by_cases i:aw x a=120
 ·rw[ab i]at b;rw[ab i,ab i,iu,h.hexI b]
 rw[aa i]at b;cases b
theorem Ag.str(h:Ag T p x):∀(f g a:Nat)(c:List Int),f<=g->(fF x f a c).1=S->fF T g (p+a) c=(S,p+(fF x f a c).2.1,(fF x f a c).2.2)
 |0,g,a,c,_,b=>by rw[fF]at b;cases b
 |f+1,0,a,c,q,b=>by omega
 |f+1,g+1,a,c,q,b=>by
  have r:=h.lt;rw[fF]at b⊢;rw[fF];by_cases o:x.size<=a
  ·rw[ab o]at b;cases b
  rw[aa o]at b;rw[aa o,aa (by omega),h.at_ a (by omega)];by_cases e:aw x a=34
  ·rw[ab e,ab e];rfl
  rw[aa e]at b;rw[aa e,aa e];by_cases i:aw x a=10
  ·rw[ab i]at b;cases b
  rw[aa i]at b;rw[aa i,aa i];by_cases d:aw x a=92
  ·rw[ab d]at b;rw[ab d,ab d];by_cases j:(iH x (a+1)).2.2=S
   ·rw[ab j]at b;rw[ab j,iu,h.esc j,ab rfl];exact h.str f g _ _ (by omega) b
   ·rw[aa j]at b;cases b
  rw[aa d]at b;rw[aa d,aa d,iu];exact h.str f g _ _ (by omega) b
end
theorem wi(r y:ByteArray):U r.data.toList y.data.toList=S↔∀i,i<y.size->aw r i=aw y i:=by
 unfold U;rw[uI,List.prefix_iff_getElem?];constructor
 ·intro b i a;have c:y.data.toList[i]?=O (y.data.toList[i]'(by rw[eB];exact a)):=aE _;rw[((fJ _ _ _).1 c).2,((fJ _ _ _).1 (b i (by rw[eB];exact a))).2]
 ·intro b i a;have e:i<y.size:=by rw[eB]at a;exact a
  have c:y.data.toList[i]?=O y.data.toList[i]:=aE _;have d:=((fJ _ _ _).1 c).2;refine(fJ _ _ _).2 ⟨?_,by rw[b i e,d]⟩;rw[<-b i e]at d;exact bm d (by omega)
def nbS(V:Array A5)(N:Nat):Prop:=∀k:Fin N,∀a:Fin 4,0<a.val->aw (cG V k.val) a.val ∉ ss
theorem akj:nbS mh 11:=by unfold nbS;decide+kernel
theorem akk:nbS tI 18:=by unfold nbS;decide+kernel
section
variable {T x : ByteArray} {p : Nat}
theorem Ag.pre(h:Ag T p x)(d:0<x.size){y:ByteArray}(o:y.size<=3)(c:∀i:Fin 4,0<i.val->aw y i.val ∉ ss):U (T.extract p T.size).data.toList y.data.toList=U x.data.toList y.data.toList:=by
 have j:=h.lt;rw[vc,wi,wi];have b:∀i,i<=x.size->aw (T.extract p T.size) i=aw T (p+i):=fun i a=>mJ T p T.size i (ag _) (by omega);constructor
 ·intro g i a;rcases bv i x.size with q|q
  ·rw[<-h.at_ i q,<-b i (by omega)];exact g i a
  ·have:=g x.size (by omega);rw[b _ (ag _)]at this;exact absurd (this ▸ h.bl) (c ⟨x.size,by omega⟩ d)
 ·intro g i a;have e:i<x.size:=by
   have:=g i a;have c:=qk a;exact bm this c.1
  rw[b i (by omega),h.at_ i e];exact g i a
theorem qF(V:Array A5)(base:Int)(r r':ByteArray)(N:Nat)(b:∀k,k<N->U r.data.toList (cG V k).data.toList=U r'.data.toList (cG V k).data.toList):∀(f i:Nat)(a:Int×Nat),i+f<=N->zp V base r f i a=zp V base r' f i a
 |0,i,a,_=>rfl
 |f+1,i,a,h=>by rw[zp,zp,b i (by omega),qF V base r r' N b f (i+1) _ (by omega)]
theorem Ag.sk(h:Ag T p x)(b:0<x.size):od (T.extract p T.size)=od x:=by
 have d:=h.lt;have c:aw (T.extract p T.size) 0=aw x 0:=by rw[mJ T p T.size 0 (ag _) (by omega),h.at_ 0 b]
 unfold od;rw[c,qF mh 40 (T.extract p T.size) x 11 (fun k a=>h.pre b (osz ⟨k,a⟩) (akj ⟨k,a⟩)) 11 0 _ (by omega),
  qF tI 61 (T.extract p T.size) x 18 (fun k a=>h.pre b (bsz ⟨k,a⟩) (akk ⟨k,a⟩)) 18 0 _ (by omega)]
theorem Ag.rd(h:Ag T p x)(s:0<x.size)(b:(eE x 0).ok=S)(c:(eE x 0).a=x.size):eE T p=⟨S,p+x.size,(eE x 0).d,(eE x 0).k,(eE x 0).n,(eE x 0).x⟩:=by
 have t:=h.at_ 0 s;rw[gI]at t;unfold eE at b c⊢;rw[t];by_cases o:bC (aw x 0)=S
 ·rw[ab o]at b c;rw[ab o,ab o];have j:pC x (x.size+1) 0=x.size:=c;have r:pC T (T.size+1) p=p+x.size:=by rw[h.nm,j]
  have u:Di T p=Di x 0:=by unfold Di;rw[r,h.ext,j,gh]
  rw[r,u]
 rw[aa o]at b c;rw[aa o,aa o];by_cases q:ch (aw x 0)=S
 ·rw[ab q]at b c;rw[ab q,ab q];by_cases e:(fe x 0).2=S
  ·rw[ab e]at b c;have j:(fe x 0).1=x.size:=c;rw[h.num s,ab e,ab e,h.nu s j,j]
  ·rw[aa e]at b;cases b
 rw[aa q]at b c;rw[aa q,aa q];by_cases e:aw x 0=34
 ·rw[ab e]at b c;rw[ab e,ab e];by_cases i:(fF x (x.size+1) (0+1) []).1=S
  ·rw[ab i]at b c;have j:(fF x (x.size+1) (0+1) []).2.1=x.size:=c;have v:=h.lt;have r:=h.str (x.size+1) (T.size+1) (0+1) [] (by omega) i;rw[fE]at r j i;rw[r,j,fE,ab rfl,ab i]
  ·rw[aa i]at b;cases b
 rw[aa e]at b c;rw[aa e,aa e,gh]at *;rw[h.sk s];by_cases i:od x=0
 ·rw[ab i]at b;cases b
 ·rw[aa i]at c;have j:0+(ed (od x)).size=x.size:=c;rw[aa i,aa i,fE]at *;rw[j]
end
structure Alo (x:ByteArray) (k n:Int) (y:ByteArray):Prop where
 pos:0<x.size
 ok:(eE x 0).ok=S
 en:(eE x 0).a=x.size
 ki:(eE x 0).k=k
 nu:(eE x 0).n=n
 tx:(eE x 0).x=y
 bl:ll (aw x 0)=Y
 da:aw x 0=45->x.size=1
theorem akl:∀k:Fin 79,(ed (k.val:Int)).size≠0->(eE (ed (k.val:Int)) 0).ok=S/\(eE (ed (k.val:Int)) 0).a=(ed (k.val:Int)).size/\(eE (ed (k.val:Int)) 0).k=(k.val:Int)/\(eE (ed (k.val:Int)) 0).n=0/\(eE (ed (k.val:Int)) 0).x.size=0/\ll (aw (ed (k.val:Int)) 0)=Y/\(aw (ed (k.val:Int)) 0=45->(ed (k.val:Int)).size=1):=by decide+kernel
theorem akm{x:ByteArray}(h:x.size=0):x=⟨#[]⟩:=by
 apply jh;exact Array.eq_empty_of_size_eq_zero h
theorem LA{k:Int}(h:k<0\/78<k):ed k=Ir:=by
 unfold ed;rw[aa (by omega),aa (by omega),aa (by omega),aa (by omega),aa (by omega)]
theorem ahs{k:Int}(h:(ed k).size≠0):Alo (ed k) k 0 ⟨#[]⟩:=by
 have r:0<=k/\k<=78:=by
  rcases Int.lt_or_le k 0 with g|g
  ·rw[LA (.inl g)]at h;exact absurd rfl h
  rcases Int.lt_or_le 78 k with g2|g2
  ·rw[LA (.inr g2)]at h;exact absurd rfl h
  ·exact⟨g,g2⟩
 have b:((k.toNat:Nat):Int)=k:=by omega
 have a:=akl ⟨k.toNat,by omega⟩;simp only[b]at a;obtain⟨c,d,e,i,j,o,q⟩:=a h;exact⟨by omega,c,d,e,i,akm j,o,q⟩
theorem ad6{x:ByteArray}(h:jo x=S):Alo x 1 0 x:=by
 unfold jo at h;obtain⟨j,c,d,b⟩:=aH h;have o:=mw c;have i:0<x.size:=bm rfl (by omega);have e:Di x 0=(1,x):=by
  unfold Di;rw[d,gh];unfold rB at b;cases a:uo fd x 22 0 with
  |none=>rfl
  |some k=>rw[a]at b;cases b
 have a:eE x 0=⟨S,x.size,0,1,0,x⟩:=by
  unfold eE;rw[ab c,d,e]
 exact⟨i,by rw[a],by rw[a],by rw[a],by rw[a],by rw[a],by simp[ll];omega,fun g=>by omega⟩
theorem aht{x:ByteArray}(h:fok x=S):Alo x 3 0 x:=by
 unfold fok pi at h;rw[cL]at h;obtain⟨b,c,d,o⟩:=aH h.2;have t:=iI b;have j:0<x.size:=bm rfl (by omega);have s:bC (aw x 0)=Y:=by simp[bC];omega
 have q:nJ x (nA1 x (nA0 x 0))=(x.size,S):=by rw[<-c];unfold fe;rw[aa d]
 have r:=(Ek x b q).1 o;have i:AC x 0=(3,0,x):=by
  unfold AC;rw[aa d,c];simp only[zi,gh];rcases r with g|g
  ·rw[ab g]
  ·by_cases e:FC x 0=S
   ·rw[ab e]
   ·rw[aa e,g]
 have a:eE x 0=⟨S,x.size,0,3,0,x⟩:=by
  unfold eE;rw[aa (by rw[s];simp),ab b,c,ab rfl,i]
 exact⟨j,by rw[a],by rw[a],by rw[a],by rw[a],by rw[a],by simp[ll];omega,fun g=>by omega⟩
theorem ahu(y:ByteArray):Alo (fa (dF y)) 4 0 y:=by
 have c:=adA y y.size 0 ((fa (dF y)).size+1) (by omega) (by rw[Ku];show _<1+_;omega);rw[Ku,yI]at c;have b:=Gx y;have d:0<(fa (dF y)).size:=bm b (by omega);have a:eE (fa (dF y)) 0=⟨S,(fa (dF y)).size,0,4,0,y⟩:=by
  unfold eE;rw[b,aa (by decide),aa (by decide),ab rfl];show(if(fF (fa (dF y)) ((fa (dF y)).size+1) 1 []).1=S then _ else _)=_;have e:fF (fa (dF y)) ((fa (dF y)).size+1) 1 []=(S,(fa (dF y)).size,ob y):=c;rw[e,ab rfl,II]
 exact⟨d,by rw[a],by rw[a],by rw[a],by rw[a],by rw[a],by rw[b];decide,fun g=>by rw[b]at g;omega⟩
def oe(u:Nat):ByteArray:=⟨(A3 u).toArray⟩
theorem abA(u:Nat):(oe u).size=Lib.nDigits u:=by
 unfold oe;show(A3 u).toArray.size=_;rw[jG,Lib.decDigits_length]
theorem I7{u:Nat}(h:u<10):oe u=⟨#[UInt8.ofNat (48+u)]⟩:=by unfold oe;rw[A3,oA h]
theorem ad7{u:Nat}(h:¬u<10):oe u=oe (u / 10)++⟨#[UInt8.ofNat (48+u%10)]⟩:=by
 unfold oe;rw[A3,dif_neg h];apply jh;rw[js];apply Array.toList_inj.1;simp
theorem LB(u:Nat)(h:u<10):aw ⟨#[UInt8.ofNat (48+u)]⟩ 0=48+(u:Int):=by
 rcases(show u=0\/u=1\/u=2\/u=3\/u=4\/u=5\/u=6\/u=7\/u=8\/u=9 by omega) with rfl|rfl|rfl|rfl|rfl|rfl|rfl|rfl|rfl|rfl;all_goals decide
theorem LC{s t:ByteArray}{p:Nat}:∀n,(∀i,i<n->aw s (p+i)=aw t (p+i))->rC s p n=rC t p n
 |0,_=>rfl
 |n+1,h=>by rw[rC,rC,LC n (fun i a=>h i (by omega)),h n (by omega)]
theorem AD(u:Nat):0<(oe u).size/\(∀i,i<(oe u).size->ch (aw (oe u) i)=S)/\(u≠0->aw (oe u) 0≠48)/\(u<10->(oe u).size=1)/\(u<=9223372036854775807->rC (oe u) 0 (oe u).size=O u):=by
 induction u using Nat.strongRecOn with
 |_ u v=>
  by_cases c:u<10
  ·have b:=I7 c;have d:(oe u).size=1:=by rw[b];rfl
   have a:aw (oe u) 0=48+(u:Int):=by rw[b];exact LB u c
   refine⟨by omega,fun i e=>?_,fun A=>by rw[a];omega,fun _=>d,fun _=>?_⟩
   ·obtain rfl:i=0:=by omega
    rw[a];simp[ch];omega
   ·rw[d,rC,rC];simp only[fE,a];rw[show(48+(u:Int)-48).toNat=u by omega,ab (by omega)];simp
  ·have b:=ad7 c;obtain⟨o,q,s,_,r⟩:=v (u / 10) (by omega);obtain⟨m,h⟩:∃m,(oe (u / 10)).size=m:=⟨_,rfl⟩;have d:(oe u).size=m+1:=by rw[b,ae,h];rfl
   have a:∀i,aw (oe u) i=if i<m then aw (oe (u / 10)) i else aw ⟨#[UInt8.ofNat (48+u%10)]⟩ (i-m):=fun i=>by rw[b,mI,h]
   have j:aw (oe u) m=48+((u%10:Nat):Int):=by rw[a,aa (by omega),gH];exact LB _ (by omega)
   rw[h]at o q r;refine⟨by omega,fun i e=>?_,fun _=>?_,fun g=>absurd g c,fun B=>?_⟩
   ·rcases bv i m with g|g
    ·rw[a,ab g];exact q i g
    ·obtain rfl:i=m:=by omega
     rw[j];simp[ch];omega
   ·rw[a,ab o];exact s (by omega)
   ·rw[d,rC,LC (t:=oe (u / 10)) m (fun i e=>by rw[fE,a,ab e]),r (by omega)];simp only[fE,j];rw[show(48+((u%10:Nat):Int)-48).toNat=u%10 by omega,ab (by omega)]
    congr 1
    omega
theorem ahv(u:Nat)(F:u<=9223372036854775807):Alo (oe u) 2 (u:Int) ⟨#[]⟩:=by
 obtain⟨h,c,s,t,d⟩:=AD u;have d:=d F;obtain⟨x,G⟩:∃x,oe u=x:=⟨_,rfl⟩;rw[G]at h c s t d⊢;have o:=c 0 h;have K:=iI o;have C:bC (aw x 0)=Y:=by simp[bC];omega
 have v:¬(aw x 0=48/\aw x (0+1)=120):=fun g=>by
  have:=c 1 (bm g.2 (by omega));rw[show(1:Nat)=0+1 from rfl,g.2]at this;exact absurd this (by decide)
 have A:∀a,a<=x.size->qJ x a=x.size:=fun a I=>by
  unfold qJ;rw[tu ch x (x.size-a) (x.size+1) a (fun L J=>c _ (by omega)) (by rw[show a+(x.size-a)=x.size by omega,dD (by omega)];decide) (by omega)];omega
 have i:nA0 x 0=x.size:=by
  unfold nA0;by_cases g:aw x 0=48
  ·rw[ab g];have:u=0:=by
    rcases kL u with q|q
    ·exact q
    ·exact absurd g (s (by omega))
   rw[t (by omega)]
  ·rw[aa g];exact A _ (by omega)
 have e:aw x x.size= -1:=dD (by omega);have j:nA1 x x.size=x.size:=by unfold nA1;rw[e,aa (by simp)]
 have r:fe x 0=(x.size,S):=by
  unfold fe;rw[aa v,i,j];unfold nJ;rw[e,aa (by decide)]
 have H:FC x 0=Y:=by unfold FC;rw[i,j,e];simp
 have B:AC x 0=(2,(u:Int),⟨#[]⟩):=by
  unfold AC;rw[aa v,r,H];simp only[zi];rw[aa (by simp),d]
 have b:eE x 0=⟨S,x.size,0,2,(u:Int),⟨#[]⟩⟩:=by
  unfold eE;rw[aa (by rw[C];simp),ab o,r,ab rfl,B]
 exact⟨h,by rw[b],by rw[b],by rw[b],by rw[b],by rw[b],by simp[ll];omega,fun g=>by omega⟩
theorem zr(u:Nat):∀r,aw (IC u r) 0=48/\aw (IC u r) 1=120/\∀j,j<r->aw (IC u r) (2+j)=hxd u (15-j)
 |0=>⟨rfl,rfl,fun j h=>by omega⟩
 |r+1=>by
  obtain⟨c,d,e⟩:=zr u r;have i:=qy u r;have b:∀a,aw (IC u (r+1)) a=if a<r+2 then aw (IC u r) a else aw (fa [hxd u (15-r)]) (a-(r+2)):=fun a=>by show aw (IC u r++_) a=_;rw[mI,i]
  refine⟨by rw[b,ab (by omega)];exact c,by rw[b,ab (by omega)];exact d,fun j h=>?_⟩;rcases bv j r with g|g
  ·rw[b,ab (by omega)];exact e j g
  ·obtain rfl:j=r:=by omega
   rw[b,aa (by omega),show 2+j-(j+2)=0 by omega,vJ _ (fun z o=>by
    rw[List.mem_singleton.1 o];unfold hxd;have:=Et ((u / 16 ^ (15-j)%16:Nat):Int) (by omega) (by omega);omega)]
   rfl
theorem ai1(u j:Nat):iC (hxd u j)=((u / 16 ^ j%16:Nat):Int):=uv _ (by omega) (by omega)
theorem ai2(u:Nat)(a:u<16 ^ 16):∀m,m<=16->tg (IC u 16) 2 m=u / 16 ^ (16-m)
 |0,_=>by rw[tg];exact(Nat.div_eq_of_lt (by simpa using a)).symm
 |m+1,h=>by
  rw[tg,ai2 u a m (by omega),(zr u 16).2.2 m (by omega),ai1];have e:16-m=(15-m)+1:=by omega
  rw[e,show 16-(m+1)=15-m by omega,Nat.pow_succ,<-Nat.div_div_eq_div_mul];simp only[fD];omega
theorem ahw(n:Int)(A: -9223372036854775808<=n)(B:n<0):Alo (IC (n+18446744073709551616).toNat 16) 2 n ⟨#[]⟩:=by
 obtain⟨a,t⟩:∃a,(n+18446744073709551616).toNat=a:=⟨_,rfl⟩;rw[t];obtain⟨b,h,i⟩:=zr a 16;have d:=qy a 16;have e:=ai2 a (by show a<18446744073709551616;omega) 16 (by omega);rw[show 16-16=0 from rfl,Nat.pow_zero,Nat.div_one]at e;obtain⟨x,u⟩:∃x,IC a 16=x:=⟨_,rfl⟩;rw[u]at b h i d e⊢;have r:KB x 2=18:=by
  unfold KB;rw[tu mj x 16 (x.size+1) 2 (fun v s=>by rw[i v s];unfold mj;rw[ai1];exact bg (by omega)) (by rw[dD (by omega)];decide) (by omega)]
 have o:aw x 0=48/\aw x (0+1)=120:=⟨b,h⟩;have j:fe x 0=(x.size,S):=by
  unfold fe;rw[ab o];unfold na;rw[fE,r,aa (by omega),d];rfl
 have q:AC x 0=(2,n,⟨#[]⟩):=by
  unfold AC;rw[ab o,j];simp only[fE];rw[d,show 16+2-2=16 by rfl,e];have:wrap64 (a:Int)=n:=by unfold wrap64;omega
  rw[this]
 have c:eE x 0=⟨S,x.size,0,2,n,⟨#[]⟩⟩:=by
  unfold eE;rw[b,aa (by decide),ab (by decide),j,ab rfl,q]
 exact⟨by omega,by rw[c],by rw[c],by rw[c],by rw[c],by rw[c],by rw[b];decide,fun g=>by rw[b]at g;omega⟩
theorem ahx(n:Int)(b: -9223372036854775808<=n)(c:n<=9223372036854775807):Alo (wd n) 2 n ⟨#[]⟩:=by
 unfold wd;split
 ·rename_i a;exact ahw n b a
 ·rename_i a;have:=ahv n.toNat (by omega);rw[show((n.toNat:Nat):Int)=n by omega]at this;exact this
theorem EC(V:Array A5)(base:Int)(r:ByteArray):∀(f i:Nat)(a:Int×Nat),(zp V base r f i a).1=a.1\/(base+i<=(zp V base r f i a).1/\(zp V base r f i a).1<base+i+f)
 |0,i,a=> .inl rfl
 |f+1,i,a=>by
  rw[zp];rcases EC V base r f (i+1) (if a.2<(cG V i).size/\U r.data.toList (cG V i).data.toList=S then(base+(i:Int),(cG V i).size) else a) with h|h
  ·split at h
   ·rename_i g;rw[ab g]at *;right;omega
   ·rename_i g;rw[aa g]at *;left;exact h
  ·right;omega
theorem GJ(r:ByteArray)(s:0<r.size)(h:od r≠0):(od r=5\/od r=7\/(40<=od r/\od r<=78))/\∀i,i<(ed (od r)).size->aw r i=aw (ed (od r)) i:=by
 by_cases b:aw r 0=59
 ·have a:od r=5:=by unfold od;rw[ab b]
  rw[a];exact⟨.inl rfl,fun i d=>by
   have:i<1:=d;obtain rfl:i=0:=by omega
   rw[b];decide⟩
 by_cases c:aw r 0=10
 ·have a:od r=7:=by unfold od;rw[aa b,ab c]
  rw[a];exact⟨.inr (.inl rfl),fun i d=>by
   have:i<1:=d;obtain rfl:i=0:=by omega
   rw[c];decide⟩
 have a:od r=(zp tI 61 r 18 0 (zp mh 40 r 11 0 (0,0))).1:=by unfold od;rw[aa b,aa c]
 have j:=EC mh 40 r 11 0 (0,0);have o:=EC tI 61 r 18 0 (zp mh 40 r 11 0 (0,0));have q:=we mh 40 r 11 (by omega) Lq 11 0 (0,0) (by omega) (.inl ⟨rfl,rfl⟩);have e:=we tI 61 r 18 (by omega) Lt 18 0 _ (by omega) q;rw[<-a]at o e;refine⟨.inr (.inr ?_),?_⟩
 ·simp only at j;omega
 ·rcases e with⟨g,_⟩|⟨_,_,g,_⟩
  ·exact absurd g h
  ·exact(wi r _).1 g
def LD(T:ByteArray)(p:Nat)(x:ByteArray):Prop:=p+x.size<=T.size/\∀a,a<x.size->aw T (p+a)=aw x a
section
variable {T x y w : ByteArray} {p : Nat} {k n : Int}
theorem LD.app(h:LD T p (x++y)):LD T p x/\LD T (p+x.size) y:=by
 obtain⟨d,b⟩:=h;rw[ae]at d b;refine⟨⟨by omega,fun a c=>?_⟩,by omega,fun a c=>?_⟩
 ·rw[b a (by omega),mI,ab c]
 ·rw[iu,b (x.size+a) (by omega),mI,aa (by omega),show x.size+a-x.size=a by omega]
theorem LD.ext(h:LD T p x):T.extract p (p+x.size)=x:=by
 have c:=h.1;apply jh;apply Array.toList_inj.1;apply List.ext_getElem?;intro a;rcases bv a x.size with g|g
 ·have b:x.data.toList[a]?=O (x.data.toList[a]'(by rw[eB];exact g)):=aE _;rw[b];refine(fJ _ _ _).2 ⟨by rw[oy];omega,?_⟩;rw[mJ T p (p+x.size) a (by omega) (by omega),h.2 a g];exact((fJ _ _ _).1 b).2
 ·rw[fm (by rw[eB];show(T.extract p (p+x.size)).size<=a;rw[oy];omega),fm (by rw[eB];exact g)]
def nxS(k c:Int):Bool:=if k=40\/k=41\/k=42\/k=43\/k=44\/k=45\/k=46\/k=50 then S else if k=62 then S else if k=69 then decide (c≠61) else if k=48 then decide (c≠46) else decide (c∈ss)
def wj(w:ByteArray)(k c:Int):Bool:=if bC (aw w 0)=S then !(alB c) else if ch (aw w 0)=S\/aw w 0=34 then decide (c∈ss) else nxS k c&&decide (aw w 0≠45\/c≠45)
def ad8(V:Array A5)(N:Nat):Prop:=∀k:Fin 79,∀y:Fin N,40<=k.val->(ed (k.val:Int)).size≠0->(ed (k.val:Int)).size<(cG V y.val).size->(∀a:Fin 3,a.val<(ed (k.val:Int)).size->aw (cG V y.val) a.val=aw (ed (k.val:Int)) a.val)->nxS (k.val:Int) (aw (cG V y.val) (ed (k.val:Int)).size)=Y
theorem amw:ad8 mh 11:=by unfold ad8;decide+kernel
theorem amx:ad8 tI 18:=by unfold ad8;decide+kernel
theorem ad9(h:LD T p x)(B:0<x.size)(s:∀i,i<x.size->aw x i=aw (ed k) i)(A:(ed k).size=x.size)(C:40<=k/\k<=78)(u:nxS k (aw T (p+x.size))=S){V:Array A5}{N j:Nat}(r:ad8 V N)(t:j<N)(v:(cG V j).size<=3):
  U (T.extract p T.size).data.toList (cG V j).data.toList=U x.data.toList (cG V j).data.toList:=by
 obtain⟨F,h⟩:=h;obtain⟨y,o⟩:∃y,cG V j=y:=⟨_,rfl⟩;have e:=r ⟨k.toNat,by omega⟩ ⟨j,t⟩;simp only[show((k.toNat:Nat):Int)=k by omega]at e;rw[o]at e v⊢;have H:=GF T p T.size (ag _);rw[vc,wi,wi];have b:∀i,i<x.size->aw (T.extract p T.size) i=aw x i:=fun i a=>by rw[mJ T p T.size i (ag _) (by omega),h i a]
 constructor
 ·intro g i a;rcases bv x.size y.size with q|q
  ·exfalso;have c:=g x.size q;have d:=qk q;have G:x.size<(T.extract p T.size).size:=bm c d.1;rw[mJ T p T.size x.size (ag _) (by omega)]at c;have:=e (by omega) (by omega) (by omega) (fun i a=>by rw[<-s i.val (by omega),<-b i.val (by omega)];exact(g i.val (by omega)).symm);rw[A,<-c,u]at this;cases this
  ·rw[<-b i (by omega)];exact g i a
 ·intro g i a;have d:=qk a;have:=bm (g i a) d.1;rw[b i this];exact g i a
theorem amy(am:Alo w k n y)(s:LD T p w)(bd:k≠7)(bb:k≠5)(h:wj w k (aw T (p+w.size))=S):
  (eE T p).ok=S/\(eE T p).a=p+w.size/\(eE T p).k=k/\(eE T p).n=n/\(eE T p).x=y/\blk T (T.size+1) p=p:=by
 have i:aw T p=aw w 0:=by have:=s.2 0 am.pos;rwa [gI]at this
 obtain⟨C,u,b,d,j,o,ap,av⟩:=am;have H:¬(aw T p=45/\aw T (p+1)=45)->blk T (T.size+1) p=p:=Lx T p (by rw[i,ap];simp);unfold wj at h;by_cases c:bC (aw w 0)=S
 ·have bj:=mw c;rw[ab c]at h;have r:pC T (T.size+1) p=p+w.size:=by
   unfold eE at b;rw[ab c]at b;simp only at b;rw[zq]at b⊢;have K:=sa (fun L=>bC L||ch L) w (w.size+1) 0;rw[b]at K;have bf:=s.1;exact tu _ T w.size (T.size+1) p (fun t I=>by rw[s.2 t I];exact K t (aG _) I) (by simpa [alB] using h) (by omega)
  have af:Di T p=Di w 0:=by
   unfold eE at b;rw[ab c]at b;simp only at b;unfold Di;rw[r,s.ext,b,gh]
  refine⟨?_,?_,?_,?_,?_,H (by omega)⟩;all_goals (unfold eE at u b d j o⊢;rw[ab c]at u b d j o;rw[i,ab c])
  ·exact r
  ·simp only[af];exact d
  ·exact j
  ·simp only[af];exact o
 rw[aa c]at h;by_cases e:ch (aw w 0)=S\/aw w 0=34
 ·rw[ab e]at h;have g:Ag T p w:=⟨s.2,aH h⟩;have r:=g.rd C u b;refine⟨by rw[r],by rw[r],by rw[r];exact d,by rw[r];exact j,by rw[r];exact o,H ?_⟩;rcases e with q|q
  ·have:=iI q;omega
  ·omega
 rw[aa e]at h;obtain⟨e,v⟩:=not_or.1 e;obtain⟨h,F⟩:=Bool.and_eq_true_iff.1 h;have F:=aH F;have ba:w.extract 0 w.size=w:=gh w;unfold eE at u b d j o;rw[aa c,aa e,aa v,ba]at u b d j o;by_cases G:od w=0
 ·rw[ab G]at u;cases u
 rw[aa G]at b d j o;simp only at b d j o;rw[d]at b;rw[fE]at b;obtain⟨a9,ak⟩:=GJ w C G;rw[d]at a9 ak;have ao:40<=k/\k<=78:=by omega
 have an:∀t,t<w.size->aw w t=aw (ed k) t:=fun t I=>ak t (by omega);have a8:aw (T.extract p T.size) 0=aw w 0:=by have:=s.1;rw[mJ T p T.size 0 (ag _) (by omega),gI,i]
 have A:od (T.extract p T.size)=k:=by
  rw[<-d];unfold od;rw[a8,qF mh 40 (T.extract p T.size) w 11 (fun J B=>ad9 s C an b ao h amw B (osz ⟨J,B⟩)) 11 0 _ (by omega),
   qF tI 61 (T.extract p T.size) w 18 (fun J B=>ad9 s C an b ao h amx B (bsz ⟨J,B⟩)) 18 0 _ (by omega)]
 refine⟨?_,?_,?_,?_,?_,H fun q=>?_⟩
 ·unfold eE;rw[i,aa c,aa e,aa v,A,aa (by omega)]
 ·unfold eE;rw[i,aa c,aa e,aa v,A,aa (by omega)];simp only;rw[b]
 ·unfold eE;rw[i,aa c,aa e,aa v,A,aa (by omega)]
 ·unfold eE;rw[i,aa c,aa e,aa v,A,aa (by omega)];exact j
 ·unfold eE;rw[i,aa c,aa e,aa v,A,aa (by omega)];exact o
 ·have w1:=av (by rw[<-i];exact q.1);rw[w1]at F;rw[<-i]at F;omega
theorem ai3{c:Int}(h:aw T p=c)(d:c=10\/c=59):(eE T p).ok=S/\(eE T p).a=p+1/\(eE T p).k=(if c=10 then 7 else 5)/\blk T (T.size+1) p=p:=by
 have o:p<T.size:=bm h (by omega);have b:bC c=Y/\ch c=Y/\ll c=Y:=by rcases d with rfl|rfl<;>decide
 have i:aw (T.extract p T.size) 0=c:=by rw[mJ T p T.size 0 (ag _) (by omega),gI,h]
 have j:od (T.extract p T.size)=if c=10 then 7 else 5:=by unfold od;rw[i];rcases d with rfl|rfl<;>rfl
 have e:blk T (T.size+1) p=p:=Lx T p (by rw[h,b.2.2];simp) (by rw[h];omega);unfold eE;rw[h,aa (by rw[b.1];simp),aa (by rw[b.2.1];simp),aa (by omega),j];rcases d with rfl|rfl
 ·exact⟨rfl,rfl,rfl,e⟩
 ·exact⟨rfl,rfl,rfl,e⟩
end
inductive Skp (T:ByteArray) (o:Bool):Nat->Nat->Prop where
 |nil {p:Nat}:Skp T o p p
 |bl {p q:Nat}:ll (aw T p)=true->Skp T o (p+1) q->Skp T o p q
 |rem {p q:Nat}:aw T p=45->aw T (p+1)=45->Skp T o (Lu T p) q->Skp T o p q
 |nl {p q:Nat}:o=true->aw T p=10->Skp T o (p+1) q->Skp T o p q
inductive Rz (T:ByteArray):Nat->List Wt->Nat->Prop where
 |nil {p:Nat}:Rz T p [] p
 |bl {p q:Nat}{l:List Wt}:ll (aw T p)=true->Rz T (p+1) l q->Rz T p l q
 |rem {p q:Nat}{l:List Wt}:aw T p=45->aw T (p+1)=45->Rz T (Lu T p) l q->Rz T p l q
 |tok {p r q:Nat}{t:Wt}{l:List Wt}:t.k≠7->t.k≠5->Alo t.w t.k t.n t.x->LD T p t.w->wj t.w t.k (aw T (p+t.w.size))=true->Skp T (Lj t.k) (p+t.w.size) r->Rz T r l q->Rz T p (t::l) q
 |sep {p q:Nat}{l:List Wt}{c:Int}:aw T p=c->c=10\/c=59->Rz T (p+1) l q->Rz T p (nlW::l) q
theorem Rz.app{T:ByteArray}{p q r:Nat}{l m:List Wt}(h:Rz T p l q)(g:Rz T q m r):Rz T p (l++m) r:=by
 induction h with
 |nil=>exact g
 |bl a c b=>exact .bl a (b g)
 |rem a c d b=>exact .rem a c (b g)
 |tok a c d e i j o b=>exact .tok a c d e i j (b g)
 |sep a c d b=>exact .sep a c (b g)
def wt(t:Wt):Nat:=if t.k<5 then t.w.size+5 else 11
def cst:List Wt->Nat
 |[]=>0
 |t::l=>wt t+cst l
theorem cg:∀(a b:List Wt),cst (a++b)=cst a+cst b
 |[],b=>(fE _).symm
 |t::a,b=>by rw[fy,cst,cst,cg a b,iu]
def ik(f:Int->Bool)(x:ByteArray)(l:List Wt):Prop:=∀T p,LD T p x->f (aw T (p+x.size))=S->Rz T p l (p+x.size)
def oE(c:Int):Bool:=S
def lJ(c:Int):Bool:=decide (c∈ss)
def wl(c:Int):Bool:=!(alB c)
section
variable {f g : Int → Bool} {x y : ByteArray} {l m : List Wt}
theorem ik.app(h:ik f x l)(e:ik g y m)(j:0<y.size:=by decide)(d:f (aw y 0)=S:=by decide):ik g (x++y) (l++m):=fun T p i b=>by
 obtain⟨c,a⟩:=i.app;rw[ae,<-iu]at b⊢;exact(h T p c (by have:=a.2 0 j;rw[gI]at this;rw[this];exact d)).app (e T _ a b)
theorem ik.mono(h:ik f x l)(b:∀c,g c=S->f c=S):ik g x l:=fun T p d a=>h T p d (b _ a)
theorem ik.tt(h:ik oE x l):ik g x l:=h.mono fun _ _=>rfl
theorem ik.as{k:List Wt}(h:ik f x l)(e:l=k:=by simp):ik f x k:=e ▸ h
theorem I8:ik f A0 []:=fun T p b a=> .nil
theorem wm:ik oE ⟨#[32]⟩ []:=fun T p a b=> .bl (by have:=a.2 0 (by decide);rw[gI]at this;rw[this];decide) .nil
theorem LE:ik oE ⟨#[10]⟩ [nlW]:=fun T p a b=> .sep (c:=10) (by have:=a.2 0 (by decide);rw[gI]at this;rw[this];rfl) (.inl rfl) .nil
theorem aea:∀t,ik oE (Cj t) []
 |0=>I8
 |t+1=>by
  have a:ik oE ⟨#[9]⟩ []:=fun T p b c=> .bl (by have:=b.2 0 (by decide);rw[gI]at this;rw[this];decide) .nil;exact(aea t).app a
theorem LF(t:Nat):ik oE (ig t) [nlW]:=by
 cases t with
 |zero=>
  intro T p b a;have c:ig 0=⟨#[10]⟩:=by decide
  rw[c]at b a⊢;exact LE T p b a
 |succ t=>exact LE.app (aea (t+1)) (by rw[th];omega) rfl
theorem AE{t:Wt}(b:t.k≠7)(a:t.k≠5)(c:Alo t.w t.k t.n t.x):ik (wj t.w t.k) t.w [t]:=fun T p e d=> .tok b a c e d .nil .nil
theorem mK(h:jo x=S):ik wl x [jK x]:=(AE (t:=jK x) (by simp[jK]) (by simp[jK]) (ad6 h)).mono fun a b=>by
 have:bC (aw x 0)=S:=by unfold jo at h;exact(aH h).2.1
 show wj x 1 a=S;unfold wj;rw[ab this];exact b
theorem aeb{k:Int}(c:k≠7)(b:k≠5)(a:(ed k).size≠0):ik (wj (ed k) k) (ed k) [sgF k]:=AE (t:=sgF k) c b (ahs a)
def itT:List Int->ByteArray
 |[]=>A0
 |k::r=>(if k=0 then⟨#[32]⟩ else ed k)++itT r
def itL:List Int->List Wt
 |[]=>[]
 |k::r=>if k=0 then itL r else sgF k::itL r
def itF:List Int->Int->Bool
 |[]=>oE
 |[k]=>if k=0 then oE else wj (ed k) k
 |_::r=>itF r
def itC:List Int->Bool
 |[]=>S
 |k::r=>(k==0||(k !=7&&k !=5&&(ed k).size !=0&&(r==[]||((itT r).size !=0&&wj (ed k) k (aw (itT r) 0)))))&&itC r
theorem aec:∀r,itC r=S->ik (itF r) (itT r) (itL r)
 |[],_=>I8
 |[k],h=>by
  simp only[itC,Bool.and_true]at h;unfold itF itT itL itT itL;by_cases e:k=0
  ·rw[ab e,ab e,ab e];intro T p d c;have i:(⟨#[32]⟩:ByteArray)++A0=⟨#[32]⟩:=by decide
   rw[i]at d c⊢;exact wm T p d c
  ·rw[aa e,aa e,aa e];simp[e]at h;have i:ed k++A0=ed k:=by apply jh;simp[js]
   rw[i];exact aeb h.1.1 h.1.2 (fun g=>h.2 (by simpa using g))
 |k::b::r,h=>by
  have o:=aec (b::r);simp only[itC]at h o;rw[cL]at h;have j:=o h.2;show ik (itF (b::r)) ((if k=0 then⟨#[32]⟩ else ed k)++itT (b::r)) (if k=0 then itL (b::r) else sgF k::itL (b::r));by_cases e:k=0
  ·rw[ab e,ab e];intro T p d c;obtain⟨q,s⟩:=d.app;rw[ae,<-iu]at c⊢;exact(wm T p q rfl).app (j T _ s c)
  ·rw[aa e,aa e];have a:=h.1;simp[e]at a;exact(aeb a.1.1.1 a.1.1.2 (fun g=>a.1.2 (by simpa using g))).app j (by have:=a.2.1;rcases kL (itT (b::r)).size with g|g;exact absurd (by simpa using g) this;exact g) a.2.2
theorem lit(r:List Int)(h:x=itT r:=by decide+kernel)(a:itC r=S:=by decide+kernel):ik (itF r) x (itL r):=by rw[h];exact aec r a
end
theorem GK(w0:Z)(p1:Addr)(n c1:Nat)(ns:List Nd)(ba:co w0 (M (O p1) n c1) ns)(bb:jm w0 p1 ns)(br:ns.length=n)(cx:n<=1048576)(tab:Nat)(i:Nat)(cq:i<n)(N:Nd)(a9:ad ns i=N)(h:N.k=8)(cv:N.ks.length<=1048576)(a7:Nat)(bd:N.ks[0]?=O (a7:Int))(s:ByteArray)(bo:Wr w0 (M (O p1) n c1) tab 67 #[pW w0,Q R (a7:Int),Q R 0] s)(a8:Nat)(a5:N.ks[1]?=O (a8:Int))(a3:ByteArray)(bn:Wr w0 (M (O p1) n c1) tab 64 #[pW w0,Q R (a8:Int)] a3):
  Wr w0 (M (O p1) n c1) tab 32 #[pW w0,Q R (i:Int)] (⟨#[119,104,105,108,101,32]⟩++s++⟨#[32]⟩++a3):=by
 intro T w u v;obtain⟨o,j,r,b9,d,q,e⟩:=fG ba bb (show i<ns.length by omega);rw[a9]at e;have A:=u.lt;obtain⟨z0,b6,b7⟩:=u.cells;have bp:=e.hL;have bq:=e.hM;obtain⟨b,rfl⟩:=e.ks.ptr (by have:=dk a5;omega);have ct:(0:Int)<(d:Int):=by have:=dk bd;omega
 have cu:(1:Int)<(d:Int):=by have:=dk a5;omega
 obtain⟨bs,bt,bw,bx,bA,bD,bE,b0,b1,_,_⟩:=e.rd w u.bel;have ao:Ax (Bx w0 (M (O p1) n c1) tab w N (M o j r) (M (O b) d q) T (w.alloc (iL N (M o j r) (M (O b) d q)))):=Bx.new u N _ _;try simp only[ae]at v
 have cr:(i:Int)<(n:Int):=by omega
 have cs:(0:Int)<=(i:Int):=by omega
 have t:Ax (∀(T:ByteArray)(W:Z),Bx w0 (M (O p1) n c1) tab w N (M o j r) (M (O b) d q) T W->uA W w.heap.size N (M o j r) (M (O b) d q)/\W.cell? b=O (Q R (a7:Int))/\W.cell? ⟨b.block,b.off+1,A2⟩=O (Q R (a8:Int))):=fun T W am=>⟨am.cells,am.kid0 e.ks bd,am.kid e.ks a5 (by decide)⟩;have ca:=ci h 1 rfl;have cb:=ci h 2 rfl;have cc:=ci h 3 rfl;have ce:=ci h 4 rfl;have cf:=ci h 5 rfl;have cl:=ci h 6 rfl;have cm:=ci h 7 rfl;have cp:=kH h 8 rfl;have bf:Ax (Wr w0 (M (O p1) n c1) tab 33 _ (⟨#[119,104,105,108,101,32]⟩)):=fun a2 W' a6 v=>aC w0 _ a2 (⟨#[119,104,105,108,101,32]⟩) _ W' a6 v;have bj:=aj bo;have bk:Ax (Wr w0 (M (O p1) n c1) tab 33 _ (⟨#[32]⟩)):=fun a2 W' a6 v=>aC w0 _ a2 (⟨#[32]⟩) _ W' a6 v;have bl:=aj bn;have b8:=aj e;obtain⟨⟨B,C,F,G,H,I,J,K,L⟩,af,al⟩:=t.out _ _ ao.out;clear u e ba bb a9 br b7 b6 bp bq h;go_in;go_wp2_with fail;refine(bf.out _ _ ao.out.pr (by(try simp only[ae]);omega)).mono ?_;rintro a4 b2 ⟨rfl,c,a⟩;have ap:Ax (Bx w0 (M (O p1) n c1) tab w N (M o j r) (M (O b) d q) (T++(⟨#[119,104,105,108,101,32]⟩)) b2):=ao.out.next A c a
 obtain⟨⟨B,C,F,G,H,I,J,K,L⟩,af,al⟩:=t.out _ _ ap.out;clear c a bs bt bw bx bA bD bE b0 b1 z0;go_wp2_with fail;refine(bj.out _ _ ap.out.pr (by(try simp only[ae]);omega)).mono ?_;rintro a4 b3 ⟨rfl,c,a⟩;have av:Ax (Bx w0 (M (O p1) n c1) tab w N (M o j r) (M (O b) d q) (T++(⟨#[119,104,105,108,101,32]⟩)++(s)) b3):=ap.out.next A c a
 obtain⟨⟨B,C,F,G,H,I,J,K,L⟩,af,al⟩:=t.out _ _ av.out;clear c a;go_wp2_with fail;refine(bk.out _ _ av.out.pr (by(try simp only[ae]);omega)).mono ?_;rintro a4 b4 ⟨rfl,c,a⟩;have a0:Ax (Bx w0 (M (O p1) n c1) tab w N (M o j r) (M (O b) d q) (T++(⟨#[119,104,105,108,101,32]⟩)++(s)++(⟨#[32]⟩)) b4):=av.out.next A c a
 obtain⟨⟨B,C,F,G,H,I,J,K,L⟩,af,al⟩:=t.out _ _ a0.out;clear c a;go_wp2_with fail;refine(bl.out _ _ a0.out.pr (by(try simp only[ae]);omega)).mono ?_;rintro a4 b5 ⟨rfl,c,a⟩;have a1:Ax (Bx w0 (M (O p1) n c1) tab w N (M o j r) (M (O b) d q) (T++(⟨#[119,104,105,108,101,32]⟩)++(s)++(⟨#[32]⟩)++(a3)) b5):=a0.out.next A c a
 obtain⟨⟨B,C,F,G,H,I,J,K,L⟩,af,al⟩:=t.out _ _ a1.out;clear c a;go_wp2_with fail;go_end0
 refine⟨rfl,?_,a1.out.kq⟩;have:=a1.out.pr;simpa only[aB] using this
theorem I9(w0:Z)(p1:Addr)(n c1:Nat)(ns:List Nd)(A:co w0 (M (O p1) n c1) ns)(B:jm w0 p1 ns)(af:ns.length=n)(b5:n<=1048576)(tab:Nat)(i:Nat)(b1:i<n)(N:Nd)(v:ad ns i=N)(a:N.k=11)(b4:N.ks.length<=1048576):
  Wr w0 (M (O p1) n c1) tab 32 #[pW w0,Q R (i:Int)] (⟨#[98,114,101,97,107]⟩):=by
 intro T w q t;obtain⟨h,d,o,e,c,j,b⟩:=fG A B (show i<ns.length by omega);rw[v]at b;have L:=q.lt;obtain⟨z0,bk,bl⟩:=q.cells;have J:=b.hL;have K:=b.hM;obtain⟨am,ao,ap,av,a0,a1,a2,a3,a4,_,_⟩:=b.rd w q.bel;have r:Ax (Bx w0 (M (O p1) n c1) tab w N (M h d o) (M e c j) T (w.alloc (iL N (M h d o) (M e c j)))):=Bx.new q N _ _;try simp only[ae]at t
 have b2:(i:Int)<(n:Int):=by omega
 have b3:(0:Int)<=(i:Int):=by omega
 have u:Ax (∀(T:ByteArray)(W:Z),Bx w0 (M (O p1) n c1) tab w N (M h d o) (M e c j) T W->uA W w.heap.size N (M h d o) (M e c j)):=fun T W G=>G.cells;have bp:=ci a 1 rfl;have bs:=ci a 2 rfl;have bt:=ci a 3 rfl;have bw:=ci a 4 rfl;have bx:=ci a 5 rfl;have bA:=ci a 6 rfl;have bD:=ci a 7 rfl;have bE:=ci a 8 rfl;have b0:=ci a 9 rfl;have bq:=ci a 10 rfl;have br:=kH a 11 rfl;have H:Ax (Wr w0 (M (O p1) n c1) tab 33 _ (⟨#[98,114,101,97,107]⟩)):=fun I W' al t=>aC w0 _ I (⟨#[98,114,101,97,107]⟩) _ W' al t;have bn:=aj b;obtain⟨a5,a6,a7,a8,a9,ba,bb,bd,bf⟩:=u.out _ _ r.out;clear q b A B v af bl bk J K a;go_in;go_wp2_with fail;refine(H.out _ _ r.out.pr (by(try simp only[ae]);omega)).mono ?_;rintro bo bj ⟨rfl,F,C⟩;have s:Ax (Bx w0 (M (O p1) n c1) tab w N (M h d o) (M e c j) (T++(⟨#[98,114,101,97,107]⟩)) bj):=r.out.next L F C
 obtain⟨a5,a6,a7,a8,a9,ba,bb,bd,bf⟩:=u.out _ _ s.out;clear F C am ao ap av a0 a1 a2 a3 a4 z0;go_wp2_with fail;go_end0
 refine⟨rfl,?_,s.out.kq⟩;have:=s.out.pr;simpa only[aB] using this
theorem abB(w0:Z)(p1:Addr)(n c1:Nat)(ns:List Nd)(A:co w0 (M (O p1) n c1) ns)(B:jm w0 p1 ns)(af:ns.length=n)(b6:n<=1048576)(tab:Nat)(i:Nat)(b2:i<n)(N:Nd)(v:ad ns i=N)(a:N.k=12)(b5:N.ks.length<=1048576):
  Wr w0 (M (O p1) n c1) tab 32 #[pW w0,Q R (i:Int)] (⟨#[110,101,120,116]⟩):=by
 intro T w q t;obtain⟨h,d,o,e,c,j,b⟩:=fG A B (show i<ns.length by omega);rw[v]at b;have L:=q.lt;obtain⟨z0,bk,bl⟩:=q.cells;have J:=b.hL;have K:=b.hM;obtain⟨am,ao,ap,av,a0,a1,a2,a3,a4,_,_⟩:=b.rd w q.bel;have r:Ax (Bx w0 (M (O p1) n c1) tab w N (M h d o) (M e c j) T (w.alloc (iL N (M h d o) (M e c j)))):=Bx.new q N _ _;try simp only[ae]at t
 have b3:(i:Int)<(n:Int):=by omega
 have b4:(0:Int)<=(i:Int):=by omega
 have u:Ax (∀(T:ByteArray)(W:Z),Bx w0 (M (O p1) n c1) tab w N (M h d o) (M e c j) T W->uA W w.heap.size N (M h d o) (M e c j)):=fun T W G=>G.cells;have bp:=ci a 1 rfl;have bt:=ci a 2 rfl;have bw:=ci a 3 rfl;have bx:=ci a 4 rfl;have bA:=ci a 5 rfl;have bD:=ci a 6 rfl;have bE:=ci a 7 rfl;have b0:=ci a 8 rfl;have b1:=ci a 9 rfl;have bq:=ci a 10 rfl;have br:=ci a 11 rfl;have bs:=kH a 12 rfl;have H:Ax (Wr w0 (M (O p1) n c1) tab 33 _ (⟨#[110,101,120,116]⟩)):=fun I W' al t=>aC w0 _ I (⟨#[110,101,120,116]⟩) _ W' al t;have bn:=aj b;obtain⟨a5,a6,a7,a8,a9,ba,bb,bd,bf⟩:=u.out _ _ r.out;clear q b A B v af bl bk J K a;go_in;go_wp2_with fail;refine(H.out _ _ r.out.pr (by(try simp only[ae]);omega)).mono ?_;rintro bo bj ⟨rfl,F,C⟩;have s:Ax (Bx w0 (M (O p1) n c1) tab w N (M h d o) (M e c j) (T++(⟨#[110,101,120,116]⟩)) bj):=r.out.next L F C
 obtain⟨a5,a6,a7,a8,a9,ba,bb,bd,bf⟩:=u.out _ _ s.out;clear F C am ao ap av a0 a1 a2 a3 a4 z0;go_wp2_with fail;go_end0
 refine⟨rfl,?_,s.out.kq⟩;have:=s.out.pr;simpa only[aB] using this
theorem Ja(w0:Z)(p1:Addr)(n c1:Nat)(ns:List Nd)(A:co w0 (M (O p1) n c1) ns)(B:jm w0 p1 ns)(af:ns.length=n)(b8:n<=1048576)(tab:Nat)(i:Nat)(b4:i<n)(N:Nd)(v:ad ns i=N)(a:N.k=13)(b7:N.ks.length<=1048576)(b3:N.ks.length=0):
  Wr w0 (M (O p1) n c1) tab 32 #[pW w0,Q R (i:Int)] (⟨#[114,101,116,117,114,110]⟩):=by
 intro T w q t;obtain⟨h,d,o,e,b,j,c⟩:=fG A B (show i<ns.length by omega);rw[v]at c;have L:=q.lt;obtain⟨z0,bk,bl⟩:=q.cells;have J:=c.hL;have K:=c.hM;obtain⟨am,ao,ap,av,a0,a1,a2,a3,a4,_,_⟩:=c.rd w q.bel;have r:Ax (Bx w0 (M (O p1) n c1) tab w N (M h d o) (M e b j) T (w.alloc (iL N (M h d o) (M e b j)))):=Bx.new q N _ _;try simp only[ae]at t
 have b5:(i:Int)<(n:Int):=by omega
 have b6:(0:Int)<=(i:Int):=by omega
 have u:Ax (∀(T:ByteArray)(W:Z),Bx w0 (M (O p1) n c1) tab w N (M h d o) (M e b j) T W->uA W w.heap.size N (M h d o) (M e b j)):=fun T W G=>G.cells;have bp:=ci a 1 rfl;have bw:=ci a 2 rfl;have bx:=ci a 3 rfl;have bA:=ci a 4 rfl;have bD:=ci a 5 rfl;have bE:=ci a 6 rfl;have b0:=ci a 7 rfl;have b1:=ci a 8 rfl;have b2:=ci a 9 rfl;have bq:=ci a 10 rfl;have br:=ci a 11 rfl;have bs:=ci a 12 rfl;have bt:=kH a 13 rfl;have b9:¬(0:Int)<(b:Int):=by omega
 have H:Ax (Wr w0 (M (O p1) n c1) tab 33 _ (⟨#[114,101,116,117,114,110]⟩)):=fun I W' al t=>aC w0 _ I (⟨#[114,101,116,117,114,110]⟩) _ W' al t;have bn:=aj c;obtain⟨a5,a6,a7,a8,a9,ba,bb,bd,bf⟩:=u.out _ _ r.out;clear q c A B v af bl bk J K a;go_in;go_wp2_with fail;refine(H.out _ _ r.out.pr (by(try simp only[ae]);omega)).mono ?_;rintro bo bj ⟨rfl,F,C⟩;have s:Ax (Bx w0 (M (O p1) n c1) tab w N (M h d o) (M e b j) (T++(⟨#[114,101,116,117,114,110]⟩)) bj):=r.out.next L F C
 obtain⟨a5,a6,a7,a8,a9,ba,bb,bd,bf⟩:=u.out _ _ s.out;clear F C am ao ap av a0 a1 a2 a3 a4 z0;go_wp2_with fail;go_end0
 refine⟨rfl,?_,s.out.kq⟩;have:=s.out.pr;simpa only[aB] using this
theorem abC(w0:Z)(p1:Addr)(n c1:Nat)(ns:List Nd)(a2:co w0 (M (O p1) n c1) ns)(a3:jm w0 p1 ns)(bb:ns.length=n)(cm:n<=1048576)(tab:Nat)(i:Nat)(cc:i<n)(N:Nd)(a1:ad ns i=N)(a:N.k=13)(cl:N.ks.length<=1048576)(cb:0<N.ks.length)(X:ByteArray)(ba:∀v,aK w0 v (N.ks)->Wr w0 (M (O p1) n c1) tab 66 #[pW w0,v] X):
  Wr w0 (M (O p1) n c1) tab 32 #[pW w0,Q R (i:Int)] (⟨#[114,101,116,117,114,110]⟩++(⟨#[32]⟩++X)):=by
 intro T w s t;obtain⟨q,j,r,c,b,d,o⟩:=fG a2 a3 (show i<ns.length by omega);rw[a1]at o;have H:=s.lt;obtain⟨z0,bw,bx⟩:=s.cells;have a8:=o.hL;have a9:=o.hM;obtain⟨bd,bf,bj,bk,bl,bn,bo,bp,bq,_,_⟩:=o.rd w s.bel;have A:Ax (Bx w0 (M (O p1) n c1) tab w N (M q j r) (M c b d) T (w.alloc (iL N (M q j r) (M c b d)))):=Bx.new s N _ _;try simp only[ae]at t
 have ce:(i:Int)<(n:Int):=by omega
 have cf:(0:Int)<=(i:Int):=by omega
 have u:Ax (∀(T:ByteArray)(W:Z),Bx w0 (M (O p1) n c1) tab w N (M q j r) (M c b d) T W->uA W w.heap.size N (M q j r) (M c b d)):=fun T W a4=>a4.cells;have bD:=ci a 1 rfl;have b3:=ci a 2 rfl;have b4:=ci a 3 rfl;have b5:=ci a 4 rfl;have b6:=ci a 5 rfl;have b7:=ci a 6 rfl;have b8:=ci a 7 rfl;have b9:=ci a 8 rfl;have ca:=ci a 9 rfl;have bE:=ci a 10 rfl;have b0:=ci a 11 rfl;have b1:=ci a 12 rfl;have b2:=kH a 13 rfl;have cp:(0:Int)<(b:Int):=by omega
 have a5:Ax (Wr w0 (M (O p1) n c1) tab 33 _ (⟨#[114,101,116,117,114,110]⟩)):=fun G W' I t=>aC w0 _ G (⟨#[114,101,116,117,114,110]⟩) _ W' I t;have a6:Ax (Wr w0 (M (O p1) n c1) tab 33 _ (⟨#[32]⟩)):=fun G W' I t=>aC w0 _ G (⟨#[32]⟩) _ W' I t;have a7:Ax (Wr w0 (M (O p1) n c1) tab 66 _ (X)):=ba (M c b d) o.ks;have bA:=aj o;obtain⟨J,K,L,af,al,am,ao,ap,av⟩:=u.out _ _ A.out;clear s o a2 a3 a1 bb bx bw a8 a9 a;go_in;go_wp2_with fail;refine(a5.out _ _ A.out.pr (by(try simp only[ae]);omega)).mono ?_;rintro a0 br ⟨rfl,h,e⟩;have B:Ax (Bx w0 (M (O p1) n c1) tab w N (M q j r) (M c b d) (T++(⟨#[114,101,116,117,114,110]⟩)) br):=A.out.next H h e
 obtain⟨J,K,L,af,al,am,ao,ap,av⟩:=u.out _ _ B.out;clear h e bd bf bj bk bl bn bo bp bq z0;go_wp2_with fail;refine(a6.out _ _ B.out.pr (by(try simp only[ae]);omega)).mono ?_;rintro a0 bs ⟨rfl,h,e⟩;have C:Ax (Bx w0 (M (O p1) n c1) tab w N (M q j r) (M c b d) (T++(⟨#[114,101,116,117,114,110]⟩)++(⟨#[32]⟩)) bs):=B.out.next H h e
 obtain⟨J,K,L,af,al,am,ao,ap,av⟩:=u.out _ _ C.out;clear h e;go_wp2_with fail;refine(a7.out _ _ C.out.pr (by(try simp only[ae]);omega)).mono ?_;rintro a0 bt ⟨rfl,h,e⟩;have F:Ax (Bx w0 (M (O p1) n c1) tab w N (M q j r) (M c b d) (T++(⟨#[114,101,116,117,114,110]⟩)++(⟨#[32]⟩)++(X)) bt):=C.out.next H h e
 obtain⟨J,K,L,af,al,am,ao,ap,av⟩:=u.out _ _ F.out;clear h e;go_wp2_with fail;go_end0
 refine⟨rfl,?_,F.out.kq⟩;have:=F.out.pr;simpa only[aB] using this
theorem abD(w0:Z)(bk:A5)(ns:List Nd)(E:Int->ByteArray)(t:Int)(bl:Nat)(c5:OkE w0 bk ns E t bl)(ba:co w0 bk ns)(ef:ns.length<=1048576)(N:Nd)(vn vk:A5)(bd:aK w0 vk N.ks)(k:Nat)(H:N.ks[0]?=O (k:Int))(eb:k<bl)(bt:k<ns.length)(ec:N.ks.length<=1048576)(c7:eK (ad ns k).k=S)
  (eg:N.op=19) (T:ByteArray) (w:Z) (h:Pr w0 bk T t w) (bw:T.size+(Lp ns E N).size<=140737488355328):
  A7 Tryz.prog 119 #[A6 (O ⟨w0.heap.size,0,A2⟩),dy N vn vk] w fun e a=>e= .returned (A8 #[])/\Pr w0 bk (T++Lp ns E N) t a/\Kq w0.heap.size w a:=by
 have br:A9 w.heap.size w (w.alloc (A4 #[Q R N.k,Q R N.f,Q R N.t,Q R N.l,Q R N.op,Q R N.n,A1 N.x,vn,vk] 36)):=(ai _ w).alloc (ag _) _;have c6:dr w.heap.size (w.alloc (A4 #[Q R N.k,Q R N.f,Q R N.t,Q R N.l,Q R N.op,Q R N.n,A1 N.x,vn,vk] 36)) 36 N vn vk:=ar w _;have ey:=h.lt;obtain⟨ep,d,rfl⟩:=bd.form;obtain⟨b,rfl,_⟩:=bd.get H;obtain⟨eq,j,rfl⟩:=ba.form;obtain⟨p2,rfl,_⟩:=ba.get (pL bt);have bs:bJ N 0=(k:Int):=by unfold bJ;rw[List.getD,H];rfl
 have ee:0<N.ks.length:=by rcases kL N.ks.length with e|e;rw[fm (by omega)]at H;cases H;exact e
 obtain⟨n,am⟩:=aA ns.length;obtain⟨c,a9⟩:=aA N.ks.length;have o:Ax (Pr w0 (M (O p2) n j) T t (w.alloc (A4 #[Q R N.k,Q R N.f,Q R N.t,Q R N.l,Q R N.op,Q R N.n,A1 N.x,vn,M (O b) c d] 36))/\Kq w0.heap.size w (w.alloc (A4 #[Q R N.k,Q R N.f,Q R N.t,Q R N.l,Q R N.op,Q R N.n,A1 N.x,vn,M (O b) c d] 36))
  /\dr w.heap.size (w.alloc (A4 #[Q R N.k,Q R N.f,Q R N.t,Q R N.l,Q R N.op,Q R N.n,A1 N.x,vn,M (O b) c d] 36)) 36 N vn (M (O b) c d)/\aK w0 (M (O b) c d) N.ks/\N.ks[0]?=O (k:Int)/\co w0 (M (O p2) n j) ns/\ns[k]?=O (ad ns k)):=by
  rw[<-am,<-a9];exact⟨h.below br,Kq.of_below br,c6,bd,H,ba,pL bt⟩
 obtain⟨A,s⟩:=aA (Lp ns E N);rw[s]at bw⊢;unfold Lp at s;rw[bs]at s;have cu:Ax (OkE w0 (M (O p2) n j) ns E t bl/\eK (ad ns k).k=S):=by rw[<-am];exact⟨c5,c7⟩
 rw[am,a9];rw[am]at ef bt;rw[a9]at ee ec;clear h br c6 bd H c5 c7 ba am a9;obtain⟨cy,bq⟩:=aA (gE ns E k 11);have da:Lm ns N=if yv (ad ns k)=S then⟨#[45]⟩++⟨#[32]⟩ else⟨#[45]⟩:=by
  unfold Lm;rw[aa (by omega),aa (by omega),aa (by omega),bs]
 rw[da,bq]at s;have cx:=aj bq;clear da bq bs;unfold dy;have er:(N.op==21)=Y:=by simp;omega
 have es:(N.op==22)=Y:=by simp;omega
 have et:(N.op==20)=Y:=by simp;omega
 have ev:(0:Int)<(c:Int):=by omega
 have ew:(k:Int)<(n:Int):=by omega
 have ex:(0:Int)<=(k:Int):=by omega
 have ea:T.size+1<=140737488355328:=by
  have:1<=A.size:=by
   rw[<-s,ae];split
   ·rw[ae];show 1<=1+1+_;omega
   ·show 1<=1+_;omega
  omega
 clear eg;go_in;go_wp2_with fail;refine(aC w0 _ T ⟨#[45]⟩ t _ o.out.1 ea).mono ?_;rintro e i ⟨rfl,a5,bA⟩;have bb:=bA.box o.out.2.2.1 (by omega);obtain⟨dg,dj,dn,dp,ds,bo,dx,d1,d2,d3⟩:=aq bb;obtain⟨el,a8,cz⟩:=(o.out.2.2.2.1.below a5.bel).get o.out.2.2.2.2.1;cases a8;have d5:i.cell? b=O (Q R (k:Int)):=by simpa [Addr.add] using cz
 obtain⟨eL,cB,e3,e0,d8⟩:=(o.out.2.2.2.2.2.1.below a5.bel).get o.out.2.2.2.2.2.2;cases cB;obtain⟨z0,en,eo⟩:=a5.cells;obtain⟨bE,b9,ca,cb,cc,ce,cf,cl,cm,c9,c8⟩:=d8;obtain⟨L,al,rfl⟩:=c9.form;obtain⟨K,af,rfl⟩:=c8.form;have eA:=au bb;have a6:Ax (Pr w0 (M (O p2) n j) (T++⟨#[45]⟩) t i/\Kq w0.heap.size w i/\dr w.heap.size i 36 N vn (M (O b) c d)):=⟨a5,o.out.2.1.trans bA,bb⟩;have cs:=aj s.symm;generalize c4:ad ns k=bn at bE b9 ca cb cc ce cf cl cm s;have ct:=aj c4;clear a5 bA bb c9 c8 s cz dg dj dn dp ds bo dx d1 d3 c4;generalize bn.nm.length=I at cl;generalize bn.ks.length=J at cm;obtain⟨u,ap,a3,av,r,a0,a4,ek,ei⟩:=bn;simp only at bE b9 ca cb cc ce cf;go_wp2_with fail;go_region_held3 (fun a=>a.cell? ⟨w0.heap.size,0,A2⟩=O (M (O p2) n j)/\a.cell? ⟨w.heap.size,8,A2⟩=O (M (O b) c d)/\a.cell? b=O (Q R (k:Int))/\a.cell? (p2.add (k*9))=O (Q R u)/\a.cell? ⟨(p2.add (k*9)).block,(p2.add (k*9)).off+1,A2⟩=O (Q R ap)/\a.cell? ⟨(p2.add (k*9)).block,(p2.add (k*9)).off+2,A2⟩=O (Q R a3)/\a.cell? ⟨(p2.add (k*9)).block,(p2.add (k*9)).off+3,A2⟩=O (Q R av)/\a.cell? ⟨(p2.add (k*9)).block,(p2.add (k*9)).off+4,A2⟩=O (Q R r)/\a.cell? ⟨(p2.add (k*9)).block,(p2.add (k*9)).off+5,A2⟩=O (Q R a0)/\a.cell? ⟨(p2.add (k*9)).block,(p2.add (k*9)).off+6,A2⟩=O (A1 a4)/\a.cell? ⟨(p2.add (k*9)).block,(p2.add (k*9)).off+7,A2⟩=O (M L I al)/\a.cell? ⟨(p2.add (k*9)).block,(p2.add (k*9)).off+8,A2⟩=O (M K J af)) (go_keep) (fail)
 have ao:A9 i.heap.size i (i.alloc (A4 #[Q R u,Q R ap,Q R a3,Q R av,Q R r,Q R a0,A1 a4,M L I al,M K J af] 36)).drew:=be ((ai _ i).alloc (ag _) _);have bx:dr i.heap.size (i.alloc (A4 #[Q R u,Q R ap,Q R a3,Q R av,Q R r,Q R a0,A1 a4,M L I al,M K J af] 36)).drew 36 ⟨u,ap,a3,av,r,a0,a4,ek,ei⟩ (M L I al) (M K J af):=ar i _;generalize (i.alloc (A4 #[Q R u,Q R ap,Q R a3,Q R av,Q R r,Q R a0,A1 a4,M L I al,M K J af] 36)).drew=a7 at ao bx⊢;have F:Ax (Pr w0 (M (O p2) n j) (T++⟨#[45]⟩) t a7/\Kq w0.heap.size w a7/\dr w.heap.size a7 36 N vn (M (O b) c d)):=⟨a6.out.1.below ao,a6.out.2.1.trans (Kq.of_below ao),a6.out.2.2.below ao⟩;obtain⟨d6,_,_,_,d7,_⟩:=aq bx;simp only at d6 d7;have c0:∀(W:Z)(G:ByteArray),Pr w0 (M (O p2) n j) (T++G) t W->Kq w0.heap.size w W->dr w.heap.size W 36 N vn (M (O b) c d)->A=G++cy->
   W.cell? ⟨w.heap.size,8,A2⟩=O (M (O b) c d)/\W.cell? b=O (Q R (k:Int))/\A7 Tryz.prog 67 #[A6 (O ⟨w0.heap.size,0,A2⟩),Q R (k:Int),Q R 11] W fun e a=>e= .returned (A8 #[])/\Pr w0 (M (O p2) n j) (T++A) t a/\Kq w0.heap.size w a:=by
  intro W G v C bo hS;obtain⟨_,_,_,_,_,_,_,_,cp,_⟩:=aq bo;obtain⟨el,a8,cq⟩:=(o.out.2.2.2.1.below v.bel).get o.out.2.2.2.2.1;cases a8;rw[hS,ae]at bw;refine⟨cp,by simpa [Addr.add] using cq,?_⟩;refine(cu.out.1 k 11 _ W eb cu.out.2 (by omega) (by omega) v (by rw[cx.out,ae];omega)).mono ?_;rintro e e4 ⟨rfl,dd,eh⟩;rw[cx.out,aB,<-hS]at dd;exact⟨rfl,dd,C.trans eh⟩
 have cr:Ax (∀(W:Z)(G:ByteArray),Pr w0 (M (O p2) n j) (T++G) t W->Kq w0.heap.size w W->dr w.heap.size W 36 N vn (M (O b) c d)->A=G++cy->
   W.cell? ⟨w.heap.size,8,A2⟩=O (M (O b) c d)/\W.cell? b=O (Q R (k:Int))/\A7 Tryz.prog 67 #[A6 (O ⟨w0.heap.size,0,A2⟩),Q R (k:Int),Q R 11] W fun e a=>e= .returned (A8 #[])/\Pr w0 (M (O p2) n j) (T++A) t a/\Kq w0.heap.size w a):=c0
 have q:=cs.out;rw[ct.out]at q;unfold yv at q;simp only at q;clear c0 ao bx bE b9 ca cb cc ce cf cl cm z0 en eo d2 d5 cs ct a6;have eF:A.size=A.size:=rfl;by_cases B:(u==30&&r==19)=S
 ·rw[ab B]at q;obtain⟨c3,d9⟩:(u==30)=S/\(r==19)=S:=by simpa [cL] using B
  have cv:=aj q;clear B q;go_wp2_with fail;refine(aC w0 _ _ ⟨#[32]⟩ t _ F.out.1 (by have:=bw;rw[cv.out,ae,ae]at this;rw[ae];have a8:(⟨#[45]⟩:ByteArray).size=1:=rfl;have cB:(⟨#[32]⟩:ByteArray).size=1:=rfl;omega)).mono ?_;rintro e em ⟨rfl,dc,bD⟩;obtain⟨cp,cq,bj⟩:=cr.out em (⟨#[45]⟩++⟨#[32]⟩) (by rw[<-aB];exact dc) (F.out.2.1.trans bD) (bD.box F.out.2.2 (by omega)) cv.out;clear dc bD;go_wp2_with fail;refine bj.mono ?_;rintro e df ⟨rfl,v,C⟩;go_wp2_with fail;go_end0
  exact⟨rfl,v,C⟩
 ·rw[aa B]at q;obtain⟨cp,cq,bj⟩:=cr.out a7 ⟨#[45]⟩ F.out.1 F.out.2.1 F.out.2.2 q;clear q;cases c3:(u==30) with
  |true=>
   have d9:(r==19)=Y:=by
    cases h:(r==19) with
    |false=>rfl
    |true=>exact absurd (by rw[c3,h];rfl) B
   clear B;go_wp2_with fail;refine bj.mono ?_;rintro e df ⟨rfl,v,C⟩;go_wp2_with fail;go_end0
   exact⟨rfl,v,C⟩
  |false=>
   clear B;go_wp2_with fail;refine bj.mono ?_;rintro e df ⟨rfl,v,C⟩;go_wp2_with fail;go_end0
   exact⟨rfl,v,C⟩
theorem abE(w0:Z)(a:A5)(ns:List Nd)(E:Int->ByteArray)(t:Int)(b:Nat)(c:OkE w0 a ns E t b)(u:co w0 a ns)(A:ns.length<=1048576)(N:Nd)(vn vk:A5)(o:aK w0 vk N.ks)(k:Nat)(j:N.ks[0]?=O (k:Int))(i:k<b)(v:k<ns.length)(r:N.ks.length<=1048576)(d:eK (ad ns k).k=S)
  (B:19<=N.op/\N.op<=22) (T:ByteArray) (w:Z) (h:Pr w0 a T t w) (q:T.size+(Lp ns E N).size<=140737488355328):
  A7 Tryz.prog 119 #[A6 (O ⟨w0.heap.size,0,A2⟩),dy N vn vk] w fun e s=>e= .returned (A8 #[])/\Pr w0 a (T++Lp ns E N) t s/\Kq w0.heap.size w s:=by
 by_cases e:N.op=19
 ·exact abD w0 a ns E t b c u A N vn vk o k j i v r d e T w h q
 ·exact GI w0 a ns E t b c N vn vk o k j i r d (by omega) T w h q
structure Cu (E:Bs) (W:Z) (y:Int):Prop where
 lo:E.base<=E.cb/\E.base<=W.heap.size
 hl:E.len<=1048576
 code:Code E.base W E.a0 E.len
 cur:∃p q r,fw E.cb W E.a0 E.len E.cap p q r/\0<=p/\p<=y/\0<=r/\r<=3/\(E.g:Int)<=r
section
variable {E : Bs} {W W' : World} {y z : Int}
theorem Cu.wide(h:Cu E W y)(j:y<=z):Cu E W z:=by
 obtain⟨p,d,e,a,b,i,c⟩:=h.cur;exact⟨h.lo,h.hl,h.code,p,d,e,a,b,by omega,c⟩
theorem Cu.g3(h:Cu E W y):E.g<=3:=by
 obtain⟨p,a,b,_,_,_,c,d,e⟩:=h.cur;omega
theorem Cu.below(h:Cu E W y){b:Nat}(a:A9 b W W')(e:E.cb<b):Cu E W' y:=by
 obtain⟨p,i,j,c,d⟩:=h.cur;exact⟨⟨h.lo.1,dh h.lo.2 a.size⟩,h.hl,h.code.below (a.mono (by have:=h.lo.1;omega)),p,i,j,c.below a e,d⟩
theorem Cu.lt(h:Cu E W y):E.cb<W.heap.size:=by
 obtain⟨p,b,c,a,_⟩:=h.cur;exact a.lt
theorem GL(h:Cu E W y)(k:Int)(q:2<=k)(r:k<=200)(B:y<=900000000):
  A7 Tryz.prog 28 #[cV E,Q R k] W fun e a=>∃z:Int,e= .returned (Q R z)/\(0<=z/\z<k)/\Cu E a (y+1)/\Kb W a/\A9 E.base W a:=by
 obtain⟨p,u,i,c,t,C,s⟩:=h.cur;refine(zC k q r E.cb E.base W E.a0 E.len E.cap p u i c h.code t (by omega) h.hl).mono ?_;rintro e a ⟨z,z0,A,o,v,j,d⟩;have b:=vh d h.lo.1 h.lo.2;exact⟨z,o,⟨z0,A⟩,⟨⟨h.lo.1,dh h.lo.2 b.size⟩,h.hl,h.code.below b,p+1,v,i,j,by omega,by omega,s⟩,Kb.grown d c (.inr (.inr rfl)),b⟩
end
