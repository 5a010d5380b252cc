import Derived.Test.YtkdijoogonigpaaGreatDoorHUk14
import Derived.Test.YtkdijoogonigpaaGreatDoorHUk18
import Derived.Test.YtkdijoogonigpaaGreatDoorHUk11
set_option linter.all false
open Bool renaming true->L,false->Q
open Go.Lib renaming hasPrefix->M,decDigits->O
open Go renaming Value->R
namespace Go.Proofs.YtkdijoogonigpaaGreatDoor
open Go.RowKit Go.Maps Go.WideMaps
structure Ag (T:ByteArray) (p:Nat) (x:ByteArray):Prop where
 at_:∀i,i<x.size->ao T (p+i)=ao x i
 bl:ao T (p+x.size)=32
section
variable {T x : ByteArray} {p : Nat}
theorem Ag.lt(a:Ag T p x):p+x.size<T.size:=ba a.bl (by omega)
theorem Ag.q(a:Ag T p x)(q:Int->Bool)(b:q 32=Q)(c:q (-1)=Q){i:Nat}(d:i<=x.size):q (ao T (p+i))=q (ao x i):=by
 rcases be i x.size with g|g
 ·rw[a.at_ i g]
 ·obtain rfl:i=x.size:=by omega
  rw[a.bl,b,ci (by omega),c]
theorem Ag.eq(a:Ag T p x){c:Int}(d:c≠32)(e:c≠ -1){i:Nat}(b:i<=x.size):ao T (p+i)=c↔ao x i=c:=by
 have:=a.q (fun z=>decide (z=c)) (by simp;omega) (by simp;omega) b;simpa using this
theorem Ag.ext(c:Ag T p x):T.extract p (p+x.size)=x:=by
 have d:=c.lt;apply lF;apply Array.toList_inj.1;apply List.ext_getElem?;intro a;rcases be a x.size with g|g
 ·have b:x.data.toList[a]?=some (x.data.toList[a]'(by rw[cJ];exact g)):=aF _;rw[b];refine(dq _ _ _).2 ⟨by rw[je];omega,?_⟩;rw[gv T p (p+x.size) a (by omega) (by omega),c.at_ a g];exact((dq _ _ _).1 b).2
 ·rw[dL (by rw[cJ];show(T.extract p (p+x.size)).size<=a;rw[je];omega),dL (by rw[cJ];exact g)]
theorem ur(q:Int->Bool)(s:ByteArray):∀(n a p:Nat),(∀i,i<n->q (ao s (p+i))=L)->q (ao s (p+n))=Q->n<a->eH q s a p=p+n
 |n,0,p,_,_,d=>by omega
 |0,a+1,p,c,b,_=>by rw[eH,aa (by rw[gK]at b;rw[b];simp)];rfl
 |n+1,a+1,p,c,b,d=>by
  rw[eH,ab (by have:=c 0 (by omega);rwa [gK]at this)];rw[ur q s n a (p+1) (fun i e=>by rw[show p+1+i=p+(i+1) by omega];exact c (i+1) (by omega)) (by rw[show p+1+n=p+(n+1) by omega];exact b) (by omega)];omega
theorem Ag.run(d:Ag T p x)(q:Int->Bool)(h:q 32=Q)(c:q (-1)=Q){a:Nat}(i:a<=x.size):eH q T (T.size+1) (p+a)=p+eH q x (x.size+1) a:=by
 have f:=jm q c x (x.size+1) a i;have e:=lh q x (x.size+1) a;have g:=mB q c x (x.size+1) a (by omega);have l:=d.lt;obtain⟨b,j⟩:∃b,eH q x (x.size+1) a=b:=⟨_,rfl⟩;rw[j]at f e g⊢;rw[ur q T (b-a) (T.size+1) (p+a) (fun m k=>by rw[fp,d.q q h c (by omega)];exact e _ (by omega) (by omega)) (by rw[fp,show a+(b-a)=b by omega,d.q q h c f.2];exact g) (by omega)];omega
theorem rv(s:ByteArray):∀f p,jy s f p=eH (fun c=>bc c||aL c) s f p
 |0,p=>rfl
 |f+1,p=>by
  rw[jy,eH,rv s f (p+1)];by_cases a:bc (ao s p)=L\/aL (ao s p)=L
  ·rw[ab a,ab (by simpa using a)]
  ·rw[aa a,aa (by simpa using a)]
theorem Ag.nm(b:Ag T p x):jy T (T.size+1) p=p+jy x (x.size+1) 0:=by
 rw[rv,rv];exact b.run (fun a=>bc a||aL a) (by decide) (by decide) (aG _)
theorem Ag.dig(b:Ag T p x){a:Nat}(c:a<=x.size):ju T (p+a)=p+ju x a:=b.run aL (by decide) (by decide) c
theorem Ag.hx(b:Ag T p x){a:Nat}(c:a<=x.size):xa T (p+a)=p+xa x a:=b.run gz (by decide) (by decide) c
theorem Ag.a0(d:Ag T p x)(f:0<x.size):nA0 T p=p+nA0 x 0:=by
 unfold nA0;have b:=d.eq (c:=48) (by decide) (by decide) (aG x.size);rw[gK]at b;by_cases a:ao x 0=48
 ·rw[ab (b.2 a),ab a]
 ·rw[aa (fun e=>a (b.1 e)),aa a,d.dig (by omega)]
theorem Ag.a1(g:Ag T p x){a:Nat}(j:a<=x.size):nA1 T (p+a)=p+nA1 x a:=by
 unfold nA1;have h:=g.eq (c:=46) (by decide) (by decide) j;by_cases d:ao x a=46
 ·have i:a+1<=x.size:=ba d (by omega);have f:=g.q aL (by decide) (by decide) i;rw[<-fp]at f;by_cases e:aL (ao x (a+1))=L
  ·rw[ab ⟨h.2 d,by rw[f];exact e⟩,ab ⟨d,e⟩,fp,g.dig i]
  ·rw[aa (fun b=>e (by rw[<-f];exact b.2)),aa (fun b=>e b.2)]
 ·rw[aa (fun b=>d (h.1 b.1)),aa (fun b=>d b.1)]
theorem Ag.ex(d:Ag T p x){a:Nat}(k:a<=x.size):jn T (p+a)=(p+(jn x a).1,(jn x a).2):=by
 unfold jn;have h:=d.eq (c:=101) (by decide) (by decide) k;by_cases b:ao x a=101
 ·have j:a+1<=x.size:=ba b (by omega);have e:=d.eq (c:=43) (by decide) (by decide) j;have f:=d.eq (c:=45) (by decide) (by decide) j;rw[<-fp]at e f;have i:nA2 T (p+a)=p+nA2 x a/\nA2 x a<=x.size:=by
   unfold nA2;by_cases g:ao x (a+1)=43\/ao x (a+1)=45
   ·have:a+1<x.size:=by rcases g with g|g<;>exact ba g (by omega)
    rw[ab g,ab (by rw[e,f];exact g)];omega
   ·rw[aa g,aa (by rw[e,f];exact g)];omega
  rw[ab (h.2 b),ab b,i.1,d.dig i.2];simp
 ·rw[aa (fun g=>b (h.1 g)),aa b]
theorem Ag.x2(b:Ag T p x)(e:0<x.size):(ao T p=48/\ao T (p+1)=120)↔(ao x 0=48/\ao x 1=120):=by
 have a:=b.eq (c:=48) (by decide) (by decide) (aG x.size);have d:=b.eq (c:=120) (by decide) (by decide) (show 1<=x.size by omega);rw[gK]at a;rw[a,d]
theorem Ag.num(a:Ag T p x)(d:0<x.size):bD T p=(p+(bD x 0).1,(bD x 0).2):=by
 unfold bD;by_cases b:ao x 0=48/\ao x (0+1)=120
 ·rw[ab b,ab ((a.x2 d).2 b)];unfold ie;have:=ba b.2 (by omega);rw[a.hx (show 2<=x.size by omega)];simp only[fm];by_cases c:2+16<xa x 2
  ·rw[ab c,ab (by omega)];simp
  ·rw[aa c,aa (by omega)];simp
 ·rw[aa b,aa (fun c=>b ((a.x2 d).1 c)),a.a0 d];have e:=ss x 0 d;have f:=su x (nA0 x 0) e.2;rw[a.a1 e.2,a.ex f.2]
theorem Ag.kd(a:Ag T p x)(e:0<x.size):vf T p=vf x 0:=by
 unfold vf;have b:=ss x 0 e;have g:=su x (nA0 x 0) b.2;rw[a.a0 e,a.a1 b.2];have h:=a.eq (c:=46) (by decide) (by decide) b.2;have i:=a.eq (c:=101) (by decide) (by decide) g.2;refine decide_eq_decide.2 ?_;rw[h,i];by_cases f:ao x (nA0 x 0)=46
 ·have d:=a.q aL (by decide) (by decide) (show nA0 x 0+1<=x.size from ba f (by omega));rw[<-fp]at d;rw[d]
 ·simp[f]
theorem Ag.dc(a:Ag T p x):∀n,n<=x.size->kH T p n=kH x 0 n
 |0,_=>rfl
 |n+1,b=>by rw[kH,kH,a.dc n (by omega),a.at_ n (by omega),fm]
theorem Ag.hv(b:Ag T p x)(a:Nat):∀n,a+n<=x.size->mJ T (p+a) n=mJ x a n
 |0,_=>rfl
 |n+1,c=>by rw[mJ,mJ,b.hv a n (by omega),fp,b.at_ (a+n) (by omega)]
theorem Ag.nu(a:Ag T p x)(c:0<x.size)(e:(bD x 0).1=x.size):jp T p=jp x 0:=by
 unfold jp;rw[a.num c,a.kd c,e];by_cases b:ao x 0=48/\ao x (0+1)=120
 ·rw[ab b,ab ((a.x2 c).2 b)];have:=ba b.2 (by omega);rw[show p+x.size-(p+2)=x.size-2 by omega,a.hv 2 (x.size-2) (by omega)]
 ·rw[aa b,aa (fun d=>b ((a.x2 c).1 d)),show p+x.size-p=x.size by omega,a.dc x.size (ag _),a.ext,gi];rfl
theorem Fi{s:ByteArray}{i:Nat}(a:¬dE (ao s i)<0):i<s.size:=by
 rcases be i s.size with g|g
 ·exact g
 ·rw[ci (by omega)]at a;exact absurd (by decide) a
theorem Ag.hexI(e:Ag T p x){a:Nat}(b:(hexI x a).2.2=L):hexI T (p+a)=((hexI x a).1,p+(hexI x a).2.1,L):=by
 unfold Go.Proofs.YtkdijoogonigpaaGreatDoor.hexI at b⊢;by_cases c:dE (ao x a)<0
 ·rw[ab c]at b;cases b
 rw[aa c]at b;by_cases d:dE (ao x (a+1))<0
 ·rw[ab d]at b;cases b
 rw[e.at_ a (Fi c),aa c,fp,e.at_ (a+1) (Fi d),aa d,aa c,aa d];rfl
theorem Ag.esc(h:Ag T p x){a:Nat}(b:(ed x a).2.2=L):ed T (p+a)=((ed x a).1,p+(ed x a).2.1,L):=by
 have i:a<x.size:=by
  rcases be a x.size with g|g
  ·exact g
  ·unfold ed at b;rw[ci (by omega)]at b;revert b;simp
 unfold ed at b⊢;rw[h.at_ a i];by_cases c:ao x a=110
 ·rw[ab c,ab c];rfl
 rw[aa c]at b;rw[aa c,aa c];by_cases d:ao x a=116
 ·rw[ab d,ab d];rfl
 rw[aa d]at b;rw[aa d,aa d];by_cases e:ao x a=34\/ao x a=92
 ·rw[ab e,ab e];rfl
 rw[aa e]at b;rw[aa e,aa e];by_cases f:ao x a=120
 ·rw[ab f]at b;rw[ab f,ab f,fp,h.hexI b]
 rw[aa f]at b;cases b
theorem Ag.str(g:Ag T p x):∀(f d a:Nat)(c:List Int),f<=d->(bH x f a c).1=L->bH T d (p+a) c=(L,p+(bH x f a c).2.1,(bH x f a c).2.2)
 |0,d,a,c,_,b=>by rw[bH]at b;cases b
 |f+1,0,a,c,l,b=>by omega
 |f+1,d+1,a,c,l,b=>by
  have m:=g.lt;rw[bH]at b⊢;rw[bH];by_cases k:x.size<=a
  ·rw[ab k]at b;cases b
  rw[aa k]at b;rw[aa k,aa (by omega),g.at_ a (by omega)];by_cases h:ao x a=34
  ·rw[ab h,ab h];rfl
  rw[aa h]at b;rw[aa h,aa h];by_cases i:ao x a=10
  ·rw[ab i]at b;cases b
  rw[aa i]at b;rw[aa i,aa i];by_cases e:ao x a=92
  ·rw[ab e]at b;rw[ab e,ab e];by_cases j:(ed x (a+1)).2.2=L
   ·rw[ab j]at b;rw[ab j,fp,g.esc j,ab rfl];exact g.str f d _ _ (by omega) b
   ·rw[aa j]at b;cases b
  rw[aa e]at b;rw[aa e,aa e,fp];exact g.str f d _ _ (by omega) b
end
theorem zF(r y:ByteArray):M r.data.toList y.data.toList=L↔∀i,i<y.size->ao r i=ao y i:=by
 unfold M;rw[qz,List.prefix_iff_getElem?];constructor
 ·intro b i a;have c:y.data.toList[i]?=some (y.data.toList[i]'(by rw[cJ];exact a)):=aF _;rw[((dq _ _ _).1 c).2,((dq _ _ _).1 (b i (by rw[cJ];exact a))).2]
 ·intro b i a;have e:i<y.size:=by rw[cJ]at a;exact a
  have c:y.data.toList[i]?=some y.data.toList[i]:=aF _;have d:=((dq _ _ _).1 c).2;refine(dq _ _ _).2 ⟨?_,by rw[b i e,d]⟩;rw[<-b i e]at d;exact ba d (by omega)
def nbS(V:Array R)(N:Nat):Prop:=∀b:Fin N,∀a:Fin 4,ao (bi V b.val) a.val≠32
theorem adk:nbS fl 11:=by unfold nbS;decide+kernel
theorem adl:nbS gF 18:=by unfold nbS;decide+kernel
section
variable {T x : ByteArray} {p : Nat}
theorem Ag.pre(c:Ag T p x){y:ByteArray}(h:y.size<=3)(e:∀i:Fin 4,ao y i.val≠32):M (T.extract p T.size).data.toList y.data.toList=M x.data.toList y.data.toList:=by
 have g:=c.lt;rw[ud,zF,zF];have d:∀i,i<=x.size->ao (T.extract p T.size) i=ao T (p+i):=fun i a=>gv T p T.size i (ag _) (by omega);constructor
 ·intro b i a;rcases be i x.size with q|q
  ·rw[<-c.at_ i q,<-d i (by omega)];exact b i a
  ·have:=b x.size (by omega);rw[d _ (ag _),c.bl]at this;exact absurd this.symm (e ⟨x.size,by omega⟩)
 ·intro b i a;have f:i<x.size:=by
   have:=b i a;have e:=fG a;exact ba this e.1
  rw[d i (by omega),c.at_ i f];exact b i a
theorem sC(V:Array R)(base:Int)(r r':ByteArray)(N:Nat)(b:∀k,k<N->M r.data.toList (bi V k).data.toList=M r'.data.toList (bi V k).data.toList):∀(f i:Nat)(a:Int×Nat),i+f<=N->ro V base r f i a=ro V base r' f i a
 |0,i,a,_=>rfl
 |f+1,i,a,c=>by rw[ro,ro,b i (by omega),sC V base r r' N b f (i+1) _ (by omega)]
theorem Ag.sk(c:Ag T p x)(e:0<x.size):jz (T.extract p T.size)=jz x:=by
 have f:=c.lt;have d:ao (T.extract p T.size) 0=ao x 0:=by rw[gv T p T.size 0 (ag _) (by omega),c.at_ 0 e]
 unfold jz;rw[d,sC fl 40 (T.extract p T.size) x 11 (fun b a=>c.pre (osz ⟨b,a⟩) (adk ⟨b,a⟩)) 11 0 _ (by omega),
  sC gF 61 (T.extract p T.size) x 18 (fun b a=>c.pre (bsz ⟨b,a⟩) (adl ⟨b,a⟩)) 18 0 _ (by omega)]
theorem Ag.rd(h:Ag T p x)(m:0<x.size)(b:(bB x 0).ok=L)(c:(bB x 0).a=x.size):bB T p=⟨L,p+x.size,(bB x 0).d,(bB x 0).k,(bB x 0).n,(bB x 0).x⟩:=by
 have o:=h.at_ 0 m;rw[gK]at o;unfold bB at b c⊢;rw[o];by_cases i:bc (ao x 0)=L
 ·rw[ab i]at b c;rw[ab i,ab i];have g:jy x (x.size+1) 0=x.size:=c;have l:jy T (T.size+1) p=p+x.size:=by rw[h.nm,g]
  have q:si T p=si x 0:=by unfold si;rw[l,h.ext,g,gi]
  rw[l,q]
 rw[aa i]at b c;rw[aa i,aa i];by_cases j:aL (ao x 0)=L
 ·rw[ab j]at b c;rw[ab j,ab j];by_cases e:(bD x 0).2=L
  ·rw[ab e]at b c;have g:(bD x 0).1=x.size:=c;rw[h.num m,ab e,ab e,h.nu m g,g]
  ·rw[aa e]at b;cases b
 rw[aa j]at b c;rw[aa j,aa j];by_cases e:ao x 0=34
 ·rw[ab e]at b c;rw[ab e,ab e];by_cases f:(bH x (x.size+1) (0+1) []).1=L
  ·rw[ab f]at b c;have g:(bH x (x.size+1) (0+1) []).2.1=x.size:=c;have r:=h.lt;have l:=h.str (x.size+1) (T.size+1) (0+1) [] (by omega) f;rw[fm]at l g f;rw[l,g,fm,ab rfl,ab f]
  ·rw[aa f]at b;cases b
 rw[aa e]at b c;rw[aa e,aa e,gi]at *;rw[h.sk m];by_cases f:jz x=0
 ·rw[ab f]at b;cases b
 ·rw[aa f]at c;have g:0+(dh (jz x)).size=x.size:=c;rw[aa f,aa f,fm]at *;rw[g]
end
structure Alo (x:ByteArray) (k n:Int) (y:ByteArray):Prop where
 pos:0<x.size
 ok:(bB x 0).ok=L
 en:(bB x 0).a=x.size
 ki:(bB x 0).k=k
 nu:(bB x 0).n=n
 tx:(bB x 0).x=y
 bl:eJ (ao x 0)=Q
 da:ao x 0=45->x.size=1
theorem adm:∀k:Fin 79,(dh (k.val:Int)).size≠0->(bB (dh (k.val:Int)) 0).ok=L/\(bB (dh (k.val:Int)) 0).a=(dh (k.val:Int)).size/\(bB (dh (k.val:Int)) 0).k=(k.val:Int)/\(bB (dh (k.val:Int)) 0).n=0/\(bB (dh (k.val:Int)) 0).x.size=0/\eJ (ao (dh (k.val:Int)) 0)=Q/\(ao (dh (k.val:Int)) 0=45->(dh (k.val:Int)).size=1):=by decide+kernel
theorem adn{x:ByteArray}(a:x.size=0):x=⟨#[]⟩:=by
 apply lF;exact Array.eq_empty_of_size_eq_zero a
theorem Fj{k:Int}(a:k<0\/78<k):dh k=iH:=by
 unfold dh;rw[aa (by omega),aa (by omega),aa (by omega),aa (by omega),aa (by omega)]
theorem Fk{k:Int}(a:(dh k).size≠0):Alo (dh k) k 0 ⟨#[]⟩:=by
 have m:0<=k/\k<=78:=by
  rcases Int.lt_or_le k 0 with g|g
  ·rw[Fj (.inl g)]at a;exact absurd rfl a
  rcases Int.lt_or_le 78 k with g2|g2
  ·rw[Fj (.inr g2)]at a;exact absurd rfl a
  ·exact⟨g,g2⟩
 have c:((k.toNat:Nat):Int)=k:=by omega
 have b:=adm ⟨k.toNat,by omega⟩;simp only[c]at b;obtain⟨d,e,f,h,i,j,l⟩:=b a;exact⟨by omega,d,e,f,h,adn i,j,l⟩
theorem Ja{x:ByteArray}(c:iu x=L):Alo x 1 0 x:=by
 unfold iu at c;obtain⟨i,d,e,b⟩:=aI c;have j:=lg d;have g:0<x.size:=ba rfl (by omega);have f:si x 0=(1,x):=by
  unfold si;rw[e,gi];unfold nG at b;cases a:oa cK x 22 0 with
  |none=>rfl
  |some k=>rw[a]at b;cases b
 have a:bB x 0=⟨L,x.size,0,1,0,x⟩:=by
  unfold bB;rw[ab d,e,f]
 exact⟨g,by rw[a],by rw[a],by rw[a],by rw[a],by rw[a],by simp[eJ];omega,fun h=>by omega⟩
theorem aaK{x:ByteArray}(b:Bk x=L):Alo x 3 0 x:=by
 unfold Bk lm at b;rw[aw]at b;obtain⟨c,d,e,j⟩:=aI b.2;have n:=dl c;have i:0<x.size:=ba rfl (by omega);have m:bc (ao x 0)=Q:=by simp[bc];omega
 have k:jn x (nA1 x (nA0 x 0))=(x.size,L):=by rw[<-d];unfold bD;rw[aa e]
 have l:=(zp x c k).1 j;have h:jp x 0=(3,0,x):=by
  unfold jp;rw[aa e,d];simp only[ng,gi];rcases l with g|g
  ·rw[ab g]
  ·by_cases f:vf x 0=L
   ·rw[ab f]
   ·rw[aa f,g]
 have a:bB x 0=⟨L,x.size,0,3,0,x⟩:=by
  unfold bB;rw[aa (by rw[m];simp),ab c,d,ab rfl,h]
 exact⟨i,by rw[a],by rw[a],by rw[a],by rw[a],by rw[a],by simp[eJ];omega,fun g=>by omega⟩
theorem aaL(y:ByteArray):Alo (co (bG y)) 4 0 y:=by
 have c:=IJ y y.size 0 ((co (bG y)).size+1) (by omega) (by rw[Ey];show _<1+_;omega);rw[Ey,List.take_zero]at c;have b:=II y;have e:0<(co (bG y)).size:=ba b (by omega);have a:bB (co (bG y)) 0=⟨L,(co (bG y)).size,0,4,0,y⟩:=by
  unfold bB;rw[b,aa (by decide),aa (by decide),ab rfl];show(if(bH (co (bG y)) ((co (bG y)).size+1) 1 []).1=L then _ else _)=_;have f:bH (co (bG y)) ((co (bG y)).size+1) 1 []=(L,(co (bG y)).size,cD y):=c;rw[f,ab rfl,Dn]
 exact⟨e,by rw[a],by rw[a],by rw[a],by rw[a],by rw[a],by rw[b];decide,fun d=>by rw[b]at d;omega⟩
def im(u:Nat):ByteArray:=⟨(O u).toArray⟩
theorem sD(u:Nat):(im u).size=Lib.nDigits u:=by
 unfold im;show(O u).toArray.size=_;rw[oC,Lib.decDigits_length]
theorem Du{u:Nat}(a:u<10):im u=⟨#[UInt8.ofNat (48+u)]⟩:=by unfold im;rw[O,jK a]
theorem Jb{u:Nat}(a:¬u<10):im u=im (u / 10)++⟨#[UInt8.ofNat (48+u%10)]⟩:=by
 unfold im;rw[O,dif_neg a];apply lF;rw[lC];apply Array.toList_inj.1;simp
theorem Fl(u:Nat)(a:u<10):ao ⟨#[UInt8.ofNat (48+u)]⟩ 0=48+(u:Int):=by
 rcases(show u=0\/u=1\/u=2\/u=3\/u=4\/u=5\/u=6\/u=7\/u=8\/u=9 by omega) with rfl|rfl|rfl|rfl|rfl|rfl|rfl|rfl|rfl|rfl;all_goals decide
theorem Fm{s t:ByteArray}{p:Nat}:∀n,(∀i,i<n->ao s (p+i)=ao t (p+i))->kH s p n=kH t p n
 |0,_=>rfl
 |n+1,a=>by rw[kH,kH,Fm n (fun i b=>a i (by omega)),a n (by omega)]
theorem vD(u:Nat):0<(im u).size/\(∀i,i<(im u).size->aL (ao (im u) i)=L)/\(u≠0->ao (im u) 0≠48)/\(u<10->(im u).size=1)/\(u<=9223372036854775807->kH (im u) 0 (im u).size=some u):=by
 induction u using Nat.strongRecOn with
 |_ u o=>
  by_cases d:u<10
  ·have c:=Du d;have e:(im u).size=1:=by rw[c];rfl
   have b:ao (im u) 0=48+(u:Int):=by rw[c];exact Fl u d
   refine⟨by omega,fun i f=>?_,fun q=>by rw[b];omega,fun _=>e,fun _=>?_⟩
   ·obtain rfl:i=0:=by omega
    rw[b];simp[aL];omega
   ·rw[e,kH,kH];simp only[fm,b];rw[show(48+(u:Int)-48).toNat=u by omega,ab (by omega)];simp
  ·have c:=Jb d;obtain⟨k,l,n,_,m⟩:=o (u / 10) (by omega);obtain⟨a,h⟩:∃a,(im (u / 10)).size=a:=⟨_,rfl⟩;have e:(im u).size=a+1:=by rw[c,ae,h];rfl
   have b:∀i,ao (im u) i=if i<a then ao (im (u / 10)) i else ao ⟨#[UInt8.ofNat (48+u%10)]⟩ (i-a):=fun i=>by rw[c,gw,h]
   have j:ao (im u) a=48+((u%10:Nat):Int):=by rw[b,aa (by omega),fC];exact Fl _ (by omega)
   rw[h]at k l m;refine⟨by omega,fun i f=>?_,fun _=>?_,fun g=>absurd g d,fun r=>?_⟩
   ·rcases be i a with g|g
    ·rw[b,ab g];exact l i g
    ·obtain rfl:i=a:=by omega
     rw[j];simp[aL];omega
   ·rw[b,ab k];exact n (by omega)
   ·rw[e,kH,Fm (t:=im (u / 10)) a (fun i f=>by rw[fm,b,ab f]),m (by omega)];simp only[fm,j];rw[show(48+((u%10:Nat):Int)-48).toNat=u%10 by omega,ab (by omega)]
    congr 1
    omega
theorem aa0(u:Nat)(t:u<=9223372036854775807):Alo (im u) 2 (u:Int) ⟨#[]⟩:=by
 obtain⟨g,d,l,m,e⟩:=vD u;have e:=e t;obtain⟨x,v⟩:∃x,im u=x:=⟨_,rfl⟩;rw[v]at g d l m e⊢;have j:=d 0 g;have C:=dl j;have s:bc (ao x 0)=Q:=by simp[bc];omega
 have n:¬(ao x 0=48/\ao x (0+1)=120):=fun b=>by
  have:=d 1 (ba b.2 (by omega));rw[show(1:Nat)=0+1 from rfl,b.2]at this;exact absurd this (by decide)
 have o:∀a,a<=x.size->ju x a=x.size:=fun a A=>by
  unfold ju;rw[ur aL x (x.size-a) (x.size+1) a (fun F B=>d _ (by omega)) (by rw[show a+(x.size-a)=x.size by omega,ci (by omega)];decide) (by omega)];omega
 have h:nA0 x 0=x.size:=by
  unfold nA0;by_cases b:ao x 0=48
  ·rw[ab b];have:u=0:=by
    rcases jk u with q|q
    ·exact q
    ·exact absurd b (l (by omega))
   rw[m (by omega)]
  ·rw[aa b];exact o _ (by omega)
 have f:ao x x.size= -1:=ci (by omega);have i:nA1 x x.size=x.size:=by unfold nA1;rw[f,aa (by simp)]
 have k:bD x 0=(x.size,L):=by
  unfold bD;rw[aa n,h,i];unfold jn;rw[f,aa (by decide)]
 have w:vf x 0=Q:=by unfold vf;rw[h,i,f];simp
 have r:jp x 0=(2,(u:Int),⟨#[]⟩):=by
  unfold jp;rw[aa n,k,w];simp only[ng];rw[aa (by simp),e]
 have c:bB x 0=⟨L,x.size,0,2,(u:Int),⟨#[]⟩⟩:=by
  unfold bB;rw[aa (by rw[s];simp),ab j,k,ab rfl,r]
 exact⟨g,by rw[c],by rw[c],by rw[c],by rw[c],by rw[c],by simp[eJ];omega,fun b=>by omega⟩
theorem ut(u:Nat):∀r,ao (xK u r) 0=48/\ao (xK u r) 1=120/\∀j,j<r->ao (xK u r) (2+j)=sx u (15-j)
 |0=>⟨rfl,rfl,fun j f=>by omega⟩
 |r+1=>by
  obtain⟨c,d,e⟩:=ut u r;have h:=lq u r;have b:∀a,ao (xK u (r+1)) a=if a<r+2 then ao (xK u r) a else ao (co [sx u (15-r)]) (a-(r+2)):=fun a=>by show ao (xK u r++_) a=_;rw[gw,h]
  refine⟨by rw[b,ab (by omega)];exact c,by rw[b,ab (by omega)];exact d,fun j f=>?_⟩;rcases be j r with g|g
  ·rw[b,ab (by omega)];exact e j g
  ·obtain rfl:j=r:=by omega
   rw[b,aa (by omega),show 2+j-(j+2)=0 by omega,og _ (fun z i=>by
    rw[List.mem_singleton.1 i];unfold sx;have:=zA ((u / 16 ^ (15-j)%16:Nat):Int) (by omega) (by omega);omega)]
   rfl
theorem ach(u j:Nat):dE (sx u j)=((u / 16 ^ j%16:Nat):Int):=qj _ (by omega) (by omega)
theorem aci(u:Nat)(a:u<16 ^ 16):∀m,m<=16->mJ (xK u 16) 2 m=u / 16 ^ (16-m)
 |0,_=>by rw[mJ];exact(Nat.div_eq_of_lt (by simpa using a)).symm
 |m+1,b=>by
  rw[mJ,aci u a m (by omega),(ut u 16).2.2 m (by omega),ach];have e:16-m=(15-m)+1:=by omega
  rw[e,show 16-(m+1)=15-m by omega,Nat.pow_succ,<-Nat.div_div_eq_div_mul];simp only[jJ];omega
theorem aa1(n:Int)(s: -9223372036854775808<=n)(t:n<0):Alo (xK (n+18446744073709551616).toNat 16) 2 n ⟨#[]⟩:=by
 obtain⟨a,o⟩:∃a,(n+18446744073709551616).toNat=a:=⟨_,rfl⟩;rw[o];obtain⟨b,f,g⟩:=ut a 16;have d:=lq a 16;have e:=aci a (by show a<18446744073709551616;omega) 16 (by omega);rw[show 16-16=0 from rfl,Nat.pow_zero,Nat.div_one]at e;obtain⟨x,q⟩:∃x,xK a 16=x:=⟨_,rfl⟩;rw[q]at b f g d e⊢;have l:xa x 2=18:=by
  unfold xa;rw[ur gz x 16 (x.size+1) 2 (fun r m=>by rw[g r m];unfold gz;rw[ach];exact cG (by omega)) (by rw[ci (by omega)];decide) (by omega)]
 have i:ao x 0=48/\ao x (0+1)=120:=⟨b,f⟩;have h:bD x 0=(x.size,L):=by
  unfold bD;rw[ab i];unfold ie;rw[fm,l,aa (by omega),d];rfl
 have j:jp x 0=(2,n,⟨#[]⟩):=by
  unfold jp;rw[ab i,h];simp only[fm];rw[d,show 16+2-2=16 by rfl,e];have:wrap64 (a:Int)=n:=by unfold wrap64;omega
  rw[this]
 have c:bB x 0=⟨L,x.size,0,2,n,⟨#[]⟩⟩:=by
  unfold bB;rw[b,aa (by decide),ab (by decide),h,ab rfl,j]
 exact⟨by omega,by rw[c],by rw[c],by rw[c],by rw[c],by rw[c],by rw[b];decide,fun k=>by rw[b]at k;omega⟩
theorem aa2(n:Int)(b: -9223372036854775808<=n)(c:n<=9223372036854775807):Alo (lr n) 2 n ⟨#[]⟩:=by
 unfold lr;split
 ·rename_i a;exact aa1 n b a
 ·rename_i a;have:=aa0 n.toNat (by omega);rw[show((n.toNat:Nat):Int)=n by omega]at this;exact this
theorem aa3(s:ByteArray)(p:Nat): -9223372036854775808<=(jp s p).2.1/\(jp s p).2.1<=9223372036854775807:=by
 unfold jp;split
 ·unfold wrap64;simp only;omega
 ·split
  ·rename_i b a;split at a
   ·cases a
   ·have:=Dd s p _ b a;simp only;omega
  ·simp
theorem aa4{s:ByteArray}{q:Nat}(l:q<s.size)(c:(bB s q).ok=L)(a:(fh (bB s q).k (bB s q).n (bB s q).x).size≠0):Alo (fh (bB s q).k (bB s q).n (bB s q).x) (bB s q).k (bB s q).n (bB s q).x:=by
 have g:iH.size=0:=rfl;revert c a;unfold bB;split
 ·intro _ a;unfold si at a⊢;simp only at a⊢;cases e:oa cK (s.extract q (jy s (s.size+1) q)) 22 0 with
  |some k=>
   rw[e]at a;simp only at a⊢;have d:fh (10+(k:Int)) 0 ⟨#[]⟩=dh (10+(k:Int)):=by unfold fh;rw[aa (by omega),aa (by omega),aa (by omega),aa (by omega)]
   rw[d]at a⊢;exact Fk a
  |none=>
   rw[e]at a;simp only at a⊢;generalize s.extract q (jy s (s.size+1) q)=x at a⊢;unfold fh at a⊢;rw[ab rfl]at a⊢;split at a
   ·rename_i b;rw[ab b];exact Ja b
   ·exact absurd g a
 split
 ·split
  ·intro _ a;simp only at a⊢;have f:=aa3 s q;have h:((jp s q).1=2/\(jp s q).2.2=⟨#[]⟩)\/((jp s q).1=3/\(jp s q).2.1=0):=by
    unfold jp;split
    ·exact .inl ⟨rfl,rfl⟩
    ·split
     ·exact .inl ⟨rfl,rfl⟩
     ·exact .inr ⟨rfl,rfl⟩
   generalize jp s q=j at a f h⊢;obtain⟨k,n,x⟩:=j;simp only at a f h⊢;rcases h with⟨rfl,rfl⟩|⟨rfl,rfl⟩
   ·have d:fh 2 n ⟨#[]⟩=lr n:=by unfold fh;rw[aa (by decide),ab rfl]
    rw[d];exact aa2 n f.1 f.2
   ·unfold fh at a⊢;rw[aa (by decide),aa (by decide),ab rfl]at a⊢;split at a
    ·rename_i b;rw[ab b];exact aaK b
    ·exact absurd g a
  ·intro c;cases c
 split
 ·split
  ·intro _ a;simp only at a⊢;generalize co (bH s (s.size+1) (q+1) []).2.2=x at a⊢;unfold fh IA at a⊢;rw[aa (by decide),aa (by decide),aa (by decide),ab rfl]at a⊢;split at a
   ·exact absurd g a
   ·rename_i b;rw[aa b];exact aaL x
  ·intro c;cases c
 ·split
  ·intro c;cases c
  ·rename_i b;intro _ a;simp only at a⊢;have i:=(un (s.extract q s.size) (by rw[gk s q s.size (ag _)];omega) b).1;generalize jz (s.extract q s.size)=k at b i a⊢;have d:(dh k).size≠0/\fh k 0 ByteArray.empty=dh k:=by
    refine⟨by omega,?_⟩;have:k≠1/\k≠2/\k≠3/\k≠4:=by refine⟨?_,?_,?_,?_⟩<;>(rintro rfl;exact absurd i (by decide))
    unfold fh;rw[aa this.1,aa this.2.1,aa this.2.2.1,aa this.2.2.2]
   rw[d.2];exact Fk d.1
def Dv(t:Tk):ByteArray:=fh t.k t.n t.x
def xj:ByteArray:=⟨#[32]⟩
def fK:List Tk->ByteArray
 |[]=>⟨#[]⟩
 |t::l=>(Dv t++xj)++fK l
theorem Fn(a:ByteArray):a++(⟨#[]⟩:ByteArray)=a:=by apply lF;rw[lC];simp
theorem Fp(a:ByteArray):(⟨#[]⟩:ByteArray)++a=a:=by apply lF;rw[lC];simp
theorem vE:∀(a b:List Tk),fK (a++b)=fK a++fK b
 |[],b=>(Fp _).symm
 |t::a,b=>by rw[gn,fK,fK,vE a b];simp only[aB]
theorem Jc(a:List Tk)(t:Tk):fK (a++[t])=fK a++(Dv t++xj):=by rw[vE,fK,fK,Fn]
def TkA(t:Tk):Prop:=Alo (Dv t) t.k t.n t.x
def GC(t:Tk):Int×Int×ByteArray:=(t.k,t.n,t.x)
theorem afs(a w c:ByteArray):Ag (a++((w++xj)++c)) a.size w:=by
 have e:(w++xj).size=w.size+1:=by rw[ae];rfl
 refine⟨fun b d=>?_,?_⟩
 ·rw[gw,aa (by omega),show a.size+b-a.size=b by omega,gw,ab (by omega),gw,ab d]
 ·rw[gw,aa (by omega),show a.size+w.size-a.size=w.size by omega,gw,ab (by omega),gw,aa (by omega),fC];rfl
theorem Fq:∀(l:List Tk)(a T:ByteArray)(c:Nat)(h:Int),(∀t∈l,TkA t)->T=a++fK l->l.length<c->∃i,qu T c a.size h=(L,0,i)/\i.map GC=l.map GC
 |[],a,T,c,h,_,e,m=>by
  obtain⟨c,rfl⟩:∃f,c=f+1:=⟨c-1,by simp at m;omega⟩;have v:T=a:=by rw[e,fK,Fn]
  refine⟨[],?_,rfl⟩;rw[qu,zy T a.size (by rw[v];exact ag _),ab (by rw[v];exact ag _)]
 |t::l,a,T,c,h,s,e,m=>by
  obtain⟨c,rfl⟩:∃f,c=f+1:=⟨c-1,by omega⟩;have H:=s t dt;obtain⟨b,w⟩:∃b,Dv t=b:=⟨_,rfl⟩;have g:Alo b t.k t.n t.x:=by rw[<-w];exact H
  have r:T=a++((b++xj)++fK l):=by rw[e,fK,w]
  have f:Ag T a.size b:=by rw[r];exact afs a b _
  have I:=f.lt;have j:=f.at_ 0 g.pos;rw[gK]at j;have B:blk T (T.size+1) a.size=a.size:=by
   refine uq T a.size (by rw[j,g.bl];simp) (fun q=>?_);rw[j]at q;have G:=g.da q.1;have u:=f.bl;rw[G,q.2]at u;exact absurd u (by decide)
  have C:=f.rd g.pos g.ok g.en;have A:T=(a++(b++xj))++fK l:=by rw[r];simp only[aB]
  have o:(a++(b++xj)).size=a.size+b.size+1:=by rw[ae,ae];rfl
  obtain⟨i,J,K⟩:=Fq l (a++(b++xj)) T c (h+(bB b 0).d) (fun z o=>s z (dJ _ o)) A (by simp at m;omega);have F:qu T c (a.size+b.size) (h+(bB b 0).d)=qu T c (a++(b++xj)).size (h+(bB b 0).d):=by
   rw[o];exact uo T _ _ (xL T _ I (by rw[f.bl];decide)) c _
  refine⟨⟨t.k,(a.size:Nat),((a.size+b.size:Nat):Int),h,t.n,t.x⟩::i,?_,?_⟩
  ·rw[qu,B,aa (by omega),C];simp only[gJ];rw[F,J,g.ki,g.nu,g.tx]
  ·rw[fo,fo,K];rfl
theorem zG(s:ByteArray):∀(f p:Nat)(l:Int),p<=s.size->∀t∈(qu s f p l).2.2,∃q,q<s.size/\(bB s q).ok=L/\t.k=(bB s q).k/\t.n=(bB s q).n/\t.x=(bB s q).x
 |0,p,l,_,t,ht=>by simp[qu]at ht
 |f+1,p,l,b,t,ht=>by
  have e:=gC s (s.size+1) p b;rw[qu]at ht;split at ht
  ·cases ht
  ·rename_i d;split at ht
   ·rename_i a;have c:=gb s _ (by omega) a;rcases List.mem_cons.1 ht with rfl|ht
    ·exact⟨_,by omega,a,rfl,rfl,rfl⟩
    ·exact zG s f _ _ c.2.1 t ht
   ·cases ht
theorem aa5{s:ByteArray}{b p:Nat}{l:Int}(g:p<=s.size){t:Tk}(i:t∈(qu s b p l).2.2)(a:(Dv t).size≠0):TkA t:=by
 obtain⟨j,h,f,c,d,e⟩:=zG s b p l g t i;unfold TkA;unfold Dv at a⊢;rw[c,d,e]at a⊢;exact aa4 h f a
def uw(c:Int):Nat:=if(32<=c/\c<=126)\/c=9\/c=10 then 2 else 4
def uS(s:ByteArray)(a:Nat):Nat->Nat
 |0=>0
 |n+1=>uS s a n+uw (ao s (a+n))
theorem aft(c:Int):2<=uw c:=by unfold uw;split<;>omega
theorem acj(s:ByteArray)(a:Nat):∀n,2*n<=uS s a n
 |0=>ag _
 |n+1=>by have:=acj s a n;have:=aft (ao s (a+n));rw[uS];omega
theorem Dw(s:ByteArray)(a m:Nat):∀n,uS s a (m+n)=uS s a m+uS s (a+m) n
 |0=>rfl
 |n+1=>by rw[<-fp,uS,Dw s a m n,uS,fp a m n];omega
def uR(s:ByteArray)(a b:Nat):Nat:=uS s a (b-a)
theorem BE(s:ByteArray)(a b:Nat):2*(b-a)<=uR s a b:=acj s a _
theorem jC(s:ByteArray){a b c:Nat}(d:a<=b)(e:b<=c):uR s a c=uR s a b+uR s b c:=by
 unfold uR;rw[show c-a=(b-a)+(c-b) by omega,Dw,show a+(b-a)=b by omega]
theorem zH(s:ByteArray)(a:Nat):uR s a (a+1)=uw (ao s a):=by unfold uR;rw[show a+1-a=0+1 by omega,uS,uS];simp
theorem ado(c:Int)(a:c≠10):(esc c).length<=uw c+2/\(c≠34->c≠92->(esc c).length<=uw c):=by
 unfold esc uw;rw[aa a]
 repeat' split
 all_goals simp
 all_goals omega
theorem afu(c:Int):(esc c).length<=4:=by
 unfold esc
 repeat' split
 all_goals simp
def sE(l:List Int):Nat:=(l.map fun a=>(esc a).length).sum
theorem BF(a b:List Int):sE (a++b)=sE a+sE b:=by unfold sE;simp
theorem Dx(s:ByteArray):∀(f p:Nat)(c:List Int),(bH s f p c).1=L->p<=s.size->p<(bH s f p c).2.1/\sE (bH s f p c).2.2+2<=sE c+uR s p (bH s f p c).2.1
 |0,p,c,a,_=>by rw[bH]at a;cases a
 |f+1,p,c,a,w=>by
  rw[bH]at a⊢;by_cases n:s.size<=p
  ·rw[ab n]at a;cases a
  rw[aa n]at a⊢;by_cases e:ao s p=34
  ·rw[ab e];simp only;rw[zH,e];exact⟨by omega,by show _+2<=_+2;omega⟩
  rw[aa e]at a⊢;by_cases h:ao s p=10
  ·rw[ab h]at a;cases a
  rw[aa h]at a⊢;by_cases i:ao s p=92
  ·rw[ab i]at a⊢;by_cases b:(ed s (p+1)).2.2=L
   ·rw[ab b]at a⊢;have r:=qK s (p+1) (by omega);have d:=qL s (p+1) (by omega) b;obtain⟨t,j⟩:=Dx s f _ _ a r.2.1;refine⟨by omega,?_⟩;rw[jC s (show p<=(ed s (p+1)).2.1 by omega) (by omega)];rw[BF]at j;have A:=BE s p (ed s (p+1)).2.1;have v:sE [(ed s (p+1)).1]<=2*((ed s (p+1)).2.1-p):=by
     unfold sE;simp only[fo,List.map_nil,List.sum_cons,List.sum_nil,gK];unfold ed at b d⊢;by_cases k:ao s (p+1)=110
     ·rw[ab k];show 2<=_;simp only;omega
     rw[aa k]at b d⊢;by_cases l:ao s (p+1)=116
     ·rw[ab l];show 2<=_;simp only;omega
     rw[aa l]at b d⊢;by_cases g:ao s (p+1)=34\/ao s (p+1)=92
     ·rw[ab g];have:(esc (ao s (p+1))).length=2:=by unfold esc;rw[aa (by omega),aa (by omega),ab g];rfl
      simp only;omega
     rw[aa g]at b d⊢;by_cases m:ao s (p+1)=120
     ·rw[ab m]at b d⊢;have:=afu (hexI s (p+1+1)).1;have:(hexI s (p+1+1)).2.1=p+1+1+1+1:=by
       unfold hexI at b⊢;by_cases o:dE (ao s (p+1+1))<0
       ·rw[ab o]at b;cases b
       rw[aa o]at b⊢;by_cases q:dE (ao s (p+1+1+1))<0
       ·rw[ab q]at b;cases b
       rw[aa q]
      omega
     ·rw[aa m]at b;cases b
    omega
   ·rw[aa b]at a;cases a
  rw[aa i]at a⊢;obtain⟨t,j⟩:=Dx s f _ _ a (by omega);refine⟨by omega,?_⟩;rw[jC s (show p<=p+1 by omega) (by omega),zH];rw[BF]at j;have:=(ado (ao s p) h).2 e i;have u:sE [ao s p]=(esc (ao s p)).length:=by unfold sE;simp
  omega
def uT(x:ByteArray):Nat:=uR x 0 x.size
theorem Ft{s t:ByteArray}{a b:Nat}:∀n,(∀i,i<n->ao s (a+i)=ao t (b+i))->uS s a n=uS t b n
 |0,_=>rfl
 |n+1,c=>by rw[uS,uS,Ft n (fun i d=>c i (by omega)),c n (by omega)]
theorem ft(a b:ByteArray):uT (a++b)=uT a+uT b:=by
 unfold uT;rw[jC (a++b) (aG a.size) (by rw[ae];omega)];unfold uR;rw[ae]
 congr 1
 ·exact Ft _ (fun d c=>by rw[gw,ab (by omega)])
 ·rw[show a.size+b.size-a.size=b.size-0 by omega];exact Ft _ (fun d c=>by rw[gw,aa (by omega)];congr 1;omega)
theorem sF(s:ByteArray){a q:Nat}(d:a<=q)(b:q<=s.size):uT (s.extract a q)=uR s a q:=by
 unfold uT uR;rw[gk s a q b,ng];exact Ft _ (fun c e=>by rw[fm,gv s a q c b (by omega)])
theorem Jd(s:ByteArray):uT s<=4*s.size:=by
 unfold uT uR;rw[ng];have:∀a,uS s 0 a<=4*a:=by
  intro a
  induction a with
  |zero=>exact ag _
  |succ a b=>rw[uS];have:uw (ao s (0+a))<=4:=by {unfold uw;split<;>omega};omega
 exact this _
theorem tB(s:ByteArray):2*s.size<=uT s:=by have:=BE s 0 s.size;unfold uT;omega
def Fr(s:Nat)(v:R):Prop:=∀a,v.ownBlock=some a->s<=a
def Ac(s:Nat)(b c:List Mb)(d:Fo):Prop:=∃a,c=b++a/\a.map Mb.N=d.flat b.length/\∀x∈a,Fr s x.vn/\Fr s x.vk
theorem Ac.nil(s:Nat)(a:List Mb):Ac s a a .nil:=⟨[],(fL a).symm,rfl,fun x b=>by cases b⟩
theorem Ac.len{s:Nat}{b c:List Mb}{d:Fo}(e:Ac s b c d):c.length=b.length+d.sz:=by
 obtain⟨f,rfl,a,_⟩:=e;have a:=congrArg List.length a;rw[du,Fo.flat_len]at a;rw[aH,a]
theorem Ac.le{s t:Nat}{c d:List Mb}{e:Fo}(j:Ac s c d e)(g:t<=s):Ac t c d e:=by
 obtain⟨i,k,l,f⟩:=j;exact⟨i,k,l,fun x h=>⟨fun a b=>bA g ((f x h).1 a b),fun a b=>bA g ((f x h).2 a b)⟩⟩
theorem Ac.app{s:Nat}{a b c:List Mb}{x y:Fo}(d:Ac s a b x)(k:Ac s b c y):Ac s a c (x.app y):=by
 have l:=d.len;obtain⟨e,rfl,g,i⟩:=d;obtain⟨f,rfl,h,j⟩:=k;refine⟨e++f,by rw[dG],by rw[eL,g,h,Fo.flat_app,l],fun z hz=>?_⟩;rcases List.mem_append.1 hz with hz|hz
 ·exact i z hz
 ·exact j z hz
theorem Ac.add{s:Nat}{a c:List Mb}{b:Fo}(i:Ac s a c b)(N:Nd){vn vk:R}(h:Fr s vn)(g:Fr s vk):Ac s a (c++[⟨{N with ks:=b.tops a.length},vn,vk⟩]) (gB N b):=by
 obtain⟨d,rfl,e,f⟩:=i;refine⟨d++[⟨{N with ks:=b.tops a.length},vn,vk⟩],by rw[dG],by rw[eL,e];rfl,fun z hz=>?_⟩;rcases List.mem_append.1 hz with hz|hz
 ·exact f z hz
 ·obtain rfl:=List.mem_singleton.1 hz;exact⟨h,g⟩
theorem Fr.nil(s n c:Nat):Fr s (.slice none n c):=fun b a=>by simp[Value.ownBlock]at a
theorem Fr.new{s b n c:Nat}(d:s<=b):Fr s (.slice (some ⟨b,0,none⟩) n c):=fun a e=>by
 obtain rfl:b=a:=by simpa [Value.ownBlock] using e
 exact d
theorem Fr.le{s t:Nat}{v:R}(b:Fr s v)(d:t<=s):Fr t v:=fun a c=>bA d (b a c)
def Sv(v:R)(b:List Mb):Prop:=∀x∈b,∀a,v.ownBlock=some a->x.vk.ownBlock≠some a
theorem Sv.next{v:R}{s:Nat}{c d:List Mb}{f:Fo}(i:Sv v c)(a:Ac s c d f)(j:∀b,v.ownBlock=some b->b<s):Sv v d:=by
 obtain⟨k,rfl,_,h⟩:=a;intro x hx b e;rcases List.mem_append.1 hx with hx|hx
 ·exact i x hx b e
 ·intro g;have:=(h x hx).2 b g;have:=j b e;omega
structure Cu (E:Bs) (W:World) (y:Int):Prop where
 lo:E.base<=E.cb/\E.base<=W.heap.size
 hl:E.len<=1048576
 code:Code E.base W E.a0 E.len
 cur:∃p q r,dv E.cb W E.a0 E.len E.cap p q r/\0<=p/\p<=y/\0<=r/\r<=3/\(E.g:Int)<=r
section
variable {E : Bs} {W W' : World} {y z : Int}
theorem Cu.wide(a:Cu E W y)(h:y<=z):Cu E W z:=by
 obtain⟨p,e,f,b,c,g,d⟩:=a.cur;exact⟨a.lo,a.hl,a.code,p,e,f,b,c,by omega,d⟩
theorem Cu.below(a:Cu E W y){c:Nat}(b:Below c W W')(f:E.cb<c):Cu E W' y:=by
 obtain⟨p,g,h,d,e⟩:=a.cur;exact⟨⟨a.lo.1,bA a.lo.2 b.size⟩,a.hl,a.code.below (b.mono (by have:=a.lo.1;omega)),p,g,h,d.below b f,e⟩
theorem Cu.lt(a:Cu E W y):E.cb<W.heap.size:=by
 obtain⟨p,c,d,b,_⟩:=a.cur;exact b.lt
theorem fv(a:Cu E W y)(k:Int)(j:2<=k)(l:k<=200)(s:y<=900000000):
  Calls Tryz.prog 9 #[cV E,.int .i64 k] W fun e b=>∃z:Int,e= .returned (.int .i64 z)/\(0<=z/\z<k)/\Cu E b (y+1)/\Kb W b/\Below E.base W b:=by
 obtain⟨p,o,g,d,n,t,m⟩:=a.cur;refine(uy k j l E.cb E.base W E.a0 E.len E.cap p o g d a.code n (by omega) a.hl).mono ?_;rintro e b ⟨z,z0,r,i,q,h,f⟩;have c:=jr f a.lo.1 a.lo.2;exact⟨z,i,⟨z0,r⟩,⟨⟨a.lo.1,bA a.lo.2 c.size⟩,a.hl,a.code.below c,p+1,q,g,h,by omega,by omega,m⟩,Kb.grown f d (.inr (.inr rfl)),c⟩
end
