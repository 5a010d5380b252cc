import Derived.Test.YthkcmkmkapijkaaGreatDoorh11
import Derived.Test.YthkcmkmkapijkaaGreatDoorh19
import Derived.Lib.AppendZerosOnto
import Derived.Test.YthkcmkmkapijkaaGreatDoorh37
import Derived.Test.YthkcmkmkapijkaaGreatDoorh13
import Derived.Test.YthkcmkmkapijkaaGreatDoorh28
import Derived.Test.YthkcmkmkapijkaaGreatDoorh33
set_option linter.all false
set_option maxRecDepth 100000
set_option maxHeartbeats 12800000
open Bool renaming true->Q,false->A0
open List renaming length->V,set->Br
open Go.Value renaming iface->Y,bool->B4,string->B5
open Go.Lib renaming hasPrefix->Ax,decDigits->B2
open Option renaming some->A1
open Go.AllReadyH renaming cons->A2,nil->A3
open Go renaming wpAnyH_ready->A5,Value->B1,TypeId->B3,Calls->B6
open ByteArray renaming empty->A9
open Go.Obj renaming cells->B0
namespace Go.Proofs.YthkcmkmkapijkaaGreatDoor
open Go.RowKit Go.Maps Go.WideMaps
variable{M:List (Value×zLB)}{T:Bxs}{W w:World}{a b i m:Nat}{k:Int}{vs:zLV}
def Eb:zLI:=[-1,32,9,13,10,41,93,125,44,59]
structure Ag (T:Bz) (p:Nat) (x:Bz):Prop where
 at_:∀i,i<x.size->aq T (p+i)=aq x i
 le:p+x.size<=T.size
 bl:aq T (p+x.size)∈Eb
section
variable {T x : Bz} {p : Nat}
theorem amK(a q i):aq (a.extract q a.size) i=aq a (q+i):=by
 obtain g|g:=cG (q+i) a.size
 .simp_all [gq,fG]
 .rw[dH (i:=q+i),dH (by simp_all [lA,fG];omega)]
def Ag.q(h:Ag T p x)(q:Int->Bool)(a:∀c∈Eb,q c=A0)(b:q (-1)=A0)(d:i<=x.size):q (aq T<|p+i)=q (aq x i):=by
 obtain g|g:=cG i x.size
 .rw[h.at_ i g]
 .obtain rfl:i=x.size:=O;rw[a _ h.bl,dH,b]
theorem Ag.eq(h:Ag T p x){c}(d:c ∉ Eb)(g:c≠ -1)(e:i<=x.size):aq T (p+i)=c↔aq x i=c:=by
 have:=h.q (λa=>decide (a=c)) (λa f=>bq λb=>d<|b ▸ f) U e;grind
theorem amL{a b}(f:a.size=b.size)(h:∀i,i<a.size->aq a i=aq b i):a=b:=by
 apply nK;refine Array.ext f (λi d e=>?_);have c:=h i d;unfold aq at c;rw[pc (show i<a.size from d),pc (show i<b.size from e)]at c;exact UInt8.toNat_inj.1<|Int.ofNat_inj.1 c
def Ag.ext(h:Ag T p x)(c:b<=x.size):T.extract (p+a) (p+b)=x.extract a b:=by
 have g:=h.le;have e:=lA T (p+a) (p+b) O;have f:=lA x a b c;refine amL O (λd _=>?_);rw[gq T _ _ d O,gq x a b d c,gF,h.at_ _ O]
theorem C4(q s):∀n f p,(∀i,i<n->q (aq s<|p+i)=Q)->q (aq s<|p+n)=A0->n<f->jp q s f p=p+n
 |n,0,p,_,_,h=>O|0,f+1,p,a,b,_=>by simp_all [jp,aa]|n+1,f+1,p,a,b,h=>by
  rw[jp,ae (by have:=a 0 O;omega)];rw[C4 q s n f _ (λi _=>U) U O];omega
theorem Ag.run(h:Ag T p x)(q)(g:∀c∈Eb,q c=A0)(d:q (-1)=A0)(j:a<=x.size):jp q T (T.size+1) (p+a)=p+jp q x (x.size+1) a:=by
 have e:=ru q d x (x.size+1) a j;have i:=xL q x (x.size+1) a;have f:=acd q d x (x.size+1) a O;have l:=h.le;obtain⟨b,k⟩:∃b,jp q x (x.size+1) a=b:=⟨_,R⟩;rw[k]at e i f⊢;rw[C4 q T (b-a) _ _ (λ_ _=>by rw[gF,h.q q g d O];grind) (by rw[gF,(O:a+(b-a)=b),h.q q g d e.2];exact f) O];omega
theorem Gk(s):∀f p,pJ s f p=jp (λc=>bi c||co c) s f p
 |0,p=>rfl|f+1,p=>by
  rw[pJ,jp,Gk];grind
def Ag.nm(h:Ag T p x)(b:a<=x.size):pJ T (T.size+1) (p+a)=p+pJ x (x.size+1) a:=by
 rw[Gk,Gk];exact h.run _ Z Z b
def Ag.dig(h:Ag T p x)(b:a<=x.size):wh T (p+a)=p+wh x a:=h.run co Z Z b
def Ag.hx(h:Ag T p x)(b:a<=x.size):hxE T (p+a)=p+hxE x a:=h.run qH Z Z b
theorem Ag.a0(h:Ag T p x)(b:a<x.size):nA0 T (p+a)=p+nA0 x a:=by
 unfold nA0;have e:=h.eq (c:=48) Z Z<|gL b;by_cases d:aq x a=48
 .grind
 .rw[aa O,aa d,gF,h.dig O]
theorem Ag.a1(h:Ag T p x)(g:a<=x.size):nA1 T (p+a)=p+nA1 x a:=by
 unfold nA1;have f:=h.eq (c:=46) Z Z g;by_cases b:aq x a=46
 .have d:a+1<=x.size:=bp b;have e:=h.q co Z Z d;rw[<-gF]at e;by_cases i:co (aq x<|a+1)=Q
  .rw[ae ⟨f.2 b,U⟩,ae ⟨b,i⟩,gF,h.dig d]
  grind
 grind
theorem Ag.ex(h:Ag T p x)(j:a<=x.size):qF T (p+a)=(p+(qF x a).1,(qF x a).2):=by
 unfold qF;have f:=h.eq (c:=101) Z Z j;by_cases b:aq x a=101
 .have e:a+1<=x.size:=bp b;have g:=h.eq (c:=43) Z Z e;have i:=h.eq (c:=45) Z Z e;rw[<-gF]at g i;have d:xr T (p+a)=p+xr x a/\xr x a<=x.size:=by
   grind [xr,aq,bp]
  rw[ae<|f.2 b,ae b,d.1,h.dig d.2];simp
 grind
def Ag.x2(h:Ag T p x)(b:a<x.size):(aq T (p+a)=48/\aq T (p+a+1)=120)↔(aq x a=48/\aq x (a+1)=120):=by
 rw[h.eq Z Z O,gF,h.eq Z Z O]
theorem Ag.num(h:Ag T p x)(c:a<x.size):eB T (p+a)=(p+(eB x a).1,(eB x a).2):=by
 unfold eB;by_cases b:aq x a=48/\aq x (a+1)=120
 .rw[ae b,ae<|(h.x2 c).2 b];unfold pF;have:=bp b.2;have d:=h.hx (O:a+2<=x.size);rw[<-gF]at d;rw[d];grind
 .rw[aa b,aa (λf=>b<|(h.x2 c).1 f),h.a0 c];have d:=Ha x a c;have e:=Hb x _ d.2;rw[h.a1 d.2,h.ex e.2]
theorem Ag.kd(h:Ag T p x)(d:a<x.size):Ju T (p+a)=Ju x a:=by
 unfold Ju;have b:=Ha x a d;have e:=Hb x _ b.2;rw[h.a0 d,h.a1 b.2];have f:=h.eq (c:=46) Z Z b.2;have g:=h.eq (c:=101) Z Z e.2;apply agr.2;rw[f,g];by_cases i:aq x (nA0 x a)=46
 .have j:=h.q co Z Z (show nA0 x a+1<=x.size from bp i);grind
 omega
def Ag.dc(h:Ag T p x)(a):∀n,a+n<=x.size->ux T (p+a) n=ux x a n|0,_=>rfl|n+1,b=>by rw[ux,ux,h.dc a n O,gF,h.at_ _ O]
def Ag.hv(h:Ag T p x)(a):∀n,a+n<=x.size->wj T (p+a) n=wj x a n|0,_=>rfl|n+1,b=>by rw[wj,wj,h.hv a n O,gF,h.at_ _ O]
def Ag.nu(h:Ag T p x)(c:a<x.size):xm T (p+a)=xm x a:=by
 unfold xm;have e:=wo x a c;rw[h.num c,h.kd c];obtain⟨b,f⟩:∃b,(eB x a).1=b:=⟨_,R⟩;simp[f]at e⊢;by_cases d:aq x a=48/\aq x (a+1)=120
 .rw[ae d,ae<|(h.x2 c).2 d,(O:p+b-(p+a+2)=b-(a+2)),gF];obtain g|g:=cG (a+2) b
  .rw[h.hv _ _ O]
  .rw[(O:b-(a+2)=0)];rfl
 .rw[aa d,aa (λg=>d<|(h.x2 c).1 g),(O:p+b-(p+a)=b-a),h.dc a _ O,h.ext e.2]
def ahs{s}(h:¬ix (aq s i)<0):i<s.size:=by
 obtain g|g:=cG i s.size
 .exact g
 .rw[dH]at h;exact absurd Z h
theorem Ag.hexI(h:Ag T p x)(d:(hexI x a).2.2=Q):hexI T (p+a)=((hexI x a).1,p+(hexI x a).2.1,Q):=by
 unfold Go.Proofs.YthkcmkmkapijkaaGreatDoor.hexI at d⊢;by_cases b:ix (aq x a)<0
 .grind
 rw[aa b]at d;by_cases c:ix (aq x<|a+1)<0
 .grind
 rw[h.at_ a<|ahs b,aa b,gF,h.at_ _<|ahs c,aa c,aa b,aa c];rfl
theorem Ag.esc(h:Ag T p x)(b:(jt x a).2.2=Q):jt T (p+a)=((jt x a).1,p+(jt x a).2.1,Q):=by
 have i:a<x.size:=by
  obtain g|g:=cG a x.size
  .exact g
  .unfold jt at b;rw[dH]at b;grind
 unfold jt at b⊢;rw[h.at_ a i];by_cases c:aq x a=110
 .grind
 rw[aa c]at b;rw[aa c,aa c];by_cases d:aq x a=116
 .grind
 rw[aa d]at b;rw[aa d,aa d];by_cases e:aq x a=34\/aq x a=92
 .grind
 rw[aa e]at b;rw[aa e,aa e];by_cases f:aq x a=120
 .rw[ae f]at b;rw[ae f,ae f,gF,h.hexI b]
 grind
theorem Ag.str(h:Ag T p x):∀(f g a)(c),f<=g->(gy x f a c).1=Q->gy T g (p+a) c=(Q,p+(gy x f a c).2.1,(gy x f a c).2.2)
 |0,g,a,c,_,b=>by rw[gy]at b;cases b
 |f+1,0,a,c,l,b=>O|f+1,g+1,a,c,l,b=>by
  have m:=h.le;rw[gy]at b⊢;rw[gy];by_cases k:x.size<=a
  .grind
  rw[aa k]at b;rw[aa k,aa O,h.at_ a O];by_cases e:aq x a=34
  .grind
  rw[aa e]at b;rw[aa e,aa e];by_cases i:aq x a=10
  .grind
  rw[aa i]at b;rw[aa i,aa i];by_cases d:aq x a=92
  .rw[ae d]at b;rw[ae d,ae d];by_cases j:(jt x<|a+1).2.2=Q
   .rw[ae j]at b;rw[ae j,gF,h.esc j,ae rfl];exact h.str f g _ _ O b
   grind
  rw[aa d]at b;rw[aa d,aa d,gF];exact h.str f g _ _ O b
end
theorem C5(r a):Ax r.data.toList a.data.toList=Q↔∀i,i<a.size->aq r i=aq a i:=by
 unfold Ax;rw[BF,List.prefix_iff_getElem?];constructor
 .intro c i e;have b:a.data.toList[i]?=A1 (a.data.toList[i]'(byS)):=bm _;rw[((jj _ _ _).1 b).2,((jj _ _ _).1<|c i _).2]
 .intro c i e;have f:i<a.size:=byS;have b:a.data.toList[i]?=A1 a.data.toList[i]:=bm _;have d:=((jj _ _ _).1 b).2;refine(jj _ _ _).2 ⟨?_,U⟩;rw[<-c i f]at d;exact bp d
def nbS(a:zAV)(N:Nat):Prop:=∀k:Fin N,∀i:Fin 4,0<i.val->i.val<(bB a k.val).size->aq (bB a k.val) i.val ∉ Eb
def auF:nbS jH 11:=by unfold nbS;decide+kernel
def auG:nbS oh 18:=by unfold nbS;decide+kernel
section
variable {T x : Bz} {p : Nat}
theorem Ag.pre(h:Ag T p x)(k:a<x.size){c}(m:c.size<=3)(j:∀i:Fin 4,0<i.val->i.val<c.size->aq c i.val ∉ Eb):Ax (T.extract (p+a) T.size).data.toList c.data.toList=Ax (x.extract a x.size).data.toList c.data.toList:=by
 have l:=h.le;rw[Cc,C5,C5];have d:∀i,a+i<=x.size->aq (T.extract (p+a) T.size) i=aq T (p+(a+i)):=λi b=>by rw[amK,gF]
 have f:∀i,a+i<x.size->aq (x.extract a x.size) i=aq x (a+i):=λi b=>gq x a _ i O b;constructor
 .intro e i b;obtain q|q:=cG (a+i) x.size
  .rw[f i q,<-h.at_ _ q,<-d i O];grind
  .have:=e (x.size-a) O;rw[d _ O,(O:a+(x.size-a)=x.size)]at this;exact absurd (this ▸ h.bl)<|j ⟨_,O⟩ U U
 .intro e i b;have g:a+i<x.size:=by
   have:=bp (e i b) (ll b).1;rw[lA x a _ O]at this;omega
  rw[d i O,h.at_ _ g,<-f i g];grind
def vv(b c r r' N)(d:∀k,k<N->Ax r.data.toList (bB b k).data.toList=Ax r'.data.toList (bB b k).data.toList):∀(f i)(a),i+f<=N->A4 b c r f i a=A4 b c r' f i a|0,i,a,_=>rfl|f+1,i,a,h=>by rw[A4,A4,d i O,vv b c r r' N d f _ _ O]
def Ag.sk(h:Ag T p x)(d:a<x.size):qA (T.extract (p+a) T.size)=qA (x.extract a x.size):=by
 have f:=h.le;have e:aq (T.extract (p+a) T.size) 0=aq (x.extract a x.size) 0:=by rw[gq T _ _ 0 O,gq x a _ 0 O,jy,jy,h.at_ _ d]
 unfold qA;rw[e,vv jH _ _ _ _ (λc b=>h.pre d (osz ⟨c,b⟩)<|auF ⟨c,b⟩) _ 0 _ O,
  vv oh _ _ _ _ (λc b=>h.pre d (bsz ⟨c,b⟩)<|auG ⟨c,b⟩) _ 0 _ O]
theorem Ag.rdA(h:Ag T p x)(c:a<x.size)(b:(rdI x a).ok=Q):rdI T (p+a)=⟨Q,p+(rdI x a).a,(rdI x a).d,(rdI x a).k,(rdI x a).n,(rdI x a).x⟩:=by
 have i:=h.at_ a c;have l:=h.le;unfold rdI at b⊢;rw[i];by_cases f:bi (aq x a)=Q
 .simp only[ae f];have e:=h.nm<|gL c;have g:Hj T (p+a)=Hj x a:=by unfold Hj;rw[e,h.ext (xH x _ a O).2]
  grind
 simp[aa f]at b⊢;by_cases g:co (aq x a)=Q
 .simp[ae g]at b⊢;by_cases e:(eB x a).2=Q
  .rw[h.num c,h.nu c];grind
  grind
 simp[aa g]at b⊢;by_cases e:aq x a=34
 .simp[ae e]at b⊢;by_cases j:(gy x (x.size+1) (a+1) []).1=Q
  .rw[gF,h.str _ _ _ _ O j];grind
  grind
 simp[aa e,h.sk c]at b⊢;grind
theorem Ag.rd(h:Ag T p x)(b:0<x.size)(c:(rdI x 0).ok=Q)(e:(rdI x 0).a=x.size):rdI T p=⟨Q,p+x.size,(rdI x 0).d,(rdI x 0).k,(rdI x 0).n,(rdI x 0).x⟩:=by
 have:=h.rdA b c;grind
end
theorem Ii(l:zLI):∀r:Bz,(l.foldl (λr n=>r.push<|UInt8.ofNat n.toNat) r).data.toList=r.data.toList++l.map (λn=>UInt8.ofNat n.toNat):=by
 induction l with
 |nil=>grind|cons a l b=>simp_all
def Kv(l):(dK l).data.toList=l.map (λn=>UInt8.ofNat n.toNat):=by
 simp[dK,Ii]
theorem ajB(s i):aq s i=((s.data.toList[i]?).map (λb=>(b.toNat:Int))).getD (-1):=by
 unfold aq;by_cases a:i<s.size
 .rw[pc a,bm byS];rfl
 simp_all
theorem C6(l)(h:∀x∈l,0<=x/\x<256)(i):aq (dK l) i=(l[i]?).getD (-1):=by
 rw[ajB,Kv,cJ,Option.map_map];by_cases a:i<V l
 .rw[bm a];have:=h _<|pd a;simp only[BL,li,Function.comp];grind [UInt8.toNat_ofNat']
 grind
def qK(s:Bz):zLI:=s.data.toList.map λb=>(b.toNat:Int)
def afo(s):dK (qK s)=s:=by
 apply nK;apply Array.toList_inj.1;simp[Kv,qK,List.map_congr_left]
theorem Ij(s):V (qK s)=s.size:=by simp[qK]
theorem adq(s k h):(qK s).take (k+1)=(qK s).take k++[(s[k].toNat:Int)]:=by
 have a:k<V (qK s):=by grind [Ij]
 rw[List.take_succ_eq_append_getElem a]
 congr 2
 simp[qK];rfl
theorem aaA(d)(a:0<=d)(b:d<16:=by omega):32<=ny d/\ny d<=126:=by grind [ny]
theorem auH(c)(d:0<=c)(e:c<256):∀x∈esc c,32<=x/\x<=126:=by
 unfold esc;split
 .simp
 split
 .simp
 split
 .grind
 split
 .have a:=aaA (c / 16) O;have b:=aaA (c%16) O;grind
 grind
def aaB(s:Bz)(k:Nat)(h):0<=(s[k].toNat:Int)/\(s[k].toNat:Int)<256:=by have:=s[k].toNat_lt;omega
def asG(s):∀k,k<=s.size->∀x∈qt s k,32<=x/\x<=126
 |0,_=>by simp[qt]|k+1,h=>by
  intro x hx;rw[vL s k O,dg]at hx;obtain hx|hx:=hx
  .exact asG s k O x hx
  .exact auH _ O (aaB s k _).2 x hx
theorem Ik(s):∀x∈eJ s,32<=x/\x<=126:=by
 intro x hx;rw[eJ,dg]at hx;obtain hx|hx:=hx
 .exact asG s _ O x hx
 grind
theorem Il(s)(k:Nat:=by omega):∀n,k+n<=s.size->∃a,qt s (k+n)=qt s k++a
 |0,_=>⟨[],I⟩|n+1,h=>by
  have⟨a,_⟩:=Il s k n O;grind [esc,Int,vL,List.append_assoc]
theorem am0(s k h):∃a,eJ s=qt s k++(esc (s[k].toNat:Int)++a):=by
 have⟨a,b⟩:=Il s (k+1) (s.size-(k+1)) O;rw[(O:k+1+(s.size-(k+1))=s.size),vL s k h]at b
 simp_all [eJ]
theorem ajC(s k j h)(c:j<V (esc (s[k].toNat:Int))):aq (dK<|eJ s) (V (qt s k)+j)=(esc (s[k].toNat:Int))[j]:=by
 rw[C6 _ (λb a=>by have:=Ik s b a;omega)];grind [am0]
theorem ajD(s):aq (dK<|eJ s) (V<|qt s s.size)=34:=by
 rw[C6 _ (λb a=>by have:=Ik s b a;omega)];grind [eJ]
def adr(s):aq (dK<|eJ s) 0=34:=by
 rw[C6 _ (λb a=>by have:=Ik s b a;omega)];rfl
theorem ajE(s):V (eJ s)=V (qt s s.size)+1:=by grind [eJ]
def ajF:∀d:Fin 16,ix (ny (d.val:Int))=(d.val:Int):=Z
theorem Bf(d)(a:0<=d)(b:d<16):ix (ny d)=d:=by
 have:=ajF ⟨d.toNat,O⟩;grind
theorem am1(s):∀n k f,k+n=s.size->(dK<|eJ s).size<V (qt s k)+f->
  gy (dK<|eJ s) f (V<|qt s k) ((qK s).take k)=(Q,(dK<|eJ s).size,qK s):=by
 have ad:(dK<|eJ s).size=V (qt s s.size)+1:=by rw[zr,ajE]
 intro n
 induction n with
 |zero=>
  intro k f u q;obtain rfl:k=s.size:=O;obtain⟨f,rfl⟩:∃l,f=l+1:=⟨f-1,O⟩
  simp_all [gy,Bw,ajD,ci,Ij]
 |succ n x=>
  intro k f u q;have j:k<s.size:=O;have H:=aaB s k j;have L:=vL s k j;have b:=λy t=>ajC s k y j t;have v:V (qt s<|k+1)<=V (qt s s.size):=by
   have⟨_,_⟩:=Il s (k+1) n O;grind
  have g:=λp r=>x (k+1) p O r;rw[adq s k j]at g;generalize (s[k].toNat:Int)=a at *;have w:V (qt s<|k+1)=V (qt s k)+V (esc a):=U;generalize K:dK (eJ s)=c at *;generalize G:V (qt s k)=P at *;generalize F:(qK s).take k=z at *;obtain⟨f,rfl⟩:∃l,f=l+1:=⟨f-1,O⟩;rw[w]at g v;rw[gy,Bw];by_cases m:a=10
  .subst m;have d:aq c P=92:=b 0 Z;have h:=b 1 Z;have e:jt c (P+1)=(10,P+1+1,Q):=by unfold jt;rw[h];rfl
   rw[d,Bw,Bw,ae R,e,ae rfl];exact g f U
  by_cases o:a=9
  .subst o;have d:aq c P=92:=b 0 Z;have h:=b 1 Z;have e:jt c (P+1)=(9,P+1+1,Q):=by unfold jt;rw[h];rfl
   rw[d,Bw,Bw,ae R,e,ae rfl];exact g f U
  by_cases C:a=34\/a=92
  .have i:esc a=[92,a]:=by grind [esc]
   rw[i]at b g;have d:aq c P=92:=b 0 I;have h:aq c (P+1)=a:=b 1 I;have e:jt c (P+1)=(a,P+1+1,Q):=by grind [jt]
   rw[d,Bw,Bw,ae R,e,ae rfl];grind
  by_cases E:a<32\/126<a
  .have i:esc a=[92,120,ny<|a / 16,ny<|a%16]:=by grind [esc]
   rw[i]at b g;have d:aq c P=92:=b 0 I;have h:aq c (P+1)=120:=b 1 I;have A:aq c (P+1+1)=ny (a / 16):=b 2 I;have B:aq c (P+1+1+1)=ny (a%16):=b 3 I;have ak:=Bf (a / 16) O O;have al:=Bf (a%16) O O;have af:hexI c (P+1+1)=(a,P+1+1+1+1,Q):=by
    grind [hexI]
   have e:jt c (P+1)=(a,P+1+1+1+1,Q):=by grind [jt]
   rw[d,Bw,Bw,ae R,e,ae rfl];grind
  .have i:esc a=[a]:=by grind [esc]
   rw[i]at b g;have d:aq c P=a:=b 0 I;grind
def alB(c:Int):Bool:=bi c||co c
theorem C7(a b i):aq (a++b) i=ite (i<a.size) (aq a i) (aq b<|i-a.size):=by
 have d:(a++b).data.toList=a.data.toList++b.data.toList:=byS;have f:V a.data.toList=a.size:=oG;rw[AG,d];split<;>rename_i e
 all_goals
  by_cases c:i<a.size
  .rw[ae c,AG];grind
  .rw[aa c,AG];grind
def opn(k:Int):Bool:=decide (k=46\/k=47\/k=40\/k=44\/k=10\/k=25\/60<k)
structure Alo (x:Bz) (k n:Int) (y:Bz):Prop where
 pos:0<x.size
 ok:(rdI x 0).ok=Q
 en:(rdI x 0).a=x.size
 ki:(rdI x 0).k=k
 nu:(rdI x 0).n=n
 tx:(rdI x 0).x=y
 bl:jD (aq x 0)=A0
 da:aq x 0=45->x.size=1
def auI:∀k:Fin 79,(di (k.val:Int)).size≠0->(rdI (di (k.val:Int)) 0).ok=Q/\(rdI (di (k.val:Int)) 0).a=(di (k.val:Int)).size/\(rdI (di (k.val:Int)) 0).k=(k.val:Int)/\(rdI (di (k.val:Int)) 0).n=0/\(rdI (di (k.val:Int)) 0).x.size=0/\jD (aq (di (k.val:Int)) 0)=A0/\(aq (di (k.val:Int)) 0=45->(di (k.val:Int)).size=1):=by decide+kernel
theorem auJ{x:Bz}(h:x.size=0):x=zE0:=by
 apply nK
 simp_all
theorem aht(h:k<0\/78<k):di k=LA:=by
 grind [di]
def aqK(h:(di k).size≠0):Alo (di k) k 0 zE0:=by
 have m:0<=k/\k<=78:=by
  obtain g|g:=Int.lt_or_le k 0
  .rw[aht<|.inl g]at h;exact absurd R h
  obtain g2|g2:=Int.lt_or_le 78 k
  .rw[aht<|.inr g2]at h;exact absurd R h
  omega
 have b:((k.toNat:Nat):Int)=k:=O;have a:=auI ⟨k.toNat,O⟩;simp only[b]at a;have⟨c,d,e,f,i,j,l⟩:=a h;exact⟨O,c,d,e,f,auJ i,j,l⟩
theorem am2{x}(h:lL x=Q):Alo x 1 0 x:=by
 unfold lL at h;have⟨_,c,_,_⟩:=aL h;have e:=pK c;have b:0<x.size:=bp R;have d:Hj x 0=(1,x):=by
  grind [Hj,tC,xq]
 have a:rdI x 0=⟨Q,x.size,0,1,0,x⟩:=by
  grind [rdI]
 exact⟨b,by rw[a],by rw[a],by rw[a],by rw[a],by rw[a],by grind [jD],λ_=>O⟩
theorem aqL{x}(h:fok x=Q):Alo x 3 0 x:=by
 unfold fok sj at h;rw[dF]at h;have⟨b,d,e,f⟩:=aL h.2;have l:=lC b;have c:0<x.size:=bp R;have k:bi (aq x 0)=A0:=by grind [bi]
 have g:qF x (nA1 x<|nA0 x 0)=(x.size,Q):=by grind [eB]
 have j:=(aaf x b g).1 f;have i:xm x 0=(3,0,x):=by
  unfold xm;rw[aa e,d];simp[tC];grind
 have a:rdI x 0=⟨Q,x.size,0,3,0,x⟩:=by
  grind [rdI]
 exact⟨c,by rw[a],by rw[a],by rw[a],by rw[a],by rw[a],by grind [jD],λ_=>O⟩
def aq0(a):Alo (dK<|eJ a) 4 0 a:=by
 have d:=am1 a a.size 0 ((dK<|eJ a).size+1) O O;rw[apl,vK]at d;have c:=adr a;have e:0<(dK<|eJ a).size:=bp c;have b:rdI (dK<|eJ a) 0=⟨Q,(dK<|eJ a).size,0,4,0,a⟩:=by
  unfold rdI;rw[c,aa Z,aa Z,ae rfl];show(if(gy (dK<|eJ a) ((dK<|eJ a).size+1) 1 []).1=Q then _ else _)=_;have f:gy (dK<|eJ a) ((dK<|eJ a).size+1) 1 []=(Q,(dK<|eJ a).size,qK a):=d;rw[f,ae R,afo]
 exact⟨e,by rw[b],by rw[b],by rw[b],by rw[b],by rw[b],by rw[c];decide,λ_=>O⟩
def tj(u:Nat):Bz:=⟨(B2 u).toArray⟩
def afp{u}(h:u<10):tj u=⟨#[UInt8.ofNat<|48+u]⟩:=by unfold tj;rw[B2,pc h]
def am3{u}(h:¬u<10):tj u=tj (u / 10)++⟨#[UInt8.ofNat<|48+u%10]⟩:=by
 unfold tj;rw[B2,dif_neg h];rfl
theorem ahu(u)(h:u<10):aq ⟨#[UInt8.ofNat<|48+u]⟩ 0=48+(u:Int):=by
 iterate 10 (obtain _|u:=u;· decide)
 omega
def ahv{s t p}:∀n,(∀i,i<n->aq s (p+i)=aq t (p+i))->ux s p n=ux t p n|0,_=>rfl|n+1,h=>by rw[ux,ux,ahv n (λi _=>h i O),h n O]
theorem Io(u):0<(tj u).size/\(∀i,i<(tj u).size->co (aq (tj u) i)=Q)/\(u≠0->aq (tj u) 0≠48)/\(u<10->(tj u).size=1)/\(u<=9223372036854775807->ux (tj u) 0 (tj u).size=A1 u):=by
 induction u using Nat.strongRecOn with
 |_ u m=>
  by_cases c:u<10
  .have b:=afp c;have f:(tj u).size=1:=by rw[b];rfl
   have e:aq (tj u) 0=48+(u:Int):=by grind [ahu]
   simp_all [co,ux];omega
  .have b:=am3 c;have⟨k,l,_,_,h⟩:=m (u / 10) O;obtain⟨a,d⟩:∃a,(tj<|u / 10).size=a:=⟨_,R⟩;have f:(tj u).size=a+1:=by rw[b,az,d];rfl
   have e:∀i,aq (tj u) i=ite (i<a) (aq (tj<|u / 10) i) (aq ⟨#[UInt8.ofNat<|48+u%10]⟩<|i-a):=λi=>by rw[b,C7,d]
   have n:aq (tj u) a=48+((u%10:Nat):Int):=by rw[e,aa O,iI];grind [ahu]
   rw[d]at k l h;refine⟨O,λi j=>?_,λ_=>?_,λg=>absurd g c,λ_=>?_⟩
   .rcases cG i a with g|g
    .grind
    .obtain rfl:i=a:=O;grind [co]
   .grind
   .rw[f,ux,ahv (t:=tj<|u / 10) a (λi j=>U),h O];grind
theorem aq1(u)(k:u<=9223372036854775807):Alo (tj u) 2 (u:Int) zE0:=by
 have⟨f,d,i,j,g⟩:=Io u;have g:=g k;obtain⟨a,l⟩:∃a,tj u=a:=⟨_,R⟩;rw[l]at f d i j g⊢;have h:=d 0 f;have t:=lC h;have s:bi (aq a 0)=A0:=by grind [bi]
 have v:¬(aq a 0=48/\aq a (0+1)=120):=λe=>by
  have:=d 1<|bp e.2;rw[show(1:Nat)=0+1 from rfl,e.2]at this;exact absurd this Z
 have p:∀b,b<=a.size->wh a b=a.size:=λb _=>by
  unfold wh;rw[C4 co a (a.size-b) _ b (λ_ _=>d _ O) (by rw[(O:b+(a.size-b)=a.size),dH];decide) O];omega
 have m:nA0 a 0=a.size:=by
  grind [nA0]
 have o:aq a a.size= -1:=dH;have n:nA1 a a.size=a.size:=by grind [nA1]
 have q:eB a 0=(a.size,Q):=by
  simp_all [eB,aa,qF]
 have w:Ju a 0=A0:=by grind [Ju]
 have r:xm a 0=(2,(u:Int),zE0):=by
  grind [xm]
 have c:rdI a 0=⟨Q,a.size,0,2,(u:Int),zE0⟩:=by
  grind [rdI]
 exact⟨f,by rw[c],by rw[c],by rw[c],by rw[c],by rw[c],by grind [jD],λe=>O⟩
theorem Gl(u):∀r,aq (wC u r) 0=48/\aq (wC u r) 1=120/\∀j,j<r->aq (wC u r) (2+j)=EF u (15-j)
 |0=>⟨R,R,λj c=>O⟩|r+1=>by
  have⟨_,_,_⟩:=Gl u r;have e:=yk u r;have b:∀a,aq (wC u<|r+1) a=ite (a<r+2) (aq (wC u r) a) (aq (dK [EF u<|15-r])<|a-(r+2)):=λa=>by grind [aq,wC,C7]
  refine⟨U,U,λj c=>?_⟩;obtain g|g:=cG j r
  .grind
  .obtain rfl:j=r:=O;rw[b,aa O,(O:2+j-(j+2)=0),C6 _ (λ_ d=>by
    rw[ic.1 d];unfold EF;have:=aaA ((u / 16 ^ (15-j)%16:Nat)) O O;omega)]
   rfl
theorem asH(u j):ix (EF u j)=((u / 16 ^ j%16:Nat):Int):=Bf _ O O
def asI(u)(a:u<16 ^ 16):∀m,m<=16->wj (wC u 16) 2 m=u / 16 ^ (16-m)
 |0,_=>by rw[wj];omega|m+1,h=>by
  rw[wj,asI u a m O,(Gl u _).2.2 m O,asH];have e:16-m=(15-m)+1:=O;rw[e,(O:16-(m+1)=15-m),Nat.pow_succ,<-Nat.div_div_eq_div_mul];omega
theorem aq2(n)(m: -9223372036854775808<=n)(o:n<0):Alo (wC (n+18446744073709551616).toNat 16) 2 n zE0:=by
 obtain⟨b,k⟩:∃b,(n+18446744073709551616).toNat=b:=⟨_,R⟩;rw[k];have⟨d,e,g⟩:=Gl b 16;have j:=yk b 16;have f:=asI b O 16 O;rw[show 16-16=0 from rfl,Nat.pow_zero,Nat.div_one]at f;obtain⟨a,l⟩:∃a,wC b 16=a:=⟨_,R⟩;rw[l]at d e g j f⊢;have p:hxE a 2=18:=by
  unfold hxE;rw[C4 qH a 16 _ 2 (λ_ _=>by grind [qH,asH]) (by rw[dH];decide) O]
 have q:aq a 0=48/\aq a (0+1)=120:=⟨d,e⟩;have h:eB a 0=(a.size,Q):=by
  simp_all [eB,ae,pF]
 have i:xm a 0=(2,n,zE0):=by
  simp_all [xm,ae,qp,wrap64,Int];omega
 have c:rdI a 0=⟨Q,a.size,0,2,n,zE0⟩:=by
  unfold rdI;rw[d,aa Z,ae Z,h,ae R,i]
 exact⟨O,by rw[c],by rw[c],by rw[c],by rw[c],by rw[c],by rw[d];decide,λ_=>O⟩
theorem aq3(n)(b: -9223372036854775808<=n)(c:n<=9223372036854775807):Alo (Aa n) 2 n zE0:=by
 unfold Aa;split
 .grind [aq2]
 .rename_i a;have:=aq1 n.toNat O;rw[(O:((n.toNat:Nat):Int)=n)]at this;exact this
theorem aaC(b c r):∀(f i)(a),(A4 b c r f i a).1=a.1\/(c+i<=(A4 b c r f i a).1/\(A4 b c r f i a).1<c+i+f)
 |0,i,a=> .inl R|f+1,i,a=>by
  rw[A4];obtain h|h:=aaC b c r f (i+1)<|ite (a.2<(bB b i).size/\Ax r.data.toList (bB b i).data.toList=Q) (c+i,(bB b i).size) a;all_goals grind
def am4(r)(h:0<r.size)(j:qA r≠0):(qA r=5\/qA r=7\/(40<=qA r/\qA r<=78))/\∀i,i<(di<|qA r).size->aq r i=aq (di<|qA r) i:=by
 by_cases d:aq r 0=59
 .have a:qA r=5:=by unfold qA;omega
  rw[a];exact⟨.inl R,λi b=>by
   have:i<1:=b;obtain rfl:i=0:=O;rw[d];decide⟩
 by_cases e:aq r 0=10
 .have a:qA r=7:=by unfold qA;omega
  rw[a];exact⟨O,λi b=>by
   have:i<1:=b;obtain rfl:i=0:=O;rw[e];decide⟩
 have a:qA r=(A4 oh 61 r 18 0<|A4 jH 40 r 11 0 (0,0)).1:=by unfold qA;omega
 have k:=aaC jH 40 r 11 0 (0,0);have f:=aaC oh 61 r 18 0<|A4 jH 40 r 11 0 (0,0);have g:=CF jH _ r _ O ag9 11 0 (0,0) O<|.inl O;have c:=CF oh _ r _ O aha 18 0 _ O g;rw[<-a]at f c;refine⟨.inr<|.inr ?_,?_⟩
 .omega
 .rcases c with⟨b,_⟩|⟨_,_,b,_⟩
  .omega
  .exact(C5 r _).1 b
def Stn(a:Bz)(p:Nat)(x:Bz):Prop:=p+x.size<=a.size/\∀i,i<x.size->aq a (p+i)=aq x i
section
variable {T x y w : Bz} {p : Nat} {k n : Int}
theorem Stn.app(h:Stn T p (x++y)):Stn T p x/\Stn T (p+x.size) y:=by
 obtain⟨d,a⟩:=h;rw[az]at d a;refine⟨⟨O,λc b=>?_⟩,O,λc b=>?_⟩
 .rw[a c O,C7,ae b]
 simp_all [gF,C7,aa]
theorem Stn.ext(h:Stn T p x):T.extract p (p+x.size)=x:=by
 have c:=h.1;apply nK;apply Array.toList_inj.1;apply List.ext_getElem?;intro a;obtain g|g:=cG a x.size
 .have b:x.data.toList[a]?=A1 (x.data.toList[a]'(byS)):=bm _;rw[b];refine(jj _ _ _).2 ⟨byS,?_⟩;rw[gq T p _ a O,h.2 a g];grind [jj]
 simp_all [BC,oG];omega
def nxS(k c:Int):Bool:=ite (k=40\/k=41\/k=42\/k=43\/k=44\/k=45\/k=46\/k=50) Q<|ite (k=62) Q<|ite (k=69) (decide (c≠61))<|ite (k=48) (decide (c≠46))<|decide (c∈Eb)
def Du(w:Bz)(k c:Int):Bool:=ite (bi (aq w 0)=Q) (!(alB c))<|ite (co (aq w 0)=Q\/aq w 0=34) (decide (c∈Eb))<|nxS k c&&decide (aq w 0≠45\/c≠45)
def am5(a:zAV)(N:Nat):Prop:=∀k:Fin 79,∀y:Fin N,40<=k.val->(di (k.val:Int)).size≠0->(di (k.val:Int)).size<(bB a y.val).size->(∀i:Fin 3,i.val<(di (k.val:Int)).size->aq (bB a y.val) i.val=aq (di (k.val:Int)) i.val)->nxS (k.val:Int) (aq (bB a y.val) (di (k.val:Int)).size)=A0
def axJ:am5 jH 11:=by unfold am5;decide+kernel
def axK:am5 oh 18:=by unfold am5;decide+kernel
theorem am6(c:Stn T p x)(s:0<x.size)(t:∀i,i<x.size->aq x i=aq (di k) i)(y:(di k).size=x.size)(u:40<=k/\k<=78)(w:nxS k (aq T<|p+x.size)=Q){a N j}(m:am5 a N)(n:j<N)(o:(bB a j).size<=3):
  Ax (T.extract p T.size).data.toList (bB a j).data.toList=Ax x.data.toList (bB a j).data.toList:=by
 obtain⟨_,c⟩:=c;obtain⟨d,l⟩:∃d,bB a j=d:=⟨_,R⟩;have h:=m ⟨k.toNat,O⟩ ⟨j,n⟩;simp only[(O:((k.toNat:Nat):Int)=k)]at h;rw[l]at h o⊢;have z:=lA T p _ eE;rw[Cc,C5,C5];have r:∀i,i<x.size->aq (T.extract p T.size) i=aq x i:=λi b=>by rw[gq T p _ i O,c i b]
 constructor
 .intro e i b;obtain q|q:=cG x.size d.size
  .exfalso;have f:=e _ q;have g:=ll q;have v:x.size<(T.extract p T.size).size:=bp f g.1;rw[gq T p _ _ O]at f;grind
  grind
 .intro e i b;have g:=ll b;grind [bp]
theorem axL(v:Alo w k n y)(d:Stn T p w)(af:k≠7)(ad:k≠5)(c:Du w k (aq T<|p+w.size)=Q):
  (rdI T p).ok=Q/\(rdI T p).a=p+w.size/\(rdI T p).k=k/\(rdI T p).n=n/\(rdI T p).x=y/\blk T (T.size+1) p=p:=by
 have C:aq T p=aq w 0:=by have:=d.2 0 v.pos;omega
 obtain⟨j,o,b,e,l,m,_,_⟩:=v;have H:¬(aq T p=45/\aq T (p+1)=45)->blk T (T.size+1) p=p:=aao T p U;unfold Du at c;by_cases g:bi (aq w 0)=Q
 .have t:=pK g;rw[ae g]at c;have i:pJ T (T.size+1) p=p+w.size:=by
   unfold rdI at b;rw[ae g]at b;simp at b;rw[Gk]at b⊢;have r:=xL (λh=>bi h||co h) w (w.size+1) 0;rw[b]at r;have s:=d.1;exact C4 _ T _ _ p (λf A=>by rw[d.2 f A];grind) (by grind [alB]) O
  have h:Hj T p=Hj w 0:=by
   unfold rdI at b;rw[ae g]at b;simp at b;unfold Hj;rw[i,d.ext,b,tC]
  grind [rdI]
 rw[aa g]at c;by_cases h:co (aq w 0)=Q\/aq w 0=34
 .rw[ae h]at c;have r:Ag T p w:=⟨d.2,d.1,aL c⟩;have i:=r.rd j o b;refine⟨by rw[i],by rw[i],U,U,U,H ?_⟩;obtain q|q:=h
  .have:=lC q;omega
  .omega
 rw[aa h]at c;have⟨h,G⟩:=not_or.1 h;have⟨c,u⟩:=Bool.and_eq_true_iff.1 c;have u:=aL u;have K:w.extract 0 w.size=w:=tC w;unfold rdI at o b e l m;rw[aa g,aa h,aa G,K]at o b e l m;by_cases t:qA w=0
 .grind
 rw[aa t]at b e l m;simp only at b e l m;rw[e]at b;rw[qp]at b;have⟨F,s⟩:=am4 w j t;rw[e]at F s;have B:40<=k/\k<=78:=O;have z:∀f,f<w.size->aq w f=aq (di k) f:=λf A=>s f O;have E:aq (T.extract p T.size) 0=aq w 0:=by have:=d.1;rw[gq T p _ 0 O,jy,C]
 have L:qA (T.extract p T.size)=k:=by
  rw[<-e];unfold qA;rw[E,vv jH _ _ w _ (λr i=>am6 d j z b B c axJ i<|osz ⟨r,i⟩) _ 0 _ O,
   vv oh _ _ w _ (λr i=>am6 d j z b B c axK i<|bsz ⟨r,i⟩) _ 0 _ O]
 grind [rdI]
theorem asJ{c}(h:aq T p=c)(d:c=10\/c=59):(rdI T p).ok=Q/\(rdI T p).a=p+1/\(rdI T p).k=(ite (c=10) 7 5)/\blk T (T.size+1) p=p:=by
 have i:p<T.size:=bp h;have g:bi c=A0/\co c=A0/\jD c=A0:=by obtain rfl|rfl:=d<;>decide
 have f:aq (T.extract p T.size) 0=c:=by simp_all [gq,fG,jy]
 have e:qA (T.extract p T.size)=ite (c=10) 7 5:=by grind [qA]
 have b:blk T (T.size+1) p=p:=aao T p U O;unfold rdI;rw[h,aa U,aa U,aa O,e];obtain rfl|rfl:=d
 .exact⟨R,R,R,b⟩
 .exact⟨R,R,R,b⟩
end
inductive Skp (T:Bz) (o:Bool):Nat->Nat->Prop where|nil {p:Nat}:Skp T o p p|bl {p q:Nat}:jD (aq T p)=true->Skp T o (p+1) q->Skp T o p q|rem {p q:Nat}:aq T p=45->aq T (p+1)=45->Skp T o (nlE T p) q->Skp T o p q|nl {p q:Nat}:o=true->aq T p=10->Skp T o (p+1) q->Skp T o p q
inductive Rz (T:Bz):Nat->zLW->Nat->Prop where|nil {p:Nat}:Rz T p [] p|bl {p q:Nat}{l:zLW}:jD (aq T p)=true->Rz T (p+1) l q->Rz T p l q|rem {p q:Nat}{l:zLW}:aq T p=45->aq T (p+1)=45->Rz T (nlE T p) l q->Rz T p l q|tok {p r q:Nat}{t:Wt}{l:zLW}:t.k≠7->t.k≠5->Alo t.w t.k t.n t.x->Stn T p t.w->Du t.w t.k (aq T<|p+t.w.size)=true->Skp T (opn t.k) (p+t.w.size) r->Rz T r l q->Rz T p (t::l) q|sep {p q:Nat}{l:zLW}{c:Int}:aq T p=c->c=10\/c=59->Rz T (p+1) l q->Rz T p (nlW::l) q
theorem Rz.app{d p q r l m}(h:Rz d p l q)(g:Rz d q m r):Rz d p (l++m) r:=by
 induction h with
 |nil=>exact g|bl a c b=>exact .bl a<|b g|rem a c e b=>exact .rem a c<|b g|tok a c e f i j k b=>grind [tok]|sep a c e b=>exact .sep a c<|b g
def jr(f:Int->Bool)(x:Bz)(l:zLW):Prop:=∀T p,Stn T p x->f (aq T<|p+x.size)=Q->Rz T p l (p+x.size)
def sL(c:Int):Bool:=Q
def pm(c:Int):Bool:=decide (c∈Eb)
def Fv(c:Int):Bool:=!(alB c)
section
variable {f g : Int → Bool} {x y : Bz} {l m : zLW}
theorem jr.app(h:jr f x l)(e:jr g y m)(j:0<y.size:=by decide)(n:f (aq y 0)=Q:=by decide):jr g (x++y) (l++m):=λa k i c=>by
 have⟨d,b⟩:=i.app;rw[az,<-gF]at c⊢;exact(h a k d (by have:=b.2 0 j;grind)).app<|e a _ b c
def jr.mono(h:jr f x l)(d:∀c,g c=Q->f c=Q):jr g x l:=λa i e b=>h a i e<|d _ b
def jr.tt(h:jr sL x l):jr g x l:=h.mono λ_ _=>rfl
def jr.as{k}(h:jr f x l)(e:l=k:=by simp):jr f x k:=e ▸ h
def afq:jr f A9 []:=λ_ _ _ _=> .nil
def C8:jr sL ⟨#[32]⟩ []:=λ_ _ a _=> .bl (by have:=a.2 0 Z;rw[jy]at this;rw[this];decide) .nil
def ahw:jr sL ⟨#[10]⟩ [nlW]:=λ_ _ a _=> .sep (c:=10) (by have:=a.2 0 Z;rw[jy]at this;rw[this];rfl) (.inl R) .nil
def am7:∀t,jr sL (gB t) []
 |0=>afq|t+1=>by
  have a:jr sL ⟨#[9]⟩ []:=λ_ _ b _=> .bl (by have:=b.2 0 Z;rw[jy]at this;rw[this];decide) .nil;exact(am7 t).app a
def ahx(t):jr sL (gA t) [nlW]:=by
 cases t with
 |zero=>
  intro c e b a;have d:gA 0=⟨#[10]⟩:=Z;rw[d]at b a⊢;exact ahw c e b a|succ t=>exact ahw.app (am7 _) (by simp[rF]) R
def Ip{t}(b:t.k≠7)(a:t.k≠5)(c:Alo t.w t.k t.n t.x):jr (Du t.w t.k) t.w [t]:=λ_ _ e d=> .tok b a c e d .nil .nil
theorem qw(h:lL x=Q):jr Fv x [nmW x]:=(Ip (t:=nmW x) (by simp[nmW]) (by simp[nmW])<|am2 h).mono λa b=>by
 have:bi (aq x 0)=Q:=by grind [lL]
 show Du x 1 a=Q;unfold Du;rw[ae this];exact b
def am8(c:k≠7)(b:k≠5)(a:(di k).size≠0):jr (Du (di k) k) (di k) [sgF k]:=Ip (t:=sgF k) c b<|aqK a
def itT:zLI->Bz|[]=>A9|k::r=>(ite (k=0) ⟨#[32]⟩<|di k)++itT r
def itL:zLI->zLW|[]=>[]|k::r=>ite (k=0) (itL r) (sgF k::itL r)
def itF:zLI->Int->Bool|[]=>sL|[k]=>ite (k=0) sL<|Du (di k) k|_::r=>itF r
def itC:zLI->Bool|[]=>Q|k::r=>(k==0||(k !=7&&k !=5&&(di k).size !=0&&(r==[]||((itT r).size !=0&&Du (di k) k (aq (itT r) 0)))))&&itC r
theorem am9:∀r,itC r=Q->jr (itF r) (itT r) (itL r)
 |[],_=>afq|[k],h=>by
  simp only[itC,Bool.and_true]at h;unfold itF itT itL itT itL;by_cases e:k=0
  .rw[ae e,ae e,ae e];intro T p c a;have b:(⟨#[32]⟩:Bz)++A9=⟨#[32]⟩:=Z;rw[b]at c a⊢;exact C8 T p c a
  .rw[aa e,aa e,aa e];simp[e]at h;have b:di k++A9=di k:=byS
   simp_all [am8]|k::b::r,h=>by
  have f:=am9 (b::r);simp only[itC]at h f;rw[dF]at h;have d:=f h.2;show jr (itF (b::r)) ((ite (k=0) ⟨#[32]⟩<|di k)++itT (b::r)) (ite (k=0) (itL (b::r)) (sgF k::itL (b::r)));by_cases e:k=0
  .rw[ae e,ae e];intro T p c a;have⟨g,i⟩:=c.app;rw[az,<-gF]at a⊢;exact(C8 T p g R).app<|d T _ i a
  .rw[aa e,aa e];have a:=h.1;simp[e]at a;exact(am8 a.1.1.1 a.1.1.2 (λ_=>a.1.2 U)).app d U a.2.2
theorem lit(r)(h:x=itT r:=by decide+kernel)(a:itC r=Q:=by decide+kernel):jr (itF r) x (itL r):=by grind [am9]
end
def yA(z:B1)(n)(h:z.cells.size=1):(Builtin.zeroCells z.cells n).size=n:=by unfold Builtin.zeroCells;simp[h]
theorem anb(n:Nat)(t:1<=n)(u:n<=1000000)(w):B6 Tryz.prog 359 #[fe,zI (n:Int)] w λe m=>
  ∃c,e= .returned (bI w.heap.size 0 c)/\uk w.heap.size m (bI w.heap.size 0 c) []/\Below w.heap.size w m:=by
 obtain⟨r,o,q,_,_⟩:=dw yi;have d:=λs=>
  Lib.run_append_grow_zeros w 34 3 s 9 r _ .i64 _ Tryz.underlying34 Tryz.underlying3 o q none 0 0 _ (run_firstCells_none _ _ _ _ _) n O O O O U (growslice_fits O U)
 have j:0+n<=grownCap w (0+n) 0 9:=grownCap_ge w _ _ _;have f:=grownCap_le_maxLen w (0+n) 0 9 byM;obtain⟨a,i⟩:∃a,a=grownCap w (0+n) 0 9:=⟨_,R⟩;rw[<-i]at d j f;obtain⟨b,g⟩:∃b,([].toArray++Builtin.zeroCells nh.cells n++Builtin.zeroCells nh.cells (a-(0+n)))=b:=⟨_,R⟩;have p:b.size=a:=by rw[<-g];rw[Array.size_append,Array.size_append,yA _ _ R,yA _ _ rfl];grind
 rw[g]at d;have k:Below w.heap.size w (w.drew.alloc<|B0 b 9):=(eC<|ay _ w).alloc eE _;have l:uk w.heap.size (w.drew.alloc<|B0 b 9) (bI w.heap.size 0 a) []:=by
  refine⟨R,.inr ⟨_,a,b,R,O,au _ _,leZ,f,O,I⟩⟩
 have h:Hid (uk w.heap.size (w.drew.alloc<|B0 b 9) (bI w.heap.size 0 a) []/\Below w.heap.size w (w.drew.alloc<|B0 b 9)):=⟨l,k⟩;rw[(O:0+n=n)]at d j;clear l k g i p f;go_enter Tryz.func359,Tryz.ntmps359;go_wp2_with (at_builtin;apply Lib.wpList_append_run _ R _ _ _ _ R _ _ R R _ _<|d _);all_goals (go_ret;exact⟨a,R,h.out.1,h.out.2⟩)
inductive Enp (E:Pe) (i:Nat):Fo->Nat->Prop|item {x:Fo}{j:Nat}:(E.tk i).k≠48->(E.tk i).k≠44->CX E 0 i x j->1<=j->j<=E.n->Enp E i (one (lF 40 (E.tk i) (E.tk<|j-1).t) x) j|named {x:Fo}{j:Nat}:Hid ((E.tk i).k=48)->(E.tk<|i+1).k=1->(E.tk<|i+2).k=47->i+2<E.n->CX E 0 (i+3) x j->1<=j->j<=E.n->Enp E i (one (nd 42 (E.tk i) (E.tk<|j-1).t 0 0 (E.tk<|i+1).x []) x) j|pair {x y:Fo}{k j:Nat}:Hid ((E.tk i).k=44)->CX E 0 (i+1) x k->(E.tk k).k=45->(E.tk<|k+1).k=47->k+1<E.n->CX E 0 (k+2) y j->1<=j->j<=E.n->Enp E i (one (lF 41 (E.tk i) (E.tk<|j-1).t)<|x.app y) j
def ax0{o}(k j)(h:k<W.heap.size):(W.alloc o).cell? ⟨k,j,none⟩=W.cell? (aj k j):=World.cell?_alloc_past _ _ _ h
section
variable {E : Pe} {i j : Nat}
def aaD{X}(q:(E.tk i).k≠6)(u:i<E.n)(s:Enp E i X j):CI E 334 #[pV E] i X j:=by
 intro o _ _ r m;have a:=ah r;have y:=a.cells;have t:=a.tkw u q;unfold TkW at t;have B:=a.lo;have A:(i:Int)<(E.n:Int):=O;have z:(0:Int)<=(i:Int):=O;have F:IntKind.i64.wrap (i:Int)=(i:Int):=by rw[du];omega
 go_in;go_wp2_with fail;go_region_held3 (λv=>∀k j,k<o.heap.size->v.cell? (aj k j)=o.cell? (aj k j)) (first|exact ax0|exact λ_ _ _=>rfl) (fail)
 replace a:=Sq.below (Sq.box (cs:=rE (E.tk i).k<|E.tk i) (t:=58) a) blW;generalize World.drew _=b at a⊢;have c:=Sq.rd a;go_wp2_with fail;refine dd (Sq.node a) λb a=>?_;replace a:=Sq.box (cs:=ndA 40 0 0 zE0 (E.tk i) s0 s0) (t:=37) a;go_wp2_with fail;cases s
 .
  rw[dh]at m;refine dd (Sq.isN a O) λb a=>?_;go_wp2_with fail;refine dd (Sq.isN a O) λb a=>?_;go_wp2_with fail;apply Sq.cq a O O;rintro b _ e _ _ ⟨f,rfl,rfl,rfl⟩ a;have d:=Sq.ln a;simp only[Fo.sz_app,Fo.sz]at d;have c:=Sq.rd a;go_wp2_with (at_builtin;refine Sq.apG tI (Sq.nil a) I R R _ _ R R R R ?_;intro l h b a;have c:=Sq.rd a);apply(Sq.add (Sq.set a) (.inl ⟨R,R⟩) (.inr<|.head _) O).mono;rintro p b ⟨f,rfl,e,a⟩;go_wp2;go_ret;exact⟨_,_,_,_,R,⟨_,R,R,R⟩,Sq.fin a⟩
 .
  rw[dh]at m;refine dd (Sq.isY a (by assumption:Hid ((E.tk i).k=48)).out) λb a=>?_;go_wp2_with fail;refine dd (Sq.take a O) λb a=>?_;go_wp2_with fail;refine dd (Sq.take (Sq.box a) O) λb a=>?_;have G:=Sq.rd a;have H:=Sq.rd<|Sq.tail a;have C:¬(E.tk i).k=6:=q;have g:=a.bd;simp only[eA,List.nodup_cons,dI,not_or]at g;have w:=g.1.1;have x:=dG g.1.1;go_wp2_with fail;apply Sq.cq (Sq.set<|Sq.set<|Sq.swapB a) O O;rintro b _ e _ _ ⟨f,rfl,rfl,rfl⟩ a;have d:=Sq.ln a;simp only[Fo.sz_app,Fo.sz]at d;have c:=Sq.rd a;go_wp2_with (at_builtin;refine Sq.apG tI (Sq.nil a) I R R _ _ R R R R ?_;intro l h b a;have c:=Sq.rd a);apply(Sq.add (Sq.set a) (.inl ⟨R,R⟩) (.inr<|.head _) O).mono;rintro p b ⟨f,rfl,e,a⟩;go_wp2;go_ret;exact⟨_,_,_,_,R,⟨_,R,R,R⟩,Sq.fin a⟩
 .
  have g:=(by assumption:Hid ((E.tk i).k=44));rw[dh,Fo.sz_app]at m;refine dd (Sq.isN a (by rw[g.out];decide)) λb a=>?_;go_wp2_with fail;refine dd (Sq.isY a g.out) λb a=>?_;go_wp2_with fail;apply Sq.cq a O O;rintro b _ e _ _ ⟨f,rfl,rfl,rfl⟩ a;have d:=Sq.ln a;simp only[Fo.sz_app,Fo.sz]at d;go_wp2_with fail;refine dd (Sq.take a O) λb a=>?_;go_wp2_with fail;refine dd (Sq.take a O) λb a=>?_;have c:=Sq.rd a;go_wp2_with (at_builtin;refine Sq.apG tI (Sq.nil<|Sq.set a) I R R _ _ R R R (by simp[World.setCell]) ?_;intro l h b a;have c:=Sq.rd a);apply Sq.cq (Sq.set a) O O;rintro b _ e _ _ ⟨f,rfl,rfl,rfl⟩ a;have d:=Sq.ln a;simp only[Fo.sz_app,Fo.sz]at d;have c:=Sq.rd a;go_wp2_with (at_builtin;refine Sq.apG tI a I R R _ _ R R R R ?_;intro l h b a;have c:=Sq.rd a);apply(Sq.add (Sq.set a) (.inl ⟨R,R⟩) (.inr<|.head _) O).mono;rintro p b ⟨f,rfl,e,a⟩;go_wp2;go_ret;exact⟨_,_,_,_,R,⟨_,R,R,R⟩,Sq.fin a⟩
def aq4{x}(g:(E.tk i).k=18)(w:(E.tk<|i+1).k=1)(C:(E.tk<|i+2).k=40)(h:i+2<E.n)(z:CBd E (E.tk<|i+2) (i+2) x j)(H:1<=j)(K:j<=E.n):CI E 134 #[pV E] i (one (nd 4 (E.tk i) (E.tk<|j-1).t 0 0 z0 [(E.tk<|i+1).x]) x) j:=by
 intro _ _ _ v y;have S:=ah v;rw[dh]at y;go_in;go_wp2_with fail;refine dd (Sq.kind S g) λc S=>?_;go_wp2_with fail;refine dd (Sq.kind S g) λc S=>?_;go_wp2_with fail;refine dd (Sq.kind S g) λc S=>?_;go_wp2_with fail;refine dd (Sq.take S g) λc S=>?_;go_wp2_with fail;refine dd (Sq.node<|Sq.box S) λc S=>?_;replace S:=Sq.box (cs:=ndA 4 0 0 zE0 (E.tk i) s0 s0) (t:=37) S;go_wp2_with fail;refine dd (Sq.take S w) λc S=>?_;have A:=Sq.rd S;go_wp2_with fail;replace S:=Sq.litm (m:=c.heap.size+1) (xs:=[B5 (E.tk<|i+1).x]) (t:=9) (Sq.below (Sq.set (q:=7) (u:=bI (c.heap.size+1) 1 1) S)<|dj _<|B0 (rE 1<|E.tk<|i+1) 58) (by simp[World.setCell]);generalize World.alloc (World.alloc _ _) _=af at S⊢;have o:=S.cells;have t:=S.tkw h O;have p:=S.lo.2.2.2;rw[(O:((i+1+1:Nat):Int)=(i:Int)+2)]at o;have G:(i:Int)+2<(E.n:Int):=O;have F:(0:Int)<=(i:Int)+2:=O;have L:((i:Int)+2).toNat=i+2:=O;have ad:IntKind.i64.wrap ((i:Int)+2)=(i:Int)+2:=by rw[du];omega
 refine wp_region_held_drew (S:=λl=>l.cell? _=A1 _/\TkW E _ l) J ⟨o.1,t⟩ (λa=>?_);unfold TkW at *;simp[iC,fh];apply aI 0 (be E.pb 0) R R a (λe d=>by go_simp);simp[Br];apply aI 1 (be E.pb 0) R R a (λe d=>by go_simp);simp[Br];apply aI 2 (be E.pb 0) R R a (λe d=>by go_simp);simp[Br];apply aI 3 (be E.pb 0) R R a (λe d=>by go_simp);simp[Br];apply aI 4 (bI E.tb E.n E.cap) R R a (λe d=>by go_simp);simp[Br];apply aI 5 (be E.pb 0) R R a (λe d=>by go_simp);simp[Br];apply aI 6 (be E.pb 0) R R a (λe d=>by go_simp);simp[Br];apply aI 7 (be E.pb 1) R R a (λe d=>by go_simp);simp[Br];refine A5 (rs:=[8]) J I<|A2 R (λf b=>?_) A3;go_simp;refine b.out _ _ a (λa=>?_);simp[cC];refine A5 (rs:=[9]) J I<|A2 R (λf b=>?_) A3;go_simp;refine b.out _ _ a (λa=>?_);simp[cC];refine A5 (rs:=[10]) J I<|A2 R (λf b=>?_) A3;go_simp;refine b.out _ _ a (λa=>?_);simp[cC];refine A5 (rs:=[11]) J I<|A2 R (λf b=>?_) A3;go_simp;refine dd (Gf _ _ _ _) λc s=>?_;replace S:=Sq.below (Sq.below S blW) s;refine b.out _ _ ⟨S.cells.1,S.tkw h O⟩ (λa=>?_);simp[cC];refine A5 (rs:=[12]) J I<|A2 R (λf b=>?_) A3;go_simp;apply Sq.cq S z O;rintro c _ r _ _ ⟨B,rfl,rfl,rfl⟩ S;refine b.out _ _ ⟨S.cells.1,S.tkw h O⟩ (λa=>?_);simp[cC];refine A5 (rs:=[13]) J I<|A2 R (λf b=>?_) A3;go_simp;refine b.out _ _ a (λa=>?_);refine wpAnyH_done J ?_ _;have A:=Sq.rd S;have p:=Sq.ln S;simp only[Fo.sz_app,Fo.sz]at p;go_wp2_with fail;apply(Sq.add (Sq.lit2<|Sq.set S) (nm:=[(E.tk _).x]) (.inr<|.tail _<|.head _) (.inr<|.head _) O).mono;rintro _ c ⟨B,rfl,r,S⟩;go_wp2;go_ret;exact⟨_,_,_,_,R,⟨_,R,R,R⟩,Sq.fin S⟩
end
section
variable {E : Pe} {i j k k1 : Nat} {x y R1 Ex : Fo}
def Iq{nk}(a:eG nk=3)(b):iF nk b=Y 212 (be b 0):=by unfold iF;rw[a];rfl
def ads{nk}(a:eG nk=3)(s e x):xx (nd nk s e 0 0 x []) (eG nk)=nd nk s e 0 0 x []:=by rw[a];rfl
def anc(u:i+1<E.n){nk k}(q:k≠6)(c:eG nk=3)(a:(E.tk i).k=k):CN E 309 #[pV E,zI nk] i (one (nd nk (E.tk i) (E.tk i).t 0 0 (E.tk i).x []) .nil) (i+1):=by
 intro _ p _;have m:=Sw.start p;go_in;go_wp2_with fail;refine dd (mi m a O q) λw1 o=>?_;have⟨s,r,d⟩:=Jw o a;simp[rE]at r;go_wp2_with fail;have e:=sB d<|eC<|ay _ s;have h:=Jy d a;have j:=Jy e a;go_region_held3 (λb=>b.cell? (aj w1.heap.size 0)=A1 (zI k)/\b.cell? (aj w1.heap.size 1)=A1 (zI (E.tk i).f)/\b.cell? (aj w1.heap.size 2)=A1 (zI (E.tk i).t)/\b.cell? (aj w1.heap.size 3)=A1 (zI (E.tk i).l)/\b.cell? (aj w1.heap.size 4)=A1 (zI (E.tk i).n)/\b.cell? (aj w1.heap.size 5)=A1 (B5 (E.tk i).x)) (first|exact h|exact j|exact Jy g a|go_keep) (first|(go_at_call 304;apply(vh e a O O _ _ _ _).mono;rintro _ _ ⟨rfl,g⟩))
 go_wp2;go_ret;exact⟨_,R,Iq c _ ▸ ade g _ (ads c _ _ _) R (by show _=(_++exT _ _ (eG nk)).toArray;rw[c];rfl) (by show _=BB (eG nk);rw[c];rfl)⟩
def azB(s:i+1<E.n)(a:(E.tk i).k=2):CN E 342 #[pV E] i (one (nd 23 (E.tk i) (E.tk i).t 0 (E.tk i).n z0 []) .nil) (i+1):=by
 intro _ p _;have j:=Sw.start p;go_in;go_wp21
 refine dd (qC j a) λ_ o=>?_;go_wp21
 refine dd (mi o a O) λw1 m=>?_;have⟨r,q,c⟩:=Jw m a;simp[rE]at q;go_wp21
 have d:=sB c<|eC<|ay _ r;have g:=Jy c a;have h:=Jy d a;go_region_held3 (λb=>b.cell? (aj w1.heap.size 0)=A1 (zI 2)/\b.cell? (aj w1.heap.size 1)=A1 (zI (E.tk i).f)/\b.cell? (aj w1.heap.size 2)=A1 (zI (E.tk i).t)/\b.cell? (aj w1.heap.size 3)=A1 (zI (E.tk i).l)/\b.cell? (aj w1.heap.size 4)=A1 (zI (E.tk i).n)/\b.cell? (aj w1.heap.size 5)=A1 (B5 (E.tk i).x)) (first|exact g|exact h|exact Jy e a|go_keep) (first|(go_at_call 304;apply(vh d a O O _ _ _ _).mono;rintro _ _ ⟨rfl,e⟩))
 go_wp21
 go_ret;exact⟨_,R,ade e (nd _ _ _ 0 (E.tk i).n z0 _) R R R R⟩
abbrev CXi(E:Pe)(p:Int)(i:Nat)(x:Fo)(j:Nat):Prop:=CN E 307 #[pV E,zI p] i x j
def sT{c a D b}(S:Hid (Sw E W w i c a D vs (b::T) M)):Hid (Sw E W w i c a D vs T M):=S.drop (λ_ d=>dJ _ d)<|.inl R
def ax1{k q t d f a b}(i:Hid (Sw E W w j s0 [] R1 [Y d a,Y f b] T M))(r:t.k=k)(l:1<=j)(p:j<=E.n)(u:10<=q)(v:q<=78):B6 Tryz.prog 343 #[pV E,zI q,.agg<|rE k t,Y d a,Y f b] w λe s=>∃g c,e= .returned (Y g c)/\Hid (Sw E W s j s0 [] (one (uF q t (E.tk<|j-1).t) R1) [Y g c] T M):=by
 unfold uF;by_cases m:q=10<;>by_cases o:q=26;all_goals
  try omega
 all_goals
  try subst m
  try subst o
  simp[*,↓reduceIte,Int.reduceEq];go_in;go_wp2_with fail;refine dd (vh (sLt<|sBx i) r l p _ _ _ _) λw h=>?_;go_wp2;go_ret;exact⟨_,_,R,sT<|Kr h _ byR byR (by simp only[dC]<;>rfl) byR⟩
def ax2{D k}(S:Hid (Sw E W w i s0 [] D vs T M))(n:gg k=Q)(m:k<=78):B6 Tryz.prog 272 #[zI k] w λe d=>e= .returned (.tuple #[.agg #[zI k,zI<|BA k,zI<|rpw k],B4 Q])/\Hid (Sw E W d i s0 [] D vs T M):=by
 obtain⟨c,b,rfl⟩:=auE n m;have⟨o,l,a⟩:=S.pp.pw;have⟨g,h,_,j⟩:=ahr c b;apply(wH w o l a c b _ R j).mono;rintro e d ⟨a,f⟩;rw[g,h]at a;exact⟨a,sB S f⟩
def ax3{D k}(S:Hid (Sw E W w i s0 [] D vs T M))(g:gg k=A0):B6 Tryz.prog 272 #[zI k] w λe b=>e= .returned (.tuple #[.agg #[zI 0,zI 0,zI 0],B4 A0])/\Hid (Sw E W b i s0 [] D vs T M):=by
 have⟨h,d,a⟩:=S.pp.pw;refine(afn w h d a k (λi f e=>?_)).mono ?_
 .have:=(ahr i f).2.2.1;rw[e,g]at this;cases this
 rintro e b ⟨a,c⟩;exact⟨a,sB S c⟩
def asK{D}(S:Hid (Sw E W w i s0 [] D vs T M))(a b c):∃d,w.alloc (B0 #[a,b,c] 255)=d/\Hid (Sw E W d i s0 [] D vs ((w.heap.size,255,#[a,b,c])::T) M):=⟨_,R,S.boxg _ _ Z Z⟩
def sC3{D d a b c}(S:Hid (Sw E W w i s0 [] D vs ((d,255,#[a,b,c])::T) M)):w.cell? (aj d 0)=A1 a/\w.cell? (aj d 1)=A1 b/\w.cell? (aj d 2)=A1 c:=by
 have e:=(S.tb _<|bG ..).2.2;exact⟨crV e,crV e,crV e⟩
def auK{p}(a1:(E.tk i).k≠6)(bn:i<E.n)(z:∀q,(E.tk q).k<=78)(a7:CN E 342 #[pV E] i x k)(B:Ms E (CXi E) p (E.tk i) m x k R1 j):CXi E p i R1 j:=by
 intro bh y _;have ak:=Sw.start y;have af:=ah B;have bo:=B.le;go_in;go_wp21
 refine dd (Ia ak R O a1) λw1 al=>?_;have⟨_,a3,c⟩:=Jw al (t:=E.tk i) R;simp[rE]at a3;go_wp21
 apply(Ba c a7).mono;rintro h _ ⟨bc,ba,rfl,am⟩;have H:=ah am;go_wp21
 go_loopg [6] m (λgk bf wr=>∃k o t C,bf=Y t C/\Hid (Ms E (CXi E) p (E.tk i) gk o k R1 j/\Sw E bh wr k s0 [] o [Y t C] [tkB w1.heap.size<|E.tk i] []))
 .exact⟨k,x,bc,ba,R,af,H⟩
 .
  obtain⟨b,o,_,_,rfl,ad⟩:=hrel;have⟨ax,a0⟩:=ad.out;have c:=ah a0;cases ax with
  |stop g ap=>
   cases a:gg (E.tk j).k with
   |false=>
    go_wp21
    refine dd (qC c R g) λF d=>?_;go_wp21
    refine dd (ax3 d a) λG e=>?_;go_wp21
    go_ret;exact⟨_,R,(e.boxg _ _ Z Z).drop (λp l=>by cases l)<|.inr R⟩
   |true=>
    go_wp21
    refine dd (qC c R g) λF d=>?_;go_wp21
    refine dd (ax2 d a<|z _) λG e=>?_;have⟨bj,a4,f⟩:=asK e (zI (E.tk j).k) (zI<|BA (E.tk j).k)<|zI<|rpw (E.tk j).k;have⟨r,s,u⟩:=sC3 f;go_wp21
    go_ret;exact⟨_,R,f.drop (λp l=>by cases l)<|.inr R⟩
  |@go a9 _ a8 _ _ br bk g a ap ar bl av w=>
   have a6:=w.le;rw[dh,Fo.sz_app]at a6;have a2:(E.tk b).k≠6:=λh=>by rw[h]at a;revert a;decide
   have A:=z b;have a5:10<=(E.tk b).k:=by have y:=aL a;omega
   have L:=ah w;go_wp21
   refine dd (qC c R g) λF d=>?_;go_wp21
   refine dd (ax2 d a A) λG e=>?_;have⟨bj,a4,f⟩:=asK e (zI (E.tk b).k) (zI<|BA (E.tk b).k)<|zI<|rpw (E.tk b).k;have⟨r,s,u⟩:=sC3 f;go_wp21
   refine dd (mi f R g a2) λ_ v=>?_;have⟨r,s,u⟩:=sC3 v;go_wp21
   apply(Ba v ar).mono;rintro h _ ⟨_,_,rfl,l⟩;have⟨r,s,u⟩:=sC3 l;have⟨_,_,_,_,_,_⟩:=Jy (sT l) R;go_wp21
   have an:=ah l;apply(ax1 an R O av a5 A).mono;rintro h _ ⟨bd,bb,rfl,ao⟩;have K:=sT ao;go_wp21
   go_roundg a9
   case measure=>omega
   exact⟨a8,_,bd,bb,R,L,K⟩
end
section
variable {E : Pe} {i j k k1 : Nat} {x y R1 Ex : Fo}
def azC(o:(E.tk i).k=42)(bb:i<E.n)(a2:Es E (CN E 378 #[pV E]) m (i+1) Ex j)(a0:(E.tk j).k=43)(bc:j+1<E.n):CN E 367 #[pV E] i (one (lF 35 (E.tk i) (E.tk j).t) Ex) (j+1):=by
 intro a8 ap a1;have an:=Sw.start ap;have am:=ah a2;simp only[dh]at a1;go_in;go_wp21
 refine dd (mi an o O) λw1 ao=>?_;have⟨_,ax,e⟩:=Jw ao o;simp[rE]at ax;have ak:=ah e;go_wp21
 go_loopg [4] m (λgk a7 wr=>∃k D r v n x H,a7= .slice v n x/\Hid (Es E (CN E 378 #[pV E]) gk k r j/\Sw E a8 wr k (.slice v n x) H D H [tkB w1.heap.size<|E.tk i] []/\D.app r=Ex))
 .exact⟨_,_,Ex,none,0,0,_,R,am,ak,R⟩
 .
  obtain⟨_,D,r,v,n,x,H,rfl,al⟩:=hrel;have⟨ar,K,b⟩:=al.out;have e:=ah K;have bd:=Gi.len _ _ K.nn;cases ar with
  |stop l h=>
   rw[Fo.app_nil]at b;go_wp21
   refine dd (Au e a0 h) λad a=>?_;have⟨_,_,p,_,_,_⟩:=Jy a o;go_wp21
   refine dd (vh a o O O _ _ _ _) λaf f=>?_;subst b;go_wp21
   go_ret;exact⟨_,R,ade f (lF _ _ _) R R R R⟩|@com F _ L _ p d l h z B C A=>
   have a3:D.sz+(p.sz+d.sz)<=50000000:=by have g:=congrArg Fo.sz b;simp[Fo.sz_app]at g;omega
   have av:=D.len_le;have c:=fs b A;go_wp21
   refine dd (Fp e l h) λad a=>?_;go_wp21
   apply(Ba a z).mono;rintro g af ⟨a6,a4,rfl,f⟩;go_wp2_with (at_builtin;apply sAp f R O R _ _ R R R;intro w G y a9 s);refine dd (Au s B C) λba u=>?_;have q:=ah u;go_wp21
   go_roundg F
   case measure=>omega
   exact⟨_,_,d,w,G,y,_,R,c.2,q,by rw[Fo.app_app];exact c.1⟩
  |@last F _ L _ p d l h z B C A=>
   have a3:D.sz+(p.sz+d.sz)<=50000000:=by have g:=congrArg Fo.sz b;simp[Fo.sz_app]at g;omega
   have av:=D.len_le;have c:=fs b A;go_wp21
   refine dd (Fp e l h) λad a=>?_;go_wp21
   apply(Ba a z).mono;rintro g af ⟨a6,a4,rfl,f⟩;go_wp2_with (at_builtin;apply sAp f R O R _ _ R R R;intro w G y a9 s);refine dd (Fp s B C) λba u=>?_;have q:=ah u;go_wp21
   go_roundg F
   case measure=>omega
   exact⟨L,_,d,w,G,y,_,R,c.2,q,by rw[Fo.app_app];exact c.1⟩
end
section
variable {E : Pe} {i j k k1 : Nat} {x y R1 Ex : Fo}
def Gi.top{f e N ks t p}(h:Gi w f e (one N ks) [Y t p]):∃b,t=nC (eG N.k)/\p=be b 0/\w.cell? (aj b 0)=A1 (zI N.k):=by
 obtain⟨_,b,_,_,_,_,_,_,_,d,⟨_,_,c,_⟩,_⟩:=h;have a:=(mD d.1).1;unfold iF at a;cases a;exact⟨b,R,R,by unfold im at c;rw[oe c];rfl⟩
def ax4{N ks}(a:(E.tk i).k=40)(a0:i<E.n)(u:CN E 252 #[pV E] (i+1) (one N ks) k)(s:(E.tk k).k=41)(a1:i+1<=k)(a2:k+1<E.n):CN E 308 #[pV E] i (lI N ks (E.tk i) (E.tk k).t) (k+1):=by
 intro b F _;have p:=Sw.start F;have a3:(one N ks).sz<=(lI N ks (E.tk i) (E.tk k).t).sz:=by unfold lI;split<;>simp only[dh]<;>omega
 obtain hN|hN|hN:=(by omega:N.k=34\/N.k=27\/(N.k≠34/\N.k≠27))
 .go_in;go_wp21
  refine dd (mi p a O) λw1 e=>?_;have⟨A,j,f⟩:=Jw e a;simp[rE]at j;go_wp21
  apply(Ba f u).mono;rintro v B ⟨z,y,rfl,g⟩;go_wp21
  refine dd (mi g s O) λC c=>?_;obtain⟨d,rfl,rfl,m⟩:=Gi.top c.nn;have w:=λb=>vf (eG N.k) d b;have l:=λb=>eD d b;have r:=m;rw[hN]at r;generalize x:nC (eG N.k)=o at *;have⟨L,ad,af,ak,al,am⟩:=Jy c a;have⟨H,G,h⟩:=adc c _ #[Y o<|be d 0] rfl 1 R Z;have⟨an,ao,ap,ar,av,ax⟩:=Jy h a;go_wp2_with (go_at_call 404;apply ez<|l _);refine dd (vh h a O O _ _ _ _) λK q=>?_;go_wp21
  go_ret;refine⟨_,R,?_⟩;unfold lI;rw[ae O];exact ade q (lF _ _ _) R R R R
 .go_in;go_wp21
  refine dd (mi p a O) λw1 e=>?_;have⟨A,j,f⟩:=Jw e a;simp[rE]at j;go_wp21
  apply(Ba f u).mono;rintro v B ⟨z,y,rfl,g⟩;go_wp21
  refine dd (mi g s O) λC c=>?_;obtain⟨d,rfl,rfl,m⟩:=Gi.top c.nn;have w:=λb=>vf (eG N.k) d b;have l:=λb=>eD d b;have r:=m;rw[hN]at r;generalize x:nC (eG N.k)=o at *;have⟨L,ad,af,ak,al,am⟩:=Jy c a;have⟨H,G,h⟩:=adc c _ #[Y o<|be d 0] rfl 1 R Z;have⟨an,ao,ap,ar,av,ax⟩:=Jy h a;go_wp2_with (go_at_call 404;apply ez<|l _);refine dd (vh h a O O _ _ _ _) λK q=>?_;go_wp21
  go_ret;refine⟨_,R,?_⟩;unfold lI;rw[ae O];exact ade q (lF _ _ _) R R R R
 .go_in;go_wp21
  refine dd (mi p a O) λw1 e=>?_;have⟨A,j,f⟩:=Jw e a;simp[rE]at j;go_wp21
  apply(Ba f u).mono;rintro v B ⟨z,y,rfl,g⟩;go_wp21
  refine dd (mi g s O) λC c=>?_;obtain⟨d,rfl,rfl,m⟩:=Gi.top c.nn;have w:=λb=>vf (eG N.k) d b;have l:=λb=>eD d b;generalize x:nC (eG N.k)=o at *;go_wp2_with (first|(go_at_call 404;apply ez<|l _));go_ret;refine⟨_,R,?_⟩;unfold lI;rw[aa O];exact c.drop (λ_ h=>by cases h)<|.inr R
def ax5(f:(E.tk i).k=40)(e:(E.tk<|i+1).k=41)(g:i+1<E.n):CR E 310 #[pV E] i (.nil) (i+2):=by
 intro _ d _;have a:=Sw.start d;go_in;go_wp2_with fail;refine dd (mi a f O) λw1 b=>?_;go_wp2_with fail;refine dd (Au b e) λ_ c=>?_;go_wp2;go_ret;exact⟨_,_,R,c⟩
def azD(j:(E.tk i).k=40)(o:i+1<E.n)(l:(E.tk<|i+1).k≠41)(h:CR E 303 #[pV E,.func (.func 252) #[pV E] #[]] (i+1) Ex k)(g:(E.tk k).k=41)(p:k<E.n):CR E 310 #[pV E] i (Ex) (k+1):=by
 intro _ f _;have a:=Sw.start f;go_in;go_wp21
 refine dd (mi a j O) λw1 b=>?_;go_wp21
 refine dd (Fp b l) λ_ c=>?_;go_wp21
 apply(ahl c h).mono;rintro _ _ ⟨_,_,_,m,rfl,d,_⟩;go_wp21
 refine dd (mi d g O) λ_ e=>?_;go_wp21
 go_ret;exact⟨_,m,R,e⟩
def asL{q}(a:(E.tk i).k=q)(bE:i<E.n)(br:(q=1/\CN E 309 #[pV E,zI 26] i x k)\/(q=40/\CN E 308 #[pV E] i x k))(a4:Pss E (λi x j=>CN E 252 #[pV E] i x j) (λi x j=>CR E 303 #[pV E,.func (.func 252) #[pV E] #[]] i x j) (E.tk i) m x k R1 j):CN E 253 #[pV E] i R1 j:=by
 intro bz bk _;have a1:=Sw.start bk;have bc:=a4;have bF:=a4.le;obtain⟨rfl,ak⟩|⟨rfl,ak⟩:=br
 case' inl=>
  go_in;go_wp2_with fail;refine dd (Ia a1 a O Z) λw1 b=>?_;have⟨p,c,d⟩:=Jw b a;simp only[rE]at c;have⟨f,g,h,l,o,r5⟩:=Jy d a;go_wp2_with fail;refine(Ba d ak).mono ?_;rintro K G ⟨ba,a8,rfl,e⟩;have a0:=ah e;go_wp2_with fail
 case' inr=>
  go_in;go_wp2_with fail;refine dd (Ia a1 a O Z) λw1 b=>?_;have⟨p,c,d⟩:=Jw b a;simp only[rE]at c;have⟨f,g,h,l,o,r5⟩:=Jy d a;go_wp2_with fail;refine(Ba d ak).mono ?_;rintro K G ⟨ba,a8,rfl,e⟩;have a0:=ah e;go_wp2_with fail
 all_goals
  go_loopg [4] m (λgk bx wr=>∃(k:Nat) (H:Fo) (a9:B3) (a6:B1),bx=Y a9 a6/\Hid (Pss E (λi x j=>CN E 252 #[pV E] i x j) (λi x j=>CR E 303 #[pV E,.func (.func 252) #[pV E] #[]] i x j) (E.tk i) gk H k R1 j/\Sw E bz wr k s0 [] H [Y a9 a6] [tkB w1.heap.size<|E.tk i] []))
  case atStart=>exact⟨k,x,ba,a8,R,bc,a0⟩
  case round=>
   obtain⟨C,H,o,l,rfl,bb⟩:=hrel;have⟨bl,bn⟩:=bb.out;have d:=ah bn;cases bl with
   |stop b g=>
    have r:((E.tk j).k==48)=A0:=by have:=jJ g;simp;omega
    have p:((E.tk j).k==44)=A0:=by have:=jJ g;simp;omega
    have f:((E.tk j).k==40)=A0:=by have:=jJ g;simp;omega
    go_wp2_with fail;refine dd (qC d R b) λL h=>?_;go_wp2;go_ret;exact⟨_,R,h.drop (λ_ c=>by cases c)<|.inr R⟩
   |@dot u _ _ _ _ b g y f=>
    have v:=aqF;have p:=f;have t:=f.le;simp only[dh,Fo.sz_app]at t;go_wp2_with fail;refine dd (qC d b) λG e=>?_;go_wp2_with fail;refine dd (mi e b O) λL h=>?_;go_wp2_with fail;refine dd (mi h g O) λal c=>?_;simp only[rE];have⟨an,ao,ap,ar,av,ax⟩:=Jy c a;have⟨F,A,r⟩:=adc c [Y o l] #[Y o l] rfl 1 R Z;have⟨af,bd,bf,bh,bj,bo⟩:=Jy r a;go_wp2_with fail;refine dd (vh r a O O 33 _ _ _) λam s=>?_;go_wp2;go_roundg u
    case measure=>omega
    case rel=>
     refine⟨C+2,_,_,_,R,p,?_⟩;rw[<-Iq (nk:=33) Z];exact(Kr s (nd 33 (E.tk i) (E.tk<|C+1).t 0 0 (E.tk<|C+1).x []) (ads Z _ _ _) R (by show _=(_++exT _ _ (eG 33)).toArray;rw[(Z:eG 33=3)];rfl) (by show _=BB (eG 33);rw[(Z:eG 33=3)];rfl)).out
   |@sq u _ B _ _ a2 _ b g y ad a3 f=>
    have p:=f;have t:=f.le;simp only[dh,Fo.sz_app]at t;go_wp2_with fail;refine dd (qC d b) λG e=>?_;go_wp2_with fail;refine dd (mi e b O) λL h=>?_;go_wp2_with fail;refine(Ba h y).mono ?_;rintro K al ⟨z,w,rfl,c⟩;go_wp2_with fail;refine dd (mi c ad O) λ_ v=>?_;have⟨an,ao,ap,ar,av,ax⟩:=Jy v a;have⟨F,A,r⟩:=adc v [Y o l,Y z w] #[Y o l,Y z w] rfl 2 R Z;have⟨af,bd,bf,bh,bj,bo⟩:=Jy r a;go_wp2_with fail;refine dd (vh r a O O 32 _ _ _) λam s=>?_;go_wp2;go_roundg u
    case measure=>omega
    case rel=>exact⟨B+1,_,_,_,R,p,(Kr s (lF 32 (E.tk i) (E.tk B).t) R R R R).out⟩
   |@call0 u _ _ _ _ b g y f=>
    have p:=f;have t:=f.le;simp only[dh,Fo.sz_app]at t;go_wp2_with fail;refine dd (qC d b) λG e=>?_;have⟨L,bo,h⟩:=adc e [Y o l] #[Y o l] rfl 1 R Z;go_wp2_with fail;refine(amD h (ax5 b g O) Z).mono ?_;rintro K al ⟨bd,bs,bh,bw,rfl,c,r⟩;go_wp2_with (at_builtin;refine wJ R _ _ R R c.ro R r.1 r.2.1 (by have:=r.2.2;have:Fo.nil.len=0:=rfl;have:=(.nil:Fo).len_le;show 1+_<=_;omega) (by have:=c.gr.size;omega) ?_;intro bf bt bj bA F af A z;have w:=c.put F A z;clear F af A z;have v:=w;clear w;have⟨an,ao,ap,ar,av,ax⟩:=Jy v a);refine dd (vh v a O O 34 _ _ _) λam s=>?_;go_wp2;go_roundg u
    case measure=>omega
    case rel=>exact⟨(C+2),_,_,_,R,p,(Kr (Fo.app_nil H ▸ s) (lF 34 (E.tk i) (E.tk<|C+1).t) R R R R).out⟩
   |@call u _ B _ _ a2 _ b g y ad a3 bD f=>
    have p:=f;have t:=f.le;simp only[dh,Fo.sz_app]at t;go_wp2_with fail;refine dd (qC d b) λG e=>?_;have⟨L,bo,h⟩:=adc e [Y o l] #[Y o l] rfl 1 R Z;go_wp2_with fail;refine(amD h (azD b g y ad a3 O) O).mono ?_;rintro K al ⟨bd,bs,bh,bw,rfl,c,r⟩;go_wp2_with (at_builtin;refine wJ R _ _ R R c.ro R r.1 r.2.1 (by have:=r.2.2;have:Fo.nil.len=0:=rfl;have:=(a2:Fo).len_le;show 1+_<=_;omega) (by have:=c.gr.size;omega) ?_;intro bf bt bj bA F af A z;have w:=c.put F A z;clear F af A z;have v:=w;clear w;have⟨an,ao,ap,ar,av,ax⟩:=Jy v a);refine dd (vh v a O O 34 _ _ _) λam s=>?_;go_wp2;go_roundg u
    case measure=>omega
    case rel=>exact⟨(B+1),_,_,_,R,p,(Kr s (lF 34 (E.tk i) (E.tk B).t) R R R R).out⟩
end
section
variable {E : Pe} {i j k k1 : Nat} {x y R1 Ex : Fo}
abbrev Ir(a:B1)(r:Bool):zAV:=#[zI 0,zI 0,zI 0,zI 0,zI 0,fe,a,B4 r]
theorem Sw.setL{q cs u}(h:Sw E W w i s0 [] .nil [] ((b,220,cs)::T) M)(v:∀p∈T,p.2.1≠220):Sw E W (w.setCell (aj b q) u) i s0 [] .nil [] ((b,220,cs.setIfInBounds q u)::T) M:=by
 obtain⟨j,k,l⟩:=h.tb _<|bG ..;have a:∀{d:Nat}{cs:zAV}{e:B3}{c:Nat×Nat},w.heap[d]?=A1 (B0 cs e c)->e≠220->(w.setCell (aj b q) u).heap[d]?=A1 (B0 cs e c):=λ{d cs e c} g _=>by
  rw[jg (λa=>U)];exact g
 have⟨n,c,C,F⟩:=h.pp.tks;have⟨K,r,G⟩:=h.pp.pw;have z:=h.lt;have A:=h.pp.pg;refine⟨⟨h.pp.hn,⟨n,c,a C Z,F⟩,a h.pp.row Z,A,K,r,(jg (show 3≠b from λ_=>O)).trans G⟩,?_,z,onN,⟨_,⟨R,R⟩,by obtain⟨_,_,_⟩:=h.nb;grind⟩,λp hp=>?_,λp hp=>?_⟩
 .exact h.gr.andThen (qv (si w _) q u) (λd g=> .inl U)
 .rcases dI.1 hp with rfl|hp
  .exact⟨j,k,aD _ b q _ _ _ l⟩
  .exact⟨(h.tb p<|dJ _ hp).1,(h.tb p<|dJ _ hp).2.1,a (h.tb p<|dJ _ hp).2.2<|v p hp⟩
 .have⟨t,f⟩:=h.nm p hp;refine⟨t,?_⟩;obtain f|⟨s,m,o,B,y,x,H⟩:=f
  .grind
  .exact .inr ⟨s,m,o,B,y,a x Z,H⟩
def ajG{a r}(h:w.heap[b]?=A1 (B0 (Ir a r) 220 (0,0))):w.cell? (aj b 6)=A1 a/\w.cell? (aj b 7)=A1 (B4 r)/\∀j,w.frozen? (aj b j)=A0:=⟨crV h,crV h,λj=>frR h⟩
def sLC{a r}(S:Hid (Sw E W w i s0 [] .nil [] ((b,220,Ir a r)::T) M)):w.cell? (aj b 6)=A1 a/\w.cell? (aj b 7)=A1 (B4 r)/\∀j,w.frozen? (aj b j)=A0:=ajG (S.tb _<|bG ..).2.2
end
