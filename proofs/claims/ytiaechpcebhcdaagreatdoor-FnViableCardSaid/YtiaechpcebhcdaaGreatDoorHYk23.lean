import Derived.Test.YtiaechpcebhcdaaGreatDoorHYk11
import Derived.Test.YtiaechpcebhcdaaGreatDoorHYk12
import Derived.Test.YtiaechpcebhcdaaGreatDoorHYk15
import Derived.Test.YtiaechpcebhcdaaGreatDoorHYk22
set_option linter.all false
set_option maxRecDepth 100000
set_option maxHeartbeats 12800000
open Go.Proofs.Tryz
open Go.Value renaming int->M,string->A0,tuple->B2,agg->B6,slice->Ce,ownBlock->C2
open Go.IntKind renaming i64->Q
open Bool renaming true->X,false->A2
open Go.Lib renaming hasPrefix->Y
open List renaming length->Ax
open Option renaming some->A3,none->A9
open Go renaming Value->A5,World->A6,ownsRow_succ->B7,Calls->Ck,TypeId->D3
open Go.Proofs.Tryz renaming prog->Br
open Go.Ending renaming returned->B0
open Go.RowKit renaming Below->B1,intOf->B5
open Go.Obj renaming cells->B3
open Go.World renaming news_of_block->B4
namespace Go.Proofs.YtiaechpcebhcdaaGreatDoor
open Go.RowKit Go.Maps Go.WideMaps
variable{C:List (Int×Int)}{T s:Bz}{W:World}{a base e i n p q':Nat}{b:Bool}{c:Int}{st st':List Int}{v:Value}{xs:List Value}
def pB(a b c:Int)(x:Bz):Bool:=decide ((x.size=0\/a=ae x 0)/\(x.size<=1\/b=ae x 1)/\(x.size<=2\/c=ae x 2))
theorem aiz(r x:Bz)(i:Nat)(c:i<x.size):r.data.toList[i]?=x.data.toList[i]?↔ae r i=ae x i:=by
 have d:x.data.toList[i]?=A3 x[i]:=by rw[CJ];exact Ib c
 rw[d,gH];have b:ae x i=(x[i].toNat:Int):=by unfold ae;grind
 rw[b];constructor
 .omega
 .intro a;refine⟨?_,a⟩;rcases aH i r.size with h1|h1
  .exact h1
  .rw[di]at a;omega
theorem acm(r x:Bz)(h:x.size<=3):Y r.data.toList x.data.toList=pB (ae r 0) (ae r 1) (ae r 2) x:=by
 unfold Y pB;rw[zw,zm,ga,List.prefix_iff_getElem?];have d:Ax x.data.toList=x.size:=mJ;have e:(∀a (c:a<Ax x.data.toList),r.data.toList[a]?=A3 x.data.toList[a])↔∀a,a<x.size->ae r a=ae x a:=by
  constructor
  .intro b a c;rw[<-aiz r x a c,b a O];grind
  .intro b a c;rw[(aiz r x a O).2 (b a O)];grind
 grind
def Jo(q:Bz->Bool)(V:Array A5)(base:Int):Nat->Nat->Int×Nat->Int×Nat
 |0,_,a=>a
 |f+1,i,a=>Jo q V base f (i+1) (if a.2<(bq V i).size/\q (bq V i)=X then(base+(i:Int),(bq V i).size) else a)
def skq(a:Int)(q:Bz->Bool):Int:=if a=59 then 5 else if a=10 then 7 else(Jo q lK 61 18 0 (Jo q je 40 11 0 (0,0))).1
def vq(q:Bz->Bool):Nat->Nat->Option Nat
 |0,_=>A9
 |f+1,k=>if q (bq ju k)=X then A3 k else vq q f (k+1)
def aiA(V:Array A5)(base:Int)(r:Bz):∀(f i:Nat)(a:Int×Nat),xG V base r f i a=Jo (λx=>Y r.data.toList x.data.toList) V base f i a
 |0,i,a=>rfl
 |f+1,i,a=>by rw[xG,Jo];exact aiA V base r f (i+1) _
def yF(q b:Bz->Bool)(V:Array A5)(base:Int)(N:Nat)(h:∀i,i<N->q (bq V i)=b (bq V i)):∀(f i:Nat)(a:Int×Nat),i+f<=N->Jo q V base f i a=Jo b V base f i a
 |0,i,a,_=>rfl
 |f+1,i,a,c=>by rw[Jo,Jo,h i O];exact yF q b V base N h f (i+1) _ O
def EG(q a:Bz->Bool)(h:∀i,i<30->q (bq ju i)=a (bq ju i)):∀(f i:Nat),i+f<=30->vq q f i=vq a f i
 |0,i,_=>rfl
 |f+1,i,b=>by rw[vq,vq,h i O,EG q a h f (i+1) O]
def Hm(S:List Int)(b:Int):Int:=if b∈S then b else 0
theorem Jp(S:List Int)(c:(0:Int) ∉ S)(b a:Int)(d:a∈S):Hm S b=a↔b=a:=by
 unfold Hm;grind
def fb0:List Int:=[46,60,62,61,126,47,40,41,123,125,91,93,44,59,35,43,45,42,37,38,124]
def fb1:List Int:=[46,60,61,62,47]
def fb2:List Int:=[46]
def inB(x:Bz):Bool:=decide (x.size<=3/\(x.size=0\/ae x 0∈fb0)/\(x.size<=1\/ae x 1∈fb1)/\(x.size<=2\/ae x 2∈fb2))
def apm:∀i:Fin 11,inB (bq je i.val)=X:=by decide+kernel
def apn:∀i:Fin 18,inB (bq lK i.val)=X:=by decide+kernel
def aiB:∀i:Fin 30,inB (bq ju i.val)=X:=by decide+kernel
theorem apo(a b c:Int)(x:Bz)(h:inB x=X):pB a b c x=pB (Hm fb0 a) (Hm fb1 b) (Hm fb2 c) x:=by
 unfold inB at h;rw[ga]at h;obtain⟨_,d,e,f⟩:=h;have g:(x.size=0\/a=ae x 0)↔(x.size=0\/Hm fb0 a=ae x 0):=by
  rcases d with h|h
  .simp[h]
  .rw[Jp fb0 Z a _ h]
 have i:(x.size<=1\/b=ae x 1)↔(x.size<=1\/Hm fb1 b=ae x 1):=by
  rcases e with h|h
  .simp[h]
  .rw[Jp fb1 Z b _ h]
 have j:(x.size<=2\/c=ae x 2)↔(x.size<=2\/Hm fb2 c=ae x 2):=by
  rcases f with h|h
  .simp[h]
  .rw[Jp fb2 Z c _ h]
 unfold pB;grind
def an5(a b c:Int):Bool:=match vq (pB a b c) 30 0 with
 |some d=>decide (skq a (pB a b c)=yq (bq ju d)/\(fJ (skq a (pB a b c))).size=(bq ju d).size/\skq a (pB a b c)≠0/\skq a (pB a b c)≠7)
 |none=>decide (skq a (pB a b c)=0)
def aiC:∀a∈0::fb0,∀b∈0::fb1,∀c∈0::fb2,an5 a b c=X:=by decide+kernel
theorem pm(S:List Int)(b:Int):Hm S b∈0::S:=by
 unfold Hm;grind
def aiD(r x:Bz)(a:inB x=X):Y r.data.toList x.data.toList=pB (Hm fb0 (ae r 0)) (Hm fb1 (ae r 1)) (Hm fb2 (ae r 2)) x:=by
 rw[<-apo _ _ _ x a];unfold inB at a;rw[ga]at a;exact acm r x a.1
def skN(a b c:Int):Int:=skq a (pB a b c)
def aiE(r:Bz)(c:ae r 0≠10):lH r=skN (Hm fb0 (ae r 0)) (Hm fb1 (ae r 1)) (Hm fb2 (ae r 2)):=by
 unfold skN;unfold lH skq;rw[aiA,aiA,yF _ _ je 40 11 (λb a=>aiD r _ (apm ⟨b,a⟩)) 11 0 _ O,yF _ _ lK 61 18 (λb a=>aiD r _ (apn ⟨b,a⟩)) 18 0 _ O];have e:=Jp fb0 Z (ae r 0) 59 Z;have d:Hm fb0 (ae r 0)≠10:=by
  unfold Hm;omega
 omega
def wn(r:Bz):Prop:=match vq (λx=>Y r.data.toList x.data.toList) 30 0 with
 |some a=>lH r=yq (bq ju a)/\(fJ (lH r)).size=(bq ju a).size/\lH r≠0/\lH r≠7
 |none=>lH r=0
theorem xx(r:Bz)(b:ae r 0≠10):wn r:=by
 have a:=aiE r b;unfold skN at a;have c:=aiC _ (pm fb0 (ae r 0)) _ (pm fb1 (ae r 1)) _ (pm fb2 (ae r 2));unfold wn;rw[EG _ _ (λe d=>aiD r _ (aiB ⟨e,d⟩)) 30 0 O,a];unfold an5 at c;grind
theorem amh(s x:Bz)(p:Nat)(e:p<=s.size):Y (s.extract p s.size).data.toList x.data.toList=decide (p+x.size<=s.size/\((s.extract p (p+x.size)).toList==x.toList)=X):=by
 have d:Ax s.data.toList=s.size:=mJ;have c:Ax x.data.toList=x.size:=mJ;have a:(s.extract p s.size).data.toList=s.data.toList.drop p:=by
  rw[<-fL,Lib.extract_toList,dH];grind
 have b:(s.extract p (p+x.size)).toList=(s.data.toList.drop p).take x.size:=by
  rw[Lib.extract_toList];grind
 rw[a,b,fL x];unfold Y;rw[zw,zm,ga,List.prefix_iff_eq_take,c,mL];grind
def age(s:Bz)(f:s.size<=70000)(p:Nat)(b:p<s.size)(a:ae s p=10)(w:A6):Ck Br 24 #[A0 s,M Q p] w λe d=>e= B0 (B2 #[B6 #[M Q 7,M Q p,M Q ((p:Int)+1),M Q 0,M Q 0,A0 ⟨#[]⟩],M Q (-1)])/\B1 w.heap.size w d:=by
 have c:=λw=>dx b w;rw[a]at c;have g:(p:Int)<(s.size:Int):=O;go_in;go_wp2;refine aD (v:= B2 #[B6 #[M Q 7,M Q p,M Q ((p:Int)+1),M Q 0,M Q 0,A0 ⟨#[]⟩],M Q (-1)]) (by simp[results,results24,go_sem]) rfl ⟨rfl,?_⟩;exact((ai _ w).alloc cJ _).alloc I _
def aiF(p:Nat)(R:Bool×Nat×List Int):∃(t:Int) (x:Bz),He p R= B6 #[M Q 4,M Q p,M Q t,M Q 0,M Q 0,A0 x]:=by
 unfold He;split<;>exact⟨_,_,rfl⟩
def EH(s:Bz)(x:s.size<=70000)(p:Nat)(m:p<s.size)(u:ae s p=34)(w:A6):Ck Br 24 #[A0 s,M Q p] w λe A=>e= B0 (B2 #[He p (bC s (s.size+1) (p+1) []),M Q (aae (bC s (s.size+1) (p+1) []))])/\B1 w.heap.size w A:=by
 have n:=λw=>dx m w;have q:=λw=>lp (c:=34) (b:=A2) Z w;have o:=λw=>eG (c:=34) (b:=A2) Z w;have a:=λw=>Jk s x p m w;generalize bC s (s.size+1) (p+1) []=f at a;have⟨z,C,i⟩:=aiF p f;rw[i]at a⊢;generalize aae f=r at a;rw[u]at n;clear i;go_in;go_wp2_with (first|(go_at_call 50;refine eE (q _) ?_)|(go_at_call 52;refine eE (o _) ?_));generalize j:(w.alloc _).alloc _=t;obtain⟨g, -,h,y⟩:=Da j;have k:dL w.heap.size t 0 0 0 0 0 ⟨#[]⟩:=g;clear j g;refine dm (a _) λB d=>?_;have l:=k.below d O;have L:=h.trans (d.mono O);clear d k h y a q o n;have⟨z0,E,F,G,H,K,af⟩:=aE l;have ad:w.heap.size<B.heap.size:=ah l;go_wp2;refine aD (v:= B2 #[B6 #[M Q 4,M Q p,M Q z,M Q 0,M Q 0,A0 C],M Q r]) (by simp[results,results24,go_sem,z0,E,F,G,H,K]) rfl ⟨rfl,?_⟩
 iterate 6 refine gh ?_ I _
 omega
structure aem (q:Bz->Bool) (f k:Nat) (R:Option Nat):Prop where
 out:vq q f k=R
def ar2(p:Nat)(R:Option Nat):A5:=match R with
 |some a=> B2 #[B6 #[M Q (yq (bq ju a)),M Q p,M Q ((p:Int)+((bq ju a).size:Int)),M Q 0,M Q 0,A0 ⟨#[]⟩],M Q (-1)]
 |none=> B2 #[B6 #[M Q 0,M Q p,M Q 0,M Q 0,M Q 0,A0 ⟨#[]⟩],M Q p]
def apq:∀k:Fin 30,(bq ju k.val).size<=3:=Z
theorem EI(s:Bz)(bv:s.size<=70000)(p:Nat)(a3:p<s.size)(av:¬ae s p=10)(af:aJ (ae s p)=A2)(L:aC (ae s p)=A2)(aL:¬ae s p=34)(w:A6):
  Ck Br 24 #[A0 s,M Q p] w λe a4=>e= B0 (ar2 p (vq (λx=>Y (s.extract p s.size).data.toList x.data.toList) 30 0))/\B1 w.heap.size w a4:=by
 have ao:=λw=>dx a3 w;have F:(ae s p==10)=A2:=U;have G:(ae s p==34)=A2:=U;have C:=λw=>lp af w;have B:=λw=>eG L w;have bw:(p:Int)<(s.size:Int):=O;generalize ae s p=bh at ao F G C B;obtain⟨c,u⟩:∃c:Bz->Bool,(λx=>Y (s.extract p s.size).data.toList x.data.toList)=c:=⟨_,rfl⟩;have ak:∀x,c x=decide (p+x.size<=s.size/\((s.extract p (p+x.size)).toList==x.toList)=X):=λx=>by rw[<-u];exact amh s x p O
 rw[u];have⟨n,r⟩:=aw (vq c 30 0);rw[r];have E:aem c 30 0 n:=⟨r⟩;have ap:=aj ak;clear r u ak av af L aL;go_in;go_wp2_with (first|(go_at_call 50;refine eE (C _) ?_)|(go_at_call 52;refine eE (B _) ?_));generalize K:(w.alloc _).alloc _=f;obtain⟨j,i,q, -⟩:=Da K;replace j:dL w.heap.size f 0 0 0 0 0 ⟨#[]⟩:=j;replace i:dL (w.heap.size+1) f 0 p 0 0 0 ⟨#[]⟩:=i;clear K;refine dm (vB f) λd l=>?_;have o:dL (w.heap.size+1) d 0 p 0 0 0 ⟨#[]⟩:=by rw[l];exact(dG _ _ _ (ah i)).trans i
 have t:dL w.heap.size d 0 0 0 0 0 ⟨#[]⟩:=by rw[l];exact(dG _ _ _ (ah j)).trans j
 have H:B1 w.heap.size w d:=by rw[l];exact q.alloc q.size _
 have a0:d.heap[f.heap.size]?=A3 (B3 ju 9 (0,0)):=by rw[l];exact ay f _
 clear l i j q C B ao F G;go_wp2_with fail;have⟨bE,b0,b1,b2,b3,b4,b5⟩:=aE o;have⟨z0,bb,bc,bd,bf,bg,b8⟩:=aE t;have am:w.heap.size<d.heap.size:=ah t;have an:w.heap.size+1<d.heap.size:=ah o;go_loop [45,9] (λA _=>∃a:Nat,a<=30/\A= M Q a/\aem c (30-a) a n) (λA _=>30-(B5 A).toNat)
 case atStart=>grind
 case round=>
  obtain⟨a,bt,rfl,m⟩:=hrel;by_cases ag:a<30
  .have a1:d.cell? ⟨f.heap.size,a,A9⟩=A3 (A0 (bq ju a)):=by rw[au _ _ _ _ _ _ a0];exact aby ⟨a,ag⟩
   have b:=m.out;rw[(O:30-a=(30-(a+1))+1),vq,ap.out]at b;have al:=apq ⟨a,ag⟩;simp only at al;have⟨x,y⟩:=aw (bq ju a);rw[y]at a1 b al;have ar:=aj y;clear y m E;by_cases ad:p+x.size<=s.size
   .have a2:(x.size:Int)<=(s.size:Int)-(p:Int):=O;have bs:(p:Int)+(x.size:Int)<=(s.size:Int):=O;by_cases z:((s.extract p (p+x.size)).toList==x.toList)=X
    .rw[ab (dB ⟨ad,z⟩)]at b;have g:=aj b;clear b;go_wp2_with (go_at_call 56;refine(yr x _).mono ?_;rintro e b6 ⟨rfl,k⟩;obtain⟨bj,bk,bl,bn,bo,bp,br⟩:=aE (o.below k an);obtain⟨a5,a6,a7,a8,a9,ba,b7⟩:=aE (t.below k am);have bA:=gF am k.size;have bD:=gF an k.size);refine aD (v:= B2 #[B6 #[M Q (yq x),M Q p,M Q ((p:Int)+(x.size:Int)),M Q 0,M Q 0,A0 ⟨#[]⟩],M Q (-1)]) (by simp[results,results24,go_sem,a5,a6,a7,a8,a9,ba]) rfl ⟨by rw[<-g.out];have h:=ar.out;subst h;rfl,?_⟩
     iterate 8 refine gh ?_ I _
     exact H.trans (k.mono H.size)
    .have bx:((s.extract p (p+x.size)).toList==x.toList)=A2:=U;rw[aa (λh=>z (be h).2)]at b;have g:aem c (30-(a+1)) (a+1) n:=⟨b⟩;clear b z;go_wp2;go_round
     case rel=>grind
     case measure=>simp[B5];omega
   .have a2:¬(x.size:Int)<=(s.size:Int)-(p:Int):=O;rw[aa (λh=>ad (be h).1)]at b;have g:aem c (30-(a+1)) (a+1) n:=⟨b⟩;clear b;go_wp2;go_round
    case rel=>grind
    case measure=>simp[B5];omega
  .obtain rfl:a=30:=O;have g:=aj m.out;clear m E;go_wp2_with fail;refine aD (v:= B2 #[B6 #[M Q 0,M Q p,M Q 0,M Q 0,M Q 0,A0 ⟨#[]⟩],M Q (p:Int)]) (by simp[results,results24,go_sem,z0,bb,bc,bd,bf,bg]) rfl ⟨by rw[<-g.out];rfl,?_⟩
   iterate 6 refine gh ?_ I _
   omega
structure ar3 (R:Rd) (k t n:Int) (x:Bz) (bad:Int):Prop where
 yes:R.ok=X->bad= -1/\k=R.k/\t=(R.a:Int)/\n=R.n/\x=R.x/\R.d=(if R.k=7 then 1 else 0)
 no:R.ok=A2->bad=(R.a:Int)
theorem ar4(s:Bz)(p:Nat):(vK s p).1≠7:=by
 unfold vK;grind
theorem ar5(s:Bz)(p:Nat):(th s p).1≠7:=by
 unfold th;grind
theorem acn(s:Bz)(m:s.size<=70000)(p:Nat)(f:p<s.size)(w:A6):
  Ck Br 24 #[A0 s,M Q p] w λe c=>∃k t n x o,e= B0 (B2 #[B6 #[M Q k,M Q p,M Q t,M Q 0,M Q n,A0 x],M Q o])/\ar3 (rdI s p) k t n x o/\B1 w.heap.size w c:=by
 unfold rdI;by_cases l:aJ (ae s p)=X
 .rw[ab l];refine dm (BH s O p f l w) λc b=>?_;rw[arC];exact⟨_,_,_,_,_,rfl,⟨λ_=>⟨rfl,rfl,rfl,rfl,rfl,by simp only;rw[aa (ar4 s p)]⟩,λa=>by cases a⟩,b⟩
 rw[aa l];by_cases j:aC (ae s p)=X
 .rw[ab j];refine dm (yx s O p f j w) λc b=>?_;cases hok:(ci s p).2 with
  |true=>
   have⟨d,q⟩:=ao2 s p hok;rw[d,q,ab rfl];exact⟨_,_,_,_,_,rfl,⟨λ_=>⟨rfl,rfl,rfl,rfl,rfl,by simp only;rw[aa (ar5 s p)]⟩,λa=>by cases a⟩,b⟩
  |false=>
   have⟨k,t,n,x,d⟩:=adH s p;rw[d,LD s p hok,aa I];exact⟨_,_,_,_,_,rfl,⟨λa=>U,λa=>rfl⟩,b⟩
 rw[aa j];by_cases g:ae s p=34
 .rw[ab g];refine dm (EH s m p f g w) λc b=>?_;generalize bC s (s.size+1) (p+1) []=i;obtain⟨y,z,A⟩:=i;cases y with
  |true=>exact⟨_,_,_,_,_,rfl,⟨λ_=>⟨rfl,rfl,rfl,rfl,rfl,rfl⟩,λa=>by cases a⟩,b⟩
  |false=>exact⟨_,_,_,_,_,rfl,⟨λa=>(by cases a),λa=>rfl⟩,b⟩
 rw[aa g];have C:ae (s.extract p s.size) 0=ae s p:=eu s p s.size 0 cJ;by_cases r:ae s p=10
 .have v:lH (s.extract p s.size)=7:=by unfold lH;omega
  rw[v,aa Z];refine dm (age s m p f r w) λc b=>?_;exact⟨_,_,_,_,_,rfl,⟨λ_=>⟨rfl,rfl,rfl,rfl,rfl,rfl⟩,λa=>by cases a⟩,b⟩
 .have h:=xx (s.extract p s.size) O;unfold wn at h;refine dm (EI s m p f r U U g w) λc b=>?_;generalize vq (λx=>Y (s.extract p s.size).data.toList x.data.toList) 30 0=i at h;cases i with
  |none=>
   rw[show lH (s.extract p s.size)=0 from h,ab rfl];exact⟨_,_,_,_,_,rfl,⟨λa=>(by cases a),λa=>rfl⟩,b⟩
  |some E=>
   obtain⟨d,q,u,B⟩:=(show _/\_/\_/\_ from h);rw[aa u];refine⟨_,_,_,_,_,rfl,⟨λ_=>⟨rfl,d.symm,?_,rfl,rfl,rfl⟩,λa=>by cases a⟩,b⟩;grind
structure apr (s:Bz) (f k e:Nat):Prop where
 out:gB Ct s f k=e
structure aen (s:Bz) (f k e:Nat):Prop where
 out:blk s f k=e
theorem jJ(s:Bz)(ar:s.size<=1100000)(p:Nat)(a7:p<=s.size)(w:A6):Ck Br 23 #[A0 s,M Q p] w λe aL=>e= B0 (M Q (blk s (s.size+1) p))/\aL=w:=by
 have⟨r,B⟩:=aw (blk s (s.size+1) p);rw[B];have a0:aen s (s.size+1) p r:=⟨B⟩;clear B;go_in;go_wp2;go_loop [1,5] (λj a1=>∃(a d:Nat),a<=s.size/\s.size<a+d/\j= M Q a/\aen s d a r) (λj _=>s.size-(B5 j).toNat)
 case atStart=>grind
 case round=>
  obtain⟨a,d,ap,a2,rfl,m⟩:=hrel;obtain⟨d,rfl⟩:∃g,d=g+1:=⟨d-1,O⟩;have b:=m.out;rw[blk]at b;by_cases K:a<s.size
  .have a6:(a:Int)<(s.size:Int):=O;rw[aa O]at b;have o:=λw=>dx K w;have v:=gI K;by_cases i:ic (ae s a)=X
   .rw[ab i]at b;have f:aen s d (a+1) r:=⟨b⟩;have l:ae s a=32\/ae s a=9\/ae s a=13:=be i;generalize ae s a=F at o l v;clear b m i;rcases l with rfl|rfl|rfl;all_goals
     go_wp2;go_round
     case rel=>grind
     case measure=>simp[B5];omega
   .rw[aa i]at b;have l:¬(ae s a=32\/ae s a=9\/ae s a=13):=λA=>i (dB A);have x:(ae s a==32)=A2:=U;have y:(ae s a==9)=A2:=U;have z:(ae s a==13)=A2:=U;have q:=λw=>iw s ar ((a:Int)+1) (a+1) O w;have n:=vF s (a+1) 45;by_cases h:ae s a=45/\ae s (a+1)=45
    .rw[ab h]at b;have f:aen s d (vh s a) r:=⟨b⟩;rw[h.2]at n;have H:lk s (a+1)=45:=U;have an:=pK s a h.1;have ao:=pj s a ap;rw[h.1]at o;rw[H]at q;have ag:apr s (s.size+1) a (vh s a):=⟨rfl⟩;generalize vh s a=E at f an ao ag;clear b m i l x y z n H h v;go_wp2_with (go_at_call 49;refine eE (q _) ?_);go_loop [1] (λj=>∃(c g:Nat),c<=s.size/\s.size<c+g/\j= M Q c/\apr s g c E) (λj=>s.size-(B5 j).toNat)
     case atStart=>grind
     case round=>
      obtain⟨c,g,a4,a3,rfl,C⟩:=hrel;obtain⟨g,rfl⟩:∃av,g=av+1:=⟨g-1,O⟩;have b:=C.out;rw[gB]at b;clear o C;by_cases G:c<s.size
      .have a5:(c:Int)<(s.size:Int):=O;have ad:=λw=>dx G w;have af:=gI G;by_cases t:ae s c=10
       .rw[aa (by rw[t];decide)]at b;rw[t]at ad;have k:=aj b;clear b t af;go_wp2;go_round
        case rel=>exact⟨c,d,O,by have:=k.out;omega,by go_num,by rw[k.out];exact f⟩
        case measure=>have:=k.out;simp[B5];omega
       .rw[ab (by unfold Ct;grind)]at b;have k:apr s g (c+1) E:=⟨b⟩;have ak:(ae s c==10)=A2:=U;generalize ae s c=F at ad ak;clear b t af;go_wp2;go_round
        case rel=>grind
        case measure=>simp[B5];omega
      .obtain rfl:c=s.size:=O;rw[aa (by rw[di (Nat.lt_irrefl _)];decide)]at b;have k:=aj b;clear b;go_wp2;go_round
       case rel=>exact⟨s.size,d,O,O,by go_num,by rw[k.out];exact f⟩
       case measure=>simp[B5];omega
    .rw[aa h]at b;have f:=aj b;clear b m;by_cases u:ae s a=45
     .have L:ae s (a+1)≠45:=λA=>h ⟨u,A⟩;rw[aG L]at n;rw[u]at o;generalize lk s (a+1)=a8 at q n;clear i l x y z h v L u;go_wp2_with (go_at_call 49;refine eE (q _) ?_);go_ret;exact⟨by rw[<-f.out];rfl,rfl⟩
     .have al:(ae s a==45)=A2:=U;have am:(ae s a !=45)=X:=U;generalize ae s a=F at o x y z al am;clear i l h v u q n;go_wp2;go_ret;exact⟨by rw[<-f.out];rfl,rfl⟩
  .obtain rfl:a=s.size:=O;rw[ab cJ]at b;have f:=aj b;clear b m;go_wp2;go_ret;exact⟨by rw[<-f.out];rfl,rfl⟩
def od(s:Bz)(p:Nat):Int:=if aC (ae s p)=X then(if ae s p=48/\ae s (p+1)=120 then 2 else 3) else if ae s p=34 then 4 else 0
theorem aiG(s:Bz)(p:Nat)(h:(ci s p).2=A2):∃(t n:Int) (x:Bz),Cn s p= B6 #[M Q (if ae s p=48/\ae s (p+1)=120 then 2 else 3),M Q p,M Q t,M Q 0,M Q n,A0 x]:=by
 unfold Cn;unfold ci at h;by_cases a:ae s p=48/\ae s (p+1)=120
 .rw[ab a]at h;rw[ab a,ab a];unfold hxA
  simp_all
 .rw[aa a]at h;rw[aa a,aa a];unfold nmA
  simp_all
def gD(s:Bz)(p:Nat):Int:=if(rdI s p).ok=X then(rdI s p).k else od s p
theorem aiH(V:Array A5)(s:Bz):∀(f k j:Nat),zj V s f k=A3 j->j<k+f
 |0,k,j,h=>by simp[zj]at h
 |f+1,k,j,h=>by
  rw[zj]at h;split at h
  .grind
  .have:=aiH V s f (k+1) j h;omega
theorem wo(s:Bz)(p:Nat)(h:(rdI s p).ok=X):1<=(rdI s p).k/\(rdI s p).k<=78:=by
 unfold rdI at h⊢;split
 .simp only;unfold vK;cases hf:zj fG (s.extract p (mh s (s.size+1) p)) 22 0 with
  |none=>simp
  |some k=>have:=aiH _ _ _ _ _ hf;grind
 split
 .split
  .simp only;unfold th;grind
  grind
 split
 .grind
 split
 .grind
 .rename_i a b c d;have:=aic (s.extract p s.size);grind
def Jq(s:Bz)(p:Nat):0<=od s p/\od s p<=4:=by
 unfold od;omega
theorem yG(s:Bz)(l:s.size<=70000)(p:Nat)(g:p<s.size)(w:A6):
  Ck Br 24 #[A0 s,M Q p] w λe f=>∃t n x i,e= B0 (B2 #[B6 #[M Q (gD s p),M Q p,M Q t,M Q 0,M Q n,A0 x],M Q i])/\ar3 (rdI s p) (gD s p) t n x i/\B1 w.heap.size w f:=by
 cases hok0:(rdI s p).ok with
 |true=>
  refine(acn s l p g w).mono ?_;rintro e f ⟨ad,t,n,x,i,rfl,a,b⟩;obtain⟨_,rfl,_⟩:=a.yes hok0;have e:gD s p=(rdI s p).k:=by unfold gD;grind
  grind
 |false=>
  have v:gD s p=od s p:=by unfold gD;grind
  rw[v];have d:=hok0;unfold rdI at d;have B:¬aJ (ae s p)=X:=λa=>U;rw[aa B]at d;by_cases k:aC (ae s p)=X
  .rw[ab k]at d;have o:(ci s p).2=A2:=by
    grind
   refine dm (yx s O p g k w) λf b=>?_;have⟨t,n,x,y⟩:=aiG s p o;have c:od s p=(if ae s p=48/\ae s (p+1)=120 then 2 else 3):=by unfold od;grind
   rw[y,c,LD s p o];refine⟨_,_,_,_,rfl,⟨λa=>U,λa=>?_⟩,b⟩;unfold rdI;grind
  .rw[aa k]at d;by_cases j:ae s p=34
   .have c:od s p=4:=by unfold od;grind
    rw[c];refine dm (EH s l p g j w) λf b=>?_;have h:(rdI s p).ok=(bC s (s.size+1) (p+1) []).1/\(rdI s p).a=(bC s (s.size+1) (p+1) []).2.1:=by
     unfold rdI;grind
    rw[hok0]at h;generalize F:bC s (s.size+1) (p+1) []=r at h;obtain⟨af,C,E⟩:=r;simp only at h;obtain⟨z,A⟩:=h;subst z;refine⟨_,_,_,_,rfl,⟨λa=>U,λa=>?_⟩,b⟩;rw[A];rfl
   .rw[aa j]at d;have c:od s p=0:=by unfold od;grind
    rw[c];have K:lH (s.extract p s.size)=0:=by
     grind
    have G:ae (s.extract p s.size) 0=ae s p:=eu s p s.size 0 cJ;have m:¬ae s p=10:=λm=>by
     have H:lH (s.extract p s.size)=7:=by unfold lH;omega
     omega
    have q:=xx (s.extract p s.size) O;unfold wn at q;refine dm (EI s l p g m U U j w) λf b=>?_;generalize vq (λx=>Y (s.extract p s.size).data.toList x.data.toList) 30 0=u at q;cases u with
    |none=>
     refine⟨_,_,_,_,rfl,⟨λa=>U,λa=>?_⟩,b⟩;unfold rdI;grind
    |some L=>
     omega
def pc(st:List Int)(k:Int):List Int×Bool:=if 0<k then feedL st k else(st,A2)
def wlk(s:Bz):Nat->List Int->Nat->Int->List Tk->List Tk×List Int×Int
 |0,st,_,_,_=>([],st,0)
 |f+1,st,p,l,b=>
  if s.size<=p then(b++[⟨6,(s.size:Nat),(s.size:Nat),l,0,⟨#[]⟩⟩],st, -1)
  else if gD s p=7 then
   (if(feedL st 5).2=X then wlk s f (feedL st 5).1 (blk s (s.size+1) (rdI s p).a) (l+1) (b++[⟨5,(p:Nat),((rdI s p).a:Nat),l,(rdI s p).n,(rdI s p).x⟩]) else wlk s f st (blk s (s.size+1) (rdI s p).a) (l+1) b)
  else if(pc st (gD s p)).2=X then
   (if(rdI s p).ok=X then wlk s f (feedL st (gD s p)).1 (blk s (s.size+1) (rdI s p).a) l (b++[⟨gD s p,(p:Nat),((rdI s p).a:Nat),l,(rdI s p).n,(rdI s p).x⟩]) else([],st,((rdI s p).a:Nat)))
  else([],st,(wrongF s p (jH st):Nat))
def jn(s:Bz):List Tk×List Int×Int:=wlk s (s.size+1) [100,6] (blk s (s.size+1) 0) 1 []
structure atu (s:Bz) (f:Nat) (st:List Int) (p:Nat) (l:Int) (out:List Tk) (R:List Tk×List Int×Int):Prop where
 out:wlk s f st p l out=R
def Bj(s:Bz)(p:Nat):0<=gD s p/\gD s p<=78:=by
 unfold gD;split
 .rename_i a;have:=wo s p a;omega
 .have:=Jq s p;omega
theorem Cz(s:Bz)(p:Nat)(h:gD s p=7):(rdI s p).ok=X/\(rdI s p).k=7:=by
 unfold gD at h;split at h
 .grind
 .have:=Jq s p;omega
inductive Fd:List Int->List Tk->List Int->Prop where
 |nil {st:List Int}:Fd st [] st
 |cons {st:List Int}{T:Tk}{ts:List Tk}{st':List Int}:1<=T.k->T.k<=78->T.k≠6->(feedL st T.k).2=true->Fd (feedL st T.k).1 ts st'->Fd st (T::ts) st'
theorem aco(V:Array A5)(base:Int)(r:Bz)(b:40<=base):∀(f i:Nat)(a:Int×Nat),a.1≠6->(xG V base r f i a).1≠6
 |0,i,a,h=>h
 |f+1,i,a,h=>by
  unfold xG;refine aco V base r b f (i+1) _ ?_;grind
theorem ami(s:Bz)(p:Nat)(h:(rdI s p).ok=X):gD s p≠6:=by
 unfold gD;rw[ab h];unfold rdI at h⊢;split
 .simp only;unfold vK;grind
 split
 .split
  .simp only;unfold th;grind
  grind
 split
 .grind
 split
 .grind
 .simp only;unfold lH;split
  .omega
  split
  .omega
  .exact aco _ _ _ O _ _ _ (aco _ _ _ O _ _ _ I)
theorem EJ(s:Bz):∀(f:Nat)(st:List Int)(p:Nat)(l:Int)(i:List Tk)(b:List Tk)(c:List Int),wlk s f st p l i=(b,c, -1)->∃ts d,b=i++ts++[⟨6,(s.size:Nat),(s.size:Nat),d,0,⟨#[]⟩⟩]/\Fd st ts c
 |0,st,p,l,i,b,c,h=>by simp[wlk]at h
 |f+1,st,p,l,i,b,c,h=>by
  rw[wlk]at h;split at h
  .simp only[pA]at h;exact⟨[],l,U,by rw[<-h.2.1];exact .nil⟩
  split at h
  .split at h
   .rename_i g;obtain⟨ts,d,e,j⟩:=EJ s f _ _ _ _ b c h;exact⟨⟨5,(p:Nat),((rdI s p).a:Nat),l,(rdI s p).n,(rdI s p).x⟩::ts,d,U,.cons U U U g j⟩
   .exact EJ s f _ _ _ _ b c h
  split at h
  .rename_i o g;split at h
   .rename_i m;have⟨r,t⟩:=wo s p m;have q:gD s p=(rdI s p).k:=by unfold gD;grind
    rw[show pc st (gD s p)=feedL st (gD s p) by unfold pc;grind]at g;obtain⟨ts,d,e,j⟩:=EJ s f _ _ _ _ b c h;exact⟨⟨gD s p,(p:Nat),((rdI s p).a:Nat),l,(rdI s p).n,(rdI s p).x⟩::ts,d,U,.cons U U (ami s p m) g j⟩
   grind
  grind
theorem an6{ts:List Tk}(h:Fd st ts st'):∀{T:Tk},T∈ts->1<=T.k/\T.k<=78/\T.k≠6:=by
 induction h with
 |nil=>grind
 |cons a b c d e f=>
  grind
def zTk:Tk:=⟨0,0,0,0,0,⟨#[]⟩⟩
def xy(ts:List Tk)(q:Nat):Tk:=ts.getD q zTk
theorem EK{ts:List Tk}{q:Nat}{T:Tk}(h:ts[q]?=A3 T):xy ts q=T:=by unfold xy;grind
def amj:(Tryz.prog.info? 48).map (λi=>(i.zero,i.size,i.bytes))=A3 (A3 (B6 #[M Q 0,M Q 0,M Q 0,M Q 0,M Q 0,A0 ⟨#[]⟩]),6,56):=J
theorem EL{d:A6}{o:Obj}{size:Nat}(i:W.ownsRow base e size v n xs)(h:(W.alloc o).grownBy d v.ownBlock){k:Nat}{cs:Array A5}{t:D3}{fr:Nat×Nat}(c:W.heap[k]?=A3 (B3 cs t fr))(ht:t≠e):d.heap[k]?=A3 (B3 cs t fr):=by
 refine(h.block k (by simp;grind) (λf=>?_)).trans ((dG _ _ _ (ah c)).trans c);have a:v.ownBlock=A3 k:=f.symm;rcases i.2 with⟨b,_⟩|⟨g,j,l,b,_,m,_⟩
 .rw[b]at a;simp[C2]at a
 .rw[b]at a;obtain rfl:g=k:=by simpa [C2] using a
  grind
theorem sj.app{d:A6}{o:Obj}{mb:Nat}(h:sj W base mb C){f size:Nat}(b:W.ownsRow f e size v n xs)(a:(W.alloc o).grownBy d v.ownBlock)(k:66≠e)(l:76≠e):sj d base mb C:=by
 have⟨u,r,s,c⟩:=h.ex;refine⟨⟨u,EL b a r k,s,?_⟩,h.lo⟩;rcases c with c|⟨j,g,i,q,p,m,t⟩
 .grind
 .exact .inr ⟨j,g,i,q,p,EL b a m l,t⟩
theorem sj.other{mb b:Nat}(h:sj W base mb C){cs:Array A5}{t:D3}{fr:Nat×Nat}(y:W.heap[b]?=A3 (B3 cs t fr))(o:t≠66)(p:t≠76)(j:Nat)(v:A5):sj (W.setCell ⟨b,j,A9⟩ v) base mb C:=by
 have⟨w,c,s,f⟩:=h.ex;have e:∀{d:Nat}{k:Array A5}{g:D3}{m:Nat×Nat},W.heap[d]?=A3 (B3 k g m)->t≠g->d≠b:=λz A x=>by
  grind
 refine⟨⟨w,(az _ _ _ _ (e c o)).trans c,s,?_⟩,h.lo⟩;rcases f with f|⟨n,i,l,r,q,a,u⟩
 .grind
 .exact .inr ⟨n,i,l,r,q,(az _ _ _ _ (e a p)).trans a,u⟩
theorem E3{size b:Nat}(h:W.ownsRow base e size v n xs)(c:∀g,v.ownBlock=A3 g->g<b)(j:Nat)(u:A5):(W.setCell ⟨b,j,A9⟩ u).ownsRow base e size v n xs:=by
 refine h.kept (row:=A3 b) ⟨rfl,rfl,rfl,byS,λf d a=>az _ _ _ _ (λe=>a (by rw[e]))⟩ ?_;grind
structure acp (w:A6) (base mb:Nat) (s:Bz) (R:List Tk×List Int×Int) (p:Nat) (st:List Int) (top:Int) (C:List (Int×Int)) (l:Int) (out:List Tk) (f:Nat) (vo:A5) (W:A6):Prop where
 m:sj W base mb C
 sk:kH C top st
 o:yu st
 bl:B1 base w W
 row:W.ownsRow base 48 6 vo (Ax out) (AJ out)
 eq:wlk s f st p l out=R
 cl:2<=Ax C/\Ax C<=2+20*p
 ol:Ax out<=p
 l0:1<=l/\l<=(p:Int)+1
def acp.below{w:A6}{mb:Nat}{R:List Tk×List Int×Int}{d:Int}{l:Int}{c:List Tk}{f:Nat}{e:A5}{b:A6}(h:acp w base mb s R p st d C l c f e W)(a:B1 W.heap.size W b)(g:base<=W.heap.size):acp w base mb s R p st d C l c f e b:=
 ⟨h.m.below a,h.sk,h.o,h.bl.trans (a.mono g),bz h.row a,h.eq,h.cl,h.ol,h.l0⟩
def aan(w:A6)(base mb:Nat)(s:Bz)(R:List Tk×List Int×Int)(e:Ending)(b:A6):Prop:=
 ∃(a:Option Addr) (c:Nat) (d:Int) (C:List (Int×Int)),e= B0 (B2 #[Ce a (Ax R.1) c,M Q d,M Q R.2.2])/\b.ownsRow base 48 6 (Ce a (Ax R.1) c) (Ax R.1) (AJ R.1)/\sj b base mb C/\kH C d R.2.1/\yu R.2.1/\B1 base w b/\2<=Ax C/\Ax C<=2000000
def CA:List Int:=[-1,32,9,13,10,41,93,125,44,59]
structure Ag (T:Bz) (p:Nat) (x:Bz):Prop where
 at_:∀i,i<x.size->ae T (p+i)=ae x i
 le:p+x.size<=T.size
 bl:ae T (p+x.size)∈CA
section
variable {T x : Bz} {p : Nat}
theorem eA(T:Bz)(q i:Nat):ae (T.extract q T.size) i=ae T (q+i):=by
 rcases aH (q+i) T.size with g|g
 .simp_all [eu,ix]
 .rw[di (i:=q+i) O,di (by simp_all [ey,ix];omega)]
def Ag.q(h:Ag T p x)(q:Int->Bool)(a:∀c∈CA,q c=A2)(b:q (-1)=A2)(d:i<=x.size):q (ae T (p+i))=q (ae x i):=by
 rcases aH i x.size with g|g
 .rw[h.at_ i g]
 .obtain rfl:i=x.size:=O;rw[a _ h.bl,di,b]
theorem Ag.eq(h:Ag T p x)(d:c ∉ CA)(g:c≠ -1)(e:i<=x.size):ae T (p+i)=c↔ae x i=c:=by
 have:=h.q (λa=>decide (a=c)) (λa f=>aG λb=>d (b ▸ f)) U e;grind
def yH{a b:Bz}(f:a.size=b.size)(h:∀i,i<a.size->ae a i=ae b i):a=b:=by
 apply mq;refine Array.ext f (λi d e=>?_);have c:=h i d;unfold ae at c;rw[pG (show i<a.size from d),pG (show i<b.size from e)]at c;exact UInt8.toNat_inj.1 (Int.ofNat_inj.1 c)
def Ag.ext(h:Ag T p x){b:Nat}(c:b<=x.size):T.extract (p+a) (p+b)=x.extract a b:=by
 have i:=h.le;have e:=ey T (p+a) (p+b) O;have f:=ey x a b c;refine yH O (λd g=>?_);rw[eu T _ _ d O,eu x a b d c,eH,h.at_ _ O]
theorem oB(q:Int->Bool)(s:Bz):∀(n f p:Nat),(∀i,i<n->q (ae s (p+i))=X)->q (ae s (p+n))=A2->n<f->gB q s f p=p+n
 |n,0,p,_,_,h=>O
 |0,f+1,p,a,b,_=>by simp_all [gB,aa]
 |n+1,f+1,p,a,b,h=>by
  rw[gB,ab (by have:=a 0 O;omega)];rw[oB q s n f (p+1) (λi c=>U) U O];omega
theorem Ag.run(h:Ag T p x)(q:Int->Bool)(g:∀c∈CA,q c=A2)(d:q (-1)=A2)(j:a<=x.size):gB q T (T.size+1) (p+a)=p+gB q x (x.size+1) a:=by
 have e:=kF q d x (x.size+1) a j;have i:=jx q x (x.size+1) a;have f:=jy q d x (x.size+1) a O;have m:=h.le;obtain⟨b,k⟩:∃b,gB q x (x.size+1) a=b:=⟨_,rfl⟩;rw[k]at e i f⊢;rw[oB q T (b-a) (T.size+1) (p+a) (λn l=>by rw[eH,h.q q g d O];grind) (by rw[eH,(O:a+(b-a)=b),h.q q g d e.2];exact f) O];omega
theorem oC(s:Bz):∀f p,mh s f p=gB (λc=>aJ c||aC c) s f p
 |0,p=>rfl
 |f+1,p=>by
  rw[mh,gB,oC s f (p+1)];grind
def Ag.nm(h:Ag T p x)(c:a<=x.size):mh T (T.size+1) (p+a)=p+mh x (x.size+1) a:=by
 rw[oC,oC];exact h.run (λb=>aJ b||aC b) Z Z c
def Ag.dig(h:Ag T p x)(b:a<=x.size):lg T (p+a)=p+lg x a:=h.run aC Z Z b
def Ag.hx(h:Ag T p x)(b:a<=x.size):uH T (p+a)=p+uH x a:=h.run jo Z Z b
theorem Ag.a0(h:Ag T p x)(f:a<x.size):nA0 T (p+a)=p+nA0 x a:=by
 unfold nA0;have d:=h.eq (c:=48) Z Z (fs f);by_cases b:ae x a=48
 .grind
 .rw[aa (λe=>b (d.1 e)),aa b,eH,h.dig O]
theorem Ag.a1(h:Ag T p x)(g:a<=x.size):nA1 T (p+a)=p+nA1 x a:=by
 unfold nA1;have f:=h.eq (c:=46) Z Z g;by_cases b:ae x a=46
 .have d:a+1<=x.size:=aF b;have e:=h.q aC Z Z d;rw[<-eH]at e;by_cases i:aC (ae x (a+1))=X
  .rw[ab ⟨f.2 b,U⟩,ab ⟨b,i⟩,eH,h.dig d]
  grind
 grind
theorem Ag.ex(h:Ag T p x)(j:a<=x.size):mu T (p+a)=(p+(mu x a).1,(mu x a).2):=by
 unfold mu;have f:=h.eq (c:=101) Z Z j;by_cases b:ae x a=101
 .have e:a+1<=x.size:=aF b;have g:=h.eq (c:=43) Z Z e;have i:=h.eq (c:=45) Z Z e;rw[<-eH]at g i;have d:nA2 T (p+a)=p+nA2 x a/\nA2 x a<=x.size:=by
   have z0:=@aF;grind [nA2,ae]
  rw[ab (f.2 b),ab b,d.1,h.dig d.2];simp
 grind
def Ag.x2(h:Ag T p x)(b:a<x.size):(ae T (p+a)=48/\ae T (p+a+1)=120)↔(ae x a=48/\ae x (a+1)=120):=by
 rw[h.eq (c:=48) Z Z (fs b),eH,h.eq (c:=120) Z Z (show a+1<=x.size from b)]
theorem Ag.num(h:Ag T p x)(c:a<x.size):ci T (p+a)=(p+(ci x a).1,(ci x a).2):=by
 unfold ci;by_cases b:ae x a=48/\ae x (a+1)=120
 .rw[ab b,ab ((h.x2 c).2 b)];unfold lh;have:=aF b.2;have e:=h.hx (O:a+2<=x.size);rw[<-eH]at e;rw[e];grind
 .rw[aa b,aa (λg=>b ((h.x2 c).1 g)),h.a0 c];have d:=uj x a c;have f:=uk x (nA0 x a) d.2;rw[h.a1 d.2,h.ex f.2]
theorem Ag.kd(h:Ag T p x)(d:a<x.size):F8 T (p+a)=F8 x a:=by
 unfold F8;have b:=uj x a d;have e:=uk x (nA0 x a) b.2;rw[h.a0 d,h.a1 b.2];have f:=h.eq (c:=46) Z Z b.2;have g:=h.eq (c:=101) Z Z e.2;refine decide_eq_decide.2 ?_;rw[f,g];by_cases i:ae x (nA0 x a)=46
 .have j:=h.q aC Z Z (show nA0 x a+1<=x.size from aF i);grind
 omega
def Ag.dc(h:Ag T p x)(a:Nat):∀n,a+n<=x.size->qu T (p+a) n=qu x a n
 |0,_=>rfl
 |n+1,hn=>by rw[qu,qu,h.dc a n O,eH,h.at_ (a+n) O]
def Ag.hv(h:Ag T p x)(a:Nat):∀n,a+n<=x.size->tF T (p+a) n=tF x a n
 |0,_=>rfl
 |n+1,hn=>by rw[tF,tF,h.hv a n O,eH,h.at_ (a+n) O]
def Ag.nu(h:Ag T p x)(c:a<x.size):th T (p+a)=th x a:=by
 unfold th;have e:=kG x a c;rw[h.num c,h.kd c];obtain⟨b,f⟩:∃b,(ci x a).1=b:=⟨_,rfl⟩;simp only[f]at e⊢;by_cases d:ae x a=48/\ae x (a+1)=120
 .rw[ab d,ab ((h.x2 c).2 d),(O:p+b-(p+a+2)=b-(a+2)),eH];rcases aH (a+2) b with g|g
  .rw[h.hv (a+2) _ O]
  .rw[(O:b-(a+2)=0)];rfl
 .rw[aa d,aa (λg=>d ((h.x2 c).1 g)),(O:p+b-(p+a)=b-a),h.dc a _ O,h.ext e.2]
def aeo(h:¬gj (ae s i)<0):i<s.size:=by
 rcases aH i s.size with g|g
 .exact g
 .rw[di]at h;exact absurd Z h
theorem Ag.hexI(h:Ag T p x)(d:(hexI x a).2.2=X):hexI T (p+a)=((hexI x a).1,p+(hexI x a).2.1,X):=by
 unfold Go.Proofs.YtiaechpcebhcdaaGreatDoor.hexI at d⊢;by_cases b:gj (ae x a)<0
 .grind
 rw[aa b]at d;by_cases c:gj (ae x (a+1))<0
 .grind
 rw[h.at_ a (aeo b),aa b,eH,h.at_ (a+1) (aeo c),aa c,aa b,aa c];rfl
theorem Ag.esc(h:Ag T p x)(b:(ej x a).2.2=X):ej T (p+a)=((ej x a).1,p+(ej x a).2.1,X):=by
 have i:a<x.size:=by
  rcases aH a x.size with g|g
  .exact g
  .unfold ej at b;rw[di]at b;grind
 unfold ej at b⊢;rw[h.at_ a i];by_cases c:ae x a=110
 .grind
 rw[aa c]at b;rw[aa c,aa c];by_cases d:ae x a=116
 .grind
 rw[aa d]at b;rw[aa d,aa d];by_cases e:ae x a=34\/ae x a=92
 .grind
 rw[aa e]at b;rw[aa e,aa e];by_cases f:ae x a=120
 .rw[ab f]at b;rw[ab f,ab f,eH,h.hexI b]
 grind
theorem Ag.str(h:Ag T p x):∀(f g a:Nat)(c:List Int),f<=g->(bC x f a c).1=X->bC T g (p+a) c=(X,p+(bC x f a c).2.1,(bC x f a c).2.2)
 |0,g,a,c,_,b=>by rw[bC]at b;cases b
 |f+1,0,a,c,l,b=>O
 |f+1,g+1,a,c,l,b=>by
  have m:=h.le;rw[bC]at b⊢;rw[bC];by_cases k:x.size<=a
  .grind
  rw[aa k]at b;rw[aa k,aa O,h.at_ a O];by_cases e:ae x a=34
  .grind
  rw[aa e]at b;rw[aa e,aa e];by_cases i:ae x a=10
  .grind
  rw[aa i]at b;rw[aa i,aa i];by_cases d:ae x a=92
  .rw[ab d]at b;rw[ab d,ab d];by_cases j:(ej x (a+1)).2.2=X
   .rw[ab j]at b;rw[ab j,eH,h.esc j,ab rfl];exact h.str f g _ _ O b
   grind
  rw[aa d]at b;rw[aa d,aa d,eH];exact h.str f g _ _ O b
end
theorem Dq(r a:Bz):Y r.data.toList a.data.toList=X↔∀i,i<a.size->ae r i=ae a i:=by
 unfold Y;rw[zm,List.prefix_iff_getElem?];constructor
 .intro c i e;have b:a.data.toList[i]?=A3 (a.data.toList[i]'(byS)):=bi _;rw[((gH _ _ _).1 b).2,((gH _ _ _).1 (c i U)).2]
 .intro c i e;have f:i<a.size:=byS;have b:a.data.toList[i]?=A3 a.data.toList[i]:=bi _;have d:=((gH _ _ _).1 b).2;refine(gH _ _ _).2 ⟨?_,U⟩;rw[<-c i f]at d;exact aF d
def nbS(V:Array A5)(N:Nat):Prop:=∀a:Fin N,∀i:Fin 4,0<i.val->i.val<(bq V a.val).size->ae (bq V a.val) i.val ∉ CA
def aps:nbS je 11:=by unfold nbS;decide+kernel
def apt:nbS lK 18:=by unfold nbS;decide+kernel
section
variable {T x : Bz} {p : Nat}
theorem Ag.pre(h:Ag T p x)(k:a<x.size){c:Bz}(m:c.size<=3)(j:∀i:Fin 4,0<i.val->i.val<c.size->ae c i.val ∉ CA):Y (T.extract (p+a) T.size).data.toList c.data.toList=Y (x.extract a x.size).data.toList c.data.toList:=by
 have l:=h.le;rw[zw,Dq,Dq];have d:∀i,a+i<=x.size->ae (T.extract (p+a) T.size) i=ae T (p+(a+i)):=λi b=>by rw[eA,eH]
 have f:∀i,a+i<x.size->ae (x.extract a x.size) i=ae x (a+i):=λi b=>eu x a _ i cJ b;constructor
 .intro e i b;rcases aH (a+i) x.size with q|q
  .rw[f i q,<-h.at_ _ q,<-d i O];grind
  .have:=e (x.size-a) O;rw[d _ O,(O:a+(x.size-a)=x.size)]at this;exact absurd (this ▸ h.bl) (j ⟨x.size-a,O⟩ U U)
 .intro e i b;have g:a+i<x.size:=by
   have:=aF (e i b) (gI b).1;rw[ey x a _ cJ]at this;omega
  rw[d i O,h.at_ _ g,<-f i g];grind
def Bk(V:Array A5)(base:Int)(r r':Bz)(N:Nat)(b:∀k,k<N->Y r.data.toList (bq V k).data.toList=Y r'.data.toList (bq V k).data.toList):∀(f i:Nat)(a:Int×Nat),i+f<=N->xG V base r f i a=xG V base r' f i a
 |0,i,a,_=>rfl
 |f+1,i,a,h=>by rw[xG,xG,b i O,Bk V base r r' N b f (i+1) _ O]
def Ag.sk(h:Ag T p x)(d:a<x.size):lH (T.extract (p+a) T.size)=lH (x.extract a x.size):=by
 have f:=h.le;have e:ae (T.extract (p+a) T.size) 0=ae (x.extract a x.size) 0:=by rw[eu T _ _ 0 cJ,eu x a _ 0 cJ d,du,du,h.at_ _ d]
 unfold lH;rw[e,Bk je 40 _ (x.extract a x.size) 11 (λc b=>h.pre d (osz ⟨c,b⟩) (aps ⟨c,b⟩)) 11 0 _ O,
  Bk lK 61 _ (x.extract a x.size) 18 (λc b=>h.pre d (bsz ⟨c,b⟩) (apt ⟨c,b⟩)) 18 0 _ O]
theorem Ag.rdA(h:Ag T p x)(b:a<x.size)(c:(rdI x a).ok=X):rdI T (p+a)=⟨X,p+(rdI x a).a,(rdI x a).d,(rdI x a).k,(rdI x a).n,(rdI x a).x⟩:=by
 have i:=h.at_ a b;have o:=h.le;unfold rdI at c⊢;rw[i];by_cases f:aJ (ae x a)=X
 .simp only[ab f];have j:=h.nm (fs b);have m:vK T (p+a)=vK x a:=by unfold vK;rw[j,h.ext (sa x _ a (fs b)).2]
  grind
 simp only[aa f]at c⊢;by_cases g:aC (ae x a)=X
 .simp only[ab g]at c⊢;by_cases e:(ci x a).2=X
  .rw[h.num b,h.nu b];grind
  grind
 simp only[aa g]at c⊢;by_cases e:ae x a=34
 .simp only[ab e]at c⊢;by_cases l:(bC x (x.size+1) (a+1) []).1=X
  .rw[eH,h.str (x.size+1) (T.size+1) (a+1) [] O l];grind
  grind
 simp only[aa e,h.sk b]at c⊢;grind
theorem Ag.rd(h:Ag T p x)(b:0<x.size)(c:(rdI x 0).ok=X)(e:(rdI x 0).a=x.size):rdI T p=⟨X,p+x.size,(rdI x 0).d,(rdI x 0).k,(rdI x 0).n,(rdI x 0).x⟩:=by
 have:=h.rdA b c;grind
end
structure jq (T s:Bz) (b:Bool) (a:Nat):Prop where
 at_:∀i,i<a->ae T i=ae s i
 nx:ae T a∈CA\/(ae T a=ae s a/\(b=X->ae s a=46->aC (ae s (a+1))=A2->aC (ae T (a+1))=A2))
section
variable {T s : Bz} {a : Nat} {b : Bool}
theorem jq.no(h:jq T s b a)(q:Int->Bool)(e:∀c∈CA,q c=A2)(f:i<=a)(d:q (ae s i)=A2):q (ae T i)=A2:=by
 rcases aH i a with g|g
 .rw[h.at_ i g];exact d
 .obtain rfl:i=a:=O;rcases h.nx with g|g;all_goals grind
theorem jq.ne(h:jq T s b a)(f:c ∉ CA)(g:i<=a)(j:ae s i≠c):ae T i≠c:=by
 have:=h.no (λd=>decide (d=c)) (λd k=>aG λe=>f (e ▸ k)) g (aG j);grind
def jq.sz(h:jq T s b a)(d:a<=s.size):a<=T.size:=by
 rcases rp a with g|g
 .omega
 .have c:=h.at_ (a-1) O;have:=aF c (gI O).1;omega
theorem jq.run(h:jq T s b a)(q:Int->Bool)(l:∀c∈CA,q c=A2)(f:q (-1)=A2)(m:a<=s.size){x:Nat}(g:gB q s (s.size+1) x<=a)(n:x<=s.size):gB q T (T.size+1) x=gB q s (s.size+1) x:=by
 have k:=kF q f s (s.size+1) x n;have j:=jx q s (s.size+1) x;have e:=jy q f s (s.size+1) x O;have:=h.sz m;obtain⟨d,i⟩:∃d,gB q s (s.size+1) x=d:=⟨_,rfl⟩;rw[i]at k j e g⊢;rw[oB q T (d-x) (T.size+1) x (λp o=>by rw[h.at_ _ O];grind) (by rw[(O:x+(d-x)=d)];exact h.no q l g e) O];omega
def jq.ext(h:jq T s b a)(d:a<=s.size){x:Nat}(i:e<=a):T.extract x e=s.extract x e:=by
 have:=h.sz d;have f:=ey T x e O;have g:=ey s x e O;refine yH O λc j=>?_;rw[eu T x e c O,eu s x e c O,h.at_ _ O]
def jq.dig(h:jq T s b a)(d:a<=s.size){x:Nat}(c:lg s x<=a)(e:x<=s.size):lg T x=lg s x:=h.run aC Z pI d c e
def amk{x:Nat}(h:aC (ae s x)=X):x<lg s x:=by
 have:=D6 pI h;have:=kF aC pI s s.size (x+1) O;unfold lg;rw[gB,ab h];omega
theorem jq.a0(h:jq T s b a)(f:a<=s.size)(e:p<a)(d:nA0 s p<=a):nA0 T p=nA0 s p:=by
 unfold nA0 at d⊢;rw[h.at_ p e];by_cases c:ae s p=48
 .grind
 .rw[aa c]at d;rw[aa c,aa c];exact h.dig f d O
theorem jq.dot(h:jq T s X a)(j:a<=s.size){e:Nat}(g:e<=a)(d:nA1 s e<=a):(ae T e=46/\aC (ae T (e+1))=X)↔(ae s e=46/\aC (ae s (e+1))=X):=by
 constructor
 .rintro ⟨c,i⟩;have f:ae s e=46:=Decidable.byContradiction λb=>h.ne Z g b c;refine⟨f,?_⟩;cases g2:aC (ae s (e+1)) with
  |true=>rfl
  |false=>
   rw[<-i];rcases aH e a with q|q
   .exact(h.no aC Z O g2).symm
   .obtain rfl:e=a:=O;rcases h.nx with q|q
    .rw[c]at q;exact absurd q Z
    grind
 .intro b;have:e+1<a:=by
   unfold nA1 at d;rw[ab b]at d;have:=amk b.2;omega
  rw[h.at_ e O,h.at_ (e+1) O];exact b
theorem jq.a1(h:jq T s X a)(d:a<=s.size)(g:e<=a)(c:nA1 s e<=a):nA1 T e=nA1 s e:=by
 have f:=h.dot d g c;unfold nA1 at c⊢;by_cases b:ae s e=46/\aC (ae s (e+1))=X
 .rw[ab b]at c;rw[ab b,ab (f.2 b)];exact h.dig d c (aF b.1)
 grind
theorem jq.ex(h:jq T s b a)(g:a<=s.size)(f:(mu s e).2=X)(d:(mu s e).1=a):mu T e=mu s e:=by
 unfold mu at f d⊢;by_cases c:ae s e=101
 .rw[ab c]at f d;simp only[ga]at f d;have j:e+1<=nA2 s e:=by unfold nA2;grind
  have i:nA2 T e=nA2 s e:=by unfold nA2;rw[h.at_ (e+1) O]
  rw[h.at_ e O,ab c,ab c,i,h.dig g O O]
 .rw[aa c]at d;rw[aa c,aa (h.ne Z O c)]
def jq.x2(h:jq T s b a)(c:p<a):(ae T p=48/\ae T (p+1)=120)↔(ae s p=48/\(ae T (p+1)=120)):=by rw[h.at_ p c]
theorem jq.num(h:jq T s X a)(g:a<=s.size)(o:p<s.size)(c:(ci s p).2=X)(f:(ci s p).1=a):ci T p=ci s p/\th T p=th s p:=by
 have B:=kG s p o;have m:p<a:=O;by_cases i:ae s p=48/\ae s (p+1)=120
 .have e:ci s p=lh s (p+2):=by unfold ci;grind
  rw[e]at c f;have x:uH s (p+2)=a/\p+2<a/\¬p+2+16<uH s (p+2):=by
   unfold lh at c f;grind
  have k:ae T p=48/\ae T (p+1)=120:=by rw[h.at_ p m,h.at_ (p+1) O];exact i
  have v:uH T (p+2)=uH s (p+2):=h.run jo Z oy g (by have:=x.1;unfold uH at this;omega) O;have j:ci T p=ci s p:=by unfold ci;rw[ab i,ab k];unfold lh;rw[v]
  refine⟨j,?_⟩;unfold th;rw[ab i,ab k,j,e,f];have:∀b,p+2+b<=a->tF T (p+2) b=tF s (p+2) b:=λb=>by
   induction b with
   |zero=>exact λ_=>rfl
   |succ b n=>intro u;rw[tF,tF,n O,h.at_ _ O]
  grind
 .have k:¬(ae T p=48/\ae T (p+1)=120):=by
   rw[h.at_ p m];exact λd=>h.ne Z O (λq=>i ⟨d.1,q⟩) d.2
  have e:ci s p=mu s (nA1 s (nA0 s p)):=by unfold ci;grind
  rw[e]at c f;have r:=uj s p o;have A:=uk s (nA0 s p) r.2;have l:nA1 s (nA0 s p)<=a:=by
   rw[<-f];unfold mu;split
   .have:nA1 s (nA0 s p)+1<=nA2 s (nA1 s (nA0 s p)):=by unfold nA2;grind
    have d:nA2 s (nA1 s (nA0 s p))<=s.size:=by
     rename_i q;unfold mu at c;rw[ab q]at c;simp only[ga]at c;have:=jx aC s (s.size+1) (nA2 s (nA1 s (nA0 s p))) _ cJ c;exact fs (D6 pI this)
    have:=lL s _ d;omega
   .simp
  have y:=h.a0 g m O;have z:=h.a1 g (e:=nA0 s p) O l;have C:=h.ex g c f;have j:ci T p=ci s p:=by unfold ci;grind
  refine⟨j,?_⟩;have w:F8 T p=F8 s p:=by
   unfold F8;rw[y,z];refine decide_eq_decide.2 (or_congr (h.dot g O l) ?_);rcases aH (nA1 s (nA0 s p)) a with q|q
   .rw[h.at_ _ q]
   .have:ae s (nA1 s (nA0 s p))≠101:=λd=>by
     unfold mu at f c;rw[ab d]at f c;simp only[ga]at f c;have:nA1 s (nA0 s p)+1<=nA2 s (nA1 s (nA0 s p)):=by unfold nA2;grind
     omega
    exact⟨λd=>absurd d (h.ne Z l this),λd=>absurd d this⟩
  have t:∀b,p+b<=a->qu T p b=qu s p b:=λb=>by
   induction b with
   |zero=>exact λ_=>rfl
   |succ b n=>intro u;rw[qu,qu,n O,h.at_ _ O]
  unfold th;rw[aa i,aa k,j,w,e,f,t _ O,h.ext g cJ]
theorem aml(h:∀i,i<a->ae T i=ae s i){x:Nat}(c:(hexI s x).2.2=X)(b:(hexI s x).2.1<=a):hexI T x=hexI s x:=by
 unfold hexI at c b⊢;grind
theorem Jr(h:∀i,i<a->ae T i=ae s i){x:Nat}(g:(ej s x).2.2=X)(f:(ej s x).2.1<=a)(j:x<a):ej T x=ej s x:=by
 unfold ej at g f⊢;rw[h x j];by_cases b:ae s x=110
 .grind
 by_cases c:ae s x=116
 .grind
 by_cases d:ae s x=34\/ae s x=92
 .grind
 by_cases e:ae s x=120
 .rw[aa b,aa c,aa d,ab e]at g f;rw[aa b,aa b,aa c,aa c,aa d,aa d,ab e,ab e];exact aml h g f
 grind
theorem E4(x:Nat)(a:(ej s x).2.2=X):x<(ej s x).2.1:=by
 unfold ej hexI at a⊢;grind
theorem E5:∀(f x:Nat)(a:List Int),(bC s f x a).1=X->x<(bC s f x a).2.1
 |0,x,a,h=>by rw[bC]at h;cases h
 |f+1,x,a,h=>by
  rw[bC]at h⊢;split
  .grind
  rename_i d;rw[aa d]at h;split
  .simp
  rename_i e;rw[aa e]at h;split
  .grind
  rename_i g;rw[aa g]at h;split
  .rename_i b;rw[ab b]at h;split
   .rename_i c;rw[ab c]at h;have:=E5 f _ _ h;have:=E4 _ c;omega
   grind
  .rename_i b;rw[aa b]at h;have:=E5 f _ _ h;omega
theorem jq.str(h:jq T s b a)(n:a<=T.size):∀(f g x:Nat)(e:List Int),(bC s f x e).1=X->(bC s f x e).2.1=a->a<=x+g->bC T g x e=bC s f x e
 |0,g,x,e,c,_,_=>by rw[bC]at c;cases c
 |f+1,0,x,e,c,d,q=>by have:=E5 _ _ _ c;omega
 |f+1,g+1,x,e,c,d,q=>by
  have o:=E5 _ _ _ c;rw[d]at o;rw[bC]at c d⊢;rw[bC];by_cases m:s.size<=x
  .grind
  rw[aa m]at c d;rw[aa m,aa O,h.at_ x o];by_cases k:ae s x=34
  .grind
  rw[aa k]at c d;rw[aa k,aa k];by_cases l:ae s x=10
  .grind
  rw[aa l]at c d;rw[aa l,aa l];by_cases i:ae s x=92
  .rw[ab i]at c d;rw[ab i,ab i];by_cases j:(ej s (x+1)).2.2=X
   .rw[ab j]at c d;have r:=E5 _ _ _ c;have t:=E4 _ j;have p:=Jr h.at_ j O O;rw[p,ab j,ab j];exact h.str n f g _ _ c d O
   grind
  rw[aa i]at c d;rw[aa i,aa i];exact h.str n f g _ _ c d O
end
def skB(a b c:Int):Bool:=let d:=skN a b c
 if d=0 then(0::fb1).all λf=>(0::fb2).all λe=>decide (skN a f e=0)
 else if(fJ d).size=1 then(0::fb2).all λe=>decide (skN a b e=d/\skN a 0 e=d)
 else if(fJ d).size=2 then decide (skN a b 0=d) else decide ((fJ d).size=3)
def aiI:∀a∈0::fb0,∀b∈0::fb1,∀c∈0::fb2,skB a b c=X:=by decide+kernel
def an7:∀c∈CA,Hm fb1 c=0/\Hm fb2 c=0:=Z
section
variable {T s : Bz} {a p : Nat} {b : Bool}
theorem jq.sk(h:jq T s b a)(i:lH (s.extract p s.size)≠0)(m:p+(fJ (lH (s.extract p s.size))).size=a)(n:p<a):lH (T.extract p T.size)=lH (s.extract p s.size):=by
 have d:=h.at_ p n;by_cases l:ae s p=10
 .unfold lH;rw[eA,eA,du,d,l];omega
 have e:=aiE (s.extract p s.size) (by rw[eA];omega);have f:=aiE (T.extract p T.size) (by rw[eA,du,d];omega);rw[eA,eA,eA,du]at e f;rw[d]at f;obtain⟨j,k⟩:∃j,lH (s.extract p s.size)=j:=⟨_,rfl⟩;rw[k]at e i m⊢;rw[f];have c:=aiI _ (pm fb0 (ae s p)) _ (pm fb1 (ae s (p+1))) _ (pm fb2 (ae s (p+2)));unfold skB at c;simp only[<-e,aa i]at c;split at c
 .rename_i o;have c:=be (List.all_eq_true.1 c _ (pm fb2 (ae T (p+2))));rcases h.nx with g|g
  .rw[(O:p+1=a),(an7 _ g).1];omega
  grind
 split at c
 .rename_i q o;rw[h.at_ (p+1) O];rcases h.nx with g|g
  .rw[(O:p+2=a),(an7 _ g).2];grind
  grind
 .have:=be c;rw[h.at_ (p+1) O,h.at_ (p+2) O];omega
theorem jq.rd(h:jq T s (aC (ae s p)) (rdI s p).a)(k:p<s.size)(c:(rdI s p).ok=X):rdI T p=rdI s p:=by
 have d:=eD s p k c;have j:=h.sz d.2.1;have l:=h.at_ p d.1;obtain⟨a,b⟩:∃a,(rdI s p).a=a:=⟨_,rfl⟩;rw[b]at h d j;unfold rdI at c b⊢;rw[l];by_cases i:aJ (ae s p)=X
 .simp only[ab i]at b⊢;have m:mh T (T.size+1) p=mh s (s.size+1) p:=by
   rw[oC,oC];rw[oC]at b;exact h.run _ Z Z d.2.1 O O
  have n:vK T p=vK s p:=by unfold vK;rw[m,h.ext d.2.1 O]
  grind
 simp only[aa i]at c b⊢;by_cases g:aC (ae s p)=X
 .simp only[ab g]at c b⊢;by_cases e:(ci s p).2=X
  .simp only[ab e]at b;rw[g]at h;have:=h.num d.2.1 k e b;grind
  grind
 simp only[aa g]at c b⊢;by_cases e:ae s p=34
 .simp only[ab e]at c b⊢;by_cases f:(bC s (s.size+1) (p+1) []).1=X
  .simp only[ab f]at b;rw[h.str j (s.size+1) (T.size+1) (p+1) [] f b O]
  grind
 simp only[aa e]at c b⊢;by_cases f:lH (s.extract p s.size)=0
 .grind
 .simp only[aa f]at b;rw[h.sk f b d.1]
theorem amm(h:∀i,i<=a->ae T i=ae s i){x:Nat}(c:(hexI s x).2.2=A2)(b:(hexI s x).2.1=a):hexI T x=hexI s x:=by
 unfold hexI at c b⊢;grind
theorem amn(h:∀i,i<=a->ae T i=ae s i){x:Nat}(c:(ej s x).2.2=A2)(b:(ej s x).2.1=a)(j:x<=a):ej T x=ej s x:=by
 unfold ej at c b⊢;rw[h x j];by_cases d:ae s x=110
 .grind
 by_cases e:ae s x=116
 .grind
 by_cases f:ae s x=34\/ae s x=92
 .grind
 rw[aa d,aa e,aa f]at c b;rw[aa d,aa e,aa f,aa d,aa e,aa f];by_cases g:ae s x=120
 .rw[ab g]at c b;rw[ab g,ab g];exact amm h c b
 grind
theorem acq(x:Nat):x<=(ej s x).2.1:=by
 unfold ej hexI;grind
theorem qD:∀(f x:Nat)(a:List Int),x<=(bC s f x a).2.1
 |0,x,a=>by rw[bC];simp
 |f+1,x,a=>by
  rw[bC];split
  .simp
  split
  .simp
  split
  .simp
  have:=acq (s:=s) (x+1);split
  .split
   .have:=qD f (ej s (x+1)).2.1 (a++[(ej s (x+1)).1]);omega
   grind
  .have:=qD f (x+1) (a++[ae s x]);omega
theorem acr(h:∀i,i<=a->ae T i=ae s i)(q:a<s.size)(n:a<T.size):∀(f g x:Nat)(d:List Int),(bC s f x d).1=A2->(bC s f x d).2.1=a->s.size<x+f->a<x+g->bC T g x d=bC s f x d
 |0,g,x,d,c,b,o,p=>by rw[bC]at b;grind
 |f+1,0,x,d,c,b,o,p=>by have:=qD (s:=s) (f+1) x d;omega
 |f+1,g+1,x,d,c,b,o,p=>by
  have r:=qD (s:=s) (f+1) x d;rw[b]at r;rw[bC]at c b⊢;rw[bC];by_cases m:s.size<=x
  .omega
  rw[aa m]at c b;rw[aa m,aa O,h x r];by_cases k:ae s x=34
  .grind
  rw[aa k]at c b;rw[aa k,aa k];by_cases l:ae s x=10
  .grind
  rw[aa l]at c b;rw[aa l,aa l];by_cases e:ae s x=92
  .rw[ab e]at c b;rw[ab e,ab e];have w:=acq (s:=s) (x+1);by_cases j:(ej s (x+1)).2.2=X
   .rw[ab j]at c b;have v:=qD (s:=s) f (ej s (x+1)).2.1 (d++[(ej s (x+1)).1]);have t:ej T (x+1)=ej s (x+1):=Jr (a:=(ej s (x+1)).2.1) (λi u=>h i O) j cJ (E4 _ j);rw[t,ab j,ab j];exact acr h q n f g _ _ c b O O
   .rw[aa j]at b;simp only at b;rw[amn h U b O];grind
  rw[aa e]at c b;rw[aa e,aa e];exact acr h q n f g _ _ c b O O
end
section
variable {T s : Bz} {a p : Nat}
theorem apu(q:Int->Bool)(a:q (-1)=A2){x:Nat}(b:x<=T.size)(h:∀i,x<=i->i<x+n->q (ae T i)=X):x+n<=gB q T (T.size+1) x:=by
 rcases aH (gB q T (T.size+1) x) (x+n) with g|g
 .have c:=kF q a T (T.size+1) x b;have:=jy q a T (T.size+1) x O;grind
 omega
theorem Js(q:Int->Bool){x:Nat}(h:q (ae T x)=A2):gB q T (T.size+1) x=x:=by rw[gB,aa U]
theorem apv(h:∀i,i<=a->ae T i=ae s i)(K:a<s.size)(F:a<T.size)(o:p<s.size)(c:(ci s p).2=A2)(b:(ci s p).1=a):ci T p=ci s p:=by
 have C:=kG s p o;have H:p<a:=O;by_cases f:ae s p=48/\ae s (p+1)=120
 .have g:ae T p=48/\ae T (p+1)=120:=U;unfold ci at c b⊢;rw[ab f]at c b;rw[ab f,ab g];unfold lh at c b⊢;by_cases d:p+2+16<uH s (p+2)
  .rw[ab d]at b;simp only at b;have r:=jx jo s (s.size+1) (p+2);have:=apu jo oy (T:=T) (x:=p+2) (n:=17) O λi w y=>by
    rw[h i O];exact r i w (by unfold uH at d;omega)
   rw[ab d,ab (by unfold uH;omega)]
  .rw[aa d]at c b;simp only[wF]at c b;have B:=kF jo oy s (s.size+1) (p+2) (aF f.2);have e:uH s (p+2)=p+2:=by unfold uH at *;omega
   have m:=jy jo oy s (s.size+1) (p+2) O;have E:uH T (p+2)=p+2:=by
    unfold uH;refine Js jo ?_;rw[h (p+2) O];have v:=e;unfold uH at v;grind
   grind
 .have g:¬(ae T p=48/\ae T (p+1)=120):=U;unfold ci at c b⊢;rw[aa f]at c b;rw[aa f,aa g];have t:=uj s p o;have u:=uk s (nA0 s p) t.2;obtain⟨e,l⟩:∃e,nA1 s (nA0 s p)=e:=⟨_,rfl⟩;rw[l]at c b u;have j:ae s e=101/\nA2 s e=a/\lg s (nA2 s e)=a:=by
   unfold mu at c b;split at c
   .rename_i d;rw[ab d]at b;simp only[wF]at c b;have:nA2 s e<=s.size:=by
     have:=aF d;unfold nA2;split
     .rename_i q;have:e+1<s.size:=by rcases q with q|q<;>exact aF q
      omega
     .omega
    have:=lL s _ this;omega
   grind
  have y:e+1<=nA2 s e:=by unfold nA2;grind
  have k:jq T s X e:=⟨λi G=>h i O,.inr ⟨h e O,λ_ d=>O⟩⟩;have z:=k.a0 O (p:=p) O O;have A:=k.a1 O (e:=nA0 s p) O O;rw[z,A,l];unfold mu;have L:nA2 T e=nA2 s e:=by unfold nA2;grind
  have m:=jy aC pI s (s.size+1) (nA2 s e) O;have ad:lg T (nA2 s e)=lg s (nA2 s e):=by
   rw[j.2.2];have q:=j.2.2;unfold lg at q⊢;rw[q]at m;rw[j.2.1];exact Js aC U
  grind
theorem ar6(h:∀i,i<=a->ae T i=ae s i)(g:a<s.size)(o:p<s.size)(d:(rdI s p).ok=A2)(b:(rdI s p).a=a):rdI T p=rdI s p/\gD T p=gD s p:=by
 have n:a<T.size:=aF (h a cJ) (gI g).1;have q:rdI T p=rdI s p/\p<=a/\(aC (ae s p)=X->p<a):=by
  unfold rdI at d b⊢;by_cases t:aJ (ae s p)=X
  .grind
  simp only[aa t]at d b⊢;by_cases m:aC (ae s p)=X
  .simp only[ab m]at d b⊢;by_cases f:(ci s p).2=X
   .grind
   .simp only[aa f]at b;have u:=kG s p o;have:=apv h g n o U b;grind
  simp only[aa m]at d b⊢;by_cases f:ae s p=34
  .simp only[ab f]at d b⊢;by_cases c:(bC s (s.size+1) (p+1) []).1=X
   .grind
   .simp only[aa c]at b;have w:=qD (s:=s) (s.size+1) (p+1) [];have:=acr h g n (s.size+1) (T.size+1) (p+1) [] U b O O;grind
  simp only[aa f]at d b⊢;by_cases c:lH (s.extract p s.size)=0
  .simp only[ab c]at b;have j:=h p O;have v:ae s p≠10:=λr=>by
    unfold lH at c;rw[eA,du,r]at c;omega
   have k:=aiE (s.extract p s.size) (by rw[eA];omega);have l:=aiE (T.extract p T.size) (by rw[eA,du,j];omega);rw[eA,eA,eA,du]at k l;rw[j]at l;have e:=aiI _ (pm fb0 (ae s p)) _ (pm fb1 (ae s (p+1))) _ (pm fb2 (ae s (p+2)));unfold skB at e;simp only[<-k,ab c]at e;have e:=be (List.all_eq_true.1 (List.all_eq_true.1 e _ (pm fb1 (ae T (p+1)))) _ (pm fb2 (ae T (p+2))));grind
  grind
 refine⟨q.1,?_⟩;unfold gD;rw[q.1,aa U,aa U];unfold od;grind
end
section
variable {T s : Bz}
theorem Ai(s:Bz)(p:Nat)(a:p<=s.size):blk s (s.size+1) p=if s.size<=p then p else if ic (ae s p)=X then blk s (s.size+1) (p+1) else if ae s p=45/\ae s (p+1)=45 then blk s (s.size+1) (vh s p) else p:=by
 have z0:=@qC;have z1:=@pK;have z2:=@pj;grind [blk]
theorem an8(h:Ct c=A2)(a:0<=c):c=10:=by
 grind [Ct]
def Stz(T s:Bz)(p:Nat):Prop:=ae T p=10\/ae T p= -1\/(ae T p=ae s p/\¬(ae T p=45/\ae T (p+1)=45))
theorem tz:∀(m q:Nat),s.size-q<=m->q<=s.size->blk s (s.size+1) q=p->(∀i,i<p->ae T i=ae s i)->Stz T s p->blk T (T.size+1) q=p:=by
 have B:∀{p:Nat},¬(p<s.size/\ic (ae s p)=X)->Stz T s p->blk T (T.size+1) p=p:=λ{p} c d=>by
  rcases d with g|g|g
  .exact ux _ _ (by rw[g];decide) O
  .exact ux _ _ (by rw[g];decide) O
  .refine ux _ _ ?_ g.2;rw[g.1];intro q;refine c ⟨?_,q⟩;rcases aH p s.size with z|z
   .exact z
   .rw[di]at q;exact absurd q Z
 intro m
 induction m with
 |zero=>
  have z0:=@oA;grind
 |succ m G=>
  intro q F f b c d;have r:=ft s (s.size+1) q f;rw[b]at r;rw[Ai s q f]at b;by_cases v:s.size<=q
  .grind
  rw[aa v]at b;by_cases h:ic (ae s q)=X
  .rw[ab h]at b;have o:=ft s (s.size+1) (q+1) O;have a:=c q O;rw[qj T q (aF a (gI O).1) U];grind
  rw[aa h]at b;by_cases j:ae s q=45/\ae s (q+1)=45
  .rw[ab j]at b;have C:=pK s q j.1;have k:=pj s q f;have o:=ft s (s.size+1) (vh s q) k.2;have n:=jx Ct s (s.size+1) q;have u:=jy Ct Bh s (s.size+1) q O;have l:q+1<vh s q:=by
    grind [Nat.lt_or_ge,vh,gB,Ct]
   have w:vh s q<=T.size:=by
    have a:=c (vh s q-1) O;have:=aF a (gI O).1;omega
   have x:p=vh s q:=by
    rw[Ai s _ k.2]at b;split at b
    .omega
    have t:ae s (vh s q)=10:=by
     have z0:=@gI;grind [an8,vh]
    rw[t,aa Z,aa (λq=>absurd q.1 Z)]at b;omega
   subst x;have y:=c q O;have A:=c (q+1) l;rw[Ep T q O O];have H:vh T q=vh s q:=by
    obtain⟨a,e⟩:∃a,vh s q=a:=⟨_,rfl⟩;rw[e]at c w d⊢ l;unfold vh at e⊢;rw[e]at n u;rw[oB Ct T (a-q) (T.size+1) q (λi E=>U) (by
     rw[(O:q+(a-q)=a)];rcases d with g|g|g
     .rw[g];decide
     .rw[g];decide
     grind) O]
    omega
   grind
  grind
theorem acs:∀(m q:Nat),s.size-q<=m->q<=s.size->blk s (s.size+1) q<s.size->¬(ae s (blk s (s.size+1) q)=45/\ae s (blk s (s.size+1) q+1)=45):=by
 intro m
 induction m with
 |zero=>have z0:=@oA;grind
 |succ m g=>
  intro q f e a;rw[Ai s q e]at a⊢;by_cases b:s.size<=q
  .grind
  rw[aa b]at a⊢;by_cases c:ic (ae s q)=X
  .grind
  rw[aa c]at a⊢;by_cases d:ae s q=45/\ae s (q+1)=45
  .rw[ab d]at a⊢;have z0:=@pK;have z1:=@pj;grind
  grind
def jq.le{c:Bool}(h:jq T s b e)(f:a<e):jq T s c a:=⟨λg i=>h.at_ g O,.inr ⟨h.at_ a f,λ_ _ d=>h.no aC Z O d⟩⟩
def sepK(k:Int):Int:=if k=7 then 5 else k
inductive Tq (s:Bz):List Int->Nat->Bool->List Int->Nat->Bool->Prop
 |nil {st:List Int}{q:Nat}{b:Bool}:q<=s.size->Tq s st q b st q b
 |line {st st':List Int}{q q':Nat}{b b':Bool}:q<=s.size->blk s (s.size+1) q<s.size->gD s (blk s (s.size+1) q)=7->(feedL st 5).2=false->Tq s st (rdI s (blk s (s.size+1) q)).a false st' q' b'->Tq s st q b st' q' b'
 |tok {st st':List Int}{q q':Nat}{b b':Bool}{k:Int}:q<=s.size->blk s (s.size+1) q<s.size->(rdI s (blk s (s.size+1) q)).ok=true->sepK (gD s (blk s (s.size+1) q))=k->1<=k->(feedL st k).2=true->Tq s (feedL st k).1 (rdI s (blk s (s.size+1) q)).a (aC (ae s (blk s (s.size+1) q))) st' q' b'->Tq s st q b st' q' b'
theorem rd7(h:gD s p=7)(e:p<s.size):(rdI s p).ok=X/\aC (ae s p)=A2:=by
 have b:=Cz s p h;refine⟨b.1,?_⟩;cases d:aC (ae s p) with
 |false=>rfl
 |true=>
  have a:=b.2;unfold rdI at a;have c:¬aJ (ae s p)=X:=by
   grind [aC,aJ]
  rw[aa c,ab d]at a;grind [th]
theorem Tq.bd{q:Nat}{a:Bool}(t:Tq s st q b st' q' a):q<=q'/\q'<=s.size/\(q=q'->b=a):=by
 induction t with
 |nil g=>grind
 |@line st st' q q' b a c d e _ _ f=>
  have z0:=@ft;grind [eD,rd7]
 |@tok st st' q q' b a h c d e _ _ _ _ f=>
  have z0:=@ft;grind [eD]
theorem jq.step{q b:Nat}{g c:Bool}(h:jq T s g b)(j:q<=s.size)(f:blk s (s.size+1) q<s.size)(i:(rdI s (blk s (s.size+1) q)).ok=X)(r:aC (ae s (blk s (s.size+1) q))=c)(o:(rdI s (blk s (s.size+1) q)).a<=b)(p:(rdI s (blk s (s.size+1) q)).a=b->c=g)(k:b<=s.size):blk T (T.size+1) q=blk s (s.size+1) q/\rdI T (blk s (s.size+1) q)=rdI s (blk s (s.size+1) q)/\blk s (s.size+1) q<T.size/\ae T (blk s (s.size+1) q)=ae s (blk s (s.size+1) q):=by
 have u:=eD s _ f i;have n:=h.sz k;have d:=h.at_ _ ((O:blk s (s.size+1) q<b));refine⟨tz _ q cJ j rfl (λl t=>h.at_ l O) (.inr (.inr ⟨d,λe=>?_⟩)),jq.rd ?_ f i,O,d⟩
 .have m:=acs _ q cJ j f;rw[d]at e;exact h.ne Z O (λz=>m ⟨e.1,z⟩) e.2
 .rcases aH (rdI s (blk s (s.size+1) q)).a b with z|z
  .exact h.le z
  grind
theorem act(h:rdI T p=rdI s p)(a:(rdI s p).ok=X):gD T p=gD s p:=by grind [gD]
theorem Tq.to{q:Nat}{d:Bool}(t:Tq s st q b st' q' d)(h:jq T s d q'):Tq T st q b st' q' d:=by
 induction t with
 |nil c=>exact .nil (h.sz c)
 |@line st st' q q' b d c e g i t n=>
  have a:=t.bd;have f:=rd7 g e;obtain⟨j,k,l,m⟩:=h.step c e f.1 f.2 a.1 a.2.2 a.2.1;have:=h.sz a.2.1;have:=eD s _ e f.1;have:=ft s (s.size+1) q c;exact .line O O (by grind [act]) i U
 |@tok st st' q q' b d r c e g i o p t n=>
  have a:=t.bd;obtain⟨j,k,l,m⟩:=h.step c e g rfl a.1 a.2.2 a.2.1;have z0:=@ft;grind [eD,tok,act]
theorem Tq.wlk{q:Nat}{j:Bool}(t:Tq s st q b st' q' j):∀(l:Int)(c:List Tk),∃(n:Nat) (d:Int) (e:List Tk),n<=q'-q/\∀g,wlk s (g+n) st (blk s (s.size+1) q) l c=wlk s g st' (blk s (s.size+1) q') d e:=by
 induction t with
 |nil v=>exact λl c=>⟨0,l,c,nH,λg=>rfl⟩
 |@line st st' q q' b j m f h r t i=>
  intro l c;obtain⟨n,d,e,u,k⟩:=i (l+1) c;have:=t.bd;have:=eD s _ f (rd7 h f).1;have:=ft s (s.size+1) q m;refine⟨n+1,d,e,O,λg=>?_⟩
  simp_all [eH,Go.Proofs.YtiaechpcebhcdaaGreatDoor.wlk,aa,ab]
 |@tok st st' q q' b j o m f h r w y t i=>
  intro l c;have:=t.bd;have:=eD s _ f h;have:=ft s (s.size+1) q m;by_cases p:gD s (blk s (s.size+1) q)=7
  .have:o=5:=by rw[<-r,p];rfl
   subst this;obtain⟨n,d,e,u,k⟩:=i (l+1) (c++[⟨5,(blk s (s.size+1) q:Nat),((rdI s (blk s (s.size+1) q)).a:Nat),l,(rdI s (blk s (s.size+1) q)).n,(rdI s (blk s (s.size+1) q)).x⟩]);refine⟨n+1,d,e,O,λg=>?_⟩
   simp_all [eH,Go.Proofs.YtiaechpcebhcdaaGreatDoor.wlk,aa,ab]
  .have:gD s (blk s (s.size+1) q)=o:=by grind [sepK]
   obtain⟨n,d,e,u,k⟩:=i l (c++[⟨o,(blk s (s.size+1) q:Nat),((rdI s (blk s (s.size+1) q)).a:Nat),l,(rdI s (blk s (s.size+1) q)).n,(rdI s (blk s (s.size+1) q)).x⟩]);refine⟨n+1,d,e,O,λg=>?_⟩;rw[<-eH,Go.Proofs.YtiaechpcebhcdaaGreatDoor.wlk,aa O,aa p,this,ab (by grind [pc]),ab h,k g]
inductive Gr (s:Bz) (st:List Int) (q:Nat):Int->Prop
 |end_:blk s (s.size+1) q=s.size->Gr s st q (-1)
 |wrong:blk s (s.size+1) q<s.size->gD s (blk s (s.size+1) q)≠7->(pc st (gD s (blk s (s.size+1) q))).2=false->Gr s st q (wrongF s (blk s (s.size+1) q) (jH st):Nat)
 |bad:blk s (s.size+1) q<s.size->(pc st (gD s (blk s (s.size+1) q))).2=true->(rdI s (blk s (s.size+1) q)).ok=false->Gr s st q ((rdI s (blk s (s.size+1) q)).a:Nat)
theorem Gr.wlk{q:Nat}{z:Int}(h:Gr s st q z)(f:Nat)(l:Int)(d:List Tk):(wlk s (f+1) st (blk s (s.size+1) q) l d).2=(st,z):=by
 rw[Go.Proofs.YtiaechpcebhcdaaGreatDoor.wlk];cases h with
 |end_ h=>grind
 |wrong a b c=>grind
 |bad a b c=>
  grind [gD,blk,Cz]
theorem E6(s:Bz):∀(m:Nat)(st:List Int)(q:Nat)(b:Bool),s.size-q<=m->q<=s.size->∃st' q' e z,Tq s st q b st' q' e/\Gr s st' q' z:=by
 intro m
 induction m with
 |zero=>intro st q b l c;exact⟨st,q,b, -1,.nil c,.end_ (by have z0:=@oA;grind)⟩
 |succ m j=>
  intro st q b l c;have o:=ft s (s.size+1) q c;by_cases d:blk s (s.size+1) q<s.size
  .by_cases h:gD s (blk s (s.size+1) q)=7
   .have k:=rd7 h d;have i:=eD s _ d k.1;cases h5:(feedL st 5).2 with
    |true=>
     obtain⟨st',q',e,z,f,g⟩:=j (feedL st 5).1 (rdI s (blk s (s.size+1) q)).a (aC (ae s (blk s (s.size+1) q))) O i.2.1;exact⟨st',q',e,z,.tok c d k.1 (by rw[h];rfl) Z h5 f,g⟩
    |false=>
     obtain⟨st',q',e,z,f,g⟩:=j st (rdI s (blk s (s.size+1) q)).a A2 O i.2.1;exact⟨st',q',e,z,.line c d h h5 f,g⟩
   .cases h6:(pc st (gD s (blk s (s.size+1) q))).2 with
    |false=>exact⟨st,q,b,_,.nil c,.wrong d h h6⟩
    |true=>
     cases hk:(rdI s (blk s (s.size+1) q)).ok with
     |false=>exact⟨st,q,b,_,.nil c,.bad d h6 hk⟩
     |true=>
      have i:=eD s _ d hk;have n:0<gD s (blk s (s.size+1) q)/\(feedL st (gD s (blk s (s.size+1) q))).2=X:=by
       grind [pc]
      obtain⟨st',q',e,z,f,g⟩:=j (feedL st (gD s (blk s (s.size+1) q))).1 (rdI s (blk s (s.size+1) q)).a (aC (ae s (blk s (s.size+1) q))) O i.2.1;exact⟨st',q',e,z,.tok c d hk (by grind [sepK]) O n.2 f,g⟩
  .exact⟨st,q,b, -1,.nil c,.end_ O⟩
def Aj{q:Nat}{z:Int}(t:Tq s [100,6] 0 A2 st q b)(w:Gr s st q z):(jn s).2=(st,z):=by
 obtain⟨a,f,g,e,c⟩:=t.wlk 1 [];have d:=t.bd;unfold jn;rw[(O:s.size+1=s.size-a+1+a)];have:=c (s.size-a+1);rw[(O:s.size-a+1+a=s.size+1)]at this⊢;rw[this];exact w.wlk _ _ _
end
inductive Tr (s:Bz):Nat->Nat->Nat->Prop
 |end_ {q:Nat}:q<=s.size->blk s (s.size+1) q=s.size->Tr s 0 q q
 |step {n q q':Nat}:q<=s.size->blk s (s.size+1) q<s.size->(rdI s (blk s (s.size+1) q)).ok=true->Tr s n (rdI s (blk s (s.size+1) q)).a q'->Tr s (n+1) q q'
structure Gon (T s:Bz):Prop where
 ag:Ag T 0 s
 bl:ae T s.size=32
theorem Gon.at_{T s:Bz}(h:Gon T s){i:Nat}(a:i<s.size):ae T i=ae s i:=by
 have:=h.ag.at_ i a;grind
def Gon.lt(h:Gon T s):s.size<T.size:=aF h.bl
theorem Gon.rd(h:Gon T s)(b:p<s.size)(a:(rdI s p).ok=X):rdI T p=rdI s p:=by
 have:=h.ag.rdA b a;rw[ny,ny]at this;rw[this];rcases hr:rdI s p with⟨c,d,e,f,g,i⟩;grind
def E7(s:Bz)(p:Nat)(c:p<=s.size):blk s (s.size+1) p=if s.size<=p then p else if ic (ae s p)=X then blk s (s.size+1) (p+1) else if ae s p=45/\ae s (p+1)=45 then blk s (s.size+1) (vh s p) else p:=by
 rw[blk];split
 .rfl
 split
 .exact qC s _ _ _ O O O
 split
 .rename_i a;have d:=pK s p a.1;have b:=pj s p c;exact qC s _ _ _ b.2 O O
 .rfl
theorem Gon.nl(h:Gon T s)(i:p<s.size)(hn:vh s p<s.size):vh T p=vh s p:=by
 have g:=h.lt;have b:=pj s p O;have d:=jx Ct s (s.size+1) p;have c:=jy Ct Bh s (s.size+1) p O;unfold vh at hn b⊢;obtain⟨a,e⟩:∃a,gB Ct s (s.size+1) p=a:=⟨_,rfl⟩;rw[e]at hn b d c⊢;rw[oB Ct T (a-p) (T.size+1) p (λj f=>by rw[h.at_ O];grind) (by rw[(O:p+(a-p)=a),h.at_ hn];exact c) O];omega
theorem Gon.bk(h:Gon T s):∀(m q:Nat),s.size-q<=m->q<=s.size->blk s (s.size+1) q<s.size->blk T (T.size+1) q=blk s (s.size+1) q:=by
 have l:=h.lt;intro m
 induction m with
 |zero=>intro q i c a;rw[E7 s q c,ab O]at a;omega
 |succ m n=>
  intro q i c a;rw[E7 s q c]at a⊢;rw[E7 T q O,aa O];by_cases e:s.size<=q
  .grind
  rw[aa e]at a;rw[aa e,h.at_ O];by_cases d:ic (ae s q)=X
  .grind
  rw[aa d]at a;rw[aa d,aa d];by_cases b:ae s q=45/\ae s (q+1)=45
  .rw[ab b]at a;have f:=aF b.2;rw[h.at_ f,ab b,ab b];have j:=pK s q b.1;have k:=pj s q c;rcases aH (vh s q) s.size with g|g
   .rw[h.nl O g];grind
   .rw[oA s _ g]at a;omega
  .rw[aa b,aa];intro g;rcases aH (q+1) s.size with g1|g1
   .rw[h.at_ g1]at g;omega
   .rw[(O:q+1=s.size),h.bl]at g;omega
theorem Tr.sc(h:Gon T s){q:Nat}(t:Tr s n q q'):∀l:Int,∃a:Int,∀g,(scn T (g+n) q l).2.2.length=n+(scn T g q' a).2.2.length/\((scn T (g+n) q l).1=(scn T g q' a).1):=by
 induction t with
 |end_ c b=>exact λl=>⟨l,λg=>I⟩
 |@step n q q' c b e i f=>
  intro l;obtain⟨a,j⟩:=f (l+(rdI s (blk s (s.size+1) q)).d);refine⟨a,λg=>?_⟩;have:=h.lt;rw[(O:g+(n+1)=g+n+1),scn,h.bk _ q cJ c b,aa O,h.rd b e,ab e];grind
def Tr.bd{q:Nat}(t:Tr s n q q'):q+n<=q'/\q'<=s.size/\blk s (s.size+1) q'=s.size:=by
 induction t with
 |end_ a b=>omega
 |@step n q q' a b c d e=>
  have:=eD s _ b c;have:=ft s (s.size+1) q a;omega
def acu(w:A6)(base mb:Nat)(s:Bz)(h:sj w base mb [])(c7:s.size<=70000):
  Ck Br 43 #[.pointer (A3 ⟨mb,0,A9⟩),A0 s] w (aan w base mb s (jn s)):=by
 unfold jn;have⟨af,cn⟩:=aw (wlk s (s.size+1) [100,6] (blk s (s.size+1) 0) 1 []);rw[cn];have e8:base<=w.heap.size:=by obtain⟨v,e0,_⟩:=h.ex;have:=ah e0;have:=h.lo;omega
 have ek:=Hd w base mb h;have cr:=λw=>jJ s O 0 nH w;have ea:=ft s (s.size+1) 0 nH;have⟨d7,d9⟩:=aw (blk s (s.size+1) 0);rw[d9]at cn cr ea;rw[show(((0:Nat):Int))=0 from rfl]at cr;have d5:=aj cn;clear cn h d9;go_in;go_wp2_with fail;refine ek.mono ?_;rintro z w1 ⟨rfl,el,fc,g⟩;clear ek;have em:acp w base mb s af d7 [100,6] 1 [(6, -1),(100,0)] 1 [] (s.size+1) (Ce A9 0 0) w1:=by
  refine⟨el,⟨1,0,rfl,rfl,0, -1,rfl,rfl,rfl⟩,?_,g,dA _ _ _ _,d5,⟨I,I⟩,I,⟨O,O⟩⟩;intro i a6;simp at a6;omega
 have d6:=aj em;clear em el fc g;go_wp2_with (go_at_call 23;refine eE (cr _) ?_);clear cr;have⟨dd,df,dg,dk,dl⟩:=eC amj;go_loopw [7,8,9,10] (λfF ep fB d2 wr=>∃(a:Nat) (f:List Int) (x:Int) (p:List (Int×Int)) (d:Int) (A:List Tk) (t:Nat),d2= M Q a/\fB= M Q d/\fF= M Q x/\(∃et ew,∃fb:Nat,ep= Ce et fb ew)/\a<=s.size/\s.size<a+t/\Hid (acp w base mb s af a f x p d A t ep wr)) (λ_ _ _ d2 _=>s.size+1-(B5 d2).toNat)
 case atStart=>exact⟨d7,_,1,_,1,[],s.size+1,rfl,rfl,rfl,⟨_,_,_,rfl⟩,ea.2,O,d6⟩
 case round=>
  obtain⟨a,f,x,p,d,A,t,rfl,rfl,rfl,⟨cx,cA,b8,rfl⟩,gr,gn,y⟩:=hrel;clear d6 d5;obtain⟨t,rfl⟩:∃bb,t=bb+1:=⟨t-1,O⟩;have⟨f8,f9,eF⟩:=cG y.row;cases eF;have c:=y.eq;rw[wlk]at c;have eb:=aK e8 y.bl.size;have ef:=y.ol;by_cases bA:a<s.size
  .rw[aa O]at c;have e6:(a:Int)<(s.size:Int):=O;have dn:=λw=>yG s c7 a bA w;have c0:=Bj s a;have⟨e,cI⟩:=aw (gD s a);rw[cI]at dn c c0;have ch:=aj cI;have⟨b8,a4⟩:=aw (Ax A);have C:=aj a4;rw[a4]at ef⊢;have bj:Hid ((if e=7 then(if(feedL f 5).2=X then wlk s t (feedL f 5).1 (blk s (s.size+1) (rdI s a).a) (d+1) (A++[⟨5,(a:Nat),((rdI s a).a:Nat),d,(rdI s a).n,(rdI s a).x⟩]) else wlk s t f (blk s (s.size+1) (rdI s a).a) (d+1) A)
    else if(pc f e).2=X then(if(rdI s a).ok=X then wlk s t (feedL f e).1 (blk s (s.size+1) (rdI s a).a) d (A++[⟨e,(a:Nat),((rdI s a).a:Nat),d,(rdI s a).n,(rdI s a).x⟩]) else([],f,((rdI s a).a:Nat)))
    else([],f,(wrongF s a (jH f):Nat)))=af):=c
   clear c cI a4;go_wp2_with fail;refine(dn _).mono ?_;rintro z w1 ⟨l,k,i,d8,rfl,ei,c1⟩;have ck:=y.below c1 eb;have fa:=c1.size;have an:=aj ei;clear dn c1 y ei;have⟨g,c2⟩:=aw w1.heap.size;go_upto_region 8 with fail
   have a1:dL g (w1.alloc (B3 #[M Q e,M Q a,M Q l,M Q d,M Q k,A0 i] 48)) e a l d k i:=by rw[<-c2];exact ay w1 _
   have b:Hid (acp w base mb s af a f x p d A (t+1) (Ce cx (Ax A) cA) (w1.alloc (B3 #[M Q e,M Q a,M Q l,M Q d,M Q k,A0 i] 48))):=ck.below (de w1 _) O;have cq:∀bb,(Value.slice cx b8 cA).ownBlock=A3 bb->bb<g:=λbb e4=>by
    have eh:=ck.row;rw[C.out]at eh;have:=(eh.lt bb e4).2;omega
   have cp:g≠mb:=by
    have⟨d3,L,_⟩:=ck.m.ex;have:=ah L;omega
   have e7:(w1.alloc (B3 #[M Q e,M Q a,M Q l,M Q d,M Q k,A0 i] 48)).heap.size=g+1:=by rw[fp,c2]
   generalize w1.alloc (B3 #[M Q e,M Q a,M Q l,M Q d,M Q k,A0 i] 48)=cw at a1 b e7⊢;have gf:=b.cl.2;have gm:=b.cl.1;have ge:base<=g:=O;have gp:=b.l0;have⟨fn,fo,fq,fu,fv,fz,fA⟩:=aE a1;clear ck c2 fa eb;by_cases cF:e=7
   .subst cF;have⟨c8,e5⟩:=Cz s a ch.out;have⟨bd,c5,a5,bD,a6,c4⟩:=an.yes c8;clear c5 c4;have ak:=eD s a bA c8;have c:=bj.out;rw[ab rfl,<-bD,<-a6]at c;have⟨B,bs⟩:=aw ((rdI s a).a);rw[bs]at c a5 ak;subst bd;have ar:=λw=>jJ s O B O w;have bc:=ft s (s.size+1) B O;have⟨bk,bt⟩:=aw (blk s (s.size+1) B);rw[bt]at c ar bc;rw[<-a5]at ar c;have b0:=nE b.o ((O:(1:Int)<=5)) O;have m:=qA cw base mb p f x 5 b.m b.sk b.o O O O;have⟨bn,bv⟩:=aw (feedL f 5);rw[bv]at m c b0;unfold oK at m;have⟨d0,bE⟩:=aw bn.2;rw[bE]at m c;have e1:a<B/\B<=s.size:=⟨ak.1,ak.2.1⟩;clear bD a6 bv bE c8 e5 ak bs bt ch an bj a5;go_wp2_with fail;refine m.mono ?_;rintro z n ⟨b9,D,rfl,H,aL,a3,q,G⟩;cases d0 with
    |false=>
     rw[aa I]at c;have bg:=aj c;have r:=q.blk a1 Z cp;have⟨d3,L,_⟩:=b.m.ex;have row3:=q.row L b.row Z Z;have es:Hid (acp w base mb s af bk f x (p++D) (d+1) A t (Ce cx b8 cA) n):=
      ⟨H,b.sk.app D,b.o,b.bl.trans G,by rw[<-C.out]at *;exact row3,bg,⟨by rw[aB];omega,by rw[aB];omega⟩,by rw[C.out];omega,⟨O,O⟩⟩
     have⟨ca,cb,cc,cd,ce,cf,cg⟩:=aE r;clear m c a1 r row3 L H aL q G b fn fo fq fu fv fz fA;go_wp2_with (go_at_call 23;refine eE (ar _) ?_);exact⟨⟨bk,f,x,p++D,d+1,A,t,rfl,by go_num,rfl,⟨_,_,_,rfl⟩,bc.2,O,es⟩,by simp[B5];omega⟩
    |true=>
     rw[ab rfl]at c;have bg:=aj c;clear c;have r:dL g n 7 a l d k i:=q.blk a1 Z cp;have⟨d3,L,_⟩:=b.m.ex;have row3:=q.row L b.row Z Z;rw[C.out]at row3;have bp:=b.bl.trans G;have F:dL g (n.setCell ⟨g,0,A9⟩ (M Q 5)) 5 a l d k i:=r.setKind 5;have b4:=H.other (j:=0) (v:= M Q 5) (show n.heap[g]?=A3 (B3 _ _ _) from r) Z Z;have a8:=E3 (j:=0) (u:= M Q 5) row3 cq;have br:B1 base w (n.setCell ⟨g,0,A9⟩ (M Q 5)):=bp.setCell byT _;have bf:=fD aL a3;have⟨ca,cb,cc,cd,ce,cf,cg⟩:=aE r;clear m r H row3 bp L aL a3 q G;go_upto_region 24 with fail
     generalize n.setCell ⟨g,0,A9⟩ (M Q 5)=a2 at F b4 a8 br⊢;have⟨f1,f2,f3,f4,f5,f6,f7⟩:=aE F;have E:=aj a8;have ct:=aj F;have c3:g<a2.heap.size:=ah F;clear F a8 ca cb cc cd ce cf cg;go_wp2_with (first|(at_builtin;refine pF _ rfl _ _ 45 rfl base 48 dd _ 6 56 underlying45 df dg dk dl rfl Z _ _ _ rfl (E.alloc _) ⟨a2.heap.size,0,A9⟩ 1 1 [M Q 5,M Q a,M Q l,M Q d,M Q k,A0 i] rfl rfl (B4 (cs:=#[M Q 5,M Q a,M Q l,M Q d,M Q k,A0 i]) (fr:=(0,0)) (ay a2 _)) (by intro u ap;simp at ap;rcases ap with rfl|rfl|rfl|rfl|rfl|rfl<;>rfl) py O byT ?_;intro en ba ao K ee;obtain⟨cB,cz,rfl⟩:=B7 ao;have cu:dL g ba 5 a l d k i:=(K.block g byT (λz=>by have:=cq g z.symm;omega)).trans ((dG _ _ _ c3).trans ct);obtain⟨fd,fe,ff,fg,fk,fl,fm⟩:=aE cu)|(go_at_call 23;refine eE (ar _) ?_));have b5:=b4.app E K Z Z;have bo:B1 base w ba:=(br.alloc O _).grown K byT (λb2 bx=>(E.out.lt b2 bx).1);refine⟨⟨bk,bn.1,b9,p++D,d+1,A++[⟨5,(a:Nat),l,d,k,i⟩],t,rfl,by go_num,rfl,⟨_,_,_,rfl⟩,bc.2,O,⟨b5,bf.1,?_,bo,?_,?_,?_,?_,?_⟩⟩,by simp[B5];omega⟩
     .exact b0
     .rw[aB,C.out,vH];exact ao
     .exact bg
     .have:=b.cl;have:=bf.2;rw[aB];omega
     .rw[aB,C.out];simp;omega
     .have:=b.l0;omega
   .have c:=bj.out;rw[aa cF]at c;have gb:(e==7)=A2:=beq_eq_false_iff_ne.2 cF;by_cases eL:e=0
    .subst eL;rw[show pc f 0=(f,A2) from rfl,aa I]at c;have al:=aj c;clear c bj an ch;have⟨a0,ag⟩:=aw (jH f);have e3:Ax a0<=78:=by rw[<-ag];exact tq f 78
     have a7:=Je cw base mb p f x b.m b.sk b.o O O;rw[ag]at a7;have ad:Hid ((([]:List Tk),f,((wrongF s a a0:Nat):Int))=af):=by rw[<-ag];exact al
     clear ag;go_wp2_with fail;refine a7.mono ?_;rintro z d4 ⟨ev,ez,rfl,d1,ds,k7,cy⟩;have dq:=B9 d4 s a _ a0 (sL d1) O c7 bA;clear a7;go_wp2_with (go_at_call 91;refine dq.mono ?_;rintro z f0 ⟨rfl,bw⟩);go_ret3
     refine⟨A9,0,x,p,?_,?_,ds.below bw,?_,?_,?_,?_,?_⟩
     .rw[<-ad.out];rfl
     .rw[<-ad.out];exact dA _ _ _ _
     .rw[<-ad.out];exact b.sk
     .rw[<-ad.out];exact b.o
     .exact(b.bl.trans cy).trans (bw.mono (by have:=k7.size;first|omega|(have:=q.size;omega)))
     .have:=b.cl;omega
     .have:=b.cl;omega
    .have e2:0<e:=O;have ec:pc f e=feedL f e:=by unfold pc;rw[ab e2]
     rw[ec]at c;have b0:=nE b.o ((O:(1:Int)<=e)) c0.2;have m:=qA cw base mb p f x e b.m b.sk b.o O c0.2 O;have⟨bn,bv⟩:=aw (feedL f e);rw[bv]at m c b0;unfold oK at m;have⟨d0,bE⟩:=aw bn.2;rw[bE]at m c;clear bv bE ec bj ch;cases d0 with
     |false=>
      rw[aa I]at c;have al:=aj c;clear c an;go_wp2_with fail;refine m.mono ?_;rintro z n ⟨b9,D,rfl,H,aL,a3,q,G⟩;have r:dL g n e a l d k i:=q.blk a1 Z cp;have⟨ca,cb,cc,cd,ce,cf,cg⟩:=aE r;clear m;have⟨a0,ag⟩:=aw (jH f);have e3:Ax a0<=78:=by rw[<-ag];exact tq f 78
      have a7:=Je n base mb (p++D) f x H (b.sk.app D) b.o (by rw[aB];omega) (by rw[aB];omega);rw[ag]at a7;have ad:Hid ((([]:List Tk),f,((wrongF s a a0:Nat):Int))=af):=by rw[<-ag];exact al
      clear ag;go_wp2_with fail;refine a7.mono ?_;rintro z d4 ⟨ev,ez,rfl,d1,ds,k7,cy⟩;have dq:=B9 d4 s a _ a0 (sL d1) O c7 bA;clear a7;go_wp2_with (go_at_call 91;refine dq.mono ?_;rintro z f0 ⟨rfl,bw⟩);go_ret3
      refine⟨A9,0,x,p++D,?_,?_,ds.below bw,?_,?_,?_,?_,?_⟩
      .rw[<-ad.out];rfl
      .rw[<-ad.out];exact dA _ _ _ _
      .rw[<-ad.out];exact(b.sk.app D)
      .rw[<-ad.out];exact b.o
      .exact((b.bl.trans G).trans cy).trans (bw.mono (by have:=k7.size;first|omega|(have:=q.size;omega)))
      .have:=b.cl;rw[aB];omega
      .have:=b.cl;rw[aB];omega
     |true=>
      rw[ab rfl]at c;cases hokI:(rdI s a).ok with
      |false=>
       rw[hokI,aa I]at c;have bd:=an.no hokI;have gd:¬d8<0:=O;have al:Hid ((([]:List Tk),f,d8)=af):=by rw[bd];exact c
       clear c an bd hokI;go_wp2_with fail;refine m.mono ?_;rintro z n ⟨b9,D,rfl,H,aL,a3,q,G⟩;clear m;go_wp2;go_ret3
       refine⟨A9,0,x,p++D,?_,?_,H,?_,?_,b.bl.trans G,?_,?_⟩
       .rw[<-al.out];rfl
       .rw[<-al.out];exact dA _ _ _ _
       .rw[<-al.out];exact b.sk.app D
       .rw[<-al.out];exact b.o
       .rw[aB];omega
       .rw[aB];omega
      |true=>
       rw[hokI,ab rfl]at c;have⟨bd,c5,a5,bD,a6,c4⟩:=an.yes hokI;clear c5 c4;have ak:=eD s a bA hokI;rw[<-bD,<-a6]at c;have⟨B,bs⟩:=aw ((rdI s a).a);rw[bs]at c a5 ak;subst bd;have ar:=λw=>jJ s O B O w;have bc:=ft s (s.size+1) B O;have⟨bk,bt⟩:=aw (blk s (s.size+1) B);rw[bt]at c ar bc;rw[<-a5]at ar c;have e1:a<B/\B<=s.size:=⟨ak.1,ak.2.1⟩;have bg:=aj c;clear c bD a6 ak bs bt an a5 hokI;go_wp2_with fail;refine m.mono ?_;rintro z n ⟨b9,D,rfl,H,aL,a3,q,G⟩;have r:dL g n e a l d k i:=q.blk a1 Z cp;have⟨d3,L,_⟩:=b.m.ex;have row3:=q.row L b.row Z Z;rw[C.out]at row3;have bp:=b.bl.trans G;have F:dL g (n.setCell ⟨g,0,A9⟩ (M Q e)) e a l d k i:=r.setKind e;have b4:=H.other (j:=0) (v:= M Q e) (show n.heap[g]?=A3 (B3 _ _ _) from r) Z Z;have a8:=E3 (j:=0) (u:= M Q e) row3 cq;have br:B1 base w (n.setCell ⟨g,0,A9⟩ (M Q e)):=bp.setCell byT _;have bf:=fD aL a3;have⟨ca,cb,cc,cd,ce,cf,cg⟩:=aE r;clear m r H row3 bp L aL a3 q G;go_upto_region 24 with fail
       generalize n.setCell ⟨g,0,A9⟩ (M Q e)=a2 at F b4 a8 br⊢;have⟨f1,f2,f3,f4,f5,f6,f7⟩:=aE F;have E:=aj a8;have ct:=aj F;have c3:g<a2.heap.size:=ah F;clear F a8 ca cb cc cd ce cf cg;go_wp2_with (first|(at_builtin;refine pF _ rfl _ _ 45 rfl base 48 dd _ 6 56 underlying45 df dg dk dl rfl Z _ _ _ rfl (E.alloc _) ⟨a2.heap.size,0,A9⟩ 1 1 [M Q e,M Q a,M Q l,M Q d,M Q k,A0 i] rfl rfl (B4 (cs:=#[M Q e,M Q a,M Q l,M Q d,M Q k,A0 i]) (fr:=(0,0)) (ay a2 _)) (by intro u ap;simp at ap;rcases ap with rfl|rfl|rfl|rfl|rfl|rfl<;>rfl) py O byT ?_;intro en ba ao K ee;obtain⟨cB,cz,rfl⟩:=B7 ao;have cu:dL g ba e a l d k i:=(K.block g byT (λz=>by have:=cq g z.symm;omega)).trans ((dG _ _ _ c3).trans ct);obtain⟨fd,fe,ff,fg,fk,fl,fm⟩:=aE cu)|(go_at_call 23;refine eE (ar _) ?_));have b5:=b4.app E K Z Z;have bo:B1 base w ba:=(br.alloc O _).grown K byT (λb2 bx=>(E.out.lt b2 bx).1);refine⟨⟨bk,bn.1,b9,p++D,d,A++[⟨e,(a:Nat),l,d,k,i⟩],t,rfl,rfl,rfl,⟨_,_,_,rfl⟩,bc.2,O,⟨b5,bf.1,?_,bo,?_,?_,?_,?_,?_⟩⟩,by simp[B5];omega⟩
       .exact b0
       .rw[aB,C.out,vH];exact ao
       .exact bg
       .have:=b.cl;have:=bf.2;rw[aB];omega
       .rw[aB,C.out];simp;omega
       .have:=b.l0;omega
  .rw[ab O]at c;have eg:a=s.size:=O;have⟨b8,a4⟩:=aw (Ax A);have C:=fD a4 eg;have dc:=y.row;rw[a4]at ef dc⊢;have E:=aj dc;have bh:=aj c;have e6:¬(a:Int)<(s.size:Int):=O;clear c a4 dc eg;go_wp2_with (at_builtin;refine pF _ rfl _ _ 45 rfl base 48 dd _ 6 56 underlying45 df dg dk dl rfl Z _ _ _ rfl (E.alloc _) ⟨wr.heap.size,0,A9⟩ 1 1 [M Q 6,M Q s.size,M Q s.size,M Q d,M Q 0,A0 ⟨#[]⟩] rfl rfl (B4 (cs:=#[M Q 6,M Q s.size,M Q s.size,M Q d,M Q 0,A0 ⟨#[]⟩]) (fr:=(0,0)) (ay wr _)) (by intro u ap;simp at ap;rcases ap with rfl|rfl|rfl|rfl|rfl<;>rfl) py O byT ?_;intro en ba ao K ee;obtain⟨cB,cz,rfl⟩:=B7 ao);go_ret3
   have b5:=y.m.app E K Z Z;have bo:B1 base w ba:=(y.bl.alloc O _).grown K byT (λb2 bx=>(E.out.lt b2 bx).1);have ed:Ax af.1=b8+1:=by rw[<-bh.out,aB,C.out.1];rfl
   refine⟨A3 ⟨cB,0,A9⟩,cz,x,p,?_,?_,b5,?_,?_,bo,y.cl.1,?_⟩
   .rw[ed,<-bh.out];rfl
   .rw[ed,<-bh.out,vH];exact ao
   .rw[<-bh.out];exact y.sk
   .rw[<-bh.out];exact y.o
   .have:=y.cl.2;omega
theorem Ak(x:Bz):∀(L:List Int),bgL x L=X↔∃k∈L,bgC (ae x 0) k=X\/bgT x k=X
 |[]=>by simp[bgL]
 |k::r=>by
  rw[bgL];constructor
  .intro h;split at h
   .grind
   split at h
   .grind
   .obtain⟨c,a,b⟩:=(Ak x r).1 h;grind
  .rintro ⟨c,a,b⟩;split
   .rfl
   split
   .rfl
   .rename_i d e;rcases List.mem_cons.1 a with rfl|a
    .grind
    .exact(Ak x r).2 ⟨c,a,b⟩
theorem xA{x:Bz}{k:Int}:bgT x k=X↔x.size<=(eI k).size/\∀i,i<x.size->ae x i=ae (eI k) i:=by
 unfold bgT;rw[cH,ga,mL,fL,fL];refine and_congr_right (λc=>?_);have d:((eI k).extract 0 x.size).size=x.size:=byS;have f:∀i,i<x.size->ae ((eI k).extract 0 x.size) i=ae (eI k) i:=λi b=>by rw[eu _ 0 _ i c,ny]
 constructor
 .intro a i b;have e:(eI k).extract 0 x.size=x:=mq (Array.toList_inj.1 a);grind
 .intro a;rw[yH d (λi b=>U)]
def apw:∀k:Fin 79,(eI (k.val:Int)).size<=11/\∀i:Fin 12,ae (eI (k.val:Int)) i.val≠32:=by decide+kernel
