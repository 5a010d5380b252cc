import Derived.Test.YthkcmkmkapijkaaGreatDoorh11
import Derived.Test.YthkcmkmkapijkaaGreatDoorh15
import Derived.Test.YthkcmkmkapijkaaGreatDoorh14
set_option linter.all false
set_option maxRecDepth 100000
set_option maxHeartbeats 12800000
open List renaming length->M
open Go.Lib renaming hasPrefix->Q
open Go.Value renaming string->T,tuple->A9,int->Br,agg->B2,slice->B4
open Bool renaming true->V,false->X
open Go renaming World->Y,ownsRow_succ->B1,Calls->B3,Value->B5,TypeId->B7
open Go.Proofs.Tryz renaming prog->Ax
open Go.Ending renaming returned->A0
open Go.World renaming news_of_block->A1
open Go.RowKit renaming intOf->A2,Below->B0
open Option renaming some->A3,none->B6
open Go.Obj renaming cells->A5
namespace Go.Proofs.YthkcmkmkapijkaaGreatDoor
open Go.RowKit Go.Maps Go.WideMaps
variable{C:List (Int×Int)}{W:World}{base n:Nat}{v:Value}
def pB(a b c:Int)(x:Bz):Bool:=decide ((x.size=0\/a=aq x 0)/\(x.size<=1\/b=aq x 1)/\(x.size<=2\/c=aq x 2))
theorem auk(r x i)(a:i<x.size):r.data.toList[i]?=x.data.toList[i]?↔aq r i=aq x i:=by
 have b:x.data.toList[i]?=A3 x[i]:=by rw[FC];exact FE _
 grind [jj,aq,Int,Nat.lt_or_ge,dH]
theorem ae4(r x)(h:x.size<=3):Q r.data.toList x.data.toList=pB (aq r 0) (aq r 1) (aq r 2) x:=by
 unfold Q pB;rw[Cc,BF,tr,List.prefix_iff_getElem?];have a:M x.data.toList=x.size:=oG;grind [aq,auk]
def aas(q:Bz->Bool)(b:zAV)(c:Int):Nat->Nat->Int×Nat->Int×Nat|0,_,a=>a|f+1,i,a=>aas q b c f (i+1)<|ite (a.2<(bB b i).size/\q (bB b i)=V) (c+(i:Int),(bB b i).size) a
def skq(a:Int)(q:Bz->Bool):Int:=ite (a=59) 5<|ite (a=10) 7<|(aas q oh 61 18 0<|aas q jH 40 11 0 (0,0)).1
def A7(q:Bz->Bool):Nat->Nat->zON|0,_=>B6|f+1,k=>ite (q (bB lE k)=V) (A3 k)<|A7 q f<|k+1
def amg(b c r):∀(f i)(a),A4 b c r f i a=aas (λx=>Q r.data.toList x.data.toList) b c f i a|0,i,a=>rfl|f+1,i,a=>by rw[A4,aas];exact amg b _ r f _ _
def A8(q d b c N)(h:∀i,i<N->q (bB b i)=d (bB b i)):∀(f i)(a),i+f<=N->aas q b c f i a=aas d b c f i a|0,i,a,_=>rfl|f+1,i,a,e=>by rw[aas,aas,h i O];exact A8 q _ b _ N h f _ _ O
def Hs(q a)(h:∀i,i<30->q (bB lE i)=a (bB lE i)):∀f i,i+f<=30->A7 q f i=A7 a f i|0,i,_=>rfl|f+1,i,b=>by rw[A7,A7,h i O,Hs q _ h f _ O]
def nrm(S:zLI)(b:Int):Int:=ite (b∈S) b 0
theorem ae5(S)(c:(0:Int) ∉ S)(b a)(d:a∈S):nrm S b=a↔b=a:=by
 grind [nrm]
def fb0:zLI:=[46,60,62,61,126,47,40,41,123,125,91,93,44,59,35,43,45,42,37,38,124]
def fb1:zLI:=[46,60,61,62,47]
def fb2:zLI:=[46]
def inB(x:Bz):Bool:=decide (x.size<=3/\(x.size=0\/aq x 0∈fb0)/\(x.size<=1\/aq x 1∈fb1)/\(x.size<=2\/aq x 2∈fb2))
def aul:∀i:Fin 11,inB (bB jH i.val)=V:=by decide+kernel
def aum:∀i:Fin 18,inB (bB oh i.val)=V:=by decide+kernel
def amh:∀i:Fin 30,inB (bB lE i.val)=V:=by decide+kernel
theorem aun(a b c x)(h:inB x=V):pB a b c x=pB (nrm fb0 a) (nrm fb1 b) (nrm fb2 c) x:=by
 unfold inB at h;rw[tr]at h;obtain⟨_,d,_,_⟩:=h;have e:(x.size=0\/a=aq x 0)↔(x.size=0\/nrm fb0 a=aq x 0):=by
  obtain h|h:=d;all_goals (simp_all [ae5,fb0])
 grind [aq,nrm,fb1,ae5,fb2,pB]
def asD(a b c:Int):Bool:=match A7 (pB a b c) 30 0 with
 |some d=>decide (skq a (pB a b c)=Ck (bB lE d)/\(di<|skq a<|pB a b c).size=(bB lE d).size/\skq a (pB a b c)≠0/\skq a (pB a b c)≠7)|none=>decide (skq a (pB a b c)=0)
def ami:∀a∈0::fb0,∀b∈0::fb1,∀c∈0::fb2,asD a b c=V:=by decide+kernel
theorem ae6(S:zLI)(b):nrm S b∈0::S:=by
 grind [nrm]
theorem amj(r x)(a:inB x=V):Q r.data.toList x.data.toList=pB (nrm fb0<|aq r 0) (nrm fb1<|aq r 1) (nrm fb2<|aq r 2) x:=by
 rw[<-aun _ _ _ x a]
 simp_all [inB,ae4]
def skN(a b c:Int):Int:=skq a<|pB a b c
theorem azu(r)(c:aq r 0≠10):qA r=skN (nrm fb0<|aq r 0) (nrm fb1<|aq r 1) (nrm fb2<|aq r 2):=by
 unfold skN;unfold qA skq;rw[amg,amg,A8 _ _ _ _ _ (λb a=>amj r _<|aul ⟨b,a⟩) 11 0 _ O,A8 _ _ _ _ _ (λb a=>amj r _<|aum ⟨b,a⟩) _ 0 _ O];have d:=ae5 fb0 Z (aq r 0) 59 Z;grind [nrm,fb0,aq]
def Ht(r:Bz):Prop:=match A7 (λb=>Q r.data.toList b.data.toList) 30 0 with
 |some a=>qA r=Ck (bB lE a)/\(di<|qA r).size=(bB lE a).size/\qA r≠0/\qA r≠7|none=>qA r=0
theorem aat(r)(b:aq r 0≠10):Ht r:=by
 have a:=azu r b;unfold skN at a;have e:=ami _ (ae6 _<|aq r 0) _ (ae6 _<|aq r 1) _<|ae6 _<|aq r 2;unfold Ht;rw[Hs _ _ (λd c=>amj r _<|amh ⟨d,c⟩) _ 0 O,a];grind [asD]
theorem aqz(s x:Bz)(p)(e:p<=s.size):Q (s.extract p s.size).data.toList x.data.toList=decide (p+x.size<=s.size/\((s.extract p<|p+x.size).toList==x.toList)=V):=by
 have d:M s.data.toList=s.size:=oG;have c:M x.data.toList=x.size:=oG;have a:(s.extract p s.size).data.toList=s.data.toList.drop p:=by
  rw[<-iH,Lib.extract_toList,ci];grind
 have b:(s.extract p<|p+x.size).toList=(s.data.toList.drop p).take x.size:=by
  rw[Lib.extract_toList];grind
 rw[a,b,iH];unfold Q;rw[Cc,BF,tr,List.prefix_iff_eq_take,c,qo];grind
def ajo(s)(f:s.size<=70000)(p)(b:p<s.size)(a:aq s p=10)(w):B3 Ax 127 #[T s,zI p] w λe d=>e=A0 (A9 #[B2 #[zI 7,zI p,zI<|(p:Int)+1,zI 0,zI 0,nh],zI (-1)])/\B0 w.heap.size w d:=by
 have c:=λw=>dy b w;rw[a]at c;have g:(p:Int)<(s.size:Int):=O;go_in;go_wp2;refine aA (by simp[results,go_sem]) R ⟨R,?_⟩;exact((ay _ w).alloc O _).alloc I _
def amk(p R1):∃(t:Int) (x:Bz),Kk p R1=B2 #[zI 4,zI p,zI t,zI 0,zI 0,T x]:=by
 unfold Kk;split<;>exact⟨_,_,R⟩
def Hu(s)(u:s.size<=70000)(p)(m:p<s.size)(t:aq s p=34)(w):B3 Ax 127 #[T s,zI p] w λe x=>e=A0 (A9 #[Kk p<|gy s (s.size+1) (p+1) [],zI<|ac2<|gy s (s.size+1) (p+1) []])/\B0 w.heap.size w x:=by
 have n:=λw=>dy m w;have q:=λw=>me (c:=34) (b:=X) Z w;have o:=λw=>eH (c:=34) (b:=X) Z w;have a:=λw=>aaq s u p m w;generalize gy s (s.size+1) (p+1) []=f at a;have⟨_,_,i⟩:=amk p f;rw[i]at a⊢;generalize ac2 f=F at a;rw[t]at n;clear i;go_in;go_wp2_with (first|(go_at_call 201;apply ez<|q _)|(go_at_call 203;apply ez<|o _));generalize j:(w.alloc _).alloc _=r;obtain⟨g, -,h,v⟩:=Eu j;have k:eK w.heap.size r 0 0 0 0 0 zE0:=g;clear j g;refine dd (a _) λy d=>?_;have l:=k.below d O;have G:=h.trans<|d.mono O;clear d k h v a q o n;have⟨z0,z,A,B,C,E,_⟩:=aJ l;have H:w.heap.size<y.heap.size:=ai l;go_wp2;refine aA (by simp[results,go_sem,z0,z,A,B,C,E]) R ⟨R,?_⟩
 iterate 6 refine gE ?_ I _
 omega
structure ahh (q:Bz->Bool) (f k:Nat) (R1:zON):Prop where
 out:A7 q f k=R1
def axx(p:Nat)(R1:zON):B5:=match R1 with
 |some a=> A9 #[B2 #[zI<|Ck<|bB lE a,zI p,zI<|(p:Int)+((bB lE a).size:Int),zI 0,zI 0,nh],zI (-1)]|none=> A9 #[B2 #[zI 0,zI p,zI 0,zI 0,zI 0,nh],zI p]
def auo:∀k:Fin 30,(bB lE k.val).size<=3:=Z
theorem Hv(s)(bl:s.size<=70000)(p)(a2:p<s.size)(ar:¬aq s p=10)(K:bi (aq s p)=X)(H:co (aq s p)=X)(av:¬aq s p=34)(w):
  B3 Ax 127 #[T s,zI p] w λe a=>e=A0 (axx p<|A7 (λx=>Q (s.extract p s.size).data.toList x.data.toList) 30 0)/\B0 w.heap.size w a:=by
 have am:=λw=>dy a2 w;have C:(aq s p==10)=X:=U;have E:(aq s p==34)=X:=U;have A:=λw=>me K w;have z:=λw=>eH H w;have bn:(p:Int)<(s.size:Int):=O;generalize aq s p=bh at am C E A z;obtain⟨c,t⟩:∃c:Bz->Bool,(λx=>Q (s.extract p s.size).data.toList x.data.toList)=c:=⟨_,R⟩;have ad:∀x,c x=decide (p+x.size<=s.size/\((s.extract p<|p+x.size).toList==x.toList)=V):=λx=>by rw[<-t];exact aqz s x p O
 rw[t];have⟨l,q⟩:=aw<|A7 c 30 0;rw[q];have B:ahh c 30 0 l:=⟨q⟩;have an:=ah ad;clear q t ad ar K H av;go_in;go_wp2_with (first|(go_at_call 201;apply ez<|A _)|(go_at_call 203;apply ez<|z _));generalize G:(w.alloc _).alloc _=m;obtain⟨h,g,o, -⟩:=Eu G;replace h:eK w.heap.size m 0 0 0 0 0 zE0:=h;replace g:eK (w.heap.size+1) m 0 p 0 0 0 zE0:=g;clear G;refine dd (xG _) λd j=>?_;have n:eK (w.heap.size+1) d 0 p 0 0 0 zE0:=by rw[j];exact(alO<|ai g).trans g
 have r:eK w.heap.size d 0 0 0 0 0 zE0:=by rw[j];exact(alO<|ai h).trans h
 have F:B0 w.heap.size w d:=by rw[j];exact o.alloc o.size _
 have ax:d.heap[m.heap.size]?=A3 (A5 lE 9 (0,0)):=by rw[j];exact au _ _
 clear j g h o A z am C E;go_wp2_with fail;have⟨_,_,_,_,_,_,_⟩:=aJ n;have⟨z0,ba,bb,bc,bd,bf,_⟩:=aJ r;have ak:w.heap.size<d.heap.size:=ai r;have al:w.heap.size+1<d.heap.size:=ai n;go_loop [45,9] (λy _=>∃a:Nat,a<=30/\y=zI a/\ahh c (30-a) a l) (λy _=>30-(A2 y).toNat)
 .grind
 .
  obtain⟨a,_,rfl,k⟩:=hrel;by_cases L:a<30
  .have a0:d.cell? (aj m.heap.size a)=A3 (T<|bB lE a):=by rw[oe ax];exact akG ⟨a,L⟩
   have b:=k.out;rw[(O:30-a=(30-(a+1))+1),A7,an.out]at b;have af:=auo ⟨a,L⟩;simp at af;have⟨x,u⟩:=aw<|bB lE a;rw[u]at a0 b af;have ao:=ah u;clear u k B;by_cases bj:p+x.size<=s.size
   .have a1:(x.size:Int)<=(s.size:Int)-(p:Int):=O;have bk:(p:Int)+(x.size:Int)<=(s.size:Int):=O;by_cases a3:((s.extract p<|p+x.size).toList==x.toList)=V
    .rw[ae U]at b;have f:=ah b;clear b;go_wp2_with (go_at_call 206;apply(AD x _).mono;rintro e _ ⟨rfl,i⟩;obtain⟨_,_,_,_,_,_,_⟩:=aJ<|n.below i al;have⟨a4,a5,a6,a7,a8,a9,_⟩:=aJ<|r.below i ak;have bo:=jm ak i.size;have br:=jm al i.size);refine aA (v:=A9 #[B2 #[zI<|Ck x,zI p,zI<|p+x.size,zI 0,zI 0,nh],zI (-1)]) (by simp[results,go_sem,a4,a5,a6,a7,a8,a9]) R ⟨by rw[<-f.out];have ap:=ao.out;subst ap;rfl,?_⟩
     iterate 8 refine gE ?_ I _
     exact F.trans<|i.mono F.size
    .have i:((s.extract p<|p+x.size).toList==x.toList)=X:=U;rw[aa U]at b;have f:ahh c (30-(a+1)) (a+1) l:=⟨b⟩;clear b a3;go_wp2;go_round
     .grind
     simp[A2];omega
   .have a1:¬(x.size:Int)<=(s.size:Int)-(p:Int):=O;rw[aa U]at b;have f:ahh c (30-(a+1)) (a+1) l:=⟨b⟩;clear b;go_wp2;go_round
    .grind
    simp[A2];omega
  .obtain rfl:a=30:=O;have f:=ah k.out;clear k B;go_wp2_with fail;refine aA (v:=A9 #[B2 #[zI 0,zI p,zI 0,zI 0,zI 0,nh],zI p]) (by simp[results,go_sem,z0,ba,bb,bc,bd,bf]) R ⟨by rw[<-f.out];rfl,?_⟩
   iterate 6 refine gE ?_ I _
   omega
structure axy (R1:Rd) (k t n:Int) (x:Bz) (bad:Int):Prop where
 yes:R1.ok=V->bad= -1/\k=R1.k/\t=(R1.a:Int)/\n=R1.n/\x=R1.x/\R1.d=(ite (R1.k=7) 1 0)
 no:R1.ok=X->bad=(R1.a:Int)
theorem axz(s p):(Hj s p).1≠7:=by
 unfold Hj;grind
theorem axA(s p):(xm s p).1≠7:=by
 unfold xm;grind
theorem ae7(s:Bz)(m:s.size<=70000)(p)(f:p<s.size)(w):
  B3 Ax 127 #[T s,zI p] w λe c=>∃k t n x a,e=A0 (A9 #[B2 #[zI k,zI p,zI t,zI 0,zI n,T x],zI a])/\axy (rdI s p) k t n x a/\B0 w.heap.size w c:=by
 unfold rdI;by_cases l:bi (aq s p)=V
 .rw[ae l];refine dd (Ey s O p f l w) λc b=>?_;rw[axp];exact⟨_,_,_,_,_,R,⟨λ_=>⟨R,R,R,R,R,by simp only;rw[aa<|axz s p]⟩,λa=>by cases a⟩,b⟩
 rw[aa l];by_cases j:co (aq s p)=V
 .rw[ae j];refine dd (AK s O p f j w) λc b=>?_;cases hok:(eB s p).2 with
  |true=>
   have⟨d,o⟩:=auf s p hok;rw[d,o,ae rfl];exact⟨_,_,_,_,_,R,⟨λ_=>⟨R,R,R,R,R,by simp only;rw[aa<|axA s p]⟩,λa=>by cases a⟩,b⟩
  |false=>
   have⟨k,t,n,x,d⟩:=agL s p;rw[d,acL s p hok,aa I];exact⟨_,_,_,_,_,R,⟨λa=>U,λa=>rfl⟩,b⟩
 rw[aa j];by_cases g:aq s p=34
 .rw[ae g];refine dd (Hu s m p f g w) λc b=>?_;generalize gy s (s.size+1) (p+1) []=i;obtain⟨h,_,_⟩:=i;cases h with
  |true=>exact⟨_,_,_,_,_,R,⟨λ_=>⟨R,R,R,R,R,R⟩,λa=>by cases a⟩,b⟩
  |false=>exact⟨_,_,_,_,_,R,⟨λa=>(by cases a),λa=>rfl⟩,b⟩
 rw[aa g];have u:aq (s.extract p s.size) 0=aq s p:=gq s p _ 0 O;by_cases q:aq s p=10
 .have h:qA (s.extract p s.size)=7:=by unfold qA;omega
  rw[h,aa Z];refine dd (ajo s m p f q w) λc b=>?_;exact⟨_,_,_,_,_,R,⟨λ_=>⟨R,R,R,R,R,R⟩,λa=>by cases a⟩,b⟩
 .have h:=aat (s.extract p s.size) O;unfold Ht at h;refine dd (Hv s m p f q U U g w) λc b=>?_;generalize A7 (λx=>Q (s.extract p s.size).data.toList x.data.toList) 30 0=i at h;cases i with
  |none=>
   rw[h,ae rfl];exact⟨_,_,_,_,_,R,⟨λa=>(by cases a),λa=>rfl⟩,b⟩
  |some v=>
   obtain⟨d,o,r,_⟩:=(show _/\_/\_/\_ from h);rw[aa r];refine⟨_,_,_,_,_,R,⟨λ_=>⟨R,d.symm,?_,R,R,R⟩,λa=>by cases a⟩,b⟩;grind
structure aup (s:Bz) (f k e:Nat):Prop where
 out:jp nnB s f k=e
structure ahi (s:Bz) (f k e:Nat):Prop where
 out:blk s f k=e
theorem wG(s:Bz)(an:s.size<=1100000)(p)(a0:p<=s.size)(w):B3 Ax 126 #[T s,zI p] w λe ap=>e=A0 (zI<|blk s (s.size+1) p)/\ap=w:=by
 have⟨r,z⟩:=aw<|blk s (s.size+1) p;rw[z];have ar:ahi s (s.size+1) p r:=⟨z⟩;clear z;go_in;go_wp2;go_loop [1,5] (λj _=>∃a d,a<=s.size/\s.size<a+d/\j=zI a/\ahi s d a r) (λj _=>s.size-(A2 j).toNat)
 .grind
 .
  obtain⟨a,d,am,_,rfl,m⟩:=hrel;obtain⟨d,rfl⟩:∃g,d=g+1:=⟨d-1,O⟩;have b:=m.out;rw[blk]at b;by_cases G:a<s.size
  .have ax:(a:Int)<(s.size:Int):=O;rw[aa O]at b;have o:=λw=>dy G w;have u:=ll G;by_cases h:jD (aq s a)=V
   .rw[ae h]at b;have f:ahi s d (a+1) r:=⟨b⟩;have l:aq s a=32\/aq s a=9\/aq s a=13:=aL h;generalize aq s a=C at o l u;clear b m h;obtain rfl|rfl|rfl:=l;all_goals
     go_wp2;go_round
     .grind
     simp[A2];omega
   .rw[aa h]at b;have l:¬(aq s a=32\/aq s a=9\/aq s a=13):=λaf=>h<|eI af;have v:(aq s a==32)=X:=U;have x:(aq s a==9)=X:=U;have y:(aq s a==13)=X:=U;have q:=λw=>jd s an (a+1) (a+1) O w;have n:=yj s (a+1) 45;by_cases i:aq s a=45/\aq s (a+1)=45
    .rw[ae i]at b;have f:ahi s d (nlE s a) r:=⟨b⟩;rw[i.2]at n;have F:lk s (a+1)=45:=U;have ak:=zD s a i.1;have al:=aan s a am;rw[i.1]at o;rw[F]at q;have L:aup s (s.size+1) a (nlE s a):=⟨R⟩;generalize nlE s a=B at f ak al L;clear b m h l v x y n F i u;go_wp2_with (go_at_call 200;apply ez<|q _);go_loop [1] (λj=>∃c g,c<=s.size/\s.size<c+g/\j=zI c/\aup s g c B) (λj=>s.size-(A2 j).toNat)
     .grind
     .
      obtain⟨c,g,_,_,rfl,A⟩:=hrel;obtain⟨g,rfl⟩:∃ao,g=ao+1:=⟨g-1,O⟩;have b:=A.out;rw[jp]at b;clear o A;by_cases E:c<s.size
      .have av:(c:Int)<(s.size:Int):=O;have H:=λw=>dy E w;have K:=ll E;by_cases t:aq s c=10
       .rw[aa (by rw[t];decide)]at b;rw[t]at H;have k:=ah b;clear b t K;go_wp2;go_round
        .exact⟨c,d,O,by have:=k.out;omega,by go_num,by rw[k.out];exact f⟩
        have:=k.out;simp[A2];omega
       .rw[ae (by unfold nnB;grind)]at b;have k:aup s g (c+1) B:=⟨b⟩;have ad:(aq s c==10)=X:=U;generalize aq s c=C at H ad;clear b t K;go_wp2;go_round
        .grind
        simp[A2];omega
      .obtain rfl:c=s.size:=O;rw[aa (by rw[dH];decide)]at b;have k:=ah b;clear b;go_wp2;go_round
       .exact⟨_,d,O,O,by go_num,by rw[k.out];exact f⟩
       simp[A2];omega
    .rw[aa i]at b;have f:=ah b;clear b m;by_cases c:aq s a=45
     .have k:aq s (a+1)≠45:=O;rw[bq k]at n;rw[c]at o;generalize lk s (a+1)=t at q n;clear h l v x y i u k c;go_wp2_with (go_at_call 200;apply ez<|q _);go_ret;exact⟨by rw[<-f.out];rfl,R⟩
     .have k:(aq s a==45)=X:=U;have t:(aq s a !=45)=V:=U;generalize aq s a=C at o v x y k t;clear h l i u c q n;go_wp2;go_ret;exact⟨by rw[<-f.out];rfl,R⟩
  .obtain rfl:a=s.size:=O;rw[ae O]at b;have f:=ah b;clear b m;go_wp2;go_ret;exact⟨by rw[<-f.out];rfl,R⟩
def xw(s:Bz)(p:Nat):Int:=ite (co (aq s p)=V) (ite (aq s p=48/\aq s (p+1)=120) 2 3)<|ite (aq s p=34) 4 0
theorem aml(s p)(h:(eB s p).2=X):∃(t n:Int) (x:Bz),Fj s p=B2 #[zI<|ite (aq s p=48/\aq s (p+1)=120) 2 3,zI p,zI t,zI 0,zI n,T x]:=by
 unfold Fj;unfold eB at h;by_cases a:aq s p=48/\aq s (p+1)=120;all_goals (simp_all [hxA,aa,nmA])
def tG(s:Bz)(p:Nat):Int:=if(rdI s p).ok=V then(rdI s p).k else xw s p
theorem amm(a s):∀f k j,Cj a s f k=A3 j->j<k+f
 |0,k,j,h=>by simp[Cj]at h|f+1,k,j,h=>by
  rw[Cj]at h;split at h
  .grind
  .have:=amm a s f _ j h;omega
theorem Hw(s p)(h:(rdI s p).ok=V):1<=(rdI s p).k/\(rdI s p).k<=78:=by
 unfold rdI at h⊢;split
 .simp;unfold Hj;cases hf:Cj iA (s.extract p<|pJ s (s.size+1) p) 22 0 with
  |none=>simp|some k=>have:=amm _ _ _ _ _ hf;grind
 split
 .grind [xm]
 split
 .grind
 split
 .grind
 .rename_i a b c d;have:=al6<|s.extract p s.size;grind
theorem aau(s p):0<=xw s p/\xw s p<=4:=by
 grind [xw]
theorem ae8(s:Bz)(k:s.size<=70000)(p)(g:p<s.size)(w):
  B3 Ax 127 #[T s,zI p] w λe f=>∃t n x c,e=A0 (A9 #[B2 #[zI<|tG s p,zI p,zI t,zI 0,zI n,T x],zI c])/\axy (rdI s p) (tG s p) t n x c/\B0 w.heap.size w f:=by
 cases hok0:(rdI s p).ok with
 |true=>
  apply(ae7 s k p g w).mono;rintro e f ⟨_,t,n,x,c,rfl,a,b⟩;obtain⟨_,rfl,_⟩:=a.yes hok0;grind [tG,rdI]
 |false=>
  have o:tG s p=xw s p:=by grind [tG]
  rw[o];have d:=hok0;unfold rdI at d;have r:¬bi (aq s p)=V:=U;rw[aa r]at d;by_cases j:co (aq s p)=V
  .rw[ae j]at d;have h:(eB s p).2=X:=by
    grind
   refine dd (AK s O p g j w) λf b=>?_;have⟨t,n,x,i⟩:=aml s p h;have c:xw s p=(ite (aq s p=48/\aq s (p+1)=120) 2 3):=by grind [xw]
   rw[i,c,acL s p h];refine⟨_,_,_,_,R,⟨λa=>U,λa=>?_⟩,b⟩;grind [rdI]
  .rw[aa j]at d;by_cases i:aq s p=34
   .have c:xw s p=4:=by grind [xw]
    rw[c];refine dd (Hu s k p g i w) λf b=>?_;have h:(rdI s p).ok=(gy s (s.size+1) (p+1) []).1/\(rdI s p).a=(gy s (s.size+1) (p+1) []).2.1:=by
     grind [rdI]
    rw[hok0]at h;generalize v:gy s (s.size+1) (p+1) []=l at h;obtain⟨y,u,_⟩:=l;simp only at h;obtain⟨m,q⟩:=h;subst m;refine⟨_,_,_,_,R,⟨λa=>U,λa=>?_⟩,b⟩;rw[q];rfl
   .rw[aa i]at d;have c:xw s p=0:=by grind [xw]
    rw[c];have u:qA (s.extract p s.size)=0:=by
     grind
    have q:aq (s.extract p s.size) 0=aq s p:=gq s p _ 0 O;have h:¬aq s p=10:=λh=>by
     grind [qA]
    have l:=aat (s.extract p s.size) O;unfold Ht at l;refine dd (Hv s k p g h U U i w) λf b=>?_;generalize A7 (λx=>Q (s.extract p s.size).data.toList x.data.toList) 30 0=m at l;cases m with
    |none=>
     refine⟨_,_,_,_,R,⟨λa=>U,λa=>?_⟩,b⟩;grind [rdI]|some a=>
     omega
def C0(a:zLI)(k:Int):zLI×Bool:=ite (0<k) (feedL a k) (a,X)
def sJ(s:Bz):Nat->zLI->Nat->Int->zLT->zLT×zLI×Int
 |0,b,_,_,_=>([],b,0)|f+1,b,p,l,c=>
  if s.size<=p then(c++[⟨6,(s.size:Nat),(s.size:Nat),l,0,zE0⟩],b, -1)
  else if tG s p=7 then
   (if(feedL b 5).2=V then sJ s f (feedL b 5).1 (blk s (s.size+1) (rdI s p).a) (l+1) (c++[⟨5,(p:Nat),((rdI s p).a:Nat),l,(rdI s p).n,(rdI s p).x⟩]) else sJ s f b (blk s (s.size+1) (rdI s p).a) (l+1) c)
  else if(C0 b<|tG s p).2=V then
   (if(rdI s p).ok=V then sJ s f (feedL b<|tG s p).1 (blk s (s.size+1) (rdI s p).a) l (c++[⟨tG s p,(p:Nat),((rdI s p).a:Nat),l,(rdI s p).n,(rdI s p).x⟩]) else([],b,((rdI s p).a:Nat)))
  else([],b,(wrongF s p (Cs b):Nat))
def jz(s:Bz):zLT×zLI×Int:=sJ s (s.size+1) [100,6] (blk s (s.size+1) 0) 1 []
structure azv (s:Bz) (f:Nat) (st:zLI) (p:Nat) (l:Int) (out:zLT) (R1:zLT×zLI×Int):Prop where
 out:sJ s f st p l out=R1
def ae9(s p):0<=tG s p/\tG s p<=78:=by
 unfold tG;split
 .rename_i a;have:=Hw s p a;omega
 .have:=aau s p;omega
theorem afa(s p)(h:tG s p=7):(rdI s p).ok=V/\(rdI s p).k=7:=by
 unfold tG at h;split at h
 .grind
 .have:=aau s p;omega
def aqA:(Ax.info? 58).map (λi=>(i.zero,i.size,i.bytes))=A3 (A3<|B2 #[zI 0,zI 0,zI 0,zI 0,zI 0,nh],6,56):=J
theorem ac6{a o}{e size:Nat}{xs:zLV}(g:W.ownsRow base e size v n xs)(d:(W.alloc o).grownBy a v.ownBlock){k:Nat}{cs:zAV}{t fr}(f:W.heap[k]?=A3 (A5 cs t fr))(i:t≠e):a.heap[k]?=A3 (A5 cs t fr):=by
 refine(d.block k (by simp;grind) (λb=>?_)).trans<|(alO U).trans f;have h:v.ownBlock=A3 k:=b.symm;obtain⟨c,_⟩|⟨_,_,_,c,_,_,_⟩:=g.2;all_goals (simp_all [Value.ownBlock])
theorem AF.app{d o mb}(h:AF W base mb C){f e size:Nat}{xs:zLV}(b:W.ownsRow f e size v n xs)(a:(W.alloc o).grownBy d v.ownBlock)(g:96≠e)(i:179≠e):AF d base mb C:=by
 have⟨_,m,p,c⟩:=h.ex;refine⟨⟨_,ac6 b a m g,p,?_⟩,h.lo⟩;obtain c|⟨_,_,_,l,k,j,q⟩:=c
 .grind
 .exact .inr ⟨_,_,_,l,k,ac6 b a j i,q⟩
theorem AF.other{mb b}(h:AF W base mb C){cs:zAV}{t fr}(r:W.heap[b]?=A3 (A5 cs t fr))(l:t≠96)(m:t≠179)(j v):AF (W.setCell (aj b j) v) base mb C:=by
 have⟨_,c,p,f⟩:=h.ex;have e:∀{d:Nat}{i:zAV}{g:B7}{k:Nat×Nat},W.heap[d]?=A3 (A5 i g k)->t≠g->d≠b:=U;refine⟨⟨_,(jg<|e c l).trans c,p,?_⟩,h.lo⟩;obtain f|⟨_,_,_,o,n,a,q⟩:=f
 .grind
 .exact .inr ⟨_,_,_,o,n,(jg<|e a m).trans a,q⟩
theorem Hx{e size b:Nat}{xs:zLV}(h:W.ownsRow base e size v n xs)(a:∀g,v.ownBlock=A3 g->g<b)(j u):(W.setCell (aj b j) u).ownsRow base e size v n xs:=by
 refine h.kept (row:=A3 b) ⟨R,R,R,byS,λ_ _ _=>jg U⟩ ?_;grind
structure afb (w:Y) (base mb:Nat) (s:Bz) (R1:zLT×zLI×Int) (p:Nat) (st:zLI) (top:Int) (C:List (Int×Int)) (l:Int) (out:zLT) (f:Nat) (vo:B5) (W:Y):Prop where
 m:AF W base mb C
 sk:rf C top st
 o:By st
 bl:B0 base w W
 row:W.ownsRow base 58 6 vo (M out) (DF out)
 eq:sJ s f st p l out=R1
 cl:2<=M C/\M C<=2+20*p
 ol:M out<=p
 l0:1<=l/\l<=(p:Int)+1
def afb.below{w mb s R1 p d e l c f g b}(h:afb w base mb s R1 p d e C l c f g W)(a:B0 W.heap.size W b)(i:base<=W.heap.size):afb w base mb s R1 p d e C l c f g b:=
 ⟨h.m.below a,h.sk,h.o,h.bl.trans<|a.mono i,cj h.row a,h.eq,h.cl,h.ol,h.l0⟩
def ac7(w:Y)(a mb:Nat)(s:Bz)(R1:zLT×zLI×Int)(e:Ending)(b:Y):Prop:=
 ∃(c:zOA) (d:Nat) (f:Int) (C:List (Int×Int)),e=A0 (A9 #[B4 c (M R1.1) d,zI f,zI R1.2.2])/\b.ownsRow a 58 6 (B4 c (M R1.1) d) (M R1.1) (DF R1.1)/\AF b a mb C/\rf C f R1.2.1/\By R1.2.1/\B0 a w b/\2<=M C/\M C<=2000000
theorem afc(w q mb)(s:Bz)(h:AF w q mb [])(c8:s.size<=70000):
  B3 Ax 41 #[be mb 0,T s] w (ac7 w q mb s<|jz s):=by
 unfold jz;have⟨ao,cg⟩:=aw<|sJ s (s.size+1) [100,6] (blk s (s.size+1) 0) 1 [];rw[cg];have e3:q<=w.heap.size:=by have⟨v,ew,_⟩:=h.ex;have:=ai ew;have:=h.lo;omega
 have ef:=aja w _ _ h;have cn:=λw=>wG s O 0 O w;have d7:=na s (s.size+1) 0 O;have⟨em,d6⟩:=aw<|blk s (s.size+1) 0;rw[d6]at cg cn d7;rw[show(((0:Nat):Int))=0 from rfl]at cn;have d3:=ah cg;clear cg h d6;go_in;go_wp2_with fail;apply ef.mono;rintro x w1 ⟨rfl,eg,e6,f⟩;clear ef;have eh:afb w q mb s ao em [100,6] 1 [(6, -1),(100,0)] 1 [] (s.size+1) fe w1:=by
  refine⟨eg,⟨1,0,R,R,0,_,R,R,R⟩,?_,f,onN,d3,U,I,O⟩;intro i a6;simp at a6;omega
 have d4:=ah eh;clear eh eg e6 f;go_wp2_with (go_at_call 126;apply ez<|cn _);clear cn;have⟨ee,da,dc,df,dk⟩:=dw aqA;go_loopw [7,8,9,10] (λfv ek fu d1 wr=>∃(c:Nat) (g:_) (G:_) (r:_) (e:_) (ak:_) (H:_),d1=zI c/\fu=zI e/\fv=zI G/\(∃eo er,∃e5:Nat,ek=B4 eo e5 er)/\c<=s.size/\s.size<c+H/\Hid (afb w q mb s ao c g G r e ak H ek wr)) (λ_ _ _ d1 _=>s.size+1-(A2 d1).toNat)
 .exact⟨_,_,1,_,1,_,_,R,R,R,U,d7.2,O,d4⟩
 .
  obtain⟨c,g,G,r,e,ak,H,rfl,rfl,rfl,⟨cx,cB,mv,rfl⟩,_,_,t⟩:=hrel;clear d4 d3;obtain⟨H,rfl⟩:∃bb,H=bb+1:=⟨H-1,O⟩;have⟨_,_,et⟩:=aF t.row;cases et;have b:=t.eq;rw[sJ]at b;have d8:=bK e3 t.bl.size;have eb:=t.ol;by_cases bz:c<s.size
  .rw[aa O]at b;have e1:(c:Int)<(s.size:Int):=O;have dq:=λw=>ae8 s c8 c bz w;have c1:=ae9 s c;have⟨d,c0⟩:=aw<|tG s c;rw[c0]at dq b c1;have cd:=ah c0;have⟨mv,a3⟩:=aw<|M ak;have A:=ah a3;rw[a3]at eb⊢;have bh:=ah b;clear b c0 a3;go_wp2_with fail;apply(dq _).mono;rintro x w1 ⟨m,l,i,d5,rfl,ec,c2⟩;have ce:=t.below c2 d8;have e4:=c2.size;have an:=ah ec;clear dq c2 t ec;have⟨f,c3⟩:=aw w1.heap.size;go_upto_region 8 with fail
   have a1:eK f (w1.alloc<|A5 #[zI d,zI c,zI m,zI e,zI l,T i] 58) d c m e l i:=by rw[<-c3];exact au _ _
   have a:Hid (afb w q mb s ao c g G r e ak (H+1) (B4 cx (M ak) cB)<|w1.alloc<|A5 #[zI d,zI c,zI m,zI e,zI l,T i] 58):=ce.below (dj _ _) O;have ck:∀bb,(Value.slice cx mv cB).ownBlock=A3 bb->bb<f:=λbb e0=>by
    have k:=ce.row;rw[A.out]at k;have:=(k.lt bb e0).2;omega
   have ch:f≠mb:=by
    have⟨d2,L,_⟩:=ce.m.ex;have:=ai L;omega
   have e2:(w1.alloc<|A5 #[Br .i64 d,Br .i64 c,Br .i64 m,Br .i64 e,Br .i64 l,T i] 58).heap.size=f+1:=by rw[dC,c3]
   generalize w1.alloc (A5 #[zI d,zI c,zI m,zI e,zI l,T i] 58)=en at a1 a e2⊢;have f4:=a.cl.2;have f5:=a.cl.1;have f3:q<=f:=O;have f6:=a.l0;have⟨fg,fk,fl,fm,fn,fo,fq⟩:=aJ a1;clear ce c3 e4 d8;by_cases cI:d=7
   .subst cI;have⟨ad,af⟩:=afa s c cd.out;have⟨bc,c7,a5,bA,a6,c5⟩:=an.yes ad;clear c7 c5;have a4:=mH s c bz ad;have b:=bh.out;rw[ae R,<-bA,<-a6]at b;have⟨z,bo⟩:=aw<|(rdI s c).a;rw[bo]at b a5 a4;subst bc;have ax:=λw=>wG s O z O w;have br:=na s (s.size+1) z O;have⟨ct,bs⟩:=aw<|blk s (s.size+1) z;rw[bs]at b ax br;rw[<-a5]at ax b;have bE:=se a.o ((O:(1:Int)<=5)) O;have k:=Cp _ _ _ r _ _ 5 a.m a.sk a.o O O O;have⟨cf,bt⟩:=aw<|feedL g 5;rw[bt]at k b bE;unfold xJ at k;have⟨dz,bD⟩:=aw cf.2;rw[bD]at k b;have ey:c<z/\z<=s.size:=O;clear bA a6 bt bD ad af a4 bo bs cd an bh a5;go_wp2_with fail;apply k.mono;rintro x y ⟨cp,D,rfl,F,a0,a2,n,E⟩;cases dz with
    |false=>
     rw[aa I]at b;have bf:=ah b;have p:=n.blk a1 Z ch;have⟨d2,L,_⟩:=a.m.ex;have row3:=n.row L a.row Z Z;have B:Hid (afb w q mb s ao ct g G (r++D) (e+1) ak H (B4 cx mv cB) y):=
      ⟨F,a.sk.app D,a.o,a.bl.trans E,by rw[<-A.out]at *;exact row3,bf,U,by rw[A.out];omega,O⟩
     have⟨b4,b5,b8,b9,ca,cb,cc⟩:=aJ p;clear k b a1 p row3 L F a0 n E a fg fk fl fm fn fo fq;go_wp2_with (go_at_call 126;apply ez<|ax _);exact⟨U,by simp[A2];omega⟩|true=>
     rw[ae rfl]at b;have bf:=ah b;clear b;have p:eK f y 7 c m e l i:=n.blk a1 Z ch;have⟨d2,L,_⟩:=a.m.ex;have row3:=n.row L a.row Z Z;rw[A.out]at row3;have bk:=a.bl.trans E;have C:=p.setKind 5;have b0:=F.other (j:=0) (v:=zI 5) (p) Z Z;have a8:=Hx (j:=0) (u:=zI 5) row3 ck;have bn:B0 q w (y.setCell (aj f 0)<|zI 5):=bk.setCell O _;have bd:=fs a0 a2;have⟨b4,b5,b8,b9,ca,cb,cc⟩:=aJ p;clear k p F row3 bk L a0 a2 n E;go_upto_region 24 with fail
     generalize y.setCell (aj f 0) (zI 5)=cw at C b0 a8 bn⊢;have⟨fy,fz,fA,fB,fF,f0,f1⟩:=aJ C;have B:=ah a8;have cr:=ah C;have c4:=ai C;clear C a8 b4 b5 b8 b9 ca cb cc;go_wp2_with (first|(at_builtin;apply nJ _ R _ _ _ R _ 58 _ _ 6 _ Tryz.underlying44 da dc df dk R Z _ _ _ R (B.alloc _) _ 1 1 [Br _ 5,Br _ c,Br _ m,Br _ e,Br _ l,T i] rfl R (A1 (cs:=#[Br _ 5,Br _ c,Br _ m,Br _ e,Br _ l,T i])<|au _ _) (by intro u ar;simp at ar;obtain rfl|rfl|rfl|rfl|rfl|rfl:=ar<;>rfl) byM O lr;intro ei cq ap K ea;obtain⟨cF,cz,rfl⟩:=B1 ap;have cu:eK f cq 5 c m e l i:=(K.block _ lr (λx=>by have:=ck _ x.symm;omega)).trans<|(alO c4).trans cr;have⟨e7,e8,fa,fb,fc,fd,ff⟩:=aJ cu)|(go_at_call 126;apply ez<|ax _));have b2:=b0.app B K Z Z;have bj:=(bn.alloc O _).grown K lr (λbF bx=>(B.out.lt bF bx).1);refine⟨⟨_,_,_,_,_,ak++[⟨5,c,m,e,l,i⟩],H,R,by go_num,R,U,br.2,O,⟨b2,bd.1,?_,bj,?_,?_,?_,?_,?_⟩⟩,by simp[A2];omega⟩
     .exact bE
     .rw[aG,A.out,ya];exact ap
     .exact bf
     .have:=a.cl;have:=bd.2;rw[aG];omega
     .rw[aG,A.out];simp;omega
     .have:=a.l0;omega
   .have b:=bh.out;rw[aa cI]at b;have f2:=fC.2 cI;by_cases ev:d=0
    .subst ev;rw[show C0 g 0=(g,X) from rfl,aa I]at b;have al:=ah b;clear b bh an cd;have⟨ba,af⟩:=aw<|Cs g;have eL:M ba<=78:=by rw[<-af];exact zv _ _
     have a7:=agE _ _ _ r _ _ a.m a.sk a.o O O;rw[af]at a7;have ad:Hid ((([]:zLT),g,((wrongF s c ba:Nat):Int))=ao):=by rw[<-af];exact al
     clear af;go_wp2_with fail;apply a7.mono;rintro x el ⟨ep,es,rfl,d0,dx,dn,cy⟩;have ds:=EG _ s c _ _ (uD d0) O c8 bz;clear a7;go_wp2_with (go_at_call 128;apply ds.mono;rintro x fx ⟨rfl,bw⟩);go_ret3
     refine⟨B6,0,G,r,?_,?_,dx.below bw,?_,?_,?_,?_,?_⟩
     .rw[<-ad.out];rfl
     .rw[<-ad.out];exact onN
     .rw[<-ad.out];exact a.sk
     .rw[<-ad.out];exact a.o
     .exact(a.bl.trans cy).trans (bw.mono (by have:=dn.size;first|omega|(have:=n.size;omega)))
     .have:=a.cl;omega
     .have:=a.cl;omega
    .have eF:0<d:=O;have d9:C0 g d=feedL g d:=by unfold C0;rw[ae eF]
     rw[d9]at b;have bE:=se a.o ((O:(1:Int)<=d)) c1.2;have k:=Cp en q mb r g G d a.m a.sk a.o O c1.2 O;have⟨cf,bt⟩:=aw<|feedL g d;rw[bt]at k b bE;unfold xJ at k;have⟨dz,bD⟩:=aw cf.2;rw[bD]at k b;clear bt bD d9 bh cd;cases dz with
     |false=>
      rw[aa I]at b;have al:=ah b;clear b an;go_wp2_with fail;refine k.mono ?_;rintro x y ⟨cp,D,rfl,F,a0,a2,n,E⟩;have p:eK f y d c m e l i:=n.blk a1 Z ch;have⟨b4,b5,b8,b9,ca,cb,cc⟩:=aJ p;clear k;have⟨ba,af⟩:=aw<|Cs g;have eL:M ba<=78:=by rw[<-af];exact zv g 78
      have a7:=agE y q mb (r++D) g G F (a.sk.app D) a.o (by rw[aG];omega) (by rw[aG];omega);rw[af]at a7;have ad:Hid ((([]:zLT),g,((wrongF s c ba:Nat):Int))=ao):=by rw[<-af];exact al
      clear af;go_wp2_with fail;refine a7.mono ?_;rintro x el ⟨ep,es,rfl,d0,dx,dn,cy⟩;have ds:=EG el s c _ ba (uD d0) O c8 bz;clear a7;go_wp2_with (go_at_call 128;refine ds.mono ?_;rintro x fx ⟨rfl,bw⟩);go_ret3
      refine⟨B6,0,G,r++D,?_,?_,dx.below bw,?_,?_,?_,?_,?_⟩
      .rw[<-ad.out];rfl
      .rw[<-ad.out];exact onN
      .rw[<-ad.out];exact(a.sk.app D)
      .rw[<-ad.out];exact a.o
      .exact((a.bl.trans E).trans cy).trans (bw.mono (by have:=dn.size;first|omega|(have:=n.size;omega)))
      .have:=a.cl;rw[aG];omega
      .have:=a.cl;rw[aG];omega
     |true=>
      rw[ae rfl]at b;cases hokI:(rdI s c).ok with
      |false=>
       rw[hokI,aa I]at b;have bc:=an.no hokI;have ad:¬d5<0:=O;have al:Hid ((([]:zLT),g,d5)=ao):=by rw[bc];exact b
       clear b an bc hokI;go_wp2_with fail;refine k.mono ?_;rintro x y ⟨cp,D,rfl,F,a0,a2,n,E⟩;clear k;go_wp2;go_ret3
       refine⟨B6,0,G,r++D,?_,?_,F,?_,?_,a.bl.trans E,?_,?_⟩
       .rw[<-al.out];rfl
       .rw[<-al.out];exact onN
       .rw[<-al.out];exact a.sk.app D
       .rw[<-al.out];exact a.o
       .rw[aG];omega
       .rw[aG];omega
      |true=>
       rw[hokI,ae rfl]at b;have⟨bc,c7,a5,bA,a6,c5⟩:=an.yes hokI;clear c7 c5;have a4:=mH s c bz hokI;rw[<-bA,<-a6]at b;have⟨z,bo⟩:=aw<|(rdI s c).a;rw[bo]at b a5 a4;subst bc;have ax:=λw=>wG s O z O w;have br:=na s (s.size+1) z O;have⟨ct,bs⟩:=aw<|blk s (s.size+1) z;rw[bs]at b ax br;rw[<-a5]at ax b;have ey:c<z/\z<=s.size:=⟨a4.1,a4.2.1⟩;have bf:=ah b;clear b bA a6 a4 bo bs an a5 hokI;go_wp2_with fail;refine k.mono ?_;rintro x y ⟨cp,D,rfl,F,a0,a2,n,E⟩;have p:eK f y d c m e l i:=n.blk a1 Z ch;have⟨d2,L,_⟩:=a.m.ex;have row3:=n.row L a.row Z Z;rw[A.out]at row3;have bk:=a.bl.trans E;have C:=p.setKind d;have b0:=F.other (j:=0) (v:=zI d) (show y.heap[f]?=A3 (A5 _ _ _) from p) Z Z;have a8:=Hx (j:=0) (u:=zI d) row3 ck;have bn:B0 q w (y.setCell (aj f 0)<|zI d):=bk.setCell lr _;have bd:=fs a0 a2;have⟨b4,b5,b8,b9,ca,cb,cc⟩:=aJ p;clear k p F row3 bk L a0 a2 n E;go_upto_region 24 with fail
       generalize y.setCell (aj f 0) (zI d)=cw at C b0 a8 bn⊢;have⟨fy,fz,fA,fB,fF,f0,f1⟩:=aJ C;have B:=ah a8;have cr:=ah C;have c4:=ai C;clear C a8 b4 b5 b8 b9 ca cb cc;go_wp2_with (first|(at_builtin;refine nJ _ R _ _ 44 R q 58 ee _ 6 56 Tryz.underlying44 da dc df dk R Z _ _ _ R (B.alloc _) ⟨cw.heap.size,0,B6⟩ 1 1 [zI d,zI c,zI m,zI e,zI l,T i] rfl R (A1 (cs:=#[zI d,zI c,zI m,zI e,zI l,T i]) (fr:=(0,0))<|au cw _) (by intro u ar;simp at ar;obtain rfl|rfl|rfl|rfl|rfl|rfl:=ar<;>rfl) byM O lr ?_;intro ei cq ap K ea;obtain⟨cF,cz,rfl⟩:=B1 ap;have cu:eK f cq d c m e l i:=(K.block f lr (λx=>by have:=ck f x.symm;omega)).trans<|(alO c4).trans cr;have⟨e7,e8,fa,fb,fc,fd,ff⟩:=aJ cu)|(go_at_call 126;refine ez (ax _) ?_));have b2:=b0.app B K Z Z;have bj:=(bn.alloc O _).grown K lr (λbF bx=>(B.out.lt bF bx).1);refine⟨⟨ct,cf.1,cp,r++D,e,ak++[⟨d,(c:Nat),m,e,l,i⟩],H,R,R,R,⟨_,_,_,R⟩,br.2,O,⟨b2,bd.1,?_,bj,?_,?_,?_,?_,?_⟩⟩,by simp[A2];omega⟩
       .exact bE
       .rw[aG,A.out,ya];exact ap
       .exact bf
       .have:=a.cl;have:=bd.2;rw[aG];omega
       .rw[aG,A.out];simp;omega
       .have:=a.l0;omega
  .rw[ae O]at b;have k:c=s.size:=O;have⟨mv,a3⟩:=aw<|M ak;have A:=fs a3 k;have d:=t.row;rw[a3]at eb d⊢;have B:=ah d;have a:=ah b;have e1:¬(c:Int)<(s.size:Int):=O;clear b a3 d k;go_wp2_with (at_builtin;refine nJ _ R _ _ 44 R q 58 ee _ 6 56 Tryz.underlying44 da dc df dk R Z _ _ _ R (B.alloc _) ⟨wr.heap.size,0,B6⟩ 1 1 [zI 6,zI s.size,zI s.size,zI e,zI 0,nh] rfl R (A1 (cs:=#[zI 6,zI s.size,zI s.size,zI e,zI 0,nh]) (fr:=(0,0))<|au wr _) (by intro u ar;simp at ar;obtain rfl|rfl|rfl|rfl|rfl:=ar<;>rfl) byM O lr ?_;intro ei cq ap K ea;obtain⟨cF,cz,rfl⟩:=B1 ap);go_ret3
   have b2:=t.m.app B K Z Z;have bj:=(t.bl.alloc O _).grown K lr (λbF bx=>(B.out.lt bF bx).1);have i:M ao.1=mv+1:=by rw[<-a.out,aG,A.out.1];rfl
   refine⟨A3<|aj cF 0,cz,G,r,?_,?_,b2,?_,?_,bj,t.cl.1,?_⟩
   .rw[i,<-a.out];rfl
   .rw[i,<-a.out,ya];exact ap
   .rw[<-a.out];exact t.sk
   .rw[<-a.out];exact t.o
   .have:=t.cl.2;omega
