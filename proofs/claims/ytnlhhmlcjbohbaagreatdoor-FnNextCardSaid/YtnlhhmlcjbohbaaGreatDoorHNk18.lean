import Derived.Test.YtnlhhmlcjbohbaaGreatDoorHNk09
import Derived.Test.YtnlhhmlcjbohbaaGreatDoorHNk16
import Derived.Test.YtnlhhmlcjbohbaaGreatDoorHNk17
set_option linter.all false
set_option maxRecDepth 100000
set_option maxHeartbeats 12800000
open Bool renaming true->M,false->U
open Go.Proofs.Tryz renaming prog->O
open Option renaming some->Q,none->A0
open Go.Value renaming int->X,pointer->Z,slice->Br,bool->B1,string->B6,iface->Ce,string->Ck
open Go.IntKind renaming i64->Y
open Go.Ending renaming returned->Ax
open Go.Lib renaming hasPrefix->A2,decDigits->B3
open Go renaming Value->A5,World->B0,Calls->B4
open Go.RowKit renaming intOf->A9,Below->Cr,Hid->C2
open Go.Obj renaming cells->B7
namespace Go.Proofs.YtnlhhmlcjbohbaaGreatDoor
open Go.RowKit Go.Maps Go.WideMaps
variable{W W':World}{a b f i j m:Nat}{k s t:Int}{ks r:List Int}
def aet:List Int:=[32,9,13,10,41,93,125,44,59]
structure Ag (T:ByteArray) (p:Nat) (x:ByteArray):Prop where
 at_:∀i,i<x.size->aq T (p+i)=aq x i
 bl:aq T (p+x.size)∈aet
section
variable {T x : ByteArray} {p : Nat}
theorem Ag.lt(h:Ag T p x):p+x.size<T.size:=by
 rcases aH (p+x.size) T.size with g|g
 ·exact g
 ·have:=h.bl;rw[dl]at this;exact absurd this (by decide)
theorem Ag.q(h:Ag T p x)(q:Int->Bool)(a:∀c∈aet,q c=U)(b:q (-1)=U)(d:i<=x.size):q (aq T (p+i))=q (aq x i):=by
 rcases aH i x.size with g|g
 ·rw[h.at_ i g]
 ·obtain rfl:i=x.size:=by omega
  rw[a _ h.bl,dl,b]
theorem Ag.eq(h:Ag T p x){c:Int}(d:c ∉ aet)(g:c≠ -1)(e:i<=x.size):aq T (p+i)=c↔aq x i=c:=by
 have:=h.q (fun a=>decide (a=c)) (fun a f=>aD fun b=>d (b ▸ f)) (by simp;omega) e;simpa using this
theorem agJ{a b:ByteArray}(f:a.size=b.size)(h:∀i,i<a.size->aq a i=aq b i):a=b:=by
 apply oc;refine Array.ext f (fun i d e=>?_);have c:=h i d;unfold aq at c;rw[lD (show i<a.size from d),lD (show i<b.size from e)]at c;exact UInt8.toNat_inj.1 (Int.ofNat_inj.1 c)
theorem Ag.ext(h:Ag T p x)(c:b<=x.size):T.extract (p+a) (p+b)=x.extract a b:=by
 have i:=h.lt;have e:=jp T (p+a) (p+b) (by omega);have f:=jp x a b c;refine agJ (by omega) (fun d g=>?_);rw[fi T _ _ d (by omega),fi x a b d c,eG,h.at_ _ (by omega)]
theorem wy(q:Int->Bool)(s:ByteArray):∀(n f p:Nat),(∀i,i<n->q (aq s (p+i))=M)->q (aq s (p+n))=U->n<f->ic q s f p=p+n
 |n,0,p,_,_,h=>by omega
 |0,f+1,p,b,a,_=>by rw[ic,aa (by rw[iz]at a;rw[a];simp)];rfl
 |n+1,f+1,p,b,a,h=>by
  rw[ic,ab (by have:=b 0 (by omega);rwa [iz]at this)];rw[wy q s n f (p+1) (fun i c=>by rw[show p+1+i=p+(i+1) by omega];exact b (i+1) (by omega)) (by rw[show p+1+n=p+(n+1) by omega];exact a) (by omega)];omega
theorem Ag.run(h:Ag T p x)(q:Int->Bool)(i:∀c∈aet,q c=U)(d:q (-1)=U)(j:a<=x.size):ic q T (T.size+1) (p+a)=p+ic q x (x.size+1) a:=by
 have f:=oq q d x (x.size+1) a j;have e:=mC q x (x.size+1) a;have g:=qa q d x (x.size+1) a (by omega);have m:=h.lt;obtain⟨b,k⟩:∃b,ic q x (x.size+1) a=b:=⟨_,rfl⟩;rw[k]at f e g⊢;rw[wy q T (b-a) (T.size+1) (p+a) (fun n l=>by rw[eG,h.q q i d (by omega)];exact e _ (by omega) (by omega)) (by rw[eG,show a+(b-a)=b by omega,h.q q i d f.2];exact g) (by omega)];omega
theorem zk(s:ByteArray):∀f p,mi s f p=ic (fun c=>ba c||bc c) s f p
 |0,p=>rfl
 |f+1,p=>by
  rw[mi,ic,zk s f (p+1)];by_cases h:ba (aq s p)=M\/bc (aq s p)=M
  ·rw[ab h,ab (by simpa using h)]
  ·rw[aa h,aa (by simpa using h)]
theorem Ag.nm(h:Ag T p x)(c:a<=x.size):mi T (T.size+1) (p+a)=p+mi x (x.size+1) a:=by
 rw[zk,zk];exact h.run (fun b=>ba b||bc b) (by decide) (by decide) c
theorem Ag.dig(h:Ag T p x)(b:a<=x.size):oD T (p+a)=p+oD x a:=h.run bc (by decide) (by decide) b
theorem Ag.hx(h:Ag T p x)(b:a<=x.size):ED T (p+a)=p+ED x a:=h.run li (by decide) (by decide) b
theorem Ag.a0(h:Ag T p x)(f:a<x.size):nA0 T (p+a)=p+nA0 x a:=by
 unfold nA0;have d:=h.eq (c:=48) (by decide) (by decide) (eE f);by_cases b:aq x a=48
 ·rw[ab (d.2 b),ab b,eG]
 ·rw[aa (fun e=>b (d.1 e)),aa b,eG,h.dig (by omega)]
theorem Ag.a1(h:Ag T p x)(j:a<=x.size):nA1 T (p+a)=p+nA1 x a:=by
 unfold nA1;have g:=h.eq (c:=46) (by decide) (by decide) j;by_cases d:aq x a=46
 ·have i:a+1<=x.size:=bz d;have f:=h.q bc (by decide) (by decide) i;rw[<-eG]at f;by_cases e:bc (aq x (a+1))=M
  ·rw[ab ⟨g.2 d,by rw[f];exact e⟩,ab ⟨d,e⟩,eG,h.dig i]
  ·rw[aa (fun b=>e (by rw[<-f];exact b.2)),aa (fun b=>e b.2)]
 ·rw[aa (fun b=>d (g.1 b.1)),aa (fun b=>d b.1)]
theorem Ag.ex(h:Ag T p x)(k:a<=x.size):ot T (p+a)=(p+(ot x a).1,(ot x a).2):=by
 unfold ot;have f:=h.eq (c:=101) (by decide) (by decide) k;by_cases b:aq x a=101
 ·have j:a+1<=x.size:=bz b;have d:=h.eq (c:=43) (by decide) (by decide) j;have e:=h.eq (c:=45) (by decide) (by decide) j;rw[<-eG]at d e;have i:nA2 T (p+a)=p+nA2 x a/\nA2 x a<=x.size:=by
   unfold nA2;by_cases g:aq x (a+1)=43\/aq x (a+1)=45
   ·have:a+1<x.size:=by rcases g with g|g<;>exact bz g
    rw[ab g,ab (by rw[d,e];exact g)];omega
   ·rw[aa g,aa (by rw[d,e];exact g)];omega
  rw[ab (f.2 b),ab b,i.1,h.dig i.2];simp
 ·rw[aa (fun g=>b (f.1 g)),aa b]
theorem Ag.x2(h:Ag T p x)(b:a<x.size):(aq T (p+a)=48/\aq T (p+a+1)=120)↔(aq x a=48/\aq x (a+1)=120):=by
 rw[h.eq (c:=48) (by decide) (by decide) (eE b),eG,h.eq (c:=120) (by decide) (by decide) (show a+1<=x.size from b)]
theorem Ag.num(h:Ag T p x)(d:a<x.size):cK T (p+a)=(p+(cK x a).1,(cK x a).2):=by
 unfold cK;by_cases b:aq x a=48/\aq x (a+1)=120
 ·rw[ab b,ab ((h.x2 d).2 b)];unfold mD;have:=bz b.2;have f:=h.hx (show a+2<=x.size by omega);rw[<-eG]at f;rw[f];by_cases c:a+2+16<ED x (a+2)
  ·rw[ab c,ab (by omega)];simp;omega
  ·rw[aa c,aa (by omega)];simp;omega
 ·rw[aa b,aa (fun c=>b ((h.x2 d).1 c)),h.a0 d];have e:=Aa x a d;have g:=Ab x (nA0 x a) e.2;rw[h.a1 e.2,h.ex g.2]
theorem Ag.kd(h:Ag T p x)(e:a<x.size):C3 T (p+a)=C3 x a:=by
 unfold C3;have b:=Aa x a e;have g:=Ab x (nA0 x a) b.2;rw[h.a0 e,h.a1 b.2];have i:=h.eq (c:=46) (by decide) (by decide) b.2;have j:=h.eq (c:=101) (by decide) (by decide) g.2;refine decide_eq_decide.2 ?_;rw[i,j];by_cases f:aq x (nA0 x a)=46
 ·have d:=h.q bc (by decide) (by decide) (show nA0 x a+1<=x.size from bz f);rw[<-eG]at d;rw[d]
 ·simp[f]
theorem Ag.dc(h:Ag T p x)(a:Nat):∀n,a+n<=x.size->rh T (p+a) n=rh x a n
 |0,_=>rfl
 |n+1,b=>by rw[rh,rh,h.dc a n (by omega),eG,h.at_ (a+n) (by omega)]
theorem Ag.hv(h:Ag T p x)(a:Nat):∀n,a+n<=x.size->tD T (p+a) n=tD x a n
 |0,_=>rfl
 |n+1,b=>by rw[tD,tD,h.hv a n (by omega),eG,h.at_ (a+n) (by omega)]
theorem Ag.nu(h:Ag T p x)(c:a<x.size):qz T (p+a)=qz x a:=by
 unfold qz;have e:=rj x a c;rw[h.num c,h.kd c];obtain⟨b,f⟩:∃b,(cK x a).1=b:=⟨_,rfl⟩;simp only[f]at e⊢;by_cases d:aq x a=48/\aq x (a+1)=120
 ·rw[ab d,ab ((h.x2 c).2 d),show p+b-(p+a+2)=b-(a+2) by omega,eG];rcases aH (a+2) b with g|g
  ·rw[h.hv (a+2) _ (by omega)]
  ·rw[show b-(a+2)=0 by omega];rfl
 ·rw[aa d,aa (fun g=>d ((h.x2 c).1 g)),show p+b-(p+a)=b-a by omega,h.dc a _ (by omega),h.ext e.2]
theorem acG{s:ByteArray}(h:¬gg (aq s i)<0):i<s.size:=by
 rcases aH i s.size with g|g
 ·exact g
 ·rw[dl]at h;exact absurd (by decide) h
theorem Ag.hexI(h:Ag T p x)(b:(hexI x a).2.2=M):hexI T (p+a)=((hexI x a).1,p+(hexI x a).2.1,M):=by
 unfold Go.Proofs.YtnlhhmlcjbohbaaGreatDoor.hexI at b⊢;by_cases c:gg (aq x a)<0
 ·rw[ab c]at b;cases b
 rw[aa c]at b;by_cases d:gg (aq x (a+1))<0
 ·rw[ab d]at b;cases b
 rw[h.at_ a (acG c),aa c,eG,h.at_ (a+1) (acG d),aa d,aa c,aa d];rfl
theorem Ag.esc(h:Ag T p x)(b:(gJ x a).2.2=M):gJ T (p+a)=((gJ x a).1,p+(gJ x a).2.1,M):=by
 have i:a<x.size:=by
  rcases aH a x.size with g|g
  ·exact g
  ·unfold gJ at b;rw[dl]at b;revert b;simp
 unfold gJ at b⊢;rw[h.at_ a i];by_cases c:aq x a=110
 ·rw[ab c,ab c];rfl
 rw[aa c]at b;rw[aa c,aa c];by_cases d:aq x a=116
 ·rw[ab d,ab d];rfl
 rw[aa d]at b;rw[aa d,aa d];by_cases e:aq x a=34\/aq x a=92
 ·rw[ab e,ab e];rfl
 rw[aa e]at b;rw[aa e,aa e];by_cases f:aq x a=120
 ·rw[ab f]at b;rw[ab f,ab f,eG,h.hexI b]
 rw[aa f]at b;cases b
theorem Ag.str(h:Ag T p x):∀(f g a:Nat)(c:List Int),f<=g->(dI x f a c).1=M->dI T g (p+a) c=(M,p+(dI x f a c).2.1,(dI x f a c).2.2)
 |0,g,a,c,_,b=>by rw[dI]at b;cases b
 |f+1,0,a,c,l,b=>by omega
 |f+1,g+1,a,c,l,b=>by
  have m:=h.lt;rw[dI]at b⊢;rw[dI];by_cases k:x.size<=a
  ·rw[ab k]at b;cases b
  rw[aa k]at b;rw[aa k,aa (by omega),h.at_ a (by omega)];by_cases e:aq x a=34
  ·rw[ab e,ab e];rfl
  rw[aa e]at b;rw[aa e,aa e];by_cases i:aq x a=10
  ·rw[ab i]at b;cases b
  rw[aa i]at b;rw[aa i,aa i];by_cases d:aq x a=92
  ·rw[ab d]at b;rw[ab d,ab d];by_cases j:(gJ x (a+1)).2.2=M
   ·rw[ab j]at b;rw[ab j,eG,h.esc j,ab rfl];exact h.str f g _ _ (by omega) b
   ·rw[aa j]at b;cases b
  rw[aa d]at b;rw[aa d,aa d,eG];exact h.str f g _ _ (by omega) b
end
theorem Ih(r y:ByteArray):A2 r.data.toList y.data.toList=M↔∀i,i<y.size->aq r i=aq y i:=by
 unfold A2;rw[yl,List.prefix_iff_getElem?];constructor
 ·intro b i a;have c:y.data.toList[i]?=Q (y.data.toList[i]'(by rw[eK];exact a)):=aE _;rw[((fL _ _ _).1 c).2,((fL _ _ _).1 (b i (by rw[eK];exact a))).2]
 ·intro b i a;have e:i<y.size:=by rw[eK]at a;exact a
  have c:y.data.toList[i]?=Q y.data.toList[i]:=aE _;have d:=((fL _ _ _).1 c).2;refine(fL _ _ _).2 ⟨?_,by rw[b i e,d]⟩;rw[<-b i e]at d;exact bz d
def nbS(V:Array A5)(N:Nat):Prop:=∀k:Fin N,∀i:Fin 4,0<i.val->aq (bp V k.val) i.val ∉ aet
theorem anA:nbS iG 11:=by unfold nbS;decide+kernel
theorem anB:nbS lp 18:=by unfold nbS;decide+kernel
section
variable {T x : ByteArray} {p : Nat}
theorem Ag.pre(h:Ag T p x)(j:a<x.size){y:ByteArray}(l:y.size<=3)(g:∀i:Fin 4,0<i.val->aq y i.val ∉ aet):A2 (T.extract (p+a) T.size).data.toList y.data.toList=A2 (x.extract a x.size).data.toList y.data.toList:=by
 have k:=h.lt;rw[vH,Ih,Ih];have d:∀i,a+i<=x.size->aq (T.extract (p+a) T.size) i=aq T (p+(a+i)):=fun i b=>by rw[fi T _ _ i (ae _),eG]
 have e:∀i,a+i<x.size->aq (x.extract a x.size) i=aq x (a+i):=fun i b=>fi x a _ i (ae _) b;constructor
 ·intro c i b;rcases aH (a+i) x.size with q|q
  ·rw[e i q,<-h.at_ _ q,<-d i (by omega)];exact c i b
  ·have:=c (x.size-a) (by omega);rw[d _ (by omega),show a+(x.size-a)=x.size by omega]at this;exact absurd (this ▸ h.bl) (g ⟨x.size-a,by omega⟩ (by show 0<x.size-a;omega))
 ·intro c i b;have f:a+i<x.size:=by
   have:=bz (c i b) (jl b).1;rw[jp x a _ (ae _)]at this;omega
  rw[d i (by omega),h.at_ _ f,<-e i f];exact c i b
theorem Ay(V:Array A5)(base:Int)(r r':ByteArray)(N:Nat)(b:∀k,k<N->A2 r.data.toList (bp V k).data.toList=A2 r'.data.toList (bp V k).data.toList):∀(f i:Nat)(a:Int×Nat),i+f<=N->xz V base r f i a=xz V base r' f i a
 |0,i,a,_=>rfl
 |f+1,i,a,h=>by rw[xz,xz,b i (by omega),Ay V base r r' N b f (i+1) _ (by omega)]
theorem Ag.sk(h:Ag T p x)(d:a<x.size):na (T.extract (p+a) T.size)=na (x.extract a x.size):=by
 have f:=h.lt;have e:aq (T.extract (p+a) T.size) 0=aq (x.extract a x.size) 0:=by rw[fi T _ _ 0 (ae _),fi x a _ 0 (ae _) d,iz,iz,h.at_ _ d]
 unfold na;rw[e,Ay iG 40 _ (x.extract a x.size) 11 (fun c b=>h.pre d (osz ⟨c,b⟩) (anA ⟨c,b⟩)) 11 0 _ (by omega),
  Ay lp 61 _ (x.extract a x.size) 18 (fun c b=>h.pre d (bsz ⟨c,b⟩) (anB ⟨c,b⟩)) 18 0 _ (by omega)]
theorem Ag.rdA(h:Ag T p x)(e:a<x.size)(b:(rdI x a).ok=M):rdI T (p+a)=⟨M,p+(rdI x a).a,(rdI x a).d,(rdI x a).k,(rdI x a).n,(rdI x a).x⟩:=by
 have l:=h.at_ a e;have o:=h.lt;unfold rdI at b⊢;rw[l];by_cases i:ba (aq x a)=M
 ·simp only[ab i];have g:=h.nm (eE e);have m:zH T (p+a)=zH x a:=by unfold zH;rw[g,h.ext (tw x _ a (eE e)).2]
  rw[g,m]
 simp only[aa i]at b⊢;by_cases j:bc (aq x a)=M
 ·simp only[ab j]at b⊢;by_cases f:(cK x a).2=M
  ·rw[h.num e,h.nu e];simp only[ab f]
  ·rw[aa f]at b;cases b
 simp only[aa j]at b⊢;by_cases f:aq x a=34
 ·simp only[ab f]at b⊢;by_cases c:(dI x (x.size+1) (a+1) []).1=M
  ·rw[eG,h.str (x.size+1) (T.size+1) (a+1) [] (by omega) c];simp only[ab c,iK]
  ·rw[aa c]at b;cases b
 simp only[aa f,h.sk e]at b⊢;by_cases c:na (x.extract a x.size)=0
 ·rw[ab c]at b;cases b
 ·simp only[aa c,eG]
theorem Ag.rd(h:Ag T p x)(b:0<x.size)(e:(rdI x 0).ok=M)(c:(rdI x 0).a=x.size):rdI T p=⟨M,p+x.size,(rdI x 0).d,(rdI x 0).k,(rdI x 0).n,(rdI x 0).x⟩:=by
 have:=h.rdA b e
 rwa [c,iz]at this
end
theorem Kz(x:ByteArray):∀(d:List Int),bgL x d=M↔∃k∈d,bgC (aq x 0) k=M\/bgT x k=M
 |[]=>by simp[bgL]
 |k::r=>by
  rw[bgL];constructor
  ·intro h;split at h
   ·exact⟨k,bB,.inl ‹_›⟩
   split at h
   ·exact⟨k,bB,.inr ‹_›⟩
   ·obtain⟨c,a,b⟩:=(Kz x r).1 h;exact⟨c,cL _ a,b⟩
  ·rintro ⟨c,a,b⟩;split
   ·rfl
   split
   ·rfl
   ·rename_i e f;rcases List.mem_cons.1 a with rfl|a
    ·exact absurd b (by simp[e,f])
    ·exact(Kz x r).2 ⟨c,a,b⟩
theorem Ii{x:ByteArray}:bgT x k=M↔x.size<=(pJ k).size/\∀i,i<x.size->aq x i=aq (pJ k) i:=by
 unfold bgT;rw[cd,iJ,jk,fC,fC];refine and_congr_right (fun f=>?_);have d:((pJ k).extract 0 x.size).size=x.size:=by rw[ik];omega
 have c:∀i,i<x.size->aq ((pJ k).extract 0 x.size) i=aq (pJ k) i:=fun i a=>by rw[fi _ 0 _ i f,gq]
 constructor
 ·intro b i a;have e:(pJ k).extract 0 x.size=x:=oc (Array.toList_inj.1 b);rw[<-c i a,e]
 ·intro b;rw[agJ d (fun i a=>by rw[d]at a;rw[c i a,b i a])]
theorem anC:∀k:Fin 79,(pJ (k.val:Int)).size<=11/\∀i:Fin 12,aq (pJ (k.val:Int)) i.val≠32:=by decide+kernel
structure Iv (x:ByteArray) (k n:Int) (y:ByteArray):Prop where
 pos:0<x.size
 ok:(rdI x 0).ok=M
 en:(rdI x 0).a=x.size
 ki:(rdI x 0).k=k
 nu:(rdI x 0).n=n
 tx:(rdI x 0).x=y
 bl:gG (aq x 0)=U
 da:aq x 0=45->x.size=1
theorem anD:∀k:Fin 79,(dB (k.val:Int)).size≠0->(rdI (dB (k.val:Int)) 0).ok=M/\(rdI (dB (k.val:Int)) 0).a=(dB (k.val:Int)).size/\(rdI (dB (k.val:Int)) 0).k=(k.val:Int)/\(rdI (dB (k.val:Int)) 0).n=0/\(rdI (dB (k.val:Int)) 0).x.size=0/\gG (aq (dB (k.val:Int)) 0)=U/\(aq (dB (k.val:Int)) 0=45->(dB (k.val:Int)).size=1):=by decide+kernel
theorem anE{x:ByteArray}(h:x.size=0):x=⟨#[]⟩:=by
 apply oc;exact Array.eq_empty_of_size_eq_zero h
theorem acH(h:k<0\/78<k):dB k=tu:=by
 unfold dB;rw[aa (by omega),aa (by omega),aa (by omega),aa (by omega),aa (by omega)]
theorem akv(h:(dB k).size≠0):Iv (dB k) k 0 ⟨#[]⟩:=by
 have m:0<=k/\k<=78:=by
  rcases Int.lt_or_le k 0 with g|g
  ·rw[acH (.inl g)]at h;exact absurd rfl h
  rcases Int.lt_or_le 78 k with g2|g2
  ·rw[acH (.inr g2)]at h;exact absurd rfl h
  ·exact⟨g,g2⟩
 have b:((k.toNat:Nat):Int)=k:=by omega
 have a:=anD ⟨k.toNat,by omega⟩;simp only[b]at a;obtain⟨c,d,e,f,i,j,l⟩:=a h;exact⟨by omega,c,d,e,f,anE i,j,l⟩
theorem agK{x:ByteArray}(h:mG x=M):Iv x 1 0 x:=by
 unfold mG at h;obtain⟨i,c,d,b⟩:=aG h;have j:=pL c;have f:0<x.size:=bz rfl;have e:zH x 0=(1,x):=by
  unfold zH;rw[d,re];unfold tz at b;cases a:wg eu x 22 0 with
  |none=>rfl
  |some k=>rw[a]at b;cases b
 have a:rdI x 0=⟨M,x.size,0,1,0,x⟩:=by
  unfold rdI;rw[ab c,d,e]
 exact⟨f,by rw[a],by rw[a],by rw[a],by rw[a],by rw[a],by simp[gG];omega,fun g=>by omega⟩
theorem akw{x:ByteArray}(h:fok x=M):Iv x 3 0 x:=by
 unfold fok qC at h;rw[cd]at h;obtain⟨b,c,d,j⟩:=aG h.2;have n:=fe b;have i:0<x.size:=bz rfl;have m:ba (aq x 0)=U:=by simp[ba];omega
 have k:ot x (nA1 x (nA0 x 0))=(x.size,M):=by rw[<-c];unfold cK;rw[aa d]
 have l:=(Ha x b k).1 j;have f:qz x 0=(3,0,x):=by
  unfold qz;rw[aa d,c];simp only[pi,re];rcases l with g|g
  ·rw[ab g]
  ·by_cases e:C3 x 0=M
   ·rw[ab e]
   ·rw[aa e,g]
 have a:rdI x 0=⟨M,x.size,0,3,0,x⟩:=by
  unfold rdI;rw[aa (by rw[m];simp),ab b,c,ab rfl,f]
 exact⟨i,by rw[a],by rw[a],by rw[a],by rw[a],by rw[a],by simp[gG];omega,fun g=>by omega⟩
theorem akx(y:ByteArray):Iv (ey (cD y)) 4 0 y:=by
 have c:=afL y y.size 0 ((ey (cD y)).size+1) (by omega) (by rw[ab5];show _<1+_;omega);rw[ab5,Gn]at c;have b:=afK y;have e:0<(ey (cD y)).size:=bz b;have a:rdI (ey (cD y)) 0=⟨M,(ey (cD y)).size,0,4,0,y⟩:=by
  unfold rdI;rw[b,aa (by decide),aa (by decide),ab rfl];show(if(dI (ey (cD y)) ((ey (cD y)).size+1) 1 []).1=M then _ else _)=_;have f:dI (ey (cD y)) ((ey (cD y)).size+1) 1 []=(M,(ey (cD y)).size,dF y):=c;rw[f,ab rfl,aau]
 exact⟨e,by rw[a],by rw[a],by rw[a],by rw[a],by rw[a],by rw[b];decide,fun d=>by rw[b]at d;omega⟩
def nD(u:Nat):ByteArray:=⟨(B3 u).toArray⟩
theorem aeu(u:Nat):(nD u).size=Lib.nDigits u:=by
 unfold nD;show(B3 u).toArray.size=_;rw[iI,Lib.decDigits_length]
theorem aa6{u:Nat}(h:u<10):nD u=⟨#[UInt8.ofNat (48+u)]⟩:=by unfold nD;rw[B3,lD h]
theorem agL{u:Nat}(h:¬u<10):nD u=nD (u / 10)++⟨#[UInt8.ofNat (48+u%10)]⟩:=by
 unfold nD;rw[B3,dif_neg h];apply oc;rw[oa];apply Array.toList_inj.1;simp
theorem acI(u:Nat)(h:u<10):aq ⟨#[UInt8.ofNat (48+u)]⟩ 0=48+(u:Int):=by
 rcases(show u=0\/u=1\/u=2\/u=3\/u=4\/u=5\/u=6\/u=7\/u=8\/u=9 by omega) with rfl|rfl|rfl|rfl|rfl|rfl|rfl|rfl|rfl|rfl;all_goals decide
theorem acJ{s t:ByteArray}{p:Nat}:∀n,(∀i,i<n->aq s (p+i)=aq t (p+i))->rh s p n=rh t p n
 |0,_=>rfl
 |n+1,h=>by rw[rh,rh,acJ n (fun i a=>h i (by omega)),h n (by omega)]
theorem DC(u:Nat):0<(nD u).size/\(∀i,i<(nD u).size->bc (aq (nD u) i)=M)/\(u≠0->aq (nD u) 0≠48)/\(u<10->(nD u).size=1)/\(u<=9223372036854775807->rh (nD u) 0 (nD u).size=Q u):=by
 induction u using Nat.strongRecOn with
 |_ u o=>
  by_cases d:u<10
  ·have c:=aa6 d;have e:(nD u).size=1:=by rw[c];rfl
   have b:aq (nD u) 0=48+(u:Int):=by rw[c];exact acI u d
   refine⟨by omega,fun i f=>?_,fun p=>by rw[b];omega,fun _=>e,fun _=>?_⟩
   ·obtain rfl:i=0:=by omega
    rw[b];simp[bc];omega
   ·rw[e,rh,rh];simp only[gq,b];rw[show(48+(u:Int)-48).toNat=u by omega,ab (by omega)];simp
  ·have c:=agL d;obtain⟨k,l,n,_,m⟩:=o (u / 10) (by omega);obtain⟨a,h⟩:∃a,(nD (u / 10)).size=a:=⟨_,rfl⟩;have e:(nD u).size=a+1:=by rw[c,ax,h];rfl
   have b:∀i,aq (nD u) i=if i<a then aq (nD (u / 10)) i else aq ⟨#[UInt8.ofNat (48+u%10)]⟩ (i-a):=fun i=>by rw[c,ib,h]
   have j:aq (nD u) a=48+((u%10:Nat):Int):=by rw[b,aa (by omega),eD];exact acI _ (by omega)
   rw[h]at k l m;refine⟨by omega,fun i f=>?_,fun _=>?_,fun g=>absurd g d,fun q=>?_⟩
   ·rcases aH i a with g|g
    ·rw[b,ab g];exact l i g
    ·obtain rfl:i=a:=by omega
     rw[j];simp[bc];omega
   ·rw[b,ab k];exact n (by omega)
   ·rw[e,rh,acJ (t:=nD (u / 10)) a (fun i f=>by rw[gq,b,ab f]),m (by omega)];simp only[gq,j];rw[show(48+((u%10:Nat):Int)-48).toNat=u%10 by omega,ab (by omega)]
    congr 1
    omega
theorem aky(u:Nat)(t:u<=9223372036854775807):Iv (nD u) 2 (u:Int) ⟨#[]⟩:=by
 obtain⟨h,e,m,n,f⟩:=DC u;have f:=f t;obtain⟨a,v⟩:∃a,nD u=a:=⟨_,rfl⟩;rw[v]at h e m n f⊢;have k:=e 0 h;have z:=fe k;have s:ba (aq a 0)=U:=by simp[ba];omega
 have o:¬(aq a 0=48/\aq a (0+1)=120):=fun c=>by
  have:=e 1 (bz c.2);rw[show(1:Nat)=0+1 from rfl,c.2]at this;exact absurd this (by decide)
 have p:∀b,b<=a.size->oD a b=a.size:=fun b x=>by
  unfold oD;rw[wy bc a (a.size-b) (a.size+1) b (fun A y=>e _ (by omega)) (by rw[show b+(a.size-b)=a.size by omega,dl];decide) (by omega)];omega
 have i:nA0 a 0=a.size:=by
  unfold nA0;by_cases c:aq a 0=48
  ·rw[ab c];have:u=0:=by
    rcases qI u with q|q
    ·exact q
    ·exact absurd c (m (by omega))
   rw[n (by omega)]
  ·rw[aa c];exact p _ (by omega)
 have g:aq a a.size= -1:=dl;have j:nA1 a a.size=a.size:=by unfold nA1;rw[g,aa (by simp)]
 have l:cK a 0=(a.size,M):=by
  unfold cK;rw[aa o,i,j];unfold ot;rw[g,aa (by decide)]
 have w:C3 a 0=U:=by unfold C3;rw[i,j,g];simp
 have r:qz a 0=(2,(u:Int),⟨#[]⟩):=by
  unfold qz;rw[aa o,l,w];simp only[pi];rw[aa (by simp),f]
 have d:rdI a 0=⟨M,a.size,0,2,(u:Int),⟨#[]⟩⟩:=by
  unfold rdI;rw[aa (by rw[s];simp),ab k,l,ab rfl,r]
 exact⟨h,by rw[d],by rw[d],by rw[d],by rw[d],by rw[d],by simp[gG];omega,fun c=>by omega⟩
theorem Cv(u:Nat):∀r,aq (Ac u r) 0=48/\aq (Ac u r) 1=120/\∀j,j<r->aq (Ac u r) (2+j)=hxd u (15-j)
 |0=>⟨rfl,rfl,fun j f=>by omega⟩
 |r+1=>by
  obtain⟨c,d,e⟩:=Cv u r;have h:=sr u r;have b:∀a,aq (Ac u (r+1)) a=if a<r+2 then aq (Ac u r) a else aq (ey [hxd u (15-r)]) (a-(r+2)):=fun a=>by show aq (Ac u r++_) a=_;rw[ib,h]
  refine⟨by rw[b,ab (by omega)];exact c,by rw[b,ab (by omega)];exact d,fun j f=>?_⟩;rcases aH j r with g|g
  ·rw[b,ab (by omega)];exact e j g
  ·obtain rfl:j=r:=by omega
   rw[b,aa (by omega),show 2+j-(j+2)=0 by omega,uC _ (fun k i=>by
    rw[List.mem_singleton.1 i];unfold hxd;have:=Hc ((u / 16 ^ (15-j)%16:Nat):Int) (by omega) (by omega);omega)]
   rfl
theorem amh(u j:Nat):gg (hxd u j)=((u / 16 ^ j%16:Nat):Int):=xw _ (by omega) (by omega)
theorem ami(u:Nat)(a:u<16 ^ 16):∀m,m<=16->tD (Ac u 16) 2 m=u / 16 ^ (16-m)
 |0,_=>by rw[tD];exact(Nat.div_eq_of_lt (by simpa using a)).symm
 |m+1,h=>by
  rw[tD,ami u a m (by omega),(Cv u 16).2.2 m (by omega),amh];have e:16-m=(15-m)+1:=by omega
  rw[e,show 16-(m+1)=15-m by omega,Nat.pow_succ,<-Nat.div_div_eq_div_mul];simp only[jz];omega
theorem akz(n:Int)(s: -9223372036854775808<=n)(t:n<0):Iv (Ac (n+18446744073709551616).toNat 16) 2 n ⟨#[]⟩:=by
 obtain⟨b,p⟩:∃b,(n+18446744073709551616).toNat=b:=⟨_,rfl⟩;rw[p];obtain⟨c,g,h⟩:=Cv b 16;have e:=sr b 16;have f:=ami b (by show b<18446744073709551616;omega) 16 (by omega);rw[show 16-16=0 from rfl,Nat.pow_zero,Nat.div_one]at f;obtain⟨a,q⟩:∃a,Ac b 16=a:=⟨_,rfl⟩;rw[q]at c g h e f⊢;have m:ED a 2=18:=by
  unfold ED;rw[wy li a 16 (a.size+1) 2 (fun r o=>by rw[h r o];unfold li;rw[amh];exact bv (by omega)) (by rw[dl];decide) (by omega)]
 have j:aq a 0=48/\aq a (0+1)=120:=⟨c,g⟩;have i:cK a 0=(a.size,M):=by
  unfold cK;rw[ab j];unfold mD;rw[gq,m,aa (by omega),e];rfl
 have k:qz a 0=(2,n,⟨#[]⟩):=by
  unfold qz;rw[ab j,i];simp only[gq];rw[e,show 16+2-2=16 by rfl,f];have:wrap64 (b:Int)=n:=by unfold wrap64;omega
  rw[this]
 have d:rdI a 0=⟨M,a.size,0,2,n,⟨#[]⟩⟩:=by
  unfold rdI;rw[c,aa (by decide),ab (by decide),i,ab rfl,k]
 exact⟨by omega,by rw[d],by rw[d],by rw[d],by rw[d],by rw[d],by rw[c];decide,fun l=>by rw[c]at l;omega⟩
theorem akA(n:Int)(b: -9223372036854775808<=n)(c:n<=9223372036854775807):Iv (xy n) 2 n ⟨#[]⟩:=by
 unfold xy;split
 ·rename_i a;exact akz n b a
 ·rename_i a;have:=aky n.toNat (by omega);rw[show((n.toNat:Nat):Int)=n by omega]at this;exact this
def aev:ByteArray:=⟨#[32]⟩
inductive D (tk:Nat->Tk) (n:Nat):Nat->List Int->Nat->Nat->Prop where
 |nil {i:Nat}:D tk n 0 [] i i
 |tok {m:Nat}{s:Int}{r:List Int}{i j:Nat}:s<100->(tk i).k=s->i<n->D tk n m r (i+1) j->D tk n (m+1) (s::r) i j
 |exp {m:Nat}{s:Int}{r:List Int}{i j:Nat}:100<=s->i<n->(xE s (tk i).k).2=true->D tk n m ((xE s (tk i).k).1++r) i j->D tk n (m+1) (s::r) i j
section
variable {tk : Nat → Tk} {n : Nat}
theorem D.split{st:List Int}(h:D tk n m st i j):∀(a b:List Int),st=a++b->∃d e k,D tk n d a i k/\D tk n e b k j/\d+e=m:=by
 induction h with
 |nil=>
  intro a b c;obtain⟨rfl,rfl⟩:a=[]/\b=[]:=by simpa using c.symm
  exact⟨0,0,_,.nil,.nil,rfl⟩
 |@tok m o t i j f g l r s=>
  intro a b c;cases a with
  |nil=>
   rw[ep]at c;exact⟨0,m+1,i,.nil,by rw[<-c];exact .tok f g l r,by omega⟩
  |cons u a=>
   obtain⟨rfl,rfl⟩:o=u/\t=a++b:=by simpa using c
   obtain⟨d,e,k,p,q,v⟩:=s a b rfl;exact⟨d+1,e,k,.tok f g l p,q,by omega⟩
 |@exp m o t i j f g l r s=>
  intro a b c;cases a with
  |nil=>
   rw[ep]at c;exact⟨0,m+1,i,.nil,by rw[<-c];exact .exp f g l r,by omega⟩
  |cons u a=>
   obtain⟨rfl,rfl⟩:o=u/\t=a++b:=by simpa using c
   obtain⟨d,e,k,p,q,v⟩:=s ((xE o (tk i).k).1++a) b (by rw[cH]);exact⟨d+1,e,k,.exp f g l p,q,by omega⟩
theorem D.cut(h:D tk n m (s::r) i j):∃a b k,D tk n a [s] i k/\D tk n b r k j/\a+b=m:=h.split [s] r rfl
theorem D.nils(h:D tk n m [] i j):i=j:=by cases h;rfl
theorem D.toks(h:D tk n m (s::r) i j)(f:s<100:=by omega):(tk i).k=s/\i<n/\∃d,D tk n d r (i+1) j/\d<m:=by
 cases h with
 |tok e a b c=>exact⟨a,b,_,c,by omega⟩
 |exp e a b c=>omega
theorem D.exps(h:D tk n m (s::r) i j)(f:100<=s):i<n/\(xE s (tk i).k).2=M/\∃d,D tk n d ((xE s (tk i).k).1++r) i j/\d<m:=by
 cases h with
 |tok e a b c=>omega
 |exp e a b c=>exact⟨a,b,_,c,by omega⟩
theorem D.row(h:D tk n m [s] i j)(g:100<=s){x:List Int×Bool}(e:xE s (tk i).k=x):i<n/\x.2=M/\∃a,D tk n a x.1 i j/\a<m:=by
 obtain⟨d,c,a,b,f⟩:=h.exps g;rw[e]at c b;rw[eo]at b;exact⟨d,c,a,b,f⟩
structure Ex (tk:Nat->Tk) (n m:Nat):Prop where
 unit:∀{i j:Nat},D tk n m [120] i j->j<n->∃N ks,P tk n .unit i (one N ks) j
 expr:∀{i j:Nat},D tk n m [119] i j->j<n->∃N ks,P tk n (.expr 0) i (one N ks) j
 exprs:∀{i j:Nat},D tk n m [124] i j->j<n->∃R,P tk n .exprs i R j
 moreE:∀{i j:Nat},D tk n m [125] i j->j<n->∃R,P tk n .moreE i R j
 block:∀{i j:Nat},D tk n m [132] i j->j<n->∃N ks,P tk n .block i (one N ks) j
 stats:∀{i j:Nat},D tk n m [100] i j->j<n->(tk j).k=43\/(tk j).k=6->∃R,P tk n .stats i R j
 body:∀{i j:Nat}(s:Tk),D tk n m [133] i j->j<n->∃N ks,P tk n (.body s) i (one N ks) j
 entries:∀{i j:Nat},D tk n m [129] i j->j<n->(tk j).k=43->∃R,P tk n .entries i R j
 entry:∀{i j:Nat},D tk n m [131] i j->j<n->∃N ks,P tk n .entry i (one N ks) j
 els:∀{i j k k1:Nat}{x b:Fo},(tk i).k=20\/(tk i).k=15->i<n->P tk n (.expr 0) (i+1) x k->P tk n .block k b k1->D tk n m [105] k1 j->j<n->∃N ks,P tk n .branch i (one N ks) j
theorem akB(k:Int):1<=lpw k:=by
 unfold lpw
 repeat' split
 all_goals omega
theorem D.lt(h:D tk n m (s::r) i j):i<n:=by cases h<;>assumption
theorem sE(h:fD t=M):t≠6/\t≠41/\t≠43/\t≠5/\t≠44/\t≠48/\t≠46:=by
 refine⟨?_,?_,?_,?_,?_,?_,?_⟩;all_goals
  rintro rfl;revert h;decide
theorem ap6(E:∀i,(tk i).k<100):∀(m:Nat),(∀m',m'<m->Ex tk n m')->∀{k j:Nat},D tk n m [121] k j->j<n->∀(p:Int)(s:Tk)(N:Nd)(ks:Fo),∃o af c m',P tk n (.more p s (one N ks)) k (one o af) c/\D tk n m' [121] c j/\m'<=m/\(jr (tk c).k=M->lpw (tk c).k<p):=by
 intro m
 induction m using Nat.strongRecOn with
 |_ m l=>
  intro e k j d h p s N ks;by_cases b:jr (tk k).k=M/\p<=lpw (tk k).k
  ·obtain⟨G,_,a5,v,ar⟩:=d.row (by omega) (x:=([(tk k).k,119],M)) (by simp[xE,ajH,b.1]);obtain⟨_,_,a6,w,av⟩:=v.toks (E k);obtain⟨y,F,a7,z,a0⟩:=w.row (by omega) (x:=([120,121],fD (tk (k+1)).k)) (by simp[xE,ajG]);obtain⟨am,an,a4,A,f,a1⟩:=z.cut;obtain⟨u,al,K⟩:=(e am (by omega)).unit A f.lt;obtain⟨q,ag,L,ao,H,B,a2,_⟩:=l an (by omega) (fun m' a=>e m' (by omega)) f h (rpw (tk k).k) (tk (k+1)) u al;obtain⟨r,ak,ad,ap,I,C,a3,J⟩:=l ao (by omega) (fun m' a=>e m' (by omega)) B h p s (He (tk k).k s (tk (L-1)).t) ((one N ks).app (one q ag));exact⟨r,ak,ad,ap,.mgo G b.1 b.2 (.ex (sE F).1 y K H) I,C,by omega,J⟩
  ·exact⟨N,ks,k,m,.mstop d.lt (fun a=>by rcases Int.lt_or_le (lpw (tk k).k) p with g|g;exact g;exact absurd ⟨a,g⟩ b),d,ae _,fun a=>by rcases Int.lt_or_le (lpw (tk k).k) p with g|g;exact g;exact absurd ⟨a,g⟩ b⟩
theorem akC(o:∀i,(tk i).k<100)(d:∀m',m'<m->Ex tk n m')(q:D tk n m [119] i j)(t:j<n):∃N ks,P tk n (.expr 0) i (one N ks) j:=by
 obtain⟨s,p,E,f,B⟩:=q.row (by omega) (x:=([120,121],fD (tk i).k)) (by simp[xE,ajG]);obtain⟨z,A,k,g,c,C⟩:=f.cut;obtain⟨N,ks,w⟩:=(d z (by omega)).unit g c.lt;obtain⟨e,y,a,m',u,h,_,v⟩:=ap6 o A (fun m' b=>d m' (by omega)) c t 0 (tk i) N ks;have r:jr (tk a).k=U:=by
  cases b:jr (tk a).k with
  |false=>rfl
  |true=>have:=v b;have:=akB (tk a).k;omega
 obtain⟨_,_,F,l,_⟩:=h.row (by omega) (x:=([],M)) (by simp[xE,ajH,r]);obtain rfl:=l.nils;exact⟨e,y,.ex (sE p).1 s w u⟩
def fam(S:Int):Int:=if S<=112 then 1 else if S<=115 then 2 else if S<=118 then 3 else 4
theorem akD{S:Int}(hS:S=110\/S=111\/S=112\/S=114\/S=115\/S=117\/S=118\/S=122)(h:aav t=M):∃a c,xE S t=(rl t a c,M)/\(a=110\/a=114\/a=117\/a=122)/\(c=111\/c=115\/c=118\/c=122)/\fam a=fam S/\fam c=fam S:=by
 have b:t=48\/t=44\/t=40:=aG h;rcases hS with rfl|rfl|rfl|rfl|rfl|rfl|rfl|rfl
 ·exact⟨110,111,by rcases b with rfl|rfl|rfl<;>decide,by omega,by omega,rfl,rfl⟩
 ·exact⟨110,111,by rcases b with rfl|rfl|rfl<;>decide,by omega,by omega,rfl,rfl⟩
 ·exact⟨110,111,by rcases b with rfl|rfl|rfl<;>decide,by omega,by omega,rfl,rfl⟩
 ·exact⟨114,115,by rcases b with rfl|rfl|rfl<;>decide,by omega,by omega,rfl,rfl⟩
 ·exact⟨114,115,by rcases b with rfl|rfl|rfl<;>decide,by omega,by omega,rfl,rfl⟩
 ·exact⟨117,118,by rcases b with rfl|rfl|rfl<;>decide,by omega,by omega,rfl,rfl⟩
 ·exact⟨117,118,by rcases b with rfl|rfl|rfl<;>decide,by omega,by omega,rfl,rfl⟩
 ·exact⟨122,122,by rcases b with rfl|rfl|rfl<;>decide,by omega,by omega,rfl,rfl⟩
theorem ap7:∀(m:Nat),(∀m',m'<m->Ex tk n m')->∀{S:Int},(S=110\/S=111\/S=112\/S=114\/S=115\/S=117\/S=118\/S=122)->∀{k j:Nat},D tk n m [S] k j->j<n->∀(s:Tk)(N:Nd)(ks:Fo),∃ap a7 L m' a,P tk n (.post s (one N ks)) k (one ap a7) L/\D tk n m' [a] L j/\m'<=m/\aav (tk L).k=U/\(a=110\/a=111\/a=112\/a=114\/a=115\/a=117\/a=118\/a=122)/\fam a=fam S:=by
 intro m
 induction m using Nat.strongRecOn with
 |_ m E=>
  intro q S hS k j J C s N ks;cases hf:aav (tk k).k with
  |false=>exact⟨N,ks,k,m,S,.pstop J.lt hf,J,ae _,hf,hS,rfl⟩
  |true=>
   obtain⟨u,y,a6,bb,bd,ag,ak⟩:=akD hS hf;obtain⟨a1,_,bj,o,be⟩:=J.row (by omega) a6;have a5:=aG hf;rcases a5 with e|e|e
   ·rw[show(rl (tk k).k u y,M).1=[48,1,u] by rw[e];rfl]at o;obtain⟨_,_,ao,v,al⟩:=o.toks;obtain⟨a0,a2,F,p,am⟩:=v.toks;obtain⟨b,l,i,af,c,p2,d,bf,f,g,h⟩:=E F (by omega) (fun m' H=>q m' (by omega)) (by omega) p C s (nd 33 s (tk (k+1)).t 0 0 (tk (k+1)).x []) (one N ks);exact⟨b,l,i,af,c,.pdot e a0 a2 p2,d,by omega,f,g,by rw[h,ag]⟩
   ·rw[show(rl (tk k).k u y,M).1=[44,119,45,u] by rw[e];rfl]at o;obtain⟨_,_,ao,v,al⟩:=o.toks;obtain⟨F,af,ad,p,A,am⟩:=v.cut;obtain⟨ar,a8,K⟩:=(q F (by omega)).expr p A.lt;obtain⟨z,w,G,B,a4⟩:=A.toks;obtain⟨b,l,i,r,c,p2,d,an,f,g,h⟩:=E G (by omega) (fun m' H=>q m' (by omega)) (by omega) B C s (lg 32 s (tk ad).t) ((one N ks).app (one ar a8));exact⟨b,l,i,r,c,.psq e a1 K z w p2,d,by omega,f,g,by rw[h,ag]⟩
   ·rw[show(rl (tk k).k u y,M).1=[40,123,41,y] by rw[e];rfl]at o;obtain⟨_,_,ao,v,al⟩:=o.toks;obtain⟨F,af,ad,p,A,am⟩:=v.cut;obtain⟨z,w,G,B,a4⟩:=A.toks;cases hb:fD (tk (k+1)).k with
    |false=>
     obtain⟨_,_,r,I,_⟩:=p.row (by omega) (x:=([],M)) (by simp[xE,ajJ,hb]);obtain rfl:=I.nils;obtain⟨b,l,i,r,c,p2,d,an,f,g,h⟩:=E G (by omega) (fun m' H=>q m' (by omega)) (by omega) B C s (lg 34 s (tk (k+1)).t) (one N ks);exact⟨b,l,i,r,c,.pcall0 e z w p2,d,by omega,f,g,by rw[h,ak]⟩
    |true=>
     obtain⟨a3,_,r,I,an⟩:=p.row (by omega) (x:=([124],M)) (by simp[xE,ajJ,hb]);obtain⟨av,K⟩:=(q r (by omega)).exprs I w;obtain⟨b,l,i,a9,c,p2,d,bh,f,g,h⟩:=E G (by omega) (fun m' H=>q m' (by omega)) (by omega) B C s (lg 34 s (tk ad).t) ((one N ks).app av);exact⟨b,l,i,a9,c,.pcall e a3 (sE hb).2.1 K z w p2,d,by omega,f,g,by rw[h,ak]⟩
theorem acK{a c:Int}(h:aav t=U):rl t a c=[]:=by
 have h:=jg h;unfold rl;rw[aa (by omega),aa (by omega),aa (by omega)]
theorem D.join{o c:Nat}{a b:List Int}{k:Nat}(h:D tk n o a i k)(l:D tk n c b k j):D tk n (o+c) (a++b) i j:=by
 induction h with
 |nil=>rw[gq];exact l
 |@tok d q r i j e f g p m=>rw[show d+1+c=(d+c)+1 by omega];exact .tok e f g (m l)
 |@exp d q r i j e f g p m=>rw[show d+1+c=(d+c)+1 by omega];exact .exp (r:=r++b) e f g (by rw[<-cH];exact m l)
theorem ag0(N:Nd)(ks:Fo)(s:Tk)(e:Int):∃a b,qi N ks s e=one a b:=by unfold qi;split<;>exact⟨_,_,rfl⟩
theorem KA(o:∀m',m'<m->Ex tk n m'){S:Int}(hS:S=110\/S=111\/S=112\/S=114\/S=115\/S=117\/S=118\/S=122)(v:j<n)(hd:D tk n m [1,S] i j\/D tk n m [40,119,41,S] i j):∃z ag q m' a,P tk n .base i (one z ag) q/\D tk n m' [a] q j/\m'<m/\aav (tk q).k=U/\(a=110\/a=111\/a=112\/a=114\/a=115\/a=117\/a=118\/a=122)/\fam a=fam S:=by
 rcases hd with hd|hd
 ·obtain⟨e,p,y,l,J⟩:=hd.toks;obtain⟨b,s,r,u,c,p2,d,K,f,g,h⟩:=ap7 y (fun m' F=>o m' (by omega)) hS l v (tk i) (nd 26 (tk i) (tk i).t 0 0 (tk i).x []) .nil;exact⟨b,s,r,u,c,.bname e p p2,d,by omega,f,g,h⟩
 ·obtain⟨e,p,y,l,J⟩:=hd.toks;obtain⟨u,ap,ad,G,H,K⟩:=l.cut;obtain⟨C,w,al,I,an⟩:=H.toks;obtain⟨B,ak,L⟩:=(o u (by omega)).expr G w;obtain⟨A,af,E⟩:=ag0 B ak (tk i) (tk ad).t;obtain⟨b,s,r,am,c,p2,d,ao,f,g,h⟩:=ap7 al (fun m' F=>o m' (by omega)) hS I v (tk i) A af;rw[<-E]at p2;exact⟨b,s,r,am,c,.bopen e p L C w p2,d,by omega,f,g,h⟩
theorem D.names:∀(m:Nat){k j:Nat},D tk n m [104] k j->j<n->∃ns,ej tk n k ns j/\(tk j).k≠46:=by
 intro m
 induction m using Nat.strongRecOn with
 |_ m q=>
  intro k j c d;by_cases a:(tk k).k=46
  ·obtain⟨i,_,r,b,o⟩:=c.row (by omega) (x:=([46,1,104],M)) (by simp[xE,ajB,a]);obtain⟨_,_,v,f,t⟩:=b.toks;obtain⟨e,l,s,g,u⟩:=f.toks;obtain⟨ns,p,h⟩:=q s (by omega) g d;exact⟨_,.go a l e p,h⟩
  ·obtain⟨i,_,r,b,o⟩:=c.row (by omega) (x:=([],M)) (by simp[xE,ajB,a]);obtain rfl:=b.nils;exact⟨[],.stop a d,a⟩
theorem params:∀(m:Nat){S:Int},S=126\/S=128->∀{k j:Nat},D tk n m [S,41] k j->j<n->∃ns r,Prm tk n k ns r j:=by
 intro m
 induction m using Nat.strongRecOn with
 |_ m B=>
  intro S hS k j v f;obtain⟨L,E,C,c,l,J⟩:=v.cut;obtain⟨g,I,ad,u,_⟩:=l.toks;obtain rfl:=u.nils;by_cases b:(tk k).k=1
  ·obtain⟨p,_,s,a,q⟩:=c.row (by omega) (x:=([1,127],M)) (by rcases hS with rfl|rfl<;>simp[xE,afA,afB,b]);obtain⟨_,_,F,d,y⟩:=a.toks;by_cases i:(tk (k+1)).k=46
   ·obtain⟨w,_,G,h,z⟩:=d.row (by omega) (x:=([46,128],M)) (by simp[xE,ajL,i]);obtain⟨_,_,H,o,K⟩:=h.toks;obtain⟨ns,r,A⟩:=B (H+E) (by omega) (.inr rfl) (k:=k+2) (j:=C+1) (D.join o l) f;exact⟨_,_,.go b i o.lt A⟩
   ·obtain⟨w,_,G,h,z⟩:=d.row (by omega) (x:=([],M)) (by simp[xE,ajL,i]);obtain rfl:=h.nils;exact⟨_,_,.last b g f⟩
  ·by_cases e:(tk k).k=49
   ·obtain⟨p,_,s,a,q⟩:=c.row (by omega) (x:=([49],M)) (by rcases hS with rfl|rfl<;>simp[xE,afA,afB,e]);obtain⟨_,_,F,d,y⟩:=a.toks;obtain rfl:=d.nils;exact⟨_,_,.rest e g f⟩
   ·rcases hS with rfl|rfl
    ·obtain⟨p,_,s,a,q⟩:=c.row (by omega) (x:=([],M)) (by simp[xE,afA,b,e]);obtain rfl:=a.nils;exact⟨_,_,.close g f⟩
    ·obtain⟨_,t,_⟩:=c.row (by omega) (x:=([],U)) (by simp[xE,afB,b,e]);cases t
theorem ag1(f:∀m',m'<m->Ex tk n m')(e:D tk n m [125] i j)(h:j<n):∃c,P tk n .moreE i c j:=by
 by_cases a:(tk i).k=46
 ·obtain⟨g,_,r,b,p⟩:=e.row (by omega) (x:=([46,119,125],M)) (by simp[xE,ajK,a]);obtain⟨_,_,A,k,v⟩:=b.toks;obtain⟨s,t,y,l,d,w⟩:=k.cut;obtain⟨u,z,q⟩:=(f s (by omega)).expr l d.lt;obtain⟨c,o⟩:=(f t (by omega)).moreE d h;exact⟨_,.ego a g q o⟩
 ·obtain⟨g,_,r,b,p⟩:=e.row (by omega) (x:=([],M)) (by simp[xE,ajK,a]);obtain rfl:=b.nils;exact⟨_,.estop a h⟩
theorem ag2(c:∀m',m'<m->Ex tk n m')(g:D tk n m [124] i j)(h:j<n):∃a,P tk n .exprs i a j:=by
 obtain⟨q,_,v,d,r⟩:=g.row (by omega) (x:=([119,125],fD (tk i).k)) (by simp[xE,am9]);obtain⟨l,o,t,e,b,s⟩:=d.cut;obtain⟨p,u,k⟩:=(c l (by omega)).expr e b.lt;obtain⟨a,f⟩:=(c o (by omega)).moreE b h;exact⟨_,.es k f⟩
theorem KB(l:∀m',m'<m->Ex tk n m')(k:D tk n m [132] i j)(p:j<n):∃N ks,P tk n .block i (one N ks) j:=by
 obtain⟨o,h,y,b,t⟩:=k.row (by omega) (x:=([42,100,43],decide ((tk i).k=42))) (by simp[xE,afD]);obtain⟨_,_,z,c,u⟩:=b.toks;obtain⟨r,A,w,d,e,v⟩:=c.cut;obtain⟨a,q,B,f,_⟩:=e.toks;obtain rfl:=f.nils;obtain⟨s,g⟩:=(l r (by omega)).stats d q (.inl a);exact⟨_,_,.block (aG h) o g a p⟩
theorem akE(h:∀m',m'<m->Ex tk n m')(s:Tk)(g:D tk n m [133] i j)(l:j<n):∃N ks,P tk n (.body s) i (one N ks) j:=by
 obtain⟨k,f,w,b,r⟩:=g.row (by omega) (x:=([40,126,41,132],decide ((tk i).k=40))) (by simp[xE,aj2]);obtain⟨_,_,y,c,t⟩:=b.toks;obtain⟨p,q,v,d,a,u⟩:=c.split [126,41] [132] rfl;obtain⟨N,ks,e⟩:=(h q (by omega)).block a l;obtain⟨z,A,o⟩:=params p (.inl rfl) d a.lt;exact⟨_,_,.body (aG f) k o e⟩
theorem akF(p:∀i,(tk i).k<100)(g:∀m',m'<m->Ex tk n m')(I:D tk n m [120] i j)(b:j<n):∃N ks,P tk n .unit i (one N ks) j:=by
 obtain⟨l,c,C,a,ad⟩:=I.row (by omega) (x:=JF (tk i).k) (by simp[xE,apK]);unfold JF at c a;split at a
 ·rename_i h;obtain⟨_,_,e,d,o⟩:=a.toks (p i);obtain⟨N,ks,u⟩:=(g e (by omega)).unit d b;exact⟨_,_,.upre h l u⟩
 rename_i B;rw[aa B]at c;split at a
 ·rename_i h;obtain⟨N,ks,k,e,S,p2,q,o,r,s,t⟩:=KA (m:=C) (S:=122) (fun m' h=>g m' (by omega)) (by omega) b (.inl (by rw[h]at a;exact a));obtain rfl:S=122:=by rcases s with rfl|rfl|rfl|rfl|rfl|rfl|rfl|rfl<;>first|rfl|(revert t;decide)
  obtain⟨_,_,E,f,_⟩:=q.row (by omega) (x:=([],M)) (by simp[xE,ajI,acK r]);obtain rfl:=f.nils;exact⟨N,ks,.ubas (.inl h) l p2⟩
 rename_i w;rw[aa w]at c;split at a
 ·rename_i h;obtain⟨N,ks,k,e,S,p2,q,o,r,s,t⟩:=KA (m:=C) (S:=122) (fun m' h=>g m' (by omega)) (by omega) b (.inr (by rw[h]at a;exact a));obtain rfl:S=122:=by rcases s with rfl|rfl|rfl|rfl|rfl|rfl|rfl|rfl<;>first|rfl|(revert t;decide)
  obtain⟨_,_,E,f,_⟩:=q.row (by omega) (x:=([],M)) (by simp[xE,ajI,acK r]);obtain rfl:=f.nils;exact⟨N,ks,.ubas (.inr h) l p2⟩
 rename_i y;rw[aa y]at c;split at a
 ·rename_i h;obtain⟨_,_,e,d,o⟩:=a.toks (p i);obtain⟨K,ag,k,F,G,af⟩:=d.cut;obtain⟨v,J,E,f,_⟩:=G.toks;obtain rfl:=f.nils;obtain⟨L,H⟩:=(g K (by omega)).entries F J v;exact⟨_,_,.utab h l H v b⟩
 rename_i z;rw[aa z]at c;split at a
 ·rename_i h;obtain⟨_,_,e,d,o⟩:=a.toks (p i);obtain⟨N,ks,u⟩:=(g e (by omega)).body (tk i) d b;exact⟨N,ks,.ufn h l u⟩
 rename_i A;rw[aa A]at c;obtain⟨_,_,e,d,o⟩:=a.toks (p i);obtain rfl:=d.nils;simp only[fD,B,Cc,decide_eq_true_eq]at c;rcases c with h|h|h|h|h|h|h|h|h|h|h
 ·exact absurd h w
 ·exact⟨_,_,.uint h b⟩
 ·exact⟨_,_,.uflt h b⟩
 ·exact⟨_,_,.ustr h b⟩
 ·exact⟨_,_,.unil h b⟩
 ·exact⟨_,_,.utru h b⟩
 ·exact⟨_,_,.ufls h b⟩
 ·exact⟨_,_,.urst h b⟩
 ·exact absurd h A
 ·exact absurd h y
 ·exact absurd h z
theorem ag3(f:∀m',m'<m->Ex tk n m')(l:D tk n m [131] i j)(o:j<n):∃N ks,P tk n .entry i (one N ks) j:=by
 by_cases d:(tk i).k=48
 ·obtain⟨g,_,p,a,q⟩:=l.row (by omega) (x:=([48,1,47,119],M)) (by simp[xE,afC,d]);obtain⟨_,_,H,h,E⟩:=a.toks;obtain⟨t,_,r,k,F⟩:=h.toks;obtain⟨u,B,s,c,K⟩:=k.toks;obtain⟨N,ks,b⟩:=(f s (by omega)).expr c o;exact⟨_,_,.named d t u B b⟩
 by_cases e:(tk i).k=44
 ·obtain⟨g,_,p,a,q⟩:=l.row (by omega) (x:=([44,119,45,47,119],M)) (by simp[xE,afC,e]);obtain⟨_,_,H,h,E⟩:=a.toks;obtain⟨r,s,af,k,c,F⟩:=h.cut;obtain⟨N,ks,b⟩:=(f r (by omega)).expr k c.lt;obtain⟨v,_,ak,y,L⟩:=c.toks;obtain⟨w,C,I,z,ad⟩:=y.toks;obtain⟨J,ag,G⟩:=(f I (by omega)).expr z o;exact⟨_,_,.pair e g b v w C G⟩
 ·obtain⟨g,A,p,a,q⟩:=l.row (by omega) (x:=([119],fD (tk i).k)) (by simp[xE,afC,d,e]);obtain⟨N,ks,b⟩:=(f p (by omega)).expr a o;exact⟨_,_,.item d e (sE A).1 g b⟩
theorem aa7(r:∀m',m'<m->Ex tk n m')(q:D tk n m [129] i j)(h:j<n)(f:(tk j).k=43):∃o,P tk n .entries i o j:=by
 by_cases hb:fD (tk i).k=M\/(tk i).k=48\/(tk i).k=44
 ·obtain⟨g,_,z,b,w⟩:=q.row (by omega) (x:=([131,130],M)) (by rcases hb with hb|hb|hb<;>simp[xE,aj0,hb]);have p:(tk i).k≠43:=by rcases hb with hb|hb|hb;exact(sE hb).2.2.1;omega;omega
  obtain⟨A,I,k,t,d,F⟩:=b.cut;obtain⟨E,H,s⟩:=(r A (by omega)).entry t d.lt;by_cases c:(tk k).k=46
  ·obtain⟨l,_,B,e,y⟩:=d.row (by omega) (x:=([46,129],M)) (by simp[xE,aj1,c]);obtain⟨_,_,C,u,G⟩:=e.toks;obtain⟨o,v⟩:=(r C (by omega)).entries u h f;exact⟨_,.ncom p g s c l v⟩
  ·obtain⟨l,_,B,e,y⟩:=d.row (by omega) (x:=([],M)) (by simp[xE,aj1,c]);obtain rfl:=e.nils;exact⟨_,.nlast p g s c l (.nstop f h)⟩
 ·have b:fD (tk i).k=U:=by cases a:fD (tk i).k with|false=>rfl|true=>exact absurd (.inl a) hb
  obtain⟨g,_,z,b,w⟩:=q.row (by omega) (x:=([],M)) (by simp only[xE,aj0,b];rw[aa (by simp),aa (fun a=>hb (.inr (.inl a))),aa (fun a=>hb (.inr (.inr a)))];rfl);obtain rfl:=b.nils;exact⟨_,.nstop f h⟩
theorem anF(f:∀m',m'<m->Ex tk n m'){k g:Nat}{x b:Fo}(l:(tk i).k=20\/(tk i).k=15)(r:i<n)(s:P tk n (.expr 0) (i+1) x k)(o:P tk n .block k b g)(q:D tk n m [105] g j)(v:j<n):∃N ks,P tk n .branch i (one N ks) j:=by
 by_cases d:(tk g).k=15
 ·obtain⟨a,_,y,c,w⟩:=q.row (by omega) (x:=([15,119,132,105],M)) (by simp[xE,afv,d]);obtain⟨_,_,z,h,E⟩:=c.toks;obtain⟨I,am,ag,B,t,ad⟩:=h.cut;obtain⟨N,ks,F⟩:=(f I (by omega)).expr B t.lt;obtain⟨J,K,ak,C,u,af⟩:=t.cut;obtain⟨A,H,p⟩:=(f J (by omega)).block C u.lt;obtain⟨L,al,G⟩:=(f K (by omega)).els (.inr d) a F p u v;exact⟨_,_,.belif l r s o d a G⟩
 by_cases e:(tk g).k=16
 ·obtain⟨a,_,y,c,w⟩:=q.row (by omega) (x:=([16,132],M)) (by simp[xE,afv,e]);obtain⟨_,_,z,h,E⟩:=c.toks;obtain⟨A,H,p⟩:=(f z (by omega)).block h v;exact⟨_,_,.belse l r s o e a p⟩
 ·obtain⟨a,_,y,c,w⟩:=q.row (by omega) (x:=([],M)) (by simp[xE,afv,d,e]);obtain rfl:=c.nils;exact⟨_,_,.bno l r s o d e a⟩
theorem akG:∀(m:Nat),(∀m',m'<m->Ex tk n m')->∀{i j:Nat},D tk n m [113] i j->j<n->∃N ks z k l m',P tk n .base i (one N ks) k/\P tk n .moreB k z l/\(tk l).k=47/\l<n/\D tk n m' [124] (l+1) j/\m'<m:=by
 intro m
 induction m using Nat.strongRecOn with
 |_ m ag=>
  intro v i j c w;have K:∃a,a<m/\∃S:Int,(S=114\/S=115)/\(D tk n a [1,S] i j\/D tk n a [40,119,41,S] i j):=by
   by_cases t:(tk i).k=1
   ·obtain⟨L,_,a,d,h⟩:=c.row (by omega) (x:=([1,114],M)) (by simp[xE,afx,t]);exact⟨a,h,114,by omega,.inl d⟩
   ·by_cases u:(tk i).k=40
    ·obtain⟨L,_,a,d,h⟩:=c.row (by omega) (x:=([40,119,41,115],M)) (by simp[xE,afx,u]);exact⟨a,h,115,by omega,.inr d⟩
    ·obtain⟨_,b,_⟩:=c.row (by omega) (x:=([],U)) (by simp[xE,afx,t,u]);cases b
  obtain⟨a,h,r,J,d⟩:=K;obtain⟨N,ks,k,a1,S,p2,e,ar,G,H,s⟩:=KA (m:=a) (S:=r) (fun m' b=>v m' (by omega)) (by omega) w d;have I:fam r=2:=by rcases J with rfl|rfl<;>rfl
  rw[I]at s;have y:(tk k).k≠48/\(tk k).k≠44/\(tk k).k≠40:=by have:=jg G;omega
  have hS:S=114\/S=115:=by rcases H with rfl|rfl|rfl|rfl|rfl|rfl|rfl|rfl<;>first|omega|(revert s;decide)
  rcases hS with rfl|rfl
  ·by_cases f:(tk k).k=46
   ·obtain⟨g,_,al,o,ad⟩:=e.row (by omega) (x:=([46,113],M)) (by simp[xE,afy,f]);obtain⟨_,_,q,p,af⟩:=o.toks;obtain⟨an,a0,ao,av,ak,am,A,B,C,E,F,ap⟩:=ag q (by omega) (fun m' b=>v m' (by omega)) p w;exact⟨N,ks,_,k,ak,am,p2,.bgo f g A B,C,E,F,by omega⟩
   ·by_cases c:(tk k).k=47
    ·obtain⟨g,_,al,o,ad⟩:=e.row (by omega) (x:=([47,124],M)) (by simp[xE,afy,c]);obtain⟨_,_,q,p,af⟩:=o.toks;exact⟨N,ks,.nil,k,k,q,p2,.bstop f g,c,g,p,by omega⟩
    ·obtain⟨_,b,_⟩:=e.row (by omega) (x:=([],U)) (by simp[xE,afy,y,f,c]);cases b
  ·obtain⟨_,b,_⟩:=e.row (by omega) (x:=([],U)) (by simp[xE,am6,y]);cases b
theorem D.blk(h:D tk n m (132::r) i j):(tk i).k=42/\i<n:=by
 obtain⟨f,g,k,a,d,e⟩:=h.cut;obtain⟨c,b,_⟩:=a.row (by omega) (x:=([42,100,43],decide ((tk i).k=42))) (by simp[xE,afD]);exact⟨aG b,c⟩
theorem anG(a:∀m',m'<m->Ex tk n m')(p:(tk i).k=19)(an:D tk n m [19,1,106] i j)(E:j<n):∃N ks,P tk n .stat i (one N ks) j:=by
 obtain⟨_,_,bt,al,be⟩:=an.toks;obtain⟨l,bd,bx,B,bj⟩:=al.toks;by_cases e:(tk (i+2)).k=47
 ·obtain⟨t,_,a7,q,ap⟩:=B.row (by omega) (x:=([47,119,46,119,107,132],M)) (by simp[xE,ajC,e]);obtain⟨_,_,K,r,ar⟩:=q.toks;obtain⟨L,a8,k,b,c,bk⟩:=r.cut;obtain⟨ag,a3,h⟩:=(a L (by omega)).expr b c.lt;obtain⟨y,H,ad,s,av⟩:=c.toks;obtain⟨v,bA,J,d,C,bn⟩:=s.cut;obtain⟨a9,br,I⟩:=(a v (by omega)).expr d C.lt;obtain⟨bw,a4,bo,z,A,bf⟩:=C.cut;obtain⟨w,G⟩:=A.blk;obtain⟨af,a2,f⟩:=(a a4 (by omega)).block A E;by_cases g:(tk J).k=46
  ·obtain⟨u,_,a5,o,ao⟩:=z.row (by omega) (x:=([46,119],M)) (by simp[xE,ajD,g]);obtain⟨_,_,a6,am,bh⟩:=o.toks;obtain⟨bb,bs,a1⟩:=(a a6 (by omega)).expr am G;exact⟨_,_,.tfor p (by omega) l (.stop (by omega) t) e (.es h (.ego y H I (.ego g u a1 (.estop (by omega) G)))) f⟩
  ·obtain⟨u,_,a5,o,ao⟩:=z.row (by omega) (x:=([],M)) (by simp[xE,ajD,g]);obtain rfl:=o.nils;exact⟨_,_,.tfor p (by omega) l (.stop (by omega) t) e (.es h (.ego y H I (.estop g u))) f⟩
 ·obtain⟨t,_,a7,q,ap⟩:=B.row (by omega) (x:=([104,21,119,132],decide ((tk (i+2)).k=46\/(tk (i+2)).k=21))) (by simp[xE,ajC,e]);obtain⟨K,L,k,r,b,ar⟩:=q.cut;obtain⟨bD,a0,_⟩:=D.names K r b.lt;obtain⟨ak,_,a8,c,bl⟩:=b.toks;obtain⟨ad,v,J,s,d,av⟩:=c.cut;obtain⟨w,F⟩:=d.blk;obtain⟨ag,a3,h⟩:=(a ad (by omega)).expr s F;obtain⟨af,a2,f⟩:=(a v (by omega)).block d E;exact⟨_,_,.teach p (by omega) l a0 ak h w F f⟩
theorem acL(l:∀m',m'<m->Ex tk n m'){a:Int}(H:a=110\/a=112)(o:(tk i).k=1\/(tk i).k=40)(r:i<n)(d:D tk n m [1,a] i j\/D tk n m [40,119,41,a] i j)(e:j<n)(af:(tk j).k=5\/(tk j).k=6\/(tk j).k=43):∃N ks,P tk n .stat i (one N ks) j:=by
 obtain⟨N,ks,k,an,S,p2,b,ag,F,G,u⟩:=KA (m:=m) (S:=a) l (by omega) e d;rw[show fam a=1 by rcases H with rfl|rfl<;>rfl]at u;have s:(tk k).k≠48/\(tk k).k≠44/\(tk k).k≠40:=by have:=jg F;omega
 have hS:S=110\/S=111\/S=112:=by rcases G with rfl|rfl|rfl|rfl|rfl|rfl|rfl|rfl<;>first|omega|(revert u;decide)
 rcases hS with rfl|rfl|rfl
 ·by_cases h:(tk k).k=46
  ·obtain⟨f,_,w,c,v⟩:=b.row (by omega) (x:=([46,113],M)) (by simp[xE,afw,h]);obtain⟨_,_,t,p,I⟩:=c.toks;obtain⟨K,am,L,ak,al,J,z,A,B,C,E,ad⟩:=akG t (fun m' g=>l m' (by omega)) p e;obtain⟨y,q⟩:=(l J (by omega)).exprs E e;exact⟨_,_,.tset o r p2 (.bgo h f z A) B C q⟩
  ·by_cases d:(tk k).k=47
   ·obtain⟨f,_,w,c,v⟩:=b.row (by omega) (x:=([47,124],M)) (by simp[xE,afw,d]);obtain⟨_,_,t,p,I⟩:=c.toks;obtain⟨y,q⟩:=(l t (by omega)).exprs p e;exact⟨_,_,.tset o r p2 (.bstop h f) d f q⟩
   ·obtain⟨_,g,_⟩:=b.row (by omega) (x:=([],U)) (by simp[xE,afw,s,h,d]);cases g
 ·obtain⟨f,_,w,c,v⟩:=b.row (by omega) (x:=([],M)) (by simp[xE,am4,s]);obtain rfl:=c.nils;exact⟨_,_,.tdo o r p2 (by omega) (by omega) e⟩
 ·obtain⟨_,g,_⟩:=b.row (by omega) (x:=([],U)) (by simp[xE,am5,s]);cases g
theorem ac0(f:∀m',m'<m->Ex tk n m')(r:i<n)(E:(ja (tk i).k).2=M)(a:D tk n m (ja (tk i).k).1 i j)(g:j<n)(K:(tk j).k=5\/(tk j).k=6\/(tk j).k=43):(∃N ks,P tk n .stat i (one N ks) j)/\(tk i).k≠5/\(tk i).k≠6/\(tk i).k≠43:=by
 have L:(tk i).k=22\/(tk i).k=13\/(tk i).k=18\/(tk i).k=20\/(tk i).k=31\/(tk i).k=19\/(tk i).k=11\/(tk i).k=23\/(tk i).k=27\/(tk i).k=30\/(tk i).k=28\/(tk i).k=14\/(tk i).k=42\/(tk i).k=1\/(tk i).k=40:=by
  refine Decidable.byContradiction fun a0=>?_;simp only[not_or]at a0;simp[ja,a0]at E
 refine⟨?_,by omega,by omega,by omega⟩;rcases L with e|e|e|e|e|e|e|e|e|e|e|e|e|e|e
 ·rw[show(ja (tk i).k).1=[22,1,104,103] by rw[e];rfl]at a;obtain⟨_,_,o,b,p⟩:=a.toks;obtain⟨z,bs,d,c,s⟩:=b.toks;obtain⟨w,G,k,l,t,ap⟩:=c.cut;obtain⟨bE,B,_⟩:=D.names w l t.lt;by_cases y:(tk k).k=47
  ·obtain⟨v,_,H,u,av⟩:=t.row (by omega) (x:=([47,124],M)) (by simp[xE,ajA,y]);obtain⟨_,_,a2,C,bh⟩:=u.toks;obtain⟨a3,J⟩:=(f a2 (by omega)).exprs C g;exact⟨_,_,.tlet e (by omega) z B y J⟩
  ·obtain⟨v,_,H,u,av⟩:=t.row (by omega) (x:=([],M)) (by simp[xE,ajA,y]);obtain rfl:=u.nils;exact⟨_,_,.tlet0 e (by omega) z B y⟩
 ·rw[show(ja (tk i).k).1=[13,1,47,119] by rw[e];rfl]at a;obtain⟨_,_,o,b,p⟩:=a.toks;obtain⟨z,_,d,c,s⟩:=b.toks;obtain⟨a5,ad,w,l,ap⟩:=c.toks;obtain⟨N,ks,h⟩:=(f w (by omega)).expr l g;exact⟨_,_,.tcon e z a5 ad h⟩
 ·rw[show(ja (tk i).k).1=[18,1,133] by rw[e];rfl]at a;obtain⟨_,_,o,b,p⟩:=a.toks;obtain⟨z,_,d,c,s⟩:=b.toks;obtain⟨ad,be,_⟩:=c.row (by omega) (x:=([40,126,41,132],decide ((tk (i+2)).k=40))) (by simp[xE,aj2]);obtain⟨N,ks,h⟩:=(f d (by omega)).body (tk (i+2)) c g;exact⟨_,_,.tfn e z (aG be) ad h⟩
 ·rw[show(ja (tk i).k).1=[20,119,132,105] by rw[e];rfl]at a;obtain⟨_,_,o,b,p⟩:=a.toks;obtain⟨d,w,k,c,l,s⟩:=b.cut;obtain⟨N,ks,h⟩:=(f d (by omega)).expr c l.lt;obtain⟨G,H,bl,t,u,ar⟩:=l.cut;obtain⟨af,a1,q⟩:=(f G (by omega)).block t u.lt;obtain⟨br,bx,bk⟩:=(f H (by omega)).els (.inl e) r h q u g;exact⟨_,_,.tif e r bk⟩
 ·rw[show(ja (tk i).k).1=[31,119,132] by rw[e];rfl]at a;obtain⟨_,_,o,b,p⟩:=a.toks;obtain⟨d,w,k,c,l,s⟩:=b.cut;obtain⟨N,ks,h⟩:=(f d (by omega)).expr c l.lt;obtain⟨af,a1,q⟩:=(f w (by omega)).block l g;exact⟨_,_,.twhile e r h q⟩
 ·rw[show(ja (tk i).k).1=[19,1,106] by rw[e];rfl]at a;exact anG f e a g
 ·rw[show(ja (tk i).k).1=[11] by rw[e];rfl]at a;obtain⟨_,_,o,b,p⟩:=a.toks;obtain rfl:=b.nils;exact⟨_,_,.tbreak e g⟩
 ·rw[show(ja (tk i).k).1=[23] by rw[e];rfl]at a;obtain⟨_,_,o,b,p⟩:=a.toks;obtain rfl:=b.nils;exact⟨_,_,.tnext e g⟩
 ·rw[show(ja (tk i).k).1=[27,108] by rw[e];rfl]at a;obtain⟨_,_,o,b,p⟩:=a.toks;cases q:fD (tk (i+1)).k with
  |true=>
   obtain⟨v,_,d,c,s⟩:=b.row (by omega) (x:=([124],M)) (by simp[xE,ajE,q]);obtain⟨a3,J⟩:=(f d (by omega)).exprs c g;exact⟨_,_,.tret e v q J⟩
  |false=>
   obtain⟨v,_,d,c,s⟩:=b.row (by omega) (x:=([],M)) (by simp[xE,ajE,q]);obtain rfl:=c.nils;exact⟨_,_,.tret0 e v K⟩
 ·rw[show(ja (tk i).k).1=[30,132,12,1,109,132] by rw[e];rfl]at a;obtain⟨_,_,o,b,p⟩:=a.toks;obtain⟨d,w,k,c,l,s⟩:=b.cut;obtain⟨N,ks,h⟩:=(f d (by omega)).block c l.lt;obtain⟨ak,_,G,t,ar⟩:=l.toks;obtain⟨al,ao,H,u,av⟩:=t.toks;obtain⟨a2,bn,bl,C,am,bh⟩:=u.cut;obtain⟨a6,an⟩:=am.blk;obtain⟨af,a1,q⟩:=(f bn (by omega)).block am g;by_cases F:(tk (k+2)).k=46
  ·obtain⟨v,_,bo,I,bj⟩:=C.row (by omega) (x:=([46,1],M)) (by simp[xE,ajF,F]);obtain⟨_,_,bD,bd,bw⟩:=I.toks;obtain⟨a4,bf,bA,bb,bt⟩:=bd.toks;obtain rfl:=bb.nils;exact⟨_,_,.ttry e r h ak ao al (.go F bf a4 (.stop (fun A=>by have e:(tk (k+2+2)).k=42:=a6;omega) an)) q⟩
  ·obtain⟨v,_,bo,I,bj⟩:=C.row (by omega) (x:=([],M)) (by simp[xE,ajF,F]);obtain rfl:=I.nils;exact⟨_,_,.ttry e r h ak ao al (.stop F an) q⟩
 ·rw[show(ja (tk i).k).1=[28,119] by rw[e];rfl]at a;obtain⟨_,_,o,b,p⟩:=a.toks;obtain⟨N,ks,h⟩:=(f o (by omega)).expr b g;exact⟨_,_,.tthrow e r h⟩
 ·rw[show(ja (tk i).k).1=[14,116] by rw[e];rfl]at a;obtain⟨_,_,o,b,p⟩:=a.toks;have L:∃d,d<m/\(D tk n d [1,117] (i+1) j\/D tk n d [40,119,41,117] (i+1) j):=by
   by_cases y:(tk (i+1)).k=1
   ·obtain⟨_,_,d,c,s⟩:=b.row (by omega) (x:=([1,117],M)) (by simp[xE,afz,y]);exact⟨d,by omega,.inl c⟩
   ·by_cases E:(tk (i+1)).k=40
    ·obtain⟨_,_,d,c,s⟩:=b.row (by omega) (x:=([40,119,41,117],M)) (by simp[xE,afz,E]);exact⟨d,by omega,.inr c⟩
    ·obtain⟨_,A,_⟩:=b.row (by omega) (x:=([],U)) (by simp[xE,afz,y,E]);cases A
  obtain⟨d,s,c⟩:=L;obtain⟨N,ks,k,w,S,p2,ag,ap,a7,a8,a9⟩:=KA (m:=d) (S:=117) (fun m' A=>f m' (by omega)) (by omega) g c;have B:(tk k).k≠48/\(tk k).k≠44/\(tk k).k≠40:=by have:=jg a7;omega
  have hS:S=117\/S=118:=by rcases a8 with rfl|rfl|rfl|rfl|rfl|rfl|rfl|rfl<;>first|omega|(revert a9;decide)
  rcases hS with rfl|rfl
  ·obtain⟨_,A,_⟩:=ag.row (by omega) (x:=([],U)) (by simp[xE,am7,B]);cases A
  ·obtain⟨v,_,G,t,ar⟩:=ag.row (by omega) (x:=([],M)) (by simp[xE,am8,B]);obtain rfl:=t.nils;exact⟨_,_,.tdefer e r p2⟩
 ·rw[show(ja (tk i).k).1=[132] by rw[e];rfl]at a;obtain⟨_,_,o,b,p⟩:=a.row (by omega) (x:=([42,100,43],decide ((tk i).k=42))) (by simp[xE,afD]);obtain⟨N,ks,h⟩:=KB f a g;exact⟨N,ks,.tblock e r h⟩
 ·rw[show(ja (tk i).k).1=[1,110] by rw[e];rfl]at a;exact acL f (.inl rfl) (.inl e) r (.inl a) g K
 ·rw[show(ja (tk i).k).1=[40,119,41,112] by rw[e];rfl]at a;exact acL f (.inr rfl) (.inr e) r (.inr a) g K
theorem ag4(g:∀m',m'<m->Ex tk n m')(r:D tk n m [100] i j)(l:j<n)(h:(tk j).k=43\/(tk j).k=6):∃c,P tk n .stats i c j:=by
 by_cases e:(tk i).k=5
 ·obtain⟨a,_,z,b,y⟩:=r.row (by omega) (x:=([5,100],M)) (by simp[xE,adF,e]);obtain⟨_,_,A,d,F⟩:=b.toks;obtain⟨c,q⟩:=(g A (by omega)).stats d l h;exact⟨c,.ssep e a q⟩
 cases hb:(ja (tk i).k).2 with
 |false=>
  obtain⟨a,_,z,b,y⟩:=r.row (by omega) (x:=([],M)) (by simp[xE,adF,e,hb]);obtain rfl:=b.nils;exact⟨_,.sstop h l⟩
 |true=>
  obtain⟨a,_,z,b,y⟩:=r.row (by omega) (x:=((ja (tk i).k).1++[101],M)) (by simp[xE,adF,e,hb]);obtain⟨A,L,k,d,w,F⟩:=b.split _ _ rfl;by_cases f:(tk k).k=5
  ·obtain⟨o,_,I,p,G⟩:=w.row (by omega) (x:=([5,100],M)) (by simp[xE,ajz,f]);obtain⟨_,_,J,E,K⟩:=p.toks;obtain⟨c,q⟩:=(g J (by omega)).stats E l h;obtain⟨⟨B,H,s⟩,t,u,v⟩:=ac0 (fun m' C=>g m' (by omega)) a hb d o (.inl f);exact⟨_,.sgo t u v a s (.ssep f o q)⟩
  ·obtain⟨o,_,I,p,G⟩:=w.row (by omega) (x:=([],M)) (by simp[xE,ajz,f]);obtain rfl:=p.nils;obtain⟨⟨B,H,s⟩,t,u,v⟩:=ac0 (fun m' C=>g m' (by omega)) a hb d o (by omega);exact⟨_,.sgo t u v a s (.sstop h l)⟩
theorem akH(b:∀i,(tk i).k<100)(m:Nat):Ex tk n m:=by
 induction m using Nat.strongRecOn with
 |_ m a=>exact⟨akF b a,akC b a,ag2 a,ag1 a,KB a,ag4 a,fun c=>akE a c,aa7 a,ag3 a,anF a⟩
end
structure Lk (W:B0) (lb mb:Nat) (vs:A5):Prop where
 b:W.heap[lb]?=Q (.cells #[.map (Q mb),vs] 178 (0,0))
 m:W.ownsMap O 9 (plainElem (H:=Unit) O 3) mb 22 (yA 22)
 e:oE W
theorem ub{mb n:Nat}{D:DataW Unit}(h:W.ownsMap O 9 (plainElem (H:=Unit) O 3) mb n D)(c:W'.heap[mb]?=W.heap[mb]?):W'.ownsMap O 9 (plainElem (H:=Unit) O 3) mb n D:=by
 obtain⟨b,a,d,e⟩:=h;exact⟨b,a,c.trans d,e⟩
theorem oE.keep(h:oE W)(a:Cr W.heap.size W W'):oE W':=by
 obtain⟨⟨b,c,f⟩,⟨d,e,g⟩⟩:=h;exact⟨⟨b,c,aj a f⟩,⟨d,e,aj a g⟩⟩
theorem Lk.below{lb mb:Nat}{c:A5}(h:Lk W lb mb c)(a:Cr W.heap.size W W'):Lk W' lb mb c:=
 ⟨(a.block _ (ai h.b)).trans h.b,ub h.m (a.block _ h.m.lt),h.e.keep a⟩
theorem vf(w:B0)(lb mb:Nat)(k:A5)(s:ByteArray)(j:s.size<=1100000)(h:Lk w lb mb k):
  B4 O 212 #[Z (Q ⟨lb,0,A0⟩),B6 s] w fun e g=>e= Ax (B1 (mG s))/\g=w:=by
 have n:w.cell? ⟨lb,0,A0⟩=Q (.map (Q mb)):=by rw[au _ _ _ _ _ _ h.b];rfl
 have c:=aal s j mb w h.m;by_cases f:s.size<=40
 ·have e:decide (ba (aq s 0)=M/\mi s (s.size+1) 0=s.size/\tz s=U)=mG s:=by
   unfold mG;by_cases a:ba (aq s 0)=M/\mi s (s.size+1) 0=s.size/\tz s=U
   ·rw[bv a,bv ⟨f,a⟩]
   ·rw[aD a,aD (fun d=>a d.2)]
  rw[e]at c;generalize mG s=l at c⊢;clear e h;have i:(s.size:Int)<=40:=by omega
  go_in;go_wp2_with (go_at_call 231;refine c.mono ?_;rintro e g ⟨rfl,rfl⟩);go_ret;exact⟨rfl,rfl⟩
 ·have e:mG s=U:=by unfold mG;rw[aD (fun d=>f d.1)]
  rw[e];have i:¬(s.size:Int)<=40:=by omega
  clear c;go_in;go_wp2;go_ret;exact⟨rfl,rfl⟩
theorem zl(w:B0)(lb mb:Nat)(q:A5)(vn:A5)(l:List ByteArray)(h:Lk w lb mb q)(n:dA w vn l)(x:l.length<=1048576)(p:∀s∈l,s.size<=1048576):
  B4 O 188 #[Z (Q ⟨lb,0,A0⟩),vn] w fun e z=>e= Ax (B1 (ve l l.length 0))/\z=w:=by
 have f:=iF n p h;obtain⟨B,C,rfl⟩:=n.form;obtain⟨k,g⟩:=aA (ve l l.length 0);rw[g];obtain⟨b,m⟩:=aA l.length;have t:=aw m;rw[m]at f x g⊢;have u:F5 l b 0 k:=⟨g⟩;clear m n p h g;go_in;go_wp2_with fail;go_loop [9] (fun o=>∃(a:Nat),o= X Y a/\a<=b/\F5 l (b-a) a k) (fun o=>b-(A9 o).toNat)
 case atStart=>exact⟨0,rfl,by omega,u⟩
 case round=>
  obtain⟨a,rfl,F,r⟩:=hrel;have c:=r.out;by_cases y:a<b
  ·obtain⟨s,i⟩:=co t.out y;have H:=f.2.1 s (cG i);obtain⟨I,rfl,E⟩:=f.1.get i;rw[show b-a=(b-(a+1))+1 by omega,ve,aK,i,gj]at c;have v:(a:Int)<(b:Int):=by omega
   have G:(0:Int)<=(a:Int):=by omega
   have j:=vf w lb mb q s (by omega) f.2.2;clear i;cases hx:mG s with
   |true=>
    rw[hx,fI]at c;rw[hx]at j;have d:F5 l (b-(a+1)) (a+1) k:=⟨c⟩;clear c hx;go_wp2_with (go_at_call 212;refine j.mono ?_;rintro e A ⟨rfl,rfl⟩);go_round
    case rel=>exact⟨a+1,by go_num,by omega,d⟩
    case measure=>simp[A9];omega
   |false=>
    rw[hx,eI]at c;rw[hx]at j;have d:=aw c;clear c hx;go_wp2_with (go_at_call 212;refine j.mono ?_;rintro e A ⟨rfl,rfl⟩);go_ret;exact⟨by rw[<-d.out];rfl,rfl⟩
  ·rw[show b-a=0 by omega,ve]at c;have d:=aw c;have v:¬(a:Int)<(b:Int):=by omega
   clear c;go_wp2_with fail;go_ret;exact⟨by rw[<-d.out];rfl,rfl⟩
def txB(k:Int)(x:ByteArray):Bool:=if k=24 then fok x else if k=25 then decide ((x.size:Int)<=4000) else mG x
theorem Ij(w:B0)(lb mb:Nat)(j:A5)(k:Int)(s:ByteArray)(i:s.size<=1100000)(h:Lk w lb mb j):
  B4 O 189 #[Z (Q ⟨lb,0,A0⟩),X Y k,B6 s] w fun e d=>e= Ax (B1 (txB k s))/\Cr w.heap.size w d:=by
 have b:=vf w lb mb j s i h;have a:=JB s i w h.e;unfold txB;by_cases c:k=24
 ·subst c;rw[ab rfl];unfold fok;by_cases g:s.size<=40
  ·have n:(s.size:Int)<=40:=by omega
   rw[bv g,fI];generalize qC s=l at a⊢;clear b h;go_in;go_wp2_with (go_at_call 213;refine a.mono ?_;rintro e d ⟨rfl,m⟩);go_ret;exact⟨rfl,m⟩
  ·have n:¬(s.size:Int)<=40:=by omega
   rw[aD g,eI];clear b a h;go_in;go_wp2;go_ret;exact⟨rfl,ah _ _⟩
 by_cases f:k=25
 ·subst f;rw[aa (by decide),ab rfl];clear b a h c;go_in;go_wp2;go_ret;exact⟨rfl,ah _ _⟩
 rw[aa c,aa f];generalize mG s=l at b⊢;clear a h;go_in;go_wp2_with (go_at_call 212;refine b.mono ?_;rintro e d ⟨rfl,rfl⟩);go_ret;exact⟨rfl,ah _ _⟩
def DD(k:Int):Int:=if k=2\/k=10 then 200 else if k=14 then 2 else 1
theorem BE(k:Int)(w:B0):B4 O 187 #[X Y k] w fun e b=>e= Ax (.tuple #[X Y 1,X Y (DD k)])/\b=w:=by
 unfold DD;rcases(show k=2\/k=10\/k=14\/(¬k=2/\¬k=10/\¬k=14) by omega) with rfl|rfl|rfl|⟨c,d,a⟩
 ·rw[ab (by decide)];go_in;go_wp2;go_ret2;exact⟨rfl,rfl⟩
 ·rw[ab (by decide)];go_in;go_wp2;go_ret2;exact⟨rfl,rfl⟩
 ·rw[aa (by decide),ab rfl];go_in;go_wp2;go_ret2;exact⟨rfl,rfl⟩
 ·rw[aa (by omega),aa a];go_in;go_wp2;go_ret2;exact⟨rfl,rfl⟩
theorem ff0(w:B0)(lb mb:Nat)(o:A5)(h:Lk w lb mb o)(b:Nat)(nk v y x z:Int)(vk:A5)(vn:A5)(l:List ByteArray)(g:dA w vn l)(k:l.length<=1048576)(m:∀s∈l,s.size<=1048576)
  (f:w.heap[b]?=Q (B7 #[X Y nk,X Y v,X Y y,X Y x,X Y z,vk,vn] 161 (0,0))):
  B4 O 148 #[Z (Q ⟨lb,0,A0⟩),Ce 159 (Z (Q ⟨b,0,A0⟩))] w fun e p=>e= Ax (B1 (decide (1<=(l.length:Int)/\(l.length:Int)<=DD nk)&&ve l l.length 0))/\p=w:=by
 have C:=fun w=>asT b w;have E:=fun w=>asF b w;have c:=fun w=>BE nk w;have a:=zl w lb mb o vn l h g k m;obtain⟨r,u,rfl⟩:=g.form;have B:w.cell? ⟨b,0,A0⟩=Q (X Y nk):=by rw[au _ _ _ _ _ _ f];rfl
 have t:w.cell? ⟨b,6,A0⟩=Q (Br r l.length u):=by rw[au _ _ _ _ _ _ f];rfl
 generalize ve l l.length 0=A at a⊢;generalize l.length=n at k a t⊢;generalize DD nk=q at c⊢;clear f g m h;by_cases i:1<=(n:Int)
 ·by_cases j:(n:Int)<=q
  ·rw[bv ⟨i,j⟩,fI];go_in;go_wp2_with (first|(go_at_call 187;refine eH (c _) ?_)|(go_at_call 188;refine a.mono ?_;rintro e p ⟨rfl,rfl⟩));go_ret;exact⟨rfl,rfl⟩
  ·rw[aD (fun d=>j d.2),eI];clear a;go_in;go_wp2_with (go_at_call 187;refine eH (c _) ?_);go_ret;exact⟨rfl,rfl⟩
 ·rw[aD (fun d=>i d.1),eI];clear a;go_in;go_wp2_with (go_at_call 187;refine eH (c _) ?_);go_ret;exact⟨rfl,rfl⟩
theorem ff1(w:B0)(lb:Nat)(b:Nat)(nk k m l n a:Int)(i:Option Addr)(c ck:Nat)(r:c<=1048576)
  (h:w.heap[b]?=Q (B7 #[X Y nk,X Y k,X Y m,X Y l,X Y n,Br i c ck,X Y a] 164 (0,0))):
  B4 O 148 #[Z (Q ⟨lb,0,A0⟩),Ce 162 (Z (Q ⟨b,0,A0⟩))] w fun e o=>e= Ax (B1 (decide (1<=a/\a<(c:Int))))/\Cr w.heap.size w o:=by
 have s:=fun w=>asT b w;have u:=fun w=>asF b w;have p:w.cell? ⟨b,5,A0⟩=Q (Br i c ck):=by rw[au _ _ _ _ _ _ h];rfl
 have q:w.cell? ⟨b,6,A0⟩=Q (X Y a):=by rw[au _ _ _ _ _ _ h];rfl
 clear h;by_cases f:1<=a
 ·by_cases g:a<(c:Int)
  ·rw[bv ⟨f,g⟩];go_in;go_wp2_with fail;go_quiet (fail)
   go_wp2_with fail;go_ret;exact⟨rfl,mE (ah _ _) _⟩
  ·rw[aD (fun d=>g d.2)];have j:=aw g;go_in;go_wp2_with fail;go_quiet (fail)
   go_wp2_with fail;go_ret;exact⟨by show Ending.returned (B1 (decide (a<(c:Int))))=_;rw[aD (by have:=j.out;omega)],mE (ah _ _) _⟩
 ·rw[aD (fun d=>f d.1)];have t:decide ((1:Int)<=a)=U:=aD f;go_in;go_wp2_with fail;go_quiet (fail)
  go_wp2_with fail;go_ret;exact⟨rfl,mE (ah _ _) _⟩
theorem ff2(w:B0)(lb:Nat)(b:Nat):
  B4 O 148 #[Z (Q ⟨lb,0,A0⟩),Ce 165 (Z (Q ⟨b,0,A0⟩))] w fun e a=>e= Ax (B1 M)/\a=w:=by
 have c:=fun w=>asT b w;have d:=fun w=>asF b w;go_in;go_wp2;go_ret;exact⟨rfl,rfl⟩
theorem ff6(w:B0)(lb:Nat)(b:Nat):
  B4 O 148 #[Z (Q ⟨lb,0,A0⟩),Ce 118 (Z (Q ⟨b,0,A0⟩))] w fun e a=>e= Ax (B1 M)/\a=w:=by
 have c:=fun w=>asT b w;have d:=fun w=>asF b w;go_in;go_wp2;go_ret;exact⟨rfl,rfl⟩
theorem ff3(w:B0)(lb mb:Nat)(g:A5)(h:Lk w lb mb g)(b:Nat)(nk l n m o:Int)(vk:A5)(x:ByteArray)(k:x.size<=1100000)
  (c:w.heap[b]?=Q (B7 #[X Y nk,X Y l,X Y n,X Y m,X Y o,vk,B6 x] 170 (0,0))):
  B4 O 148 #[Z (Q ⟨lb,0,A0⟩),Ce 168 (Z (Q ⟨b,0,A0⟩))] w fun e a=>e= Ax (B1 (txB nk x))/\Cr w.heap.size w a:=by
 have q:=fun w=>asT b w;have r:=fun w=>asF b w;have f:=Ij w.drew lb mb g nk x k (h.below (dJ (ah _ w)));have i:w.cell? ⟨b,0,A0⟩=Q (X Y nk):=by rw[au _ _ _ _ _ _ c];rfl
 have j:w.cell? ⟨b,6,A0⟩=Q (B6 x):=by rw[au _ _ _ _ _ _ c];rfl
 generalize txB nk x=p at f⊢;clear c h;go_in;go_wp2_with fail;go_region_held3 (fun a=>a.cell? ⟨b,0,A0⟩=Q (X Y nk)/\a.cell? ⟨b,6,A0⟩=Q (B6 x)) (first|go_keep|exact⟨aj d i,aj d j⟩) ((go_at_call 189;refine f.mono ?_;rintro e s ⟨rfl,d⟩))
 go_wp2_with fail;go_ret;exact⟨rfl,(dJ (ah _ w)).trans d⟩
theorem ff4(w:B0)(lb:Nat)(b:Nat)(nk g i h j a:Int)(vk:A5)
  (d:w.heap[b]?=Q (B7 #[X Y nk,X Y g,X Y i,X Y h,X Y j,vk,X Y a] 173 (0,0))):
  B4 O 148 #[Z (Q ⟨lb,0,A0⟩),Ce 171 (Z (Q ⟨b,0,A0⟩))] w fun e k=>e= Ax (B1 (if nk=30 then(decide ((19:Int)<=a)&&decide (a<=22)) else(decide ((1:Int)<=a)&&decide (a<=18))))/\k=w:=by
 have n:=fun w=>asT b w;have o:=fun w=>asF b w;have l:w.cell? ⟨b,0,A0⟩=Q (X Y nk):=by rw[au _ _ _ _ _ _ d];rfl
 have m:w.cell? ⟨b,6,A0⟩=Q (X Y a):=by rw[au _ _ _ _ _ _ d];rfl
 clear d;by_cases f:nk=30
 ·rw[ab f];by_cases c:(19:Int)<=a
  ·rw[bv c,fI];go_in;go_wp2;go_ret;exact⟨rfl,rfl⟩
  ·rw[aD c,eI];go_in;go_wp2;go_ret;exact⟨rfl,rfl⟩
 ·rw[aa f];by_cases c:(1:Int)<=a
  ·rw[bv c,fI];go_in;go_wp2;go_ret;exact⟨rfl,rfl⟩
  ·rw[aD c,eI];go_in;go_wp2;go_ret;exact⟨rfl,rfl⟩
theorem ff5(w:B0)(lb mb:Nat)(i:A5)(h:Lk w lb mb i)(b:Nat)(nk p r q t:Int)(vk:A5)(vn:A5)(m:Bool)(l:List ByteArray)(a:dA w vn l)(f:l.length<=1048576)(g:∀s∈l,s.size<=1048576)
  (d:w.heap[b]?=Q (B7 #[X Y nk,X Y p,X Y r,X Y q,X Y t,vk,vn,B1 m] 176 (0,0))):
  B4 O 148 #[Z (Q ⟨lb,0,A0⟩),Ce 174 (Z (Q ⟨b,0,A0⟩))] w fun e j=>e= Ax (B1 (ve l l.length 0))/\j=w:=by
 have v:=fun w=>asT b w;have x:=fun w=>asF b w;have c:=zl w lb mb i vn l h a f g;obtain⟨k,o,rfl⟩:=a.form;have n:w.cell? ⟨b,6,A0⟩=Q (Br k l.length o):=by rw[au _ _ _ _ _ _ d];rfl
 generalize ve l l.length 0=u at c⊢;generalize l.length=y at f c n⊢;clear d a g h;go_in;go_wp2_with (go_at_call 188;refine c.mono ?_;rintro e j ⟨rfl,rfl⟩);go_ret;exact⟨rfl,rfl⟩
theorem oH{b:List (Nat×Nat)}{a:Bool}(h:DB ((i,f)::b) ks a)(c:¬(Jb i f ks=0/\f=0)):DB b (ks.drop (Jb i f ks)) a:=by
 have:=h.out;rw[fH,aa c]at this;exact⟨this⟩
theorem Bo{c:List (Nat×Nat)}{a:Bool}(h:DB ((i,f)::c) ks a)(b:Jb i f ks=0/\f=0):a=U:=by
 have:=h.out;rw[fH,ab b]at this;exact this.symm
theorem aew{α:Type}{a:List α}{k:Nat}{x:α}(h:a[k]?=Q x):a.drop k=x::a.drop (k+1):=by
 have b:=(List.getElem?_eq_some_iff.1 h);rw[iH b.1,b.2]
theorem iq.sl{a:Option Addr}{b c t:Nat}(h:iq W (Br a b c) ks)(i:ks.length=b)(o:t<=b):iq W (Br (if c=t then a else Option.map (fun x=>x.add t) a) (b-t) (c-t)) (ks.drop t):=by
 subst i;rcases h with⟨rfl,d,g,e⟩|⟨d,g,e,m,j⟩
 ·exact .inl ⟨by simp,_,_,by rw[show([]:List Int).length-t=0 by simp]⟩
 ·cases e;by_cases n:t=ks.length
  ·exact .inl ⟨by rw[ju (by omega)],_,_,by rw[show ks.length-t=0 by omega]⟩
  ·refine .inr ⟨d.add t,c-t,?_,by rw[im];omega,fun k l f=>?_⟩
   ·rw[aa (by omega),im];rfl
   ·rw[tg]at f;rw[Addr.add_add];exact j (t+k) l f
theorem xg(w:B0)(row:ByteArray)(m:List (Nat×Nat))(v:A5)(ks:List Int)(cb:Lib.fields row.data.toList=m.map fun x=>Bn x.1 x.2)(cg:∀x∈m,x.1<10/\x.2<3)(cc:row.size<4294967281)(b5:∀(j:Nat) b,row.data.toList[j]?=Q b->b.toNat<128)(ce:Lib.TabIs O w "strings.asciiSpace" .u8 Lib.asciiSpaceTab)(bw:iq w v ks)(b7:ks.length<=1048576)(cf:m.length<=1048576):
  B4 O 191 #[B6 row,v] w fun e ck=>e= Ax (B1 (fH m ks))/\Cr w.heap.size w ck:=by
 have a6:=Tryz.strings_Fields row w cc b5 ce;rw[cb]at a6;obtain⟨H,br⟩:=aA (fH m ks);rw[br];have b3:DB m ks H:=⟨br⟩;have an:Cr w.heap.size w (w.alloc (B7 ((m.map fun x=>Bn x.1 x.2).map fun a2=>Ck ⟨a2.toArray⟩).toArray 9)):=(ah _ w).alloc (ae _) _;have bo:=bw.below an;have bn:∀g k p,m[g]?=Q (k,p)->(w.alloc (B7 ((m.map fun x=>Bn x.1 x.2).map fun a2=>Ck ⟨a2.toArray⟩).toArray 9)).cell? ⟨w.heap.size,g,A0⟩=Q (B6 (wS k p)):=fun g k p bx=>by
  rw[au _ _ _ _ _ _ (ay w _)];simp[bx,wS]
 obtain⟨a3,be⟩:=aA m.length;have bk:=aw be;have b4:=aw cg;have b8:(m.map fun x=>Bn x.1 x.2).length=a3:=by rw[cA,be]
 rw[b8]at a6;rw[be]at cf;obtain⟨cq,cr,rfl⟩:=bw.form;have b2:=aw b7;generalize w.alloc (B7 ((m.map fun x=>Bn x.1 x.2).map fun a2=>Ck ⟨a2.toArray⟩).toArray 9)=cp at a6 an bo bn;have b1:=aw bn;have bj:=aw bo;generalize ct:ks.length=lk at bj⊢;go_in;go_wp21
 refine a6.mono ?_;rintro e b0 ⟨rfl,rfl⟩;go_wp21
 go_loop [1,14] (fun ch bh=>∃(g:Nat) (d:List Int),g<=a3/\bh= X Y g/\C2 (iq b0 ch d/\d.length<=1048576)/\DB (m.drop g) d H) (fun _ bh=>a3-(A9 bh).toNat)
 case atStart=>exact⟨0,ks,aF _,rfl,⟨bj,b2⟩,b3⟩
 case round=>
  obtain⟨g,d,bx,rfl,a7,a8⟩:=hrel;obtain⟨I,J,rfl⟩:=a7.1.form;by_cases b9:g<a3
  ·have cs:(0:Int)<=(g:Int):=by omega
   obtain⟨⟨k,p⟩,bf⟩:=co bk.out b9;obtain⟨a5,bd⟩:=b4.out _ (cG bf);simp only at a5 bd;have b6:=b1.out g k p bf;have ad:C2 (DB ((k,p)::m.drop (g+1)) d H):=by rw[aew bf]at a8;exact a8
   have av:=fun w=>arz k p a5 bd w;have kB:=fun w=>arA k p a5 bd w;have L:=fun c w=>Ig k a5 c w;obtain⟨f,ao⟩:=aA d.length;have A:=aw ao;have bb:=a7.2;rw[ao]at bb;have z:C2 (iq b0 (Br I f J) d):=by rw[<-ao];exact a7.1
   rw[ao];have bE:=anw k p d;have bD:=anx k p d;obtain⟨C,bs⟩:=aA (Jb k p d);rw[bs]at bE bD;rw[ao]at bE;have B:=aw bs;have a9:=aw bD;generalize wS k p=cl at b6 av;generalize wS1 k p=cm at av kB;generalize wB k=cn at kB L;rcases(show p=0\/p=1\/p=2 by omega) with rfl|rfl|rfl
   ·go_wp21
    refine(av _).mono ?_;rintro e q ⟨rfl,rfl⟩;go_wp2_with fail;refine(kB _).mono ?_;rintro e q ⟨rfl,rfl⟩;go_wp2_with fail;go_loop [10] (fun G=>∃a:Nat,G= X Y a/\a<=C) (fun G=>C-(A9 G).toNat)
    case atStart=>exact⟨0,rfl,aF _⟩
    case round=>
     obtain⟨a,rfl,ar⟩:=hrel;have K:=a9.out a ar;have bA:(0:Int)<=(a:Int):=by omega
     by_cases ap:a<C
     ·obtain⟨a4,c,n,t⟩:=K.1 ap;obtain⟨o,b,rfl,i,ak⟩:=z.get n;have E:(a:Int)<(f:Int):=by omega
      obtain rfl:a=0:=by rcases a4 with h|h;exact absurd h (by decide);exact h
      rw[show o.add 0=o from by unfold Addr.add;rw[ab rfl]]at i;have l:=fun w=>L c w;rw[t]at l;have u:=fun w=>sD c b w;have y:=fun w=>fx b w;unfold fl at i;generalize pv (ez c)=al at i u;go_wp2_with (first|(go_at_call 221;refine(l _).mono ?_;rintro e q ⟨rfl,rfl⟩)|(go_at_call 285;refine(y _).mono ?_;rintro e q ⟨rfl,rfl⟩));go_round
      case rel=>exact⟨0+1,by go_num,by omega⟩
      case measure=>simp[A9];omega
     ·obtain rfl:a=C:=by omega
      by_cases am:a=0
      ·subst am;by_cases E:0<f
       ·have F:(0:Int)<(f:Int):=by omega
        obtain⟨c,n⟩:=co A.out E;have t:ms k c=U:=by
         cases h:ms k c
         ·rfl
         ·exact absurd (K.2 ⟨.inr rfl,c,n,h⟩) (by omega)
        obtain⟨o,b,af,i,ak⟩:=z.get n;subst af;rw[show o.add 0=o from by unfold Addr.add;rw[ab rfl]]at i;have l:=fun w=>L c w;rw[t]at l;have u:=fun w=>sD c b w;have y:=fun w=>fx b w;unfold fl at i;generalize pv (ez c)=al at i u;go_wp2_with (first|(go_at_call 221;refine(l _).mono ?_;rintro e ag ⟨rfl,rfl⟩)|(go_at_call 285;refine(y _).mono ?_;rintro e ag ⟨rfl,rfl⟩));go_ret;exact⟨by rw[Bo ad.out ⟨B.out,rfl⟩];rfl,an⟩
       ·have F:¬(0:Int)<(f:Int):=by omega
        go_wp2_with fail;go_ret;exact⟨by rw[Bo ad.out ⟨B.out,rfl⟩];rfl,an⟩
      ·have s:C2 (DB (m.drop (g+1)) (d.drop a) H):=by
        have h:=oH ad.out (by rw[B.out];omega);rw[B.out]at h;exact h
       have r:C2 (iq q (Br (if J=a then I else Option.map (fun x=>x.add a) I) (f-a) (J-a)) (d.drop a)/\(d.drop a).length<=1048576):=⟨z.sl A (by omega),by rw[im,A.out];omega⟩;by_cases E:a<f
       ·have F:(a:Int)<(f:Int):=by omega
        go_wp2_with fail;exact⟨⟨g+1,d.drop a,by omega,by go_num,r,s⟩,by simp[A9];omega⟩
       ·have F:¬(a:Int)<(f:Int):=by omega
        go_wp2_with fail;exact⟨⟨g+1,d.drop a,by omega,by go_num,r,s⟩,by simp[A9];omega⟩
   ·go_wp2_with fail;refine(av _).mono ?_;rintro e q ⟨rfl,rfl⟩;go_wp2_with fail;refine(kB _).mono ?_;rintro e q ⟨rfl,rfl⟩;go_wp2_with fail;go_loop [10] (fun G=>∃a:Nat,G= X Y a/\a<=C) (fun G=>C-(A9 G).toNat)
    case atStart=>exact⟨0,rfl,aF _⟩
    case round=>
     obtain⟨a,rfl,ar⟩:=hrel;have K:=a9.out a ar;have bA:(0:Int)<=(a:Int):=by omega
     by_cases ap:a<C
     ·obtain⟨a4,c,n,t⟩:=K.1 ap;obtain⟨o,b,rfl,i,ak⟩:=z.get n;have E:(a:Int)<(f:Int):=by omega
      have l:=fun w=>L c w;rw[t]at l;have u:=fun w=>sD c b w;have y:=fun w=>fx b w;unfold fl at i;generalize pv (ez c)=al at i u;go_wp2_with (first|(go_at_call 221;refine(l _).mono ?_;rintro e q ⟨rfl,rfl⟩)|(go_at_call 285;refine(y _).mono ?_;rintro e q ⟨rfl,rfl⟩));go_round
      case rel=>exact⟨a+1,by go_num,by omega⟩
      case measure=>simp[A9];omega
     ·obtain rfl:a=C:=by omega
      by_cases am:a=0
      ·subst am;have s:C2 (DB (m.drop (g+1)) d H):=by
        have h:=oH ad.out (by rw[B.out];omega);rw[B.out,jy]at h;exact h
       have r:C2 (iq q (Br I f J) d/\d.length<=1048576):=⟨z.out,by rw[A.out];exact bb⟩;by_cases E:0<f
       ·have F:(0:Int)<(f:Int):=by omega
        obtain⟨c,n⟩:=co A.out E;have t:ms k c=U:=by
         cases h:ms k c
         ·rfl
         ·exact absurd (K.2 ⟨.inl (by first|rfl|trivial),c,n,h⟩) (by omega)
        obtain⟨o,b,af,i,ak⟩:=z.get n;subst af;rw[show o.add 0=o from by unfold Addr.add;rw[ab rfl]]at i;have l:=fun w=>L c w;rw[t]at l;have u:=fun w=>sD c b w;have y:=fun w=>fx b w;unfold fl at i;generalize pv (ez c)=al at i u;go_wp2_with (first|(go_at_call 221;refine(l _).mono ?_;rintro e ag ⟨rfl,rfl⟩)|(go_at_call 285;refine(y _).mono ?_;rintro e ag ⟨rfl,rfl⟩));exact⟨⟨g+1,d,by omega,by go_num,r,s⟩,by simp[A9];omega⟩
       ·have F:¬(0:Int)<(f:Int):=by omega
        go_wp2_with fail;exact⟨⟨g+1,d,by omega,by go_num,r,s⟩,by simp[A9];omega⟩
      ·have s:C2 (DB (m.drop (g+1)) (d.drop a) H):=by
        have h:=oH ad.out (by rw[B.out];omega);rw[B.out]at h;exact h
       have r:C2 (iq q (Br (if J=a then I else Option.map (fun x=>x.add a) I) (f-a) (J-a)) (d.drop a)/\(d.drop a).length<=1048576):=⟨z.sl A (by omega),by rw[im,A.out];omega⟩;by_cases E:a<f
       ·have F:(a:Int)<(f:Int):=by omega
        obtain⟨c,n⟩:=co A.out E;have t:ms k c=U:=by
         cases h:ms k c
         ·rfl
         ·exact absurd (K.2 ⟨.inl (by first|rfl|trivial),c,n,h⟩) (by omega)
        obtain⟨o,b,af,i,ak⟩:=z.get n;subst af;have l:=fun w=>L c w;rw[t]at l;have u:=fun w=>sD c b w;have y:=fun w=>fx b w;unfold fl at i;generalize pv (ez c)=al at i u;go_wp2_with (first|(go_at_call 221;refine(l _).mono ?_;rintro e ag ⟨rfl,rfl⟩)|(go_at_call 285;refine(y _).mono ?_;rintro e ag ⟨rfl,rfl⟩));exact⟨⟨g+1,d.drop a,by omega,by go_num,r,s⟩,by simp[A9];omega⟩
       ·have F:¬(a:Int)<(f:Int):=by omega
        go_wp2_with fail;exact⟨⟨g+1,d.drop a,by omega,by go_num,r,s⟩,by simp[A9];omega⟩
   ·go_wp2_with fail;refine(av _).mono ?_;rintro e q ⟨rfl,rfl⟩;go_wp2_with fail;refine(kB _).mono ?_;rintro e q ⟨rfl,rfl⟩;go_wp2_with fail;go_loop [10] (fun G=>∃a:Nat,G= X Y a/\a<=C) (fun G=>C-(A9 G).toNat)
    case atStart=>exact⟨0,rfl,aF _⟩
    case round=>
     obtain⟨a,rfl,ar⟩:=hrel;have K:=a9.out a ar;have bA:(0:Int)<=(a:Int):=by omega
     by_cases ap:a<C
     ·obtain⟨a4,c,n,t⟩:=K.1 ap;obtain⟨o,b,rfl,i,ak⟩:=z.get n;have E:(a:Int)<(f:Int):=by omega
      obtain rfl:a=0:=by rcases a4 with h|h;exact absurd h (by decide);exact h
      rw[show o.add 0=o from by unfold Addr.add;rw[ab rfl]]at i;have l:=fun w=>L c w;rw[t]at l;have u:=fun w=>sD c b w;have y:=fun w=>fx b w;unfold fl at i;generalize pv (ez c)=al at i u;go_wp2_with (first|(go_at_call 221;refine(l _).mono ?_;rintro e q ⟨rfl,rfl⟩)|(go_at_call 285;refine(y _).mono ?_;rintro e q ⟨rfl,rfl⟩));go_round
      case rel=>exact⟨0+1,by go_num,by omega⟩
      case measure=>simp[A9];omega
     ·obtain rfl:a=C:=by omega
      by_cases am:a=0
      ·subst am;have s:C2 (DB (m.drop (g+1)) d H):=by
        have h:=oH ad.out (by rw[B.out];omega);rw[B.out,jy]at h;exact h
       have r:C2 (iq q (Br I f J) d/\d.length<=1048576):=⟨z.out,by rw[A.out];exact bb⟩;by_cases E:0<f
       ·have F:(0:Int)<(f:Int):=by omega
        obtain⟨c,n⟩:=co A.out E;have t:ms k c=U:=by
         cases h:ms k c
         ·rfl
         ·exact absurd (K.2 ⟨.inr rfl,c,n,h⟩) (by omega)
        obtain⟨o,b,af,i,ak⟩:=z.get n;subst af;rw[show o.add 0=o from by unfold Addr.add;rw[ab rfl]]at i;have l:=fun w=>L c w;rw[t]at l;have u:=fun w=>sD c b w;have y:=fun w=>fx b w;unfold fl at i;generalize pv (ez c)=al at i u;go_wp2_with (first|(go_at_call 221;refine(l _).mono ?_;rintro e ag ⟨rfl,rfl⟩)|(go_at_call 285;refine(y _).mono ?_;rintro e ag ⟨rfl,rfl⟩));exact⟨⟨g+1,d,by omega,by go_num,r,s⟩,by simp[A9];omega⟩
       ·have F:¬(0:Int)<(f:Int):=by omega
        go_wp2_with fail;exact⟨⟨g+1,d,by omega,by go_num,r,s⟩,by simp[A9];omega⟩
      ·have s:C2 (DB (m.drop (g+1)) (d.drop a) H):=by
        have h:=oH ad.out (by rw[B.out];omega);rw[B.out]at h;exact h
       have r:C2 (iq q (Br (if J=a then I else Option.map (fun x=>x.add a) I) (f-a) (J-a)) (d.drop a)/\(d.drop a).length<=1048576):=⟨z.sl A (by omega),by rw[im,A.out];omega⟩;by_cases E:a<f
       ·have F:(a:Int)<(f:Int):=by omega
        go_wp2_with fail;exact⟨⟨g+1,d.drop a,by omega,by go_num,r,s⟩,by simp[A9];omega⟩
       ·have F:¬(a:Int)<(f:Int):=by omega
        go_wp2_with fail;exact⟨⟨g+1,d.drop a,by omega,by go_num,r,s⟩,by simp[A9];omega⟩
  ·obtain rfl:g=a3:=by omega
   have bt:=a8.out;rw[ju (by rw[bk.out];exact ae _),fH]at bt;have ca:((d.length:Int)==0)=H:=by
    rw[<-bt];cases d with
    |nil=>rfl
    |cons x cu=>simp;omega
   have bl:=aw ca;generalize d.length=f at bl⊢;go_wp2_with fail;go_ret;exact⟨by rw[<-bl.out];rfl,an⟩
def uw(c:Int):Nat:=if(32<=c/\c<=126)\/c=9\/c=10 then 2 else 4
def uS(s:ByteArray)(a:Nat):Nat->Nat
 |0=>0
 |n+1=>uS s a n+uw (aq s (a+n))
theorem ap8(c:Int):2<=uw c:=by unfold uw;split<;>omega
theorem amj(s:ByteArray)(a:Nat):∀n,2*n<=uS s a n
 |0=>ae _
 |n+1=>by have:=amj s a n;have:=ap8 (aq s (a+n));rw[uS];omega
theorem aa8(s:ByteArray)(a m:Nat):∀n,uS s a (m+n)=uS s a m+uS s (a+m) n
 |0=>rfl
 |n+1=>by rw[<-eG,uS,aa8 s a m n,uS,eG a m n];omega
def uR(s:ByteArray)(a b:Nat):Nat:=uS s a (b-a)
theorem ag5(s:ByteArray)(a b:Nat):2*(b-a)<=uR s a b:=amj s a _
theorem ag6(s:ByteArray){c:Nat}(d:a<=b)(e:b<=c):uR s a c=uR s a b+uR s b c:=by
 unfold uR;rw[show c-a=(b-a)+(c-b) by omega,aa8,show a+(b-a)=b by omega]
theorem anH(s:ByteArray)(a:Nat):uR s a (a+1)=uw (aq s a):=by unfold uR;rw[show a+1-a=0+1 by omega,uS,uS];simp
theorem arB(c:Int):(esc c).length<=4:=by
 unfold esc
 repeat' split
 all_goals simp
def uT(x:ByteArray):Nat:=uR x 0 x.size
theorem ac1{s t:ByteArray}:∀n,(∀i,i<n->aq s (a+i)=aq t (b+i))->uS s a n=uS t b n
 |0,_=>rfl
 |n+1,h=>by rw[uS,uS,ac1 n (fun i c=>h i (by omega)),h n (by omega)]
theorem vh(a b:ByteArray):uT (a++b)=uT a+uT b:=by
 unfold uT;rw[ag6 (a++b) (aF a.size) (by rw[ax];omega)];unfold uR;rw[ax]
 congr 1
 ·exact ac1 _ (fun d c=>by rw[ib,ab (by omega)])
 ·rw[show a.size+b.size-a.size=b.size-0 by omega];exact ac1 _ (fun d c=>by rw[ib,aa (by omega)];congr 1;omega)
theorem anI(s:ByteArray){q:Nat}(c:f<=q)(a:q<=s.size):uT (s.extract f q)=uR s f q:=by
 unfold uT uR;rw[jp s f q a,pi];exact ac1 _ (fun b d=>by rw[gq,fi s f q b a])
theorem amk(s:ByteArray):uT s<=4*s.size:=by
 unfold uT uR;rw[pi];have:∀a,uS s 0 a<=4*a:=by
  intro a
  induction a with
  |zero=>exact ae _
  |succ a b=>rw[uS];have:uw (aq s (0+a))<=4:=by {unfold uw;split<;>omega};omega
 exact this _
theorem aml(s:ByteArray):2*s.size<=uT s:=by have:=ag5 s 0 s.size;unfold uT;omega
theorem Ik(V:Array A5)(base:Int)(r:ByteArray):∀(f i:Nat)(a:Int×Nat),(xz V base r f i a).1=a.1\/(base+i<=(xz V base r f i a).1/\(xz V base r f i a).1<base+i+f)
 |0,i,a=> .inl rfl
 |f+1,i,a=>by
  rw[xz];rcases Ik V base r f (i+1) (if a.2<(bp V i).size/\A2 r.data.toList (bp V i).data.toList=M then(base+(i:Int),(bp V i).size) else a) with h|h
  ·split at h
   ·rename_i g;rw[ab g]at *;right;omega
   ·rename_i g;rw[aa g]at *;left;exact h
  ·right;omega
theorem KC(r:ByteArray)(l:0<r.size)(g:na r≠0):(na r=5\/na r=7\/(40<=na r/\na r<=78))/\∀i,i<(dB (na r)).size->aq r i=aq (dB (na r)) i:=by
 by_cases b:aq r 0=59
 ·have a:na r=5:=by unfold na;rw[ab b]
  rw[a];exact⟨.inl rfl,fun i e=>by
   have:i<1:=e;obtain rfl:i=0:=by omega
   rw[b];decide⟩
 by_cases d:aq r 0=10
 ·have a:na r=7:=by unfold na;rw[aa b,ab d]
  rw[a];exact⟨.inr (.inl rfl),fun i e=>by
   have:i<1:=e;obtain rfl:i=0:=by omega
   rw[d];decide⟩
 have a:na r=(xz lp 61 r 18 0 (xz iG 40 r 11 0 (0,0))).1:=by unfold na;rw[aa b,aa d]
 have h:=Ik iG 40 r 11 0 (0,0);have j:=Ik lp 61 r 18 0 (xz iG 40 r 11 0 (0,0));have k:=yL iG 40 r 11 (by omega) aco 11 0 (0,0) (by omega) (.inl ⟨rfl,rfl⟩);have f:=yL lp 61 r 18 (by omega) acp 18 0 _ (by omega) k;rw[<-a]at j f;refine⟨.inr (.inr ?_),?_⟩
 ·simp only at h;omega
 ·rcases f with⟨c,_⟩|⟨_,_,c,_⟩
  ·exact absurd c g
  ·exact(Ih r _).1 c
