import Derived.Test.YtnlhhmlcjbohbaaGreatDoorHNk23
import Derived.Test.YtnlhhmlcjbohbaaGreatDoorHNk28
import Derived.Test.YtnlhhmlcjbohbaaGreatDoorHNk24
set_option linter.all false
set_option maxRecDepth 100000
set_option maxHeartbeats 25600000
open Go.Value renaming slice->O,int->Ax,int->A0
open Option renaming none->Q,some->T
open Bool renaming true->U,false->X
open Go.Obj renaming cells->V
open Go.IntKind renaming i64->Y
open Go.Proofs.Tryz renaming prog->Z
namespace Go.Proofs.YtnlhhmlcjbohbaaGreatDoor
open Go.RowKit Go.Maps Go.WideMaps
variable{Br:Int->ByteArray->ByteArray}{c d m:Int}{s:ByteArray}
inductive Out (s:ByteArray):Int->Int->List Nd->Prop where
 |big:65536<s.size->Out s 2 0 []
 |at_ {z:Int}:s.size<=65536->0<=z->jt s=([],z)->Out s 1 z []
 |ok {toks:List Tk}{m:Nat}{R:Fo}{lz:Int}:s.size<=65536->jt s=(toks, -1)->PF s toks m R lz->Out s (okC (E0 s R)) 0 (okN (E0 s R))
theorem aiF(a b:ByteArray):∀(f n:Nat),a.size<n+f->n<=a.size->n<=b.size->(∀i,i<n->aq a i=aq b i)->(cmL a b f n<=a.size/\cmL a b f n<=b.size)/\(∀i,i<cmL a b f n->aq a i=aq b i)/\¬(cmL a b f n<a.size/\cmL a b f n<b.size/\aq a (cmL a b f n)=aq b (cmL a b f n))
 |0,n,h,d,e,c=>by omega
 |f+1,n,h,d,e,c=>by
  rw[cmL];split
  ·rename_i g;refine aiF a b f (n+1) (by omega) (by omega) (by omega) (fun i j=>?_);rcases aH i n with q|q
   ·exact c i q
   ·obtain rfl:i=n:=by omega
    exact g.2.2
  ·rename_i g;exact⟨⟨d,e⟩,c,g⟩
theorem adt{a b:ByteArray}{m:Nat}:m<=cmF a b↔m<=a.size/\m<=b.size/\∀i,i<m->aq a i=aq b i:=by
 obtain⟨⟨f,g⟩,h,j⟩:=aiF a b (a.size+1) 0 (by omega) (aF _) (aF _) (fun i d=>by omega);unfold cmF;constructor
 ·intro c;exact⟨bg c f,bg c g,fun i d=>h i (gh d c)⟩
 ·rintro ⟨k,l,e⟩;rcases aH (cmL a b (a.size+1) 0) m with q|q
  ·exact absurd ⟨by omega,by omega,e _ q⟩ j
  ·exact q
theorem aiG(x:ByteArray){m:Nat}:∀(L:List Int)(a:Nat),m<=rcF x L a↔m<=a\/∃k∈L,m<=bnF k x
 |[],a=>by simp[rcF]
 |k::L,a=>by
  show m<=rcF x L (max a (bnF k x))↔_;rw[aiG x L];constructor
  ·rintro (h|⟨c,h1,b⟩)
   ·rcases(show m<=a\/m<=bnF k x by omega) with h|h
    ·exact .inl h
    ·exact .inr ⟨k,bB,h⟩
   ·exact .inr ⟨c,cL _ h1,b⟩
  ·rintro (h|⟨c,h1,b⟩)
   ·exact .inl (by omega)
   ·rcases List.mem_cons.1 h1 with rfl|h1
    ·exact .inl (by omega)
    ·exact .inr ⟨c,h1,b⟩
theorem aiH(s:ByteArray):∀(f p i:Nat),p<=i->i<mi s f p->ba (aq s i)=U\/bc (aq s i)=U
 |0,p,i,b,a=>by rw[mi]at a;omega
 |f+1,p,i,b,a=>by
  rw[mi]at a;split at a
  ·rename_i g;rcases jj b with rfl|q
   ·exact g
   ·exact aiH s f (p+1) i q a
  ·omega
theorem aiI(s:ByteArray):∀(f p:Nat),s.size<p+f->¬(ba (aq s (mi s f p))=U\/bc (aq s (mi s f p))=U)
 |0,p,h=>by rw[mi];exact CJ (by omega)
 |f+1,p,h=>by
  rw[mi];split
  ·exact aiI s f (p+1) (by omega)
  ·assumption
theorem abD(s:ByteArray):∀(f p m:Nat),m<=f->(∀i,i<m->ba (aq s (p+i))=U)->p+m<=mi s f p
 |0,p,m,h,g=>by rw[mi];omega
 |f+1,p,0,h,g=>by
  rw[mi];split
  ·have:=abD s f (p+1) 0 (aF _) (fun i a=>by omega);omega
  ·omega
 |f+1,p,m+1,h,g=>by
  rw[mi,ab (.inl (g 0 (by omega)))];have:=abD s f (p+1) m (by omega) (fun i a=>by have:=g (i+1) (by omega);rwa [show p+(i+1)=p+1+i by omega]at this);omega
theorem fx1:∀k:Fin 79,ba (aq (dB (k.val:Int)) 0)=U->∀i:Fin 6,i.val<(dB (k.val:Int)).size->ba (aq (dB (k.val:Int)) i.val)=U:=by decide+kernel
theorem fx2:∀k:Fin 79,bc (aq (dB (k.val:Int)) 0)=X/\aq (dB (k.val:Int)) 0≠34/\(k.val<=4->(dB (k.val:Int)).size=0):=by decide+kernel
theorem fx4:∀k:Fin 79,k.val≠7->ba (aq (dB (k.val:Int)) 0)=X->(dB (k.val:Int)).size<=3/\∀m:Fin 4,1<=m.val->m.val<=(dB (k.val:Int)).size->∃i:Fin 30,bp iE i.val=(dB (k.val:Int)).extract 0 m.val:=by decide+kernel
theorem apb:∀i j:Fin 30,j.val<=i.val->aq (bp iE j.val) 0=aq (bp iE i.val) 0->(bp iE i.val).size<=(bp iE j.val).size:=by decide+kernel
theorem apc:∀i:Fin 30,(bp iE i.val).size≠0:=by decide+kernel
theorem aiJ(q:ByteArray->Bool):∀(f k i:Nat),k<=i->i<k+f->q (bp iE i)=U->∃j,wE q f k=T j/\j<=i/\q (bp iE j)=U
 |0,k,i,h1,a,h=>by omega
 |f+1,k,i,h1,a,h=>by
  rw[wE];split
  ·rename_i g;exact⟨k,rfl,h1,g⟩
  ·rename_i g;rcases jj h1 with rfl|h1
   ·exact absurd h g
   ·exact aiJ q f (k+1) i h1 (by omega) h
theorem apd{i:Nat}(h:0<=aq s i):i<s.size:=by
 rcases aH i s.size with g|g
 ·exact g
 ·rw[dl]at h;omega
theorem ape{i:Nat}(h:i<s.size):0<=aq s i:=by unfold aq;rw[lD h];omega
theorem alC{p:Nat}(B:aq s p≠10){k:Int}(K:1<=k/\k<=78)(J:k≠7){m:Nat}(G:1<=m)(v:m<=(dB k).size)(c:∀i,i<m->aq s (p+i)=aq (dB k) i):p+m<=(rdI s p).a:=by
 obtain⟨k,rfl⟩:∃q:Fin 79,k=(q.val:Int):=⟨⟨k.toNat,by omega⟩,by simp;omega⟩;have f:=c 0 (by omega);rw[iz]at f;have r:∀i,i<m->p+i<s.size:=fun i d=>apd (by rw[c i d];exact ape (by omega));have L:=r (m-1) (by omega);obtain⟨y,z,_⟩:=fx2 k;have ad:=ahp (k.val:Int);unfold rdI;by_cases h:ba (aq s p)=U
 ·rw[ab h];have q:=fx1 k (by rw[<-f];exact h);exact abD s (s.size+1) p m (by omega) (fun i d=>by rw[c i d];exact q ⟨i,by omega⟩ (by show i<_;omega))
 rw[aa h,aa (by rw[f,y];simp),aa (by rw[f];exact z)];obtain⟨I,A⟩:=fx4 k (by omega) (by rw[<-f];simpa using h);obtain⟨i,d⟩:=A ⟨m,by omega⟩ G v;have u:∀b,b<m->aq (s.extract p s.size) b=aq s (p+b):=fun b e=>fi s p s.size b (ae _) (r b e);have F:((dB (k.val:Int)).extract 0 m).size=m:=by rw[ik];omega
 have l:∀b,b<m->aq (s.extract p s.size) b=aq ((dB (k.val:Int)).extract 0 m) b:=fun b e=>by rw[u b e,c b e,fi _ 0 m b v,gq]
 have t:Lib.hasPrefix (s.extract p s.size).data.toList (bp iE i.val).data.toList=U:=by
  rw[d,aa9 _ _ (by show((dB (k.val:Int)).extract 0 m).size<=3;omega)];unfold pB;rw[iJ];show(((dB (k.val:Int)).extract 0 m).size=0\/_)/\(((dB (k.val:Int)).extract 0 m).size<=1\/_)/\(((dB (k.val:Int)).extract 0 m).size<=2\/_);rw[F];refine⟨.inr (l 0 (by omega)),?_,?_⟩
  ·rcases aH 1 m with q|q
   ·exact .inr (l 1 q)
   ·exact .inl q
  ·rcases aH 2 m with q|q
   ·exact .inr (l 2 q)
   ·exact .inl q
 have n:=Io (s.extract p s.size) (by rw[u 0 (by omega)];exact B);obtain⟨b,e,C,E⟩:=aiJ (fun H=>Lib.hasPrefix (s.extract p s.size).data.toList H.data.toList) 30 0 i.val (aF _) (by omega) t;unfold DH at n;rw[e]at n;obtain⟨_,w,x,_⟩:=n;rw[aa x];have o:∀(i:Fin 30),Lib.hasPrefix (s.extract p s.size).data.toList (bp iE i.val).data.toList=U->aq (s.extract p s.size) 0=aq (bp iE i.val) 0:=fun i j=>by
  have c:=ag9 i;unfold inB at c;rw[aa9 _ _ (aG c).1]at j;unfold pB at j;rcases(aG j).1 with g|g
  ·exact absurd g (apc i)
  ·exact g
 have q:=apb i ⟨b,by omega⟩ C ((o ⟨b,by omega⟩ E).symm.trans (o i t));rw[d]at q;show p+m<=p+(dB (na (s.extract p s.size))).size;have af:((dB (k.val:Int)).extract 0 m).size<=(bp iE b).size:=q;rw[w];omega
section
variable {s : ByteArray} {p r : Nat} {K : List Int}
theorem abE(g:∀m,1<=m->m<=r->p+m<=s.size/\tJ K (s.extract p (p+m))=U)(h:∀m,1<=m->m<r->uI s p m=X)(i:p+(r+1)<=s.size->tJ K (s.extract p (p+(r+1)))=U->1<=r/\uI s p r=U):∀(f n:Nat),n<=r->r<n+f->(n=r->1<=r->uI s p r=X)->wrL s p K f n=r
 |0,n,a,b,_=>by omega
 |f+1,n,a,b,c=>by
  rw[wrL];rcases aH n r with q|q
  ·obtain⟨o,k⟩:=g (n+1) (by omega) q;rw[ab ⟨by omega,k⟩];rcases aH (n+1) r with q2|q2
   ·rw[aa (by rw[h (n+1) (by omega) q2];simp)];exact abE g h i f (n+1) q (by omega) (fun d=>by omega)
   ·have d:n+1=r:=by omega
    split
    ·exact d
    ·rename_i e;exact abE g h i f (n+1) (by omega) (by omega) (fun _ _=>by rw[<-d];simpa using e)
  ·have d:n=r:=by omega
   rw[aa (fun e=>by
    obtain⟨l,j⟩:=i (by omega) (by rw[<-d];exact e.2);rw[c d l]at j;cases j)]
   exact d
theorem apf(E:ry s p)(a3:∀k∈K,1<=k/\k<=78)(af:bc (aq s p)=U->2 ∉ K/\3 ∉ K)(a0:aq s p=34->4 ∉ K)(ad:aq s p≠10):wrL s p K (s.size+1) 0=rcF (s.extract p (rdI s p).a) K (cmF (s.extract p (rdI s p).a) xh):=by
 obtain⟨al,H⟩:=abi s p E.lt;have a8:=E.lt;obtain⟨a,B⟩:=aA ((rdI s p).a);have x:=fun {k:Int} e i {m:Nat} G u d=>alC (s:=s) (p:=p) ad (k:=k) e i (m:=m) G u d;rw[B]at al H x⊢;have F:(s.extract p a).size=a-p:=by rw[ik];omega
 have d:∀b,b<a-p->aq (s.extract p a) b=aq s (p+b):=fun b c=>fi s p a b H;have a4:rcF (s.extract p a) K (cmF (s.extract p a) xh)<=a-p:=by rw[<-F];exact abe _ _ _ (D7 _ _ _ _ (aF _))
 have n:=fun m=>aiG (s.extract p a) (m:=m) K (cmF (s.extract p a) xh);generalize rcF (s.extract p a) K (cmF (s.extract p a) xh)=o at a4 n;have a7:xh.size=2:=rfl;have L:∀m,p+m<=s.size->(s.extract p (p+m)).size=m/\∀b,b<m->aq (s.extract p (p+m)) b=aq s (p+b):=fun m a6=>⟨by rw[ik];omega,fun b c=>fi s p (p+m) b a6⟩;refine abE (fun m G u=>⟨by omega,?_⟩) (fun m G u=>?_) (fun ar A=>?_) (s.size+1) 0 (aF _) (by omega) (fun _ _=>by omega)
 ·obtain⟨r,f⟩:=L m (by omega);unfold tJ;rcases(n m).1 u with h|⟨k,e,h⟩
  ·obtain⟨ao,I,l⟩:=adt.1 h;have z:=l 0 (by omega);rw[d 0 (by omega)]at z;rcases(show m=1\/m=2 by omega) with rfl|rfl
   ·rw[ab ⟨r,by rw[f 0 (by omega),z];rfl⟩]
   ·have J:=l 1 (by omega);rw[d 1 (by omega)]at J;exact absurd ⟨z,J⟩ E.nd
  ·split
   ·rfl
   refine(Kz _ K).2 ⟨k,e,?_⟩;unfold bnF at h;rw[aa (by omega)]at h;have am:aq (s.extract p a) 0=aq (s.extract p (p+m)) 0:=by rw[d 0 (by omega),f 0 (by omega)]
   split at h
   ·rename_i C;split at h
    ·rename_i j;left;rw[am]at j;unfold bgC;rw[iJ];unfold bnC at j;rcases C with rfl|rfl|rfl|rfl
     ·exact .inl ⟨rfl,j⟩
     ·exact .inr (.inl ⟨.inl rfl,j⟩)
     ·exact .inr (.inl ⟨.inr rfl,j⟩)
     ·exact .inr (.inr ⟨rfl,aG j⟩)
    ·omega
   ·obtain⟨ao,I,l⟩:=adt.1 h;have i:k≠7:=fun g=>by
     subst g;have:=l 0 (by omega);rw[d 0 (by omega)]at this;exact ad this
    right;rw[Ii,Hi k i,r];exact⟨I,fun b c=>by rw[f b c,<-l b c,d b (by omega)]⟩
 ·unfold uI;by_cases ag:ba (aq s p)=U
  ·have g:a=mi s (s.size+1) p:=by rw[<-B];unfold rdI;rw[ab ag]
   have q:=aiH s (s.size+1) p (p+m) (by omega) (by omega);have ap:lk s (p+m)=aq s (p+m):=by unfold lk;rw[ab (by omega)]
   rw[ap];rcases q with q|q<;>simp[q]
  ·simp[ag]
 ·obtain⟨r,f⟩:=L (o+1) ar;unfold tJ at A;split at A
  ·rename_i an;have y:=an.2;rw[f 0 (by omega)]at y;have q:=x (k:=62) (by decide) (by decide) (m:=1) (by omega) (by decide) (fun b c=>by obtain rfl:b=0:=(by omega);exact y);have:=(n 1).2 (.inl (adt.2 ⟨by omega,by omega,fun b c=>by obtain rfl:b=0:=(by omega);rw[d 0 (by omega)];exact y⟩));omega
  ·obtain⟨k,e,h⟩:=(Kz _ K).1 A;rw[f 0 (by omega),iz]at h;rcases h with h|h
   ·unfold bgC at h;rw[iJ]at h;rcases h with⟨rfl,h⟩|⟨av,h⟩|⟨rfl,h⟩
    ·have g:a=mi s (s.size+1) p:=by rw[<-B];unfold rdI;rw[ab h]
     have a9:=Cp s p h;have q:=(n (a-p)).2 (.inr ⟨1,e,by unfold bnF;rw[aa (by omega),ab (.inl rfl),ab (by rw[d 0 (by omega)];exact h),F];exact ae _⟩);have t:=aiI s (s.size+1) p (by omega);rw[<-g]at t;obtain rfl:o=a-p:=by omega
     refine⟨by omega,?_⟩;unfold uI lk;rw[show p+(a-p)=a by omega];by_cases ak:a<s.size
     ·rw[ab ak];simp only[not_or,GA]at t;simp[h,t.1,t.2]
     ·rw[aa ak,h];decide
    ·exact absurd e (by rcases av with rfl|rfl;exact(af h).1;exact(af h).2)
    ·exact absurd e (a0 h)
   ·obtain⟨v,w⟩:=Ii.1 h;rw[r]at v w;have i:k≠7:=fun g=>by
     subst g;have:(pJ 7).size=0:=by decide+kernel
     omega
    rw[Hi k i]at v w;have a5:=a3 k e;have q:=x a5 i (m:=o+1) (by omega) v (fun b c=>by rw[<-w b c,f b c]);have C:¬(k=1\/k=2\/k=3\/k=4):=fun g=>by
     have:=(fx2 ⟨k.toNat,by omega⟩).2.2 (by show k.toNat<=4;omega);rw[show(((⟨k.toNat,by omega⟩:Fin 79).val:Nat):Int)=k by simp;omega]at this;omega
    have:=(n (o+1)).2 (.inr ⟨k,e,by unfold bnF;rw[aa (by omega),aa C,adt,F];exact⟨by omega,v,fun b c=>by rw[d b (by omega),<-f b c,w b c]⟩⟩);omega
end
theorem yg(st:List Int):∀(j:Nat)(k:Int),k∈mo st j↔1<=k/\k<=(j:Int)/\iB st k=U
 |0,k=>by simp[mo];omega
 |j+1,k=>by
  rw[mo];split
  ·rename_i g;rw[vG,yg st j,List.mem_singleton];constructor
   ·rintro (h|rfl)
    ·exact⟨h.1,by omega,h.2.2⟩
    ·exact⟨by omega,by omega,g⟩
   ·rintro ⟨b,c,a⟩;by_cases e:k=(j:Int)+1
    ·exact .inr e
    ·exact .inl ⟨b,by omega,a⟩
  ·rename_i g;rw[yg st j];constructor
   ·exact fun h=>⟨h.1,by omega,h.2.2⟩
   ·rintro ⟨b,c,a⟩;have e:k≠(j:Int)+1:=fun e=>g (e ▸ a);exact⟨b,by omega,a⟩
theorem abF(s:ByteArray)(p:Nat):(bc (aq s p)=U/\(ur s p=2\/ur s p=3))\/(aq s p=34/\ur s p=4)\/(ur s p=0/\bc (aq s p)=X/\aq s p≠34):=by
 unfold ur;by_cases a:bc (aq s p)=U
 ·rw[ab a];exact .inl ⟨a,by split;exact .inl rfl;exact .inr rfl⟩
 ·rw[aa a];by_cases b:aq s p=34
  ·rw[ab b];exact .inr (.inl ⟨b,rfl⟩)
  ·rw[aa b];exact .inr (.inr ⟨rfl,by simpa using a,b⟩)
theorem IF.at_{u:List Tk×List Int×Int}{z:Int}(h:IF s u z):z=u.2.2:=by
 obtain⟨b,i,q,ap,ar,ak,m,n,w,H⟩:=h.ex;have t:mo i 78=pu q:=n.sim.nm 78 (ae _);have l:∀j,1<=j->j<=78->iB i j=(feedL q j).2:=fun j v B=>n.sim.may v B;have y:iB i 2=iB i 3:=by rw[l 2 (by omega) (by omega),l 3 (by omega) (by omega)];exact ama q n.sim.o2 n.n23
 have x:(bc (aq s b)=U->iB i 2=X\/iB i 3=X)->(aq s b=34->iB i 4=X)->aq s b≠10->z=(wrongF s b (pu q):Nat):=fun J L ad=>by
  have af:=apf (K:=pu q) m (fun j d=>by rw[<-t]at d;have:=(yg i 78 j).1 d;omega) (fun c=>by
   rw[<-t,yg,yg];have:=J c;rw[y]at this;simp[y,this.elim id id]) (fun c=>by rw[<-t,yg];simp[L c]) ad
  rw[w];unfold wrongF xL;rw[af,t];omega
 cases d:(rdI s b).ok with
 |true=>
  obtain⟨o,g⟩:=H d;rw[n.stop m d o g];unfold rdI at o g d;refine x (fun c=>?_) (fun c=>?_) (fun c=>?_)
  ·have G:¬ba (aq s b)=U:=fun k=>by simp[ba]at k;simp[bc]at c;omega
   rw[aa G,ab c]at g d;split at d
   ·rename_i k;rw[ab k]at g;unfold qz at g;split at g
    ·exact .inl g
    ·split at g
     ·exact .inl g
     ·exact .inr g
   ·cases d
  ·rw[c]at g d;rw[aa (by decide),aa (by decide),ab rfl]at g d;split at d
   ·rename_i k;rw[ab k]at g;exact g
   ·cases d
  ·refine o ?_;have e:aq (s.extract b s.size) 0=10:=by rw[fi s b s.size 0 (ae _) (by have:=m.lt;omega)];exact c
   have r:na (s.extract b s.size)=7:=by unfold na;rw[aa (by rw[e];decide),ab e]
   rw[c,aa (by decide),aa (by decide),aa (by decide),aa (by rw[r];decide)];exact r
 |false=>
  obtain⟨k,rfl,am,p⟩:=n.step m;have o:¬oI s b=7:=fun e=>by have:=KE s b e;rw[d]at this;cases this.1
  have E:oI s b=ur s b:=by unfold oI;rw[aa (by rw[d];simp)]
  rw[aa o,E]at p;have C:aq s b≠10:=fun c=>by
   have e:aq (s.extract b s.size) 0=10:=by rw[fi s b s.size 0 (ae _) (by have:=m.lt;omega)];exact c
   have r:na (s.extract b s.size)=7:=by unfold na;rw[aa (by rw[e];decide),ab e]
   unfold rdI at d;rw[c,aa (by decide),aa (by decide),aa (by decide),aa (by rw[r];decide)]at d;cases d
  split at p
  ·rename_i f;rw[aa (by rw[d];simp)]at p;rw[<-p,w];show(b:Int)+_=(((rdI s b).a:Nat):Int);obtain⟨ag,A⟩:=abi s b m.lt;have I:(s.extract b (rdI s b).a).size=(rdI s b).a-b:=by rw[ik];omega
   have ao:=Cx i (s.extract b (rdI s b).a);have an:(rdI s b).a-b<=xL i (s.extract b (rdI s b).a):=by
    by_cases v:(rdI s b).a-b=0
    ·omega
    unfold xL;refine(aiG _ _ _).2 (.inr ⟨ur s b,?_,?_⟩)
    ·rw[yg];have al:=Ip s b;unfold wF at f;split at f
     ·exact⟨by omega,by omega,by rw[l _ (by omega) (by omega)];exact f⟩
     ·cases f
    ·have F:aq (s.extract b (rdI s b).a) 0=aq s b:=fi s b _ 0 A;unfold bnF;rw[aa (by omega),I,F];rcases abF s b with⟨c,e|e⟩|⟨c,e⟩|⟨e,_⟩
     ·rw[e,ab (.inr (.inl rfl)),ab (show bnC 2 (aq s b)=U from c)];exact ae _
     ·rw[e,ab (.inr (.inr (.inl rfl))),ab (show bnC 3 (aq s b)=U from c)];exact ae _
     ·rw[e,ab (.inr (.inr (.inr rfl))),ab (show bnC 4 (aq s b)=U by rw[c];decide)];exact ae _
     ·rw[e]at f;cases f
   omega
  ·rename_i f;rw[<-p];unfold wF at f;refine x (fun c=>?_) (fun c=>?_) C
   ·rcases abF s b with⟨_,e|e⟩|⟨h,e⟩|⟨_,h,_⟩
    ·rw[e,ab (by decide),<-l 2 (by omega) (by omega)]at f;exact .inl (by simpa using f)
    ·rw[e,ab (by decide),<-l 3 (by omega) (by omega)]at f;exact .inr (by simpa using f)
    ·rw[h]at c;exact absurd c (by decide)
    ·rw[h]at c;cases c
   ·rcases abF s b with⟨h,_⟩|⟨h,e⟩|⟨_,_,h⟩
    ·rw[c]at h;exact absurd h (by decide)
    ·rw[e,ab (by decide),<-l 4 (by omega) (by omega)]at f;simpa using f
    ·exact absurd c h
theorem adu(r:Nat)(n o p:Value)(z:Int)(w:World)(a:w.heap[r]?=T (V #[n,o,p] 36 (0,0))):
  CallsD Z 23 #[.pointer (T ⟨r,0,Q⟩)] (.panicking (Iy z)) w fun e m c=>
   e= .returned (.tuple #[])/\m= .panicking [{v:= .iface 51 (.agg #[Ax Y z]),recovered:=U}]/\c.heap[r]?=T (V #[Ax Y 1,Ax Y z,O Q 0 0] 36 (0,0))/\Below r w c:=by
 have j:=fun w=>ahB z w;unfold Iy;refine callsD_of_wpS Tryz.func23 rfl fun s q k=>?_;apply wpS_seq;apply og;simp[wpOpsS,go_sem,recoverD,k,Tryz.ntmps23,Exit.thenS,j];apply wpS_seq;apply og;simp[wpOpsS,go_sem,Exit.thenS,iu];refine wpS_cond (t:=U) (by simp[Act.eval]) ?_;simp only[iK];have l:∀w:World,(zeroValue 36).run Z w= .ok (.agg #[Ax Y 0,Ax Y 0,O Q 0 0]) w:=fun w=>by kernel_rfl
 have b:(w.alloc (V #[Ax Y z] 51)).heap[r]?=_:=(cC w _ r (ai a)).trans a;have i:Below r w (w.alloc (V #[Ax Y z] 51)):=(bG w _).mono (eE (ai a));obtain⟨d,f,g,h⟩:=row3 b;apply og;simp[wpOpsS,go_sem,d,f,g,h,l,bodyPostS,results,Tryz.results23];exact⟨set3 b _ _ _,ahz i _ _ _⟩
theorem adv(p:Addr)(w:World):
  CallsD Z 23 #[.pointer (T p)] .returning w fun e d f=>e= .returned (.tuple #[])/\d= .returning/\f=w.alloc (V #[Ax Y 0] 51):=by
 have b:=fun w=>ahC w;refine callsD_of_wpS Tryz.func23 rfl fun a g c=>?_;apply wpS_seq;apply og;simp[wpOpsS,go_sem,recoverD,c,Tryz.ntmps23,Exit.thenS,b];apply wpS_seq;apply og;simp[wpOpsS,go_sem,Exit.thenS,iu];refine wpS_cond (t:=X) (by simp[Act.eval]) ?_;simp only[yq,if_false];refine wpS_of_wp (wp_skip ?_);cases a
 simp_all [bodyPostS,results,Tryz.results23]
def FBl(f:FuncId)(d m s c b:Int):Prop:=∀ ⦃E:Bs⦄ ⦃W:World⦄ ⦃L:List Mb⦄ ⦃l x:Int⦄ ⦃R:List Rwx⦄,uu E W L l x R m->l<=b->Calls Z f #[bV E,Ax Y d] W (Ans E W L l (x-100) R s c)
section
variable {E : Bs} {W w : World} {L M : List Mb} {l x y : Int} {R R' : List Rwx} {m : Int}
theorem At.subL(p:uu E W L l x R m)(a:At E W L l x w M y R'){f:FuncId}{m' s b:Int}(hF:FBl f d m' s c b)(h:l-M.length<=b)(A:1<=m'/\m'+1<=m)(q: -20000+12*m'<=l-M.length)(B:s<=12/\c<=4000):
  Calls Z f #[bV E,Ax Y d] w fun e k=>∃(M':List Mb) (z:Int),e= .returned (Ax Y z)/\(0<=z/\z<=100000)/\M.length<M'.length/\At E W L l x k M' y R'/\Lf s c (l-M.length) (l-M'.length):=by
 have v:=a.len p;have F:=p.hx;have G:=a.hy;have t:uu E w (L++M) (l-M.length) y R' m':=⟨a.bd,by have:=p.sum;rw[aB];simp;omega,q,by omega,⟨by omega,by have:=p.m0;omega⟩⟩;refine(hF t h).mono ?_;rintro e k ⟨g,u,rfl,n,h,j⟩;have i:l-((M++g).length:Nat)=l-M.length-g.length:=by simp;omega
 have o:=j;unfold Lf at o;have r: -20000<=l-M.length-g.length:=by omega
 have C:=p.sum;refine⟨M++g,_,rfl,⟨by omega,by rw[aB];simp;omega⟩,by rw[aB];omega,⟨LF (n.wide),a.bel.trans h,a.hy,by rw[i];exact r⟩,by rw[i];exact j⟩
end
theorem I3{me mk mr ce ck cr b:Int}(ar: -1000<=d/\d<=1000)(j:(1<=me/\me+1<=m)/\(1<=mk/\mk+1<=m)/\(1<=mr/\mr+1<=m))(bt:(0<=ce/\ce+3<=c)/\(0<=ck/\ck+3<=c)/\(0<=cr/\cr+1<=c)/\c<=3800)(an:FB 103 d me 1 ce)(F:FB 107 (d-1) mk 1 ck)
  (ap:10<b->FBl 106 (d-1) mr 4 cr (b-2)):FBl 106 d m 4 c b:=by
 intro be bk bf a0 z bj a bw;have b1:=w1 ar;have bx:=a.lo;have bD:=a.m0;have b0:=a.sum;have G:=a.at.sub a an j.1 (by simp;omega);go_in;go_wp2_with fail;refine G.mono ?_;rintro e w1 ⟨bh,a9,rfl,v,br,L,E⟩;unfold Lf at E;simp at E;have H:=L.sub a F j.2.1;clear G;go_wp2_with fail;refine H.mono ?_;rintro e b2 ⟨J,bb,rfl,w,bs,o,am⟩;unfold Lf at am;have C:=o.newI [a9,bb] (by simp) 2 rfl;have af:=o.c0;have bA:=o.bd.lt;have I:=C.pick a (by omega) 3;clear H;go_wp2_with fail;refine I.mono ?_;rintro e b3 ⟨n,rfl,bE,i⟩;clear I C af;have r:=i.c2;have l:=(i.nil KH).add a (k:=7) (op:=0) (n:=0) (t:=⟨#[]⟩) (nm:=[]) (x2:=z-100) (s:=4) (c:=c) (pC (by decide) (by decide) (by decide) (qD (by first|decide|omega)) (by decide) zE (by simp) (pl2 v w)) (by omega) (by unfold Lf;omega);rcases(show n=0\/n=1\/(n≠0/\n≠1) by omega) with rfl|rfl|⟨ak,al⟩
 ·have h:=i.sub a F j.2.1;clear l;go_wp2_with fail;refine h.mono ?_;rintro e a7 ⟨K,B,rfl,g,ao,p,u⟩;unfold Lf at u;clear h r;go_wp2_with (at_builtin;refine p.app B rfl (by simp) rfl _ _ rfl rfl rfl ?_;intro ad ag a8 q);have x:=(q.nil KH).add a (k:=7) (op:=0) (n:=0) (t:=⟨#[]⟩) (nm:=[]) (x2:=z-100) (s:=4) (c:=c) (pC (by decide) (by decide) (by decide) (qD (by first|decide|omega)) (by decide) zE (by simp) ((pl2 v w).add g.1 g.2)) (by omega) (by unfold Lf;omega);go_wp2_with fail;refine x.mono ?_;rintro e y ⟨A,rfl,f⟩;go_wp2_with fail;go_ret;exact f
 ·by_cases bo:10<a0-J.length
  ·have h:=i.subL a (ap (by omega)) (by omega) j.2.2 (by omega) (by omega);clear l;go_wp2_with fail;refine h.mono ?_;rintro e a7 ⟨K,B,rfl,g,ao,p,u⟩;unfold Lf at u;clear h r;go_wp2_with (at_builtin;refine p.app B rfl (by simp) rfl _ _ rfl rfl rfl ?_;intro ad ag a8 q);have x:=(q.nil KH).add a (k:=7) (op:=0) (n:=0) (t:=⟨#[]⟩) (nm:=[]) (x2:=z-100) (s:=4) (c:=c) (pC (by decide) (by decide) (by decide) (qD (by first|decide|omega)) (by decide) zE (by simp) ((pl2 v w).add g.1 g.2)) (by omega) (by unfold Lf;omega);go_wp2_with fail;refine x.mono ?_;rintro e y ⟨A,rfl,f⟩;go_wp2_with fail;go_ret;exact f
  ·go_wp2_with fail;refine l.mono ?_;rintro e y ⟨A,rfl,f⟩;go_wp2_with fail;go_ret;exact f
 ·have bl:(n==0)=X:=by simpa using ak
  have bn:(n==1)=X:=by simpa using al
  clear r;go_wp2_with fail;refine l.mono ?_;rintro e y ⟨A,rfl,f⟩;go_wp2_with fail;go_ret;exact f
theorem wq{a o:Int}{q:Nat}(h:a+o=(q:Int))(b:q<=100):IntKind.i64.wrap (a+o)=(q:Int):=by rw[di];omega
theorem apg{C:Int}(y:d<=0)(A:2<=m)(x:0<=C/\C<=3800)(j:FB 98 1 (m-1) 5 C):FB 67 d m 6 (C+1):=by
 intro q v r E o u a;have f:=a.at.c0;have g:=a.bd.c2;have z:=a.lo;have B:=a.m0;have k:=a.at.sub a j (by omega) (by simp;omega);go_in;go_wp2_with fail;refine k.mono ?_;rintro h F ⟨t,p,rfl,l,w,e,b⟩;unfold Lf at b;simp at b;have n:=(e.newI [p] (by simp) 1 rfl).kids a (k:=6) (x2:=o) (s:=6) (c:=C+1) (by omega) (by simp) (pl1 l) (by omega) (by unfold Lf;omega);clear k f g;go_wp2_with fail;refine n.mono ?_;rintro h G ⟨H,rfl,i⟩;go_wp2_with fail;go_ret;exact i
theorem aq3{mm C:Int}(e5:1<=d/\d<=1000)(ff:1<=mm/\mm+2<=m)(e4:4<=C/\C<=3700)(an:FB 103 d mm 1 C)(ee:FB 104 d mm 12 C)(eg:FB 105 d mm 4 (C-3))(df:FB 98 d mm 12 C)(ec:FB 98 1 mm 5 C)
  (eb:AL 106 d mm 12 C) (bf:AL 107 (d-1) mm 1 C):FB 67 d m 6 (C+5):=by
 intro cx c1 cF b6 r cI a;have c7:=a.at.c0;have c9:=a.bd.c2;have fo:=w1 (d:=d) (by omega);have fd:=a.lo;have fg:=a.m0;have e6:¬d<=0:=by omega
 by_cases fc:b6<8
 ·have k:=a.at.sub a ec (by omega) (by simp;omega);go_in;go_wp2_with fail;refine k.mono ?_;rintro b y ⟨ar,v,rfl,u,a0,f,l⟩;unfold Lf at l;simp at l;have q:=(f.newI [v] (by simp) 1 rfl).kids a (k:=6) (x2:=r) (s:=6) (c:=C+5) (by omega) (by simp) (pl1 u) (by omega) (by unfold Lf;omega);clear k c7 c9;go_wp2_with fail;refine q.mono ?_;rintro b en ⟨b9,rfl,ea⟩;go_wp2_with fail;go_ret;exact ea
 have ds:=a.at.pick a (by omega) 17;go_in;go_wp2_with fail;refine ds.mono ?_;rintro b w1 ⟨n,rfl,fk,x⟩;clear ds c7 c9;have ef:n=0\/n=1\/n=2\/n=3\/n=4\/n=5\/n=6\/n=7\/n=8\/n=9\/n=10\/n=11\/n=12\/n=13\/n=14\/n=15\/n=16:=by omega
 rcases ef with rfl|rfl|rfl|rfl|rfl|rfl|rfl|rfl|rfl|rfl|rfl|rfl|rfl|rfl|rfl|rfl|rfl
 iterate 2
  ·have e:=x.pick a (by omega) 3;go_wp2_with fail;refine e.mono ?_;rintro b y ⟨o,rfl,bh,f⟩;clear e;obtain⟨h,w⟩:∃h:Nat,1+o=(h:Int):=⟨(1+o).toNat,by omega⟩;have b4:=wq w (by omega);have b2:h<=3:=by omega
   clear w;have g:=f.names a h;go_wp2_with fail;refine g.mono ?_;rintro b L ⟨d3,da,d1,rfl,ao,ap,p⟩;have am:=dC ao ap;clear g ao ap;have F:=p.pick a (by omega) 3;go_wp2_with fail;refine F.mono ?_;rintro b b8 ⟨al,rfl,b3,af⟩;clear F;obtain⟨al,rfl⟩:=gl b3.1;have q:=af.exprs a an (mx:=mm+1) (by omega) (by omega) (by simp;omega) al (by omega);go_wp2_with fail;refine q.mono ?_;rintro b bw ⟨bx,b5,bj,be,rfl,E,ag,cn,B,H⟩;clear q;unfold Lf at H;simp at H;have ce:=aw E;clear E;have j:=(B.swap).add a (k:=2) (op:=0) (n:=0) (t:=⟨#[]⟩) (x2:=r) (s:=6) (c:=C+5) (pC (by decide) (by decide) (by decide) (qD (by first|decide|omega)) (by rw[am.out.1];omega) am.2 (by rw[ce.out];omega) ag) (by omega) (by unfold Lf;omega);go_wp2_with fail;refine j.mono ?_;rintro b z ⟨A,rfl,i⟩;go_wp2_with fail;go_ret;exact i
 ·have e:=x.sub a an (by omega) (by simp;omega);go_wp2_with fail;refine e.mono ?_;rintro b y ⟨ar,v,rfl,u,a0,f,l⟩;clear e;unfold Lf at l;simp at l;have g:=f.names a 1;go_wp2_with fail;refine g.mono ?_;rintro b L ⟨d3,da,d1,rfl,ao,ap,p⟩;have am:=dC ao ap;clear g ao ap;have j:=((p.newI [v] (by simp) 1 rfl).swap).add a (k:=3) (op:=0) (n:=0) (t:=⟨#[]⟩) (x2:=r) (s:=6) (c:=C+5) (pC (by decide) (by decide) (by decide) (qD (by first|decide|omega)) (by rw[am.out.1];omega) am.2 (by simp) (pl1 u)) (by omega) (by unfold Lf;omega);go_wp2_with fail;refine j.mono ?_;rintro b z ⟨A,rfl,i⟩;go_wp2_with fail;go_ret;exact i
 ·have e:=x.sub a ee (by omega) (by simp;omega);go_wp2_with fail;refine e.mono ?_;rintro b y ⟨ar,v,rfl,u,a0,f,l⟩;clear e;unfold Lf at l;simp at l;have g:=f.names a 1;go_wp2_with fail;refine g.mono ?_;rintro b L ⟨d3,da,d1,rfl,ao,ap,p⟩;have am:=dC ao ap;clear g ao ap;have j:=((p.newI [v] (by simp) 1 rfl).swap).add a (k:=4) (op:=0) (n:=0) (t:=⟨#[]⟩) (x2:=r) (s:=6) (c:=C+5) (pC (by decide) (by decide) (by decide) (qD (by first|decide|omega)) (by rw[am.out.1];omega) am.2 (by simp) (pl1 u)) (by omega) (by unfold Lf;omega);go_wp2_with fail;refine j.mono ?_;rintro b z ⟨A,rfl,i⟩;go_wp2_with fail;go_ret;exact i
 iterate 3
  ·have e:=x.pick a (by omega) 2;go_wp2_with fail;refine e.mono ?_;rintro b y ⟨o,rfl,bh,f⟩;clear e;obtain⟨h,w⟩:∃h:Nat,1+o=(h:Int):=⟨(1+o).toNat,by omega⟩;have b4:=wq w (by omega);have b2:h<=2:=by omega
   clear w;go_wp2_with fail;go_loopw [11,13] (fun cu cr wr=>∃(J:Nat) (cf:List Mb) (ks:List Int),cr= Ax Y J/\J<=h/\ks.length=J/\Pl ks/\At cx c1 cF b6 r wr cf (r+2) (⟨3,cu,ks.map (A0 Y)⟩::cI)/\12-C-4*J<=b6-cf.length) (fun _ cr _=>h-(intOf cr).toNat)
   case atStart=>exact⟨0,[],[],rfl,aF _,rfl,(fun b9 cq=>by cases cq),⟨(f.nil toI).bd.wide,f.bel,by omega,f.lo⟩,by simp;omega⟩
   case round=>
    obtain⟨J,cf,ks,rfl,e9,bE,b0,c4,e7⟩:=hrel;by_cases e8:J<h
    ·have eh:(J:Int)<(h:Int):=by omega
     have g:=c4.sub a eg;have cb:=dC bE b0;clear bE b0;go_wp2_with fail;refine g.mono ?_;rintro b L ⟨bl,ad,rfl,I,bD,p,G⟩;unfold Lf at G;clear g;go_wp2_with (at_builtin;refine p.app ad cb.1 (by omega) rfl _ _ rfl rfl rfl ?_;intro c6 dc b8 af);go_roundw
     case rel=>exact⟨J+1,bl,ks++[ad],by go_num,by omega,by rw[aB,cb.out.1];rfl,cb.2.add I.1 I.2,af,by omega⟩
     case measure=>simp[intOf];omega
    ·have eh:¬(J:Int)<(h:Int):=by omega
     have cz:=dC bE b0;clear bE b0;have F:=c4.pick a (by omega) 2;go_wp2_with fail;refine F.mono ?_;rintro b b8 ⟨d2,rfl,fm,af⟩;clear F;obtain⟨K,dd⟩:∃K:Nat,1+d2=(K:Int):=⟨(1+d2).toNat,by omega⟩;have fp:=wq dd (by omega);have fn:K<=2:=by omega
     clear dd;have q:=af.exprs a an (mx:=mm+1) (by omega) (by omega) (by omega) K (by omega);go_wp2_with fail;refine q.mono ?_;rintro b bw ⟨bx,b5,bj,be,rfl,E,ag,cn,B,H⟩;clear q;unfold Lf at H;have a9:=dC E ag;have bn:=B.swap;clear E ag;go_wp2_with fail;go_loopw [11,118] (fun cu cs wr=>∃(ak:Nat) (bt:List Int),cs= Ax Y ak/\ak<=K/\bt.length=J+ak/\Pl bt/\At cx c1 cF b6 r wr bx (r+3) (⟨3,cu,bt.map (A0 Y)⟩::⟨3,O bj K be,b5.map (A0 Y)⟩::cI)) (fun _ cs _=>K-(intOf cs).toNat)
     case atStart=>exact⟨0,ks,rfl,aF _,cz.1,cz.2,⟨bn.bd.wide,bn.bel,by omega,bn.lo⟩⟩
     case round=>
      obtain⟨ak,bt,rfl,fb,cp,b1,bA⟩:=hrel;by_cases ei:ak<K
      ·obtain⟨e2,cw,rfl,el,e1⟩:=bA.bd.intAt a9.1 ei;have dn:=a9.2 cw (cG el);have fa:(0:Int)<=(ak:Int):=by omega
       have ek:(ak:Int)<(K:Int):=by omega
       have ca:=dC cp b1;clear cp b1;go_wp2_with (at_builtin;refine bA.app cw ca.1 (by omega) rfl _ _ rfl rfl rfl ?_;intro c6 dc es d6);go_roundw
       case rel=>exact⟨ak+1,bt++[cw],by go_num,by omega,by rw[aB,ca.out.1];rfl,ca.2.add dn.1 dn.2,d6⟩
       case measure=>simp[intOf];omega
      ·have ek:¬(ak:Int)<(K:Int):=by omega
       obtain⟨ew,eF,rfl⟩:=bA.formI;have j:=(((bA.swap).drop).nil KH).add a (k:=5) (op:=0) (n:=h) (t:=⟨#[]⟩) (nm:=[]) (x2:=r) (s:=6) (c:=C+5) (pC (by decide) (by decide) (by omega) (qD (by first|decide|omega)) (by decide) zE (by omega) b1) (by omega) (by unfold Lf;omega);clear cp b1;go_wp2_with fail;refine j.mono ?_;rintro b z ⟨A,rfl,i⟩;go_wp2_with fail;go_ret;exact i
 ·have e:=x.sub a df (by omega) (by simp;omega);go_wp2_with fail;refine e.mono ?_;rintro b y ⟨ar,v,rfl,u,a0,f,l⟩;clear e;unfold Lf at l;simp at l;have j:=(f.newI [v] (by simp) 1 rfl).kids a (k:=6) (x2:=r) (s:=6) (c:=C+5) (by omega) (by simp) (pl1 u) (by omega) (by unfold Lf;omega);go_wp2_with fail;refine j.mono ?_;rintro b z ⟨A,rfl,i⟩;go_wp2_with fail;go_ret;exact i
 iterate 2
  ·have ct:=x.tail a eb;go_wp2_with fail;refine ct.mono ?_;rintro b y ⟨b9,rfl,cg,ch,ck,cl,cm,d9⟩;go_wp2_with fail;go_ret;exact⟨cg,ch,ck,cl,cm,by unfold Lf at *;omega⟩
 ·have e:=x.sub a an (by omega) (by simp;omega);go_wp2_with fail;refine e.mono ?_;rintro b y ⟨ar,v,rfl,u,a0,f,l⟩;clear e;unfold Lf at l;simp at l;have g:=f.sub a bf.weak;go_wp2_with fail;refine g.mono ?_;rintro b L ⟨bl,ad,rfl,I,bD,p,G⟩;clear g;unfold Lf at G;have j:=(p.newI [v,ad] (by simp) 2 rfl).kids a (k:=8) (x2:=r) (s:=6) (c:=C+5) (by omega) (by simp) (pl2 u I) (by omega) (by unfold Lf;omega);go_wp2_with fail;refine j.mono ?_;rintro b z ⟨A,rfl,i⟩;go_wp2_with fail;go_ret;exact i
 ·have e:=x.pick a (by omega) 2;go_wp2_with fail;refine e.mono ?_;rintro b y ⟨o,rfl,bh,f⟩;clear e;obtain⟨h,w⟩:∃h:Nat,2+o=(h:Int):=⟨(2+o).toNat,by omega⟩;have b4:=wq w (by omega);have b2:h<=3:=by omega
  clear w;have q:=f.exprs a an (mx:=mm+1) (by omega) (by omega) (by simp;omega) h (by omega);go_wp2_with fail;refine q.mono ?_;rintro b bw ⟨bx,b5,bj,be,rfl,E,ag,cn,B,H⟩;clear q;unfold Lf at H;simp at H;have a9:=dC E ag;clear E ag;have dx:=B.sub a bf.weak;go_wp2_with fail;refine dx.mono ?_;rintro b en ⟨ev,et,rfl,dq,e3,bn,d8⟩;clear dx;unfold Lf at d8;go_wp2_with (at_builtin;refine bn.app et a9.1 (by omega) rfl _ _ rfl rfl rfl ?_;intro c6 dc es d4);have d0:=d4.names a 1;go_wp2_with fail;refine d0.mono ?_;rintro b fu ⟨fs,ex,fr,rfl,dg,dk,d5⟩;have cB:=dC dg dk;clear d0 dg dk;have j:=d5.add a (k:=9) (op:=0) (n:=0) (t:=⟨#[]⟩) (x2:=r) (s:=6) (c:=C+5) (pC (by decide) (by decide) (by decide) (qD (by first|decide|omega)) (by rw[cB.out.1];omega) cB.2 (by rw[aB,a9.out.1];simp;omega) (a9.2.add dq.1 dq.2)) (by omega) (by unfold Lf;omega);go_wp2_with fail;refine j.mono ?_;rintro b z ⟨A,rfl,i⟩;go_wp2_with fail;go_ret;exact i
 ·have e:=x.sub a an (by omega) (by simp;omega);go_wp2_with fail;refine e.mono ?_;rintro b y ⟨ar,v,rfl,u,a0,f,l⟩;clear e;unfold Lf at l;simp at l;have g:=f.sub a bf.weak;go_wp2_with fail;refine g.mono ?_;rintro b L ⟨bl,ad,rfl,I,bD,p,G⟩;clear g;unfold Lf at G;have F:=p.pick a (by omega) 2;go_wp2_with fail;refine F.mono ?_;rintro b b8 ⟨o,rfl,bh,af⟩;clear F;obtain⟨h,w⟩:∃h:Nat,1+o=(h:Int):=⟨(1+o).toNat,by omega⟩;have b4:=wq w (by omega);have b2:h<=3:=by omega
  clear w;have q:=af.names a h;go_wp2_with fail;refine q.mono ?_;rintro b bw ⟨bj,be,em,rfl,bo,br,B⟩;have bk:=dC bo br;clear q bo br;have j:=((B.newI [v,ad] (by simp) 2 rfl).swap).add a (k:=10) (op:=0) (n:=0) (t:=⟨#[]⟩) (x2:=r) (s:=6) (c:=C+5) (pC (by decide) (by decide) (by decide) (qD (by first|decide|omega)) (by rw[bk.out.1];omega) bk.2 (by simp) (pl2 u I)) (by omega) (by unfold Lf;omega);go_wp2_with fail;refine j.mono ?_;rintro b z ⟨A,rfl,i⟩;go_wp2_with fail;go_ret;exact i
 ·have e:=x.pick a (by omega) 2;go_wp2_with fail;refine e.mono ?_;rintro b y ⟨o,rfl,bh,f⟩;clear e;by_cases bs:o=0
  ·subst bs;have g:=f.pick a (by omega) 2;go_wp2_with fail;refine g.mono ?_;rintro b L ⟨al,rfl,b3,p⟩;clear g;have fq:IntKind.i64.wrap (11+al)=11+al:=by rw[di];omega
   have j:=(p.nil toI).kids a (k:=11+al) (ks:=[]) (x2:=r) (s:=6) (c:=C+5) (by omega) (by simp) (fun b9 cq=>by cases cq) (by omega) (by unfold Lf;simp;omega);go_wp2_with fail;refine j.mono ?_;rintro b z ⟨A,rfl,i⟩;go_wp2_with fail;go_ret;exact i
  ·have d7:(o==0)=X:=by simpa using bs
   have g:=f.pick a (by omega) 3;go_wp2_with fail;refine g.mono ?_;rintro b L ⟨al,rfl,b3,p⟩;clear g;obtain⟨al,rfl⟩:=gl b3.1;have q:=p.exprs a an (mx:=mm+1) (by omega) (by omega) (by simp;omega) al (by omega);go_wp2_with fail;refine q.mono ?_;rintro b bw ⟨bx,b5,bj,be,rfl,E,ag,cn,B,H⟩;clear q;unfold Lf at H;simp at H;have ce:=aw E;clear E;have j:=(B.nil KH).add a (k:=13) (op:=0) (n:=0) (t:=⟨#[]⟩) (nm:=[]) (x2:=r) (s:=6) (c:=C+5) (pC (by decide) (by decide) (by decide) (qD (by first|decide|omega)) (by decide) zE (by rw[ce.out];omega) ag) (by omega) (by unfold Lf;omega);go_wp2_with fail;refine j.mono ?_;rintro b z ⟨A,rfl,i⟩;go_wp2_with fail;go_ret;exact i
 ·have e:=x.sub a bf.weak (by omega) (by simp;omega);go_wp2_with fail;refine e.mono ?_;rintro b y ⟨ar,v,rfl,u,a0,f,l⟩;clear e;unfold Lf at l;simp at l;have g:=f.sub a bf.weak;go_wp2_with fail;refine g.mono ?_;rintro b L ⟨bl,ad,rfl,I,bD,p,G⟩;clear g;unfold Lf at G;have F:=p.pick a (by omega) 2;go_wp2_with fail;refine F.mono ?_;rintro b b8 ⟨o,rfl,bh,af⟩;clear F;obtain⟨h,w⟩:∃h:Nat,1+o=(h:Int):=⟨(1+o).toNat,by omega⟩;have b4:=wq w (by omega);have b2:h<=3:=by omega
  clear w;have q:=af.names a h;go_wp2_with fail;refine q.mono ?_;rintro b bw ⟨bj,be,em,rfl,bo,br,B⟩;have bk:=dC bo br;clear q bo br;have j:=((B.newI [v,ad] (by simp) 2 rfl).swap).add a (k:=14) (op:=0) (n:=0) (t:=⟨#[]⟩) (x2:=r) (s:=6) (c:=C+5) (pC (by decide) (by decide) (by decide) (qD (by first|decide|omega)) (by rw[bk.out.1];omega) bk.2 (by simp) (pl2 u I)) (by omega) (by unfold Lf;omega);go_wp2_with fail;refine j.mono ?_;rintro b z ⟨A,rfl,i⟩;go_wp2_with fail;go_ret;exact i
 ·have e:=x.pick a (by omega) 2;go_wp2_with fail;refine e.mono ?_;rintro b y ⟨o,rfl,bh,f⟩;clear e;by_cases bs:o=0
  ·subst bs;have ct:=f.tail a bf;go_wp2_with fail;refine ct.mono ?_;rintro b L ⟨b9,rfl,cg,ch,ck,cl,cm,d9⟩;go_wp2_with fail;go_ret;exact⟨cg,ch,ck,cl,cm,by unfold Lf at *;omega⟩
  ·have d7:(o==0)=X:=by simpa using bs
   have g:=f.sub a an (by omega) (by simp;omega);go_wp2_with fail;refine g.mono ?_;rintro b L ⟨bl,ad,rfl,I,bD,p,G⟩;clear g;unfold Lf at G;simp at G;have j:=(p.newI [ad] (by simp) 1 rfl).kids a (k:=15) (x2:=r) (s:=6) (c:=C+5) (by omega) (by simp) (pl1 I) (by omega) (by unfold Lf;omega);go_wp2_with fail;refine j.mono ?_;rintro b z ⟨A,rfl,i⟩;go_wp2_with fail;go_ret;exact i
 ·have e:=x.sub a df (by omega) (by simp;omega);go_wp2_with fail;refine e.mono ?_;rintro b y ⟨ar,v,rfl,u,a0,f,l⟩;clear e;unfold Lf at l;simp at l;have j:=(f.newI [v] (by simp) 1 rfl).kids a (k:=16) (x2:=r) (s:=6) (c:=C+5) (by omega) (by simp) (pl1 u) (by omega) (by unfold Lf;omega);go_wp2_with fail;refine j.mono ?_;rintro b z ⟨A,rfl,i⟩;go_wp2_with fail;go_ret;exact i
theorem amB:AL 98 1 10 5 5:=amA (mb:=3) (me:=2) (cb:=2) (ce:=1) (by decide) (by decide) (by decide) (amz (me:=2) (ce:=1) (by decide) (by decide) (Ev (by decide))) (Ev (by decide))
theorem abG(a:d<=0):AL 107 d 16 1 7:=aiE (ms:=15) (cs:=6) (by decide) (by decide) (apg (C:=5) a (by decide) (by decide) (amB.weak.up (by decide) (by decide) (by decide) (by decide)))
theorem alD:∀(b:Nat)(d:Int),b<=1000->d<=0-> -1000+(b:Int)<=d->FBl 106 d (17+b) 4 (10+((b / 2:Nat):Int)) b:=by
 intro b
 induction b using Nat.strongRecOn with
 |_ b e=>
  intro d f a g;rcases aH b 2 with hb2|hb2
  ·refine I3 (me:=2) (mk:=16) (mr:=15) (ce:=1) (ck:=7) (cr:=0) (by omega) (by omega) (by omega) (Ev a) (abG (by omega)).weak (fun c=>by omega)
  refine I3 (me:=2) (mk:=16) (mr:=15+b) (ce:=1) (ck:=7) (cr:=9+((b / 2:Nat):Int)) (by omega) (by omega) (by omega) (Ev a) (abG (by omega)).weak (fun c=>?_);have:=e (b-2) (by omega) (d-1) (by omega) (by omega) (by omega);rw[show((b-2:Nat):Int)=(b:Int)-2 by omega,show(17:Int)+((b:Int)-2)=15+b by omega,show(10:Int)+(((b-2) / 2:Nat):Int)=9+((b / 2:Nat):Int) by omega]at this;exact this
theorem FBl.all{f:FuncId}{s:Int}(h:FBl f d m s c 140):AL f d m s c:=fun _ _ _ _ _ _ a=>h a (by have:=a.sum;omega)
structure Lv (d m Ce Ck Cr:Int):Prop where
 e:FB 103 d m 1 Ce
 k:AL 107 d m 1 Ck
 r:AL 106 d m 4 Cr
theorem lv0:Lv 0 160 1 7 80:=⟨(Ev (by decide)).up (by decide) (by decide) (by decide) (by decide),(abG (by decide)).up (by decide) (by decide) (by decide) (by decide),(FBl.all (alD 140 0 (by decide) (by decide) (by decide))).up (by decide) (by decide) (by decide) (by decide)⟩
theorem lvS{a b c cc cb:Int}(h:Lv d m a b c)(z:0<=d/\d<=10)(A:20<=m/\m<=1200)(w:1<=a/\1<=b/\1<=c:=by decide)(y:a+10<=cc/\b+1<=cc:=by decide)(x:cc+4<=cb/\b+3<=cb/\c+1<=cb/\cb<=3000:=by decide):FB 67 (d+1) (m+9) 6 (cb+5)/\Lv (d+1) (m+10) (cc+1) (cb+6) cb:=by
 have g:d+1-1=d:=by omega
 have f:FB 103 (d+1-1) m 1 a:=by rw[g];exact h.e
 have l:AL 107 (d+1-1) m 1 b:=by rw[g];exact h.k
 have s:AL 106 (d+1-1) m 4 c:=by rw[g];exact h.r
 have i:FB 151 (d+1-1) (m+1) 2 (a+1):=amz (by omega) (by omega) f;have o:AL 98 (d+1) (m+3) 5 (a+1+3):=amA (by omega) (by omega) (by omega) i f;have u:AL 154 (d+1) (m+1) 10 (a+10):=ao9 (by omega) (by omega) (by omega) f;have p:AL 104 (d+1) (m+1) 2 (b+1):=fnB (by omega) (by omega) (by omega) l.weak;have j:FB 103 (d+1) (m+5) 1 (cc+1):=apa (mc:=m+4) (cc:=cc) (by omega) (by omega) (by omega) f i (o.up (by omega) (by omega) (by omega) (by omega)) (u.up (by omega) (by omega) (by omega) (by omega)) (p.up (by omega) (by omega) (by omega) (by omega));have t:FB 105 (d+1) (m+2) 4 (a+1+3):=alA (by omega) (by omega) (by omega) i f;have n:AL 106 (d+1) (m+6) 4 cb:=FBl.all (I3 (me:=m+5) (mk:=m) (ce:=cc+1) (ck:=b) (mr:=m) (cr:=c) (by omega) (by omega) (by omega) j l.weak (fun _=>fun _ _ _ _ _ _ v _=>s v));have hS:FB 67 (d+1) (m+9) 6 (cb+5):=aq3 (mm:=m+7) (by omega) (by omega) (by omega) (j.up (by omega) (by omega) (by omega) (by omega)) (p.weak.up (by omega) (by omega) (by omega) (by omega)) (t.up (by omega) (by omega) (by omega) (by omega)) (o.weak.up (by omega) (by omega) (by omega) (by omega)) (amB.weak.up (by decide) (by omega) (by omega) (by omega)) (n.up (by omega) (by omega) (by omega) (by omega)) (l.up (by omega) (by omega) (by omega) (by omega));have q:AL 107 (d+1) (m+10) 1 (cb+5+1):=aiE (ms:=m+9) (cs:=cb+5) (by omega) (by omega) hS;exact⟨hS,j.up (by omega) (by omega) (by omega) (by omega),q.up (by omega) (by omega) (by omega) (by omega),n.up (by omega) (by omega) (by omega) (by omega)⟩
theorem aiK(g:1<=d/\d<=5):FB 67 d 220 6 130:=by
 have a:=lvS (cc:=11) (cb:=81) lv0 (by decide) (by decide) (by decide) (by decide) (by decide);have b:=lvS (cc:=88) (cb:=92) a.2 (by decide) (by decide) (by decide) (by decide) (by decide);have c:=lvS (cc:=99) (cb:=103) b.2 (by decide) (by decide) (by decide) (by decide) (by decide);have e:=lvS (cc:=110) (cb:=114) c.2 (by decide) (by decide) (by decide) (by decide) (by decide);have f:=lvS (cc:=121) (cb:=125) e.2 (by decide) (by decide) (by decide) (by decide) (by decide);rcases(show d=1\/d=2\/d=3\/d=4\/d=5 by omega) with rfl|rfl|rfl|rfl|rfl
 ·exact a.1.up (by decide) (by decide) (by decide) (by decide)
 ·exact b.1.up (by decide) (by decide) (by decide) (by decide)
 ·exact c.1.up (by decide) (by decide) (by decide) (by decide)
 ·exact e.1.up (by decide) (by decide) (by decide) (by decide)
 ·exact f.1.up (by decide) (by decide) (by decide) (by decide)
section
variable {E : Bs} {W W' : World} {y z : Int}
theorem Cu.start(h:Cu E W y)(o:y<=50)(l:Int)(r:Rwx)(g:TO r.t)(f:W.ownsRow E.base r.t 1 r.v r.xs.length r.xs):Bd ⟨E.base,E.cb,W.heap.size,E.a0,E.len,E.cap,50,0⟩ (W.alloc (V #[cV E,O Q 0 0,Ax Y l] 127)) [] l 0 [r]:=by
 have b:=bG W (V #[cV E,O Q 0 0,Ax Y l] 127);obtain⟨i,j,k,d,e,n,a⟩:=h.cur;exact⟨⟨h.lo.1,h.lo.2⟩,⟨h.hl,(by decide:(50:Int)<=100)⟩,h.code.below (b.mono h.lo.2),⟨i,j,k,d.below b h.lt,e,by simp;omega,a.1,a.2.1,a.1⟩,⟨_,ay W _,cE _ _ _ _⟩,fun m c=>(by cases c),fun m c=>by rw[List.mem_singleton.1 c];exact⟨g,bJ f b⟩,by simp[bR,bL];cases r.v.ownBlock<;>simp⟩
end
def TrP(b:Bs)(W:World)(e:Ending)(d:World):Prop:=
 ∃(g a c:Nat) (L:List Mb),e= .returned (.agg #[O (T ⟨g,0,Q⟩) a c])/\L.length=a/\a<=265/\Lw d b.base (O (T ⟨g,0,Q⟩) a c) L/\(∀y∈L,zI y.N)/\Cu {b with g:=bigs L} d 20000000/\Below b.base W d
theorem Cu.same{a b:Bs}{W:World}{y:Int}(h:Cu b W y)(e:b.base=a.base/\b.cb=a.cb/\b.a0=a.a0/\b.len=a.len/\b.cap=a.cap/\b.g=a.g):Cu a W y:=by
 obtain⟨d,f,i,c,o,p⟩:=e;obtain⟨j,k,l,q,r,s,m,n⟩:=h;rw[d,f]at j;rw[c]at k;rw[d,i,c]at l;rw[f,i,c,o]at m;rw[p]at n;exact⟨j,k,l,q,r,s,m,n⟩
theorem aiL{c:Bs}{wr f:World}{a:List Mb}{l:Int}{q h u:Nat}{b t:Option Addr}{ks:List Int}{J:Value}
  (F:Bd c wr a l 2 (⟨9,O Q 0 0,([]:List ByteArray).map Value.string⟩::⟨3,O b ks.length h,ks.map (A0 Y)⟩::[⟨34,O (T ⟨q,0,Q⟩) 1 1,[O Q 0 0]⟩]))
  (B:wr.heap[c.bb]?=T (V #[cV c,O t a.length u,Ax Y l] 127 (0,0))) (ak:zI (dN 1 0 0 ⟨#[]⟩ [] ks)) (a7:a.length<=25000)
  (w:f.ownsRow c.base 111 9 J (a.length+1) (oF a++(yK (dN 1 0 0 ⟨#[]⟩ [] ks) (O Q 0 0) (O b ks.length h)).toList))
  (an:(wr.alloc (V (yK (dN 1 0 0 ⟨#[]⟩ [] ks) (O Q 0 0) (O b ks.length h)) 111)).grownBy f (Value.slice t a.length u).ownBlock):
  ∃e d,J= O (T ⟨e,0,Q⟩) (a.length+1) d/\f.cell? ⟨c.bb,1,Q⟩=T (O t a.length u)/\f.frozen? ⟨c.bb,1,Q⟩=X/\f.cell? ⟨q,0,Q⟩=T (O Q 0 0)/\f.frozen? ⟨q,0,Q⟩=X/\q≠c.bb/\c.bb≠q/\
   Hid (∀k,k=(f.setCell ⟨c.bb,1,Q⟩ (O (T ⟨e,0,Q⟩) (a.length+1) d)).setCell ⟨q,0,Q⟩ (O (T ⟨e,0,Q⟩) (a.length+1) d)->
    Lw k c.base (O (T ⟨e,0,Q⟩) (a.length+1) d) (a++[⟨dN 1 0 0 ⟨#[]⟩ [] ks,O Q 0 0,O b ks.length h⟩])/\(∀y∈a++[(⟨dN 1 0 0 ⟨#[]⟩ [] ks,O Q 0 0,O b ks.length h⟩:Mb)],zI y.N)/\Cu {c with g:=bigs (a++[(⟨dN 1 0 0 ⟨#[]⟩ [] ks,O Q 0 0,O b ks.length h⟩:Mb)])} k 20000000/\Below c.base wr k/\k.heap[q]?=T (V #[O (T ⟨e,0,Q⟩) (a.length+1) d] 34 (0,0))):=by
 have n:=bG wr (V (yK (dN 1 0 0 ⟨#[]⟩ [] ks) (O Q 0 0) (O b ks.length h)) 111);have G:=F.below n;have ar:=(n.block _ (ai B)).trans B;rcases bq w with⟨a6,_⟩|⟨e,d,rfl⟩
 ·omega
 have af:oF a++(yK (dN 1 0 0 ⟨#[]⟩ [] ks) (O Q 0 0) (O b ks.length h)).toList=oF (a++[⟨dN 1 0 0 ⟨#[]⟩ [] ks,O Q 0 0,O b ks.length h⟩]):=by rw[C9];show _=oF a++(cMb _++[]);rw[eo];rfl
 rw[af]at w;obtain⟨I,K,s⟩:=Bd.push (N:=dN 1 0 0 ⟨#[]⟩ [] ks) G ar rfl w an ak (by rw[ahh (show(dN 1 0 0 ⟨#[]⟩ [] ks).x.size<=19 from aF _)];exact G.bg0);have ap:=(I.rows _ bB).2;obtain⟨j,o,am⟩:∃j,(f.setCell ⟨c.bb,1,Q⟩ (O (T ⟨e,0,Q⟩) (a.length+1) d)).heap[q]?=T (V j 34 (0,0))/\j=#[O Q 0 0]:=by
  rcases ap.2 with⟨m,_⟩|⟨g,a5,j,m,_,al,C,E,p,v⟩
  ·cases m
  ·cases m;refine⟨j,al,?_⟩;have:j.toList=[O Q 0 0]:=by
    have ag:j.toList.take (1*1)=[O Q 0 0]:=v;rw[<-ag,dj];rw[eK,p];exact ae _
   exact Array.toList_inj.1 this
 subst am;have r:q≠c.bb:=fun m=>by
  rw[m,aL _ c.bb 1 _ _ _ s]at o;simp only[eA,jw]at o;exact absurd o.2.1 (by decide)
 have H:f.heap[q]?=T (V #[O Q 0 0] 34 (0,0)):=(aC _ _ _ _ r).symm.trans o;refine⟨e,d,rfl,by rw[au _ _ _ _ _ _ s];rfl,bI _ _ _ _ _ s,by rw[au _ _ _ _ _ _ H];rfl,bI _ _ _ _ _ H,r,r.symm,?_⟩;rintro k rfl;obtain⟨i,L⟩:=I.hot (r':=⟨34,O Q 0 0,[]⟩) (xl (pj _ q) 0 (O (T ⟨e,0,Q⟩) (a.length+1) d)) (by show TO 34;decide) (cE _ _ _ _) (fun b n=>by cases n);have ao:=aL (f.setCell ⟨c.bb,1,Q⟩ (O (T ⟨e,0,Q⟩) (a.length+1) d)) q 0 _ _ (O (T ⟨e,0,Q⟩) (a.length+1) d) o;obtain⟨a4,A,a2⟩:=i.row;have ad:a4= O (T ⟨e,0,Q⟩) (a.length+1) d:=by
  rw[aC _ _ _ _ r.symm,aL _ c.bb 1 _ _ _ s]at A;simp at A;exact A.symm
 subst ad;obtain⟨a0,a1,a3,C,E,p,v⟩:=i.cur;refine⟨⟨by simpa using a2,fun y z=>(i.each y z).1⟩,fun y z=>(i.each y z).2,⟨⟨i.lo.1,i.lt.2.2.1⟩,i.hl.1,i.code,a0,a1,a3,C,E,?_,v⟩,((n.mono F.lt.2.2.1).trans K).trans L,ao⟩;have:=i.hl.2;rw[aB]at p;simp at p;omega
theorem aq4{a:Bs}{W:World}{y:Int}(h:Cu a W y)(cF:y<=10):Calls Z 29 #[cV a] W (TrP a W):=by
 have b5:=h.lt;have H:=aw fun (cf:Obj)=>jK (h.below (bG W cf) b5) 120 (by decide) (by decide);go_in;go_wp2_with fail;refine(H _).mono ?_;rintro t w1 ⟨c,rfl,a2,n,I,K⟩;have ar:=I.blk (ay W _) (by decide);have al:Below a.base W w1:=((bG W _).mono h.lo.2).trans K;have ap:w1.ownsRow a.base 34 1 (.slice (T ⟨W.heap.size,0,Q⟩) 1 1) 1 [.slice Q 0 0]:=⟨rfl,.inr ⟨W.heap.size,1,#[.slice Q 0 0],rfl,h.lo.2,ar,ae _,by unfold maxLen;omega,rfl,rfl⟩⟩;have q:=n.start (by omega) (20+c) ⟨34,.slice (T ⟨W.heap.size,0,Q⟩) 1 1,[.slice Q 0 0]⟩ (by show TO 34;decide) ap;have cB:IntKind.i64.wrap (20+c)=20+c:=by rw[di];omega
 have b6:=n.lt;have G:=aw al;clear H I ar K al ap;go_wp2_with fail;obtain⟨ch,w⟩:=aA (w1.alloc (.cells #[cV a,.slice Q 0 0,.int .i64 (20+c)] 127));have x:=bG w1 (.cells #[cV a,.slice Q 0 0,.int .i64 (20+c)] 127);obtain⟨b,hF⟩:=aA (⟨a.base,a.cb,w1.heap.size,a.a0,a.len,a.cap,50,0⟩:Bs);have o:b.base=a.base/\b.cb=a.cb/\w1.heap.size=b.bb/\b.a0=a.a0/\b.len=a.len/\b.cap=a.cap:=by rw[<-hF];exact⟨rfl,rfl,rfl,rfl,rfl,rfl⟩
 have ag:cV a=cV b:=by show Value.pointer _=Value.pointer _;rw[o.2.1]
 rw[hF,w]at q;rw[w]at x⊢;have l:=dC (G.out.trans (x.mono n.lo.2)) o;rw[o.2.2.1,ag];clear w x hF b6 ag G n o;have a4:=ru q 5 (by decide) (by decide) (by decide) (by decide);refine a4.mono ?_;rintro t c4 ⟨s,cl,cm,rfl,E,_,L⟩;have a7:=ru E 8 (by decide) (by decide) (by decide) (by decide);have cz:IntKind.i64.wrap (1+s)=1+s:=by rw[di];omega
 have bh:=aw (l.1.trans (by rw[<-l.out.2.1];exact L));clear a4 L q E;go_wp2_with fail;refine a7.mono ?_;rintro t C ⟨a9,ce,cI,rfl,F,_,ad⟩;obtain⟨a9,rfl⟩:=gl ce;have bj:=aw (bh.out.trans (by rw[<-l.out.2.1];exact ad));have B:uu b C [] (20+c) 2 [⟨34,.slice (T ⟨W.heap.size,0,Q⟩) 1 1,[.slice Q 0 0]⟩] 221:=⟨F.wide (by decide),by simp;omega,by omega,by decide,by decide⟩;have hS:=aiK (d:=1+s) (by omega);clear a7 ad F;go_wp2_with fail;go_loopw [5,6] (fun be A wr=>∃(e:Nat) (g:List Mb) (f:List Int),A= .int .i64 e/\f.length+e<=7/\Pl f/\At b C [] (20+c) 2 wr g 2 (⟨3,be,f.map (A0 .i64)⟩::[⟨34,.slice (T ⟨W.heap.size,0,Q⟩) 1 1,[.slice Q 0 0]⟩])/\ -125<=20+c-g.length) (fun _ A _=>(intOf A).toNat)
 case atStart=>exact⟨a9,[],[],rfl,by simp;omega,(fun c a2=>by cases a2),B.at.nil toI,by simp;omega⟩
 case round=>
  obtain⟨e,g,f,rfl,z,p,i,cs⟩:=hrel;have bt:=i.c2;have ct:e<=7:=by omega
  by_cases am:0<e/\5<20+c-g.length
  ·have bE:(0:Int)<(e:Int):=by omega
   have b2:=am.2;have a8:=i.sub B hS (by decide) (by omega) (by decide);have r:=dC z p;clear z p;go_wp2_with fail;refine a8.mono ?_;rintro t cg ⟨bl,bf,rfl,a3,cr,bn,ak⟩;unfold Lf at ak;clear a8 bt;go_wp2_with (at_builtin;refine bn.app bf rfl (by have:=r.1;omega) rfl _ _ rfl rfl rfl ?_;intro J af c6 bo);go_roundw
   case rel=>exact⟨e-1,bl,f++[bf],by go_num,by have:=r.1;simp;omega,r.2.add a3.1 a3.2,bo,by omega⟩
   case measure=>simp[intOf];omega
  ·obtain⟨br,bs,rfl⟩:=i.formI;have cu:=i.len B;have k:=(i.nil KH).bd;rw[ep]at k;obtain⟨be,u,v⟩:=k.row;obtain⟨J,af,rfl⟩:=cj v;have ck:wr.cell? ⟨b.bb,1,Q⟩=T (.slice J g.length af):=by rw[au _ _ _ _ _ _ u];rfl
   have bA:zI (dN 1 0 0 ⟨#[]⟩ [] f):=pC (by decide) (by decide) (by decide) (qD (by first|decide|omega)) (by decide) zE (by omega) p;have cw:=k.lt;have m:=CB k u v i.bel;obtain⟨b7,b8,b9,ca,cc⟩:=dD Hg;clear p z k u v;by_cases bE:0<e;all_goals
    first
    |(have b0:(0:Int)<(e:Int):=by omega
      have b2:¬5<20+c-g.length:=by omega)
    |(have b0:¬(0:Int)<(e:Int):=by omega)
    clear am;go_wp2_with (at_builtin;refine wpList_append_own_at _ rfl _ _ 32 rfl b.base 111 b7 _ 9 112 Tryz.underlying32 b8 b9 ca cc rfl (by decide) _ _ _ rfl (bJ m.2.2.1 (bG wr _)) ⟨wr.heap.size,0,Q⟩ 1 1 (yK (dN 1 0 0 ⟨#[]⟩ [] f) (.slice Q 0 0) (.slice br f.length bs)).toList rfl rfl (World.news_of_block (ay wr _)) (by intro c0 a1;simp at a1;rcases a1 with rfl|rfl|rfl|rfl|rfl|rfl|rfl|rfl|rfl<;>rfl) (by unfold maxLen;omega) (by omega) (by simp;omega) ?_;intro c3 cg ao an _ bD;obtain⟨bx,bw,rfl,cn,ak,cp,cq,cx,cy,bk⟩:=aiL m.1 m.2.1 bA (by omega) ao an;clear ao an bD);have hF:=bk.out _ rfl;have j:=l.2;rw[j.1]at hF;exact aI (gi rfl _ _ W.heap.size _ _ _ _ rfl hF.2.2.2.2 Tryz.underlying34 rfl (by kernel_rfl)) rfl ⟨bx,g.length+1,bw,_,rfl,by simp,by omega,hF.1,hF.2.1,hF.2.2.1.same ⟨rfl,j.2.1,j.2.2.2.1,j.2.2.2.2.1,j.2.2.2.2.2,rfl⟩,bj.out.trans ((by rw[<-j.1];exact m.2.2.2:Below a.base C wr).trans hF.2.2.2.1)⟩
section
variable {ns : List Nd} {E : Int → ByteArray} {S : Int → Nat → ByteArray} {i tab q : Nat}
theorem alE(h:CzE ns E S i tab)(d:Wzd ns)(e:i<ns.length)(u:(nodeI ns i).k=7)
  (s:∀(z:Nat)(w:ByteArray),z<i->(nodeI ns z).k=7->CE w 36->CE (Br z w) (wN ns z-14)) (n:ByteArray) (y:CE n 36):CE (D2 ns E S Br (nodeI ns i) n tab) (wN ns i-14):=by
 have v:=(ma (d.nb i e)).1;have l:=fun A t=>ij (d.nb i e) e A t;have I:=Ep (nodeI ns i);obtain⟨C,F,G,H,r⟩:=ah9 v u;obtain⟨o,b⟩:=l 0 (by omega);obtain⟨B,a⟩:=l 1 (by omega);have p:=h.e o b.lt;have q:=h.blk d (eE a.lt) a.len;unfold D2;rw[b.id,a.id,d.at_ i e];have j:=((y.app p).app (bF (x:=⟨#[32]⟩) 2 (by decide))).app q;rcases aH (nodeI ns i).ks.length 3 with g|g
 ·rw[ab g,AI (by omega),b.id,a.id];exact(j.app rI).le (by omega)
 ·rw[aa (by omega),aik (by omega),b.id,a.id];obtain⟨m,c⟩:=l 2 (by omega);rw[c.id]at r⊢;by_cases f:(nodeI ns m).k=7
  ·rw[ab f];have:=s m ⟨#[32,101,108,105,102,32]⟩ c.lt f (bF 36);exact(j.app this).le (by omega)
  ·rw[aa f];have:=h.blk d (eE c.lt) c.len;exact(j.app ((bF (x:=⟨#[32,101,108,115,101,32]⟩) 36 (by decide)).app this)).le (by omega)
theorem aph(h:CzE ns E S i tab)(d:Wzd ns)(am:∀N∈ns,zI N)(b:i<ns.length)
  (ap:(nodeI ns i).k=7->CE (Br (-1) ⟨#[105,102,32]⟩) (wN ns i-14)):CE (prS ns E S Br (nodeI ns i) tab) (wN ns i-14):=by
 have p:=(ma (d.nb i b)).1;have o:=fun a0 ar=>ij (d.nb i b) b a0 ar;have a2:=Ep (nodeI ns i);have G:=abr am b;have nm0:=aoC G;have u:=aij G.nm G.s;have a1:=adj d b;have an:=fun (q:List Int) (r:∀l∈q,l∈(nodeI ns i).ks)=>IJ ns E 18 (by decide) q (fun l j=>(h.kid d (ae _) b l (r l j)).1.le (by omega));have v:∀(q:List Int),(∀l∈q,l∈(nodeI ns i).ks)->CE (ft (q.map E)) (wK ns q):=fun q r=>(an q r).le (by split<;>omega);unfold prS;by_cases I:(nodeI ns i).k=1
 ·rw[ab I];exact(h.blk d (ae _) b).le (by omega)
 rw[aa I];by_cases af:(nodeI ns i).k=2
 ·rw[ab af,d.at_ i b];split
  ·rename_i e;rw[e];exact(((bF (x:=⟨#[108,101,116,32]⟩) 26 (by decide)).app u).app rI).le (by simp[wK];omega)
  ·rename_i e;have:=an (nodeI ns i).ks (fun l j=>j);rw[aa e]at this;have r:1<=(nodeI ns i).ks.length:=List.length_pos_iff.2 e;exact(((bF (x:=⟨#[108,101,116,32]⟩) 26 (by decide)).app u).app ((bF (x:=⟨#[32,61,32]⟩) 16 (by decide)).app this)).le (by omega)
 rw[aa af];by_cases z:(nodeI ns i).k=3
 ·rw[ab z,d.at_ i b];obtain⟨c,m,t⟩:=Ej p z;obtain⟨f,a⟩:=o 0 (by omega);rw[rJ c,a.id];exact((((bF (x:=⟨#[99,111,110,115,116,32]⟩) 46 (by decide)).app nm0).app (bF (x:=⟨#[32,61,32]⟩) 16 (by decide))).app (h.e f a.lt)).le (by omega)
 rw[aa z];by_cases A:(nodeI ns i).k=4
 ·rw[ab A,d.at_ i b];obtain⟨c,m,t⟩:=abm p A;obtain⟨f,a⟩:=o 0 (by omega);rw[rJ c];rw[a.id]at m⊢;exact(((bF (x:=⟨#[102,110,32]⟩) 22 (by decide)).app nm0).app (h.bod d am (eE a.lt) a.len m)).le (by omega)
 rw[aa A];by_cases ag:(nodeI ns i).k=5
 ·rw[ab ag,d.at_ i b];have ao:wK ns (nodeI ns i).ks=wK ns ((nodeI ns i).ks.take (nodeI ns i).n.toNat)+wK ns ((nodeI ns i).ks.drop (nodeI ns i).n.toNat):=by rw[<-AH,vD]
  rw[ao];exact(((v ((nodeI ns i).ks.take (nodeI ns i).n.toNat) (fun l j=>vI j)).app (bF (x:=⟨#[32,61,32]⟩) 16 (by decide))).app (v ((nodeI ns i).ks.drop (nodeI ns i).n.toNat) (fun l j=>List.mem_of_mem_drop j))).le (by omega)
 rw[aa ag];by_cases ak:(nodeI ns i).k=6
 ·rw[ab ak,d.at_ i b];obtain⟨c,m⟩:=Gi p (by omega);obtain⟨f,a⟩:=o 0 (by omega);rw[rJ c,a.id];exact(h.e f a.lt).le (by omega)
 rw[aa ak];by_cases B:(nodeI ns i).k=7
 ·rw[ab B];exact ap B
 rw[aa B];by_cases C:(nodeI ns i).k=8
 ·rw[ab C,d.at_ i b];obtain⟨c,m,t⟩:=Ek p C;obtain⟨f,a⟩:=o 0 (by omega);obtain⟨H,g⟩:=o 1 (by omega);rw[AI c,a.id,g.id];exact((((bF (x:=⟨#[119,104,105,108,101,32]⟩) 42 (by decide)).app (h.e f a.lt)).app (bF (x:=⟨#[32]⟩) 2 (by decide))).app (h.blk d (eE g.lt) g.len)).le (by omega)
 rw[aa C];by_cases F:(nodeI ns i).k=9\/(nodeI ns i).k=10
 ·rw[ab F,d.at_ i b];have r:0<(nodeI ns i).ks.length:=by
   rcases F with e|e
   ·obtain⟨c,m,t,al⟩:=abn p e;omega
   ·obtain⟨c,m,t,al⟩:=IH p e;omega
  obtain⟨H,g⟩:=o ((nodeI ns i).ks.length-1) (by omega);rw[alh r,g.id];have av:CE (if(nodeI ns i).k=9 then(⟨#[32,61,32]⟩:ByteArray) else⟨#[32,105,110,32]⟩) 24:=by
   split
   ·exact bF 24
   ·exact bF 24
  exact((((((bF (x:=⟨#[102,111,114,32]⟩) 26 (by decide)).app u).app av).app (v ((nodeI ns i).ks.take ((nodeI ns i).ks.length-1)) (fun l j=>vI j))).app (bF (x:=⟨#[32]⟩) 2 (by decide))).app (h.blk d (eE g.lt) g.len)).le (by omega)
 rw[aa F];by_cases J:(nodeI ns i).k=11
 ·rw[ab J];exact(bF 60).le (by omega)
 rw[aa J];by_cases K:(nodeI ns i).k=12
 ·rw[ab K];exact(bF 60).le (by omega)
 rw[aa K];by_cases L:(nodeI ns i).k=13
 ·rw[ab L,d.at_ i b];split
  ·rename_i e;rw[e];exact((bF (x:=⟨#[114,101,116,117,114,110]⟩) 52 (by decide)).app rI).le (by simp[wK];omega)
  ·exact((bF (x:=⟨#[114,101,116,117,114,110]⟩) 52 (by decide)).app ((bF (x:=⟨#[32]⟩) 2 (by decide)).app (v _ (fun l j=>j)))).le (by omega)
 rw[aa L];by_cases w:(nodeI ns i).k=14
 ·rw[ab w,d.at_ i b];obtain⟨c,m,t,al⟩:=abo p w;obtain⟨f,a⟩:=o 0 (by omega);obtain⟨H,g⟩:=o 1 (by omega);rw[AI c,a.id,g.id];exact((((((bF (x:=⟨#[116,114,121,32]⟩) 26 (by decide)).app (h.blk d (eE a.lt) a.len)).app (bF (x:=⟨#[32,99,97,116,99,104,32]⟩) 50 (by decide))).app u).app (bF (x:=⟨#[32]⟩) 2 (by decide))).app (h.blk d (eE g.lt) g.len)).le (by omega)
 rw[aa w];by_cases y:(nodeI ns i).k=15
 ·rw[ab y,d.at_ i b];obtain⟨c,m⟩:=El p y;obtain⟨f,a⟩:=o 0 (by omega);rw[rJ c,a.id];exact((bF (x:=⟨#[116,104,114,111,119,32]⟩) 42 (by decide)).app (h.e f a.lt)).le (by omega)
 rw[aa y];by_cases ad:(nodeI ns i).k=16
 ·rw[ab ad,d.at_ i b];obtain⟨c,m⟩:=Gi p (by omega);obtain⟨f,a⟩:=o 0 (by omega);rw[rJ c,a.id];exact((bF (x:=⟨#[100,101,102,101,114,32]⟩) 42 (by decide)).app (h.e f a.lt)).le (by omega)
 rw[aa ad];exact rI.le (by omega)
end
theorem amC{ns:List Nd}(d:Wzd ns)(j:∀N∈ns,zI N):∀(f i tab:Nat),i<ns.length->
  CE (AB ns f i tab) (wN ns i-32)/\CE (uk ns f i tab) (wN ns i-14)/\((nodeI ns i).k=7->∀w:ByteArray,CE w 36->CE (zm ns f i w tab) (wN ns i-14))
 |0,i,tab,e=>by
  have:=adj d e;refine⟨?_,?_,fun _ w _=>?_⟩;all_goals (first|rw[AB]|rw[uk]|rw[zm])
  all_goals exact rI.le (by omega)
 |f+1,i,tab,e=>by
  have l:=fun (a h:Nat) (c:a<i)=>amC d j f a h (by omega);have m:CzE ns (fun k=>AB ns f k tab) (fun k h=>uk ns f k h) i tab:=⟨fun a c=>(l a tab c).1,fun a c=>(l a (tab+1) c).2.1⟩;have n:(nodeI ns i).k=7->∀w:ByteArray,CE w 36->CE (D2 ns (fun k=>AB ns f k tab) (fun k h=>uk ns f k h) (fun k w=>zm ns f k w tab) (nodeI ns i) w tab) (wN ns i-14):=fun b w g=>
   alE m d e b (fun a w c b g=>(l a tab c).2.2 b w g) w g
  refine⟨?_,?_,?_⟩
  ·rw[AB];exact aoF m d j e
  ·rw[uk];exact aph m d j e (fun b=>n b _ (bF 36))
  ·intro b w g;rw[zm];exact n b w g
theorem ai0{ns:List Nd}(h:(dL ns).1=0)(n:∀N∈ns,zI N):CE (nE ns) (Wp ns ns.length):=by
 have a:=aoy h;have u:=a.len;have g:((ns.length:Int)-1)=((ns.length-1:Nat):Int):=by omega
 have p:=a.root;rw[g,a.at_ (ns.length-1) (by omega)]at p;have v:=Ep (nodeI ns ((ns.length-1:Nat):Int));unfold nE;rw[g];have s:∀c:List Int,(∀d∈c,d∈(nodeI ns ((ns.length-1:Nat):Int)).ks)->CE (jc (c.map fun b=>uk ns ns.length b 0++⟨#[10]⟩)) (wK ns c):=by
  intro c
  induction c using ua with
  |h0=>intro _;exact⟨0,Dw,by simp[wK]⟩
  |h1 f x q=>
   intro i;have l:jc ((f++[x]).map fun b=>uk ns ns.length b 0++⟨#[10]⟩)=jc (f.map fun b=>uk ns ns.length b 0++⟨#[10]⟩)++(uk ns ns.length x 0++⟨#[10]⟩):=by
    unfold jc;rw[eB,List.foldl_append];rfl
   obtain⟨r,o,m⟩:=oz (i x (by simp));obtain⟨t,k⟩:=ij (a.nb _ (by omega)) (by omega) r o;have j:=(amC a n ns.length t 0 k.len).2.1;rw[<-k.id,m]at j;rw[l,AH];exact((q fun d e=>i d (List.mem_append.2 (.inl e))).app (j.app (bF (x:=⟨#[10]⟩) 12 (by decide)))).le (by simp only[wK];omega)
 exact(s _ (fun d e=>e)).le (by omega)
