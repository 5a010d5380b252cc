import Derived.Test.YthjpdjibdnecoaaGreatDoorHQk08
import Derived.Test.YthjpdjibdnecoaaGreatDoorHQk03
set_option linter.all false
set_option maxRecDepth 100000
set_option maxHeartbeats 3200000
open Bool renaming false->M,true->Z
open Go.Ending renaming returned->O
open Go.Value renaming bool->Q,int->T,string->X,slice->Ax
open Go.Proofs.Tryz renaming prog->S
open Go.IntKind renaming i64->U
open Go renaming Calls->V,World->W,Value->A1
open Go.RowKit renaming Below->Y,Hid->A0,intOf->A2
namespace Go.Proofs.YthjpdjibdnecoaaGreatDoor
open Go.RowKit
def oB(k:Int):Bool:=decide (20<=k/\k<=37)
def pE(k:Int):Bool:=decide (1<=k/\k<=16)
def By(k:Int):Bool:=decide (k=26\/k=32\/k=33)
theorem JH(k:Int)(w:W):V S 161 #[T U k] w fun e c=>e= O (Q (oB k))/\c=w:=by
 unfold oB;rcases(show(20<=k/\k<=37)\/(20<=k/\¬k<=37)\/¬20<=k by omega) with⟨h1,b⟩|⟨h1,b⟩|h1
 ·rw[bC ⟨h1,b⟩];go_in;go_wp2;go_ret;exact⟨rfl,rfl⟩
 ·rw[aB (fun a=>b a.2)];go_in;go_wp2;go_ret;exact⟨rfl,rfl⟩
 ·rw[aB (fun a=>h1 a.1)];go_in;go_wp2;go_ret;exact⟨rfl,rfl⟩
theorem Bz(k:Int)(w:W):V S 65 #[T U k] w fun e c=>e= O (Q (pE k))/\c=w:=by
 unfold pE;rcases(show(1<=k/\k<=16)\/(1<=k/\¬k<=16)\/¬1<=k by omega) with⟨h1,b⟩|⟨h1,b⟩|h1
 ·rw[bC ⟨h1,b⟩];go_in;go_wp2;go_ret;exact⟨rfl,rfl⟩
 ·rw[aB (fun a=>b a.2)];go_in;go_wp2;go_ret;exact⟨rfl,rfl⟩
 ·rw[aB (fun a=>h1 a.1)];go_in;go_wp2;go_ret;exact⟨rfl,rfl⟩
theorem EI(k:Int)(w:W):V S 117 #[T U k] w fun e d=>e= O (Q (By k))/\d=w:=by
 unfold By;by_cases a:k=26
 ·subst a;go_in;go_wp2;go_ret;exact⟨rfl,rfl⟩
 have f:(k==26)=M:=by rw[aK];exact a
 by_cases b:k=32
 ·subst b;go_in;go_wp2;go_ret;exact⟨rfl,rfl⟩
 have g:(k==32)=M:=by rw[aK];exact b
 by_cases c:k=33
 ·subst c;go_in;go_wp2;go_ret;exact⟨rfl,rfl⟩
 have h:(k==33)=M:=by rw[aK];exact c
 rw[aB (by omega)];go_in;go_wp2;go_ret;exact⟨rfl,rfl⟩
theorem abe(w:W)(o:A1)(ns:List Nd)(N c:Nd)(vn vk:A1)(i:Nat)(z:Nat)(f:fx w o ns)(n:cH w vn N.nm)(d:eo w vk N.ks)(b:N.ks[i]?=some (z:Int))(a:ns[z]?=some c)(s:ns.length<=1048576)(t:N.ks.length<=1048576):
  V S 113 #[.agg #[o],eC N vn vk,T U i] w fun e y=>e= O (T U c.k)/\Y w.heap.size w y:=by
 have r:∀g j,Y w.heap.size w ((w.alloc g).alloc j):=fun g j=>((ag _ w).alloc (ae _) g).alloc (by simp) j;obtain⟨C,G,rfl⟩:=f.form;obtain⟨E,H,rfl⟩:=n.form;obtain⟨F,I,rfl⟩:=d.form;obtain⟨a5,rfl,a8,a7,m⟩:=f.get a;obtain⟨a6,rfl,q⟩:=d.get b;have v:z<ns.length:=by rcases co z ns.length with h|h;exact h;rw[jL h]at a;cases a
 have u:i<N.ks.length:=by rcases co i N.ks.length with h|h;exact h;rw[jL h]at b;cases b
 have l:=m.c0;have af:=Ba q;have ak:=Ba l;unfold eC;generalize ns.length=x at s v;generalize N.ks.length=p at t u;generalize N.nm.length=A;generalize c.k=B at l;have ad:(z:Int)<(x:Int):=by omega
 have K:(i:Int)<(p:Int):=by omega
 have L:(0:Int)<=(z:Int):=by omega
 have J:(0:Int)<=(i:Int):=by omega
 clear f n d b a m;obtain⟨am,al,a0,ao,av,ap,a4,ar,an⟩:=N;simp only;go_in;go_wp2_with fail;go_quiet (fail)
 go_wp2_with fail;go_ret;exact⟨rfl,my (r _ _) _⟩
def dH(ns:List Nd)(N:Nd)(j:Nat):Int:=(ns.getD ((N.ks.getD j 0).toNat) zNd).k
def jk(ns:List Nd)(N:Nd):Nat->Nat->Bool
 |0,_=>Z
 |f+1,j=>oB (dH ns N j)&&jk ns N f (j+1)
structure aiH (ns:List Nd) (N:Nd) (f j:Nat) (R:Bool):Prop where
 out:jk ns N f j=R
structure yq (ns:List Nd) (N:Nd):Prop where
 ok:∀z∈N.ks,0<=z/\z<(ns.length:Int)
theorem yq.get{ns:List Nd}{N:Nd}(h:yq ns N){j:Nat}(d:j<N.ks.length):∃(z:Nat) (b:Nd),N.ks[j]?=some (z:Int)/\ns[z]?=some b/\dH ns N j=b.k/\z<ns.length:=by
 have c:N.ks[j]?=some N.ks[j]:=bJ d;obtain⟨f,g⟩:=h.ok N.ks[j] (Aw d);obtain⟨z,e⟩:∃z:Nat,N.ks[j]=(z:Int):=⟨N.ks[j].toNat,by omega⟩;have a:z<ns.length:=by omega
 refine⟨z,ns[z],by rw[c,e],bJ a,?_,a⟩;unfold dH;rw[cp,cp,c,e];simp[a]
theorem db(w:W)(ap:A1)(ns:List Nd)(N:Nd)(vn vk:A1)(i k:Nat)(C:fx w ap ns)(b:cH w vn N.nm)(B:eo w vk N.ks)(a8:yq ns N)(bh:k<=N.ks.length)(a9:ns.length<=1048576)(bb:N.ks.length<=1048576):
  V S 116 #[.agg #[ap],eC N vn vk,T U i,T U k] w fun e bl=>e= O (Q (jk ns N (k-i) i))/\Y w.heap.size w bl:=by
 obtain⟨r,A⟩:=ay (jk ns N (k-i) i);rw[A];have av:aiH ns N (k-i) i r:=⟨A⟩;clear A;have ao:∀E F,Y w.heap.size w ((w.alloc E).alloc F):=fun E F=>((ag _ w).alloc (ae _) E).alloc (by simp) F;have m:=gK C B;obtain⟨s,v,rfl⟩:=C.form;obtain⟨L,ad,rfl⟩:=b.form;obtain⟨u,y,rfl⟩:=B.form;clear C b B;unfold eC;obtain⟨q,b⟩:=ay ns.length;obtain⟨n,z⟩:=ay N.ks.length;have I:=gK b z;rw[b]at m a9⊢;rw[z]at m bb bh⊢;clear b z;generalize N.nm.length=J;go_in;go_wp2_with fail;obtain⟨d,g⟩:=ay ((w.alloc (.cells #[Ax s q v] 26)).alloc (.cells #[T U N.k,T U N.f,T U N.t,T U N.l,T U N.op,T U N.n,X N.x,Ax L J ad,Ax u n y] 53));have a0:d.cell? ⟨w.heap.size,0,none⟩=some (Ax s q v):=by
  rw[<-g,aq _ _ _ _ _ _ ((bm _ _ _ (by simp)).trans (aj w _))];rfl
 have a4:d.cell? ⟨w.heap.size+1,8,none⟩=some (Ax u n y):=by
  have:=aj (w.alloc (.cells #[Ax s q v] 26)) (.cells #[T U N.k,T U N.f,T U N.t,T U N.l,T U N.op,T U N.n,X N.x,Ax L J ad,Ax u n y] 53);rw[aF]at this;rw[<-g,aq _ _ _ _ _ _ this];rfl
 have an:Y w.heap.size w d:=by rw[<-g];exact ao _ _
 rw[g];clear g ao;go_loopw [9] (fun G wr=>∃(j:Nat),G= T U j/\i<=j/\(i<=k->j<=k)/\aiH ns N (k-j) j r/\Y d.heap.size d wr) (fun G _=>k-(A2 G).toNat)
 case atStart=>exact⟨i,rfl,ae _,fun a7=>a7,av,ag _ _⟩
 case round=>
  obtain⟨j,rfl,bs,bw,H,o⟩:=hrel;have p:=an.trans (o.mono an.size);by_cases bA:j<k
  ·obtain⟨ar,K,af,ak,al,a5⟩:=a8.get (j:=j) (by rw[I.out.2];omega);rw[I.out.1]at a5;obtain⟨b0,rfl,b3,b2,am⟩:=(m.out.1.below p).get ak;obtain⟨b1,rfl,br⟩:=(m.out.2.below p).get af;have bn:=ai o a0;have bo:=ai o a4;have a6:=am.c0;have a:=H.out;rw[show k-j=(k-(j+1))+1 by omega,jk,al]at a;have bd:(j:Int)<(k:Int):=by omega
   have bx:(j:Int)<(n:Int):=by omega
   have bE:(ar:Int)<(q:Int):=by omega
   have bD:(0:Int)<=(ar:Int):=by omega
   have bt:(0:Int)<=(j:Int):=by omega
   have h:=fun w=>JH K.k w;generalize K.k=bk at a6 a h;clear af ak al am;cases hx:oB bk with
   |true=>
    rw[hx,eG]at a;rw[hx]at h;have c:aiH ns N (k-(j+1)) (j+1) r:=⟨a⟩;clear a hx;go_wp2_with fail;go_quiet ((go_at_call 161;exact Calls.quiet_of_same (h _)))
    go_wp2_with fail;exact⟨⟨j+1,by go_num,by omega,fun _=>by omega,c,my o _⟩,by simp[A2];omega⟩
   |false=>
    rw[hx,dJ]at a;rw[hx]at h;have c:=aw a;clear a hx;go_wp2_with fail;go_quiet ((go_at_call 161;exact Calls.quiet_of_same (h _)))
    go_wp2_with fail;go_ret;exact⟨by rw[<-c.out];rfl,my p _⟩
  ·have a:=H.out;rw[show k-j=0 by omega,jk]at a;have c:=aw a;have bd:¬(j:Int)<(k:Int):=by omega
   clear a;go_wp2_with fail;go_ret;exact⟨by rw[<-c.out];rfl,p⟩
open Go.Maps Go.WideMaps
def vG(l:List ByteArray):Nat->Nat->Bool
 |0,_=>Z
 |f+1,j=>oz (l.getD j ByteArray.empty)&&vG l f (j+1)
structure Dz (l:List ByteArray) (f j:Nat) (R:Bool):Prop where
 out:vG l f j=R
def fh(N:Nd)(a b:Int):Bool:=decide (a<=(N.nm.length:Int)/\(N.nm.length:Int)<=b)&&vG N.nm N.nm.length 0
theorem iK(w:W)(N:Nd)(vn vk:A1)(q r:Int)(B:cH w vn N.nm)(L:eo w vk N.ks)(am:N.nm.length<=1048576)(ad:∀s∈N.nm,s.size<=1048576):
  V S 115 #[eC N vn vk,T U q,T U r] w fun e ao=>e= O (Q (fh N q r))/\Y w.heap.size w ao:=by
 have j:∀C,Y w.heap.size w (w.alloc C):=fun C=>(ag _ w).alloc (ae _) C;have u:=gK B ad;obtain⟨H,J,rfl⟩:=B.form;obtain⟨I,K,rfl⟩:=L.form;clear B L ad;obtain⟨i,c⟩:=ay (fh N q r);rw[c];unfold fh at c;unfold eC;obtain⟨a,y⟩:=ay N.nm.length;have ak:=aw y;rw[y]at u am c⊢;clear y;generalize N.ks.length=F;by_cases ar:(a:Int)<q
 ·have g:A0 (M=i):=by rw[aB (by omega)]at c;exact c
  clear c;go_in;go_wp2;go_ret;exact⟨by rw[<-g.out];rfl,j _⟩
 by_cases av:r<(a:Int)
 ·have g:A0 (M=i):=by rw[aB (by omega)]at c;exact c
  clear c;go_in;go_wp2;go_ret;exact⟨by rw[<-g.out];rfl,j _⟩
 have g:Dz N.nm a 0 i:=⟨by rw[bC (by omega)]at c;simpa using c⟩;clear c;go_in;go_wp2_with fail;have v:=j (.cells #[T U N.k,T U N.f,T U N.t,T U N.l,T U N.op,T U N.n,X N.x,Ax H a J,Ax I F K] 53);generalize w.alloc (.cells #[T U N.k,T U N.f,T U N.t,T U N.l,T U N.op,T U N.n,X N.x,Ax H a J,Ax I F K] 53)=G at v⊢;clear j;go_loopw [24,8] (fun E _ wr=>∃(b:Nat),E= T U b/\b<=a/\Dz N.nm (a-b) b i/\Y G.heap.size G wr) (fun E _ _=>a-(A2 E).toNat)
 case atStart=>exact⟨0,rfl,by omega,g,ag _ _⟩
 case round=>
  obtain⟨b,rfl,a1,af,z⟩:=hrel;have m:=v.trans (z.mono v.size);have d:=af.out;by_cases an:b<a
  ·obtain⟨s,o⟩:=bL ak.out an;have a5:=u.out.2 s (cJ o);obtain⟨a6,rfl,a0⟩:=(u.out.1.below m).get o;rw[show a-b=(a-(b+1))+1 by omega,vG,cp,o,ig]at d;have al:(b:Int)<(a:Int):=by omega
   have a4:(0:Int)<=(b:Int):=by omega
   have p:=nE s (by omega) wr;clear o;cases hx:oz s with
   |true=>
    rw[hx,eG]at d;rw[hx]at p;have h:Dz N.nm (a-(b+1)) (b+1) i:=⟨d⟩;clear d hx;go_wp2_with (go_at_call 119;refine p.mono ?_;rintro e ap ⟨rfl,A⟩);exact⟨⟨b+1,by go_num,by omega,h,z.trans (A.mono z.size)⟩,by simp[A2];omega⟩
   |false=>
    rw[hx,dJ]at d;rw[hx]at p;have h:=aw d;clear d hx;go_wp2_with (go_at_call 119;refine p.mono ?_;rintro e ap ⟨rfl,A⟩);go_ret;exact⟨by rw[<-h.out];rfl,m.trans (A.mono m.size)⟩
  ·rw[show a-b=0 by omega,vG]at d;have h:=aw d;have al:¬(b:Int)<(a:Int):=by omega
   clear d;go_wp2_with fail;go_ret;exact⟨by rw[<-h.out];rfl,m⟩
def oC(x:ByteArray):Bool:=decide (x.toList=[])
def aI(N:Nd)(c b d a:Bool):Bool:=(c||N.op==0)&&(b||N.n==0)&&(d||oC N.x)&&(a||decide (N.nm.length=0))
theorem cE(w:W)(N:Nd)(vn vk:A1)(l:cH w vn N.nm)(j:eo w vk N.ks)(k:N.nm.length<=1048576):
  V S 114 #[eC N vn vk,Q M,Q M,Q M,Q M] w fun e r=>e= O (Q (aI N M M M M))/\Y w.heap.size w r:=by
 have d:∀f,Y w.heap.size w (w.alloc f):=fun f=>(ag _ w).alloc (ae _) f;obtain⟨t,v,rfl⟩:=l.form;obtain⟨u,x,rfl⟩:=j.form;clear l j;obtain⟨c,a⟩:=ay (aI N M M M M);rw[a];unfold eC;generalize N.ks.length=s;obtain⟨z,y,C,B,p,n,q,o,A⟩:=N;simp only at k⊢;unfold aI oC at a;simp only at a;obtain⟨g,i⟩:=ay o.length;rw[i]at k a⊢;clear i;cases t1:(p==0) with
 |false=>
  rw[t1]at a;have b:A0 (M=c):=by first|exact a|simpa using a
  clear a;go_in;go_wp2;go_ret;exact⟨by rw[<-b.out];rfl,d _⟩
 |true=>
  rw[t1]at a;cases t2:(n==0) with
  |false=>
   rw[t2]at a;have b:A0 (M=c):=by first|exact a|simpa using a
   clear a;go_in;go_wp2;go_ret;exact⟨by rw[<-b.out];rfl,d _⟩
  |true=>
   rw[t2]at a;by_cases m:q.toList=[]
   case neg=>
    rw[aB m]at a;have b:A0 (M=c):=by first|exact a|simpa using a
    clear a;go_in;go_wp2;go_ret;exact⟨by rw[<-b.out];rfl,d _⟩
   rw[bC m]at a;by_cases h:g=0
   ·subst h;have b:A0 (Z=c):=by first|exact a|simpa using a
    clear a;go_in;go_wp2;go_ret;exact⟨by rw[<-b.out];rfl,d _⟩
   ·have E:((g:Int)==0)=M:=by rw[aK];omega
    rw[aB h]at a;have b:A0 (M=c):=by first|exact a|simpa using a
    clear a;go_in;go_wp2;go_ret;exact⟨by rw[<-b.out];rfl,d _⟩
theorem jE(w:W)(N:Nd)(vn vk:A1)(j:cH w vn N.nm)(h:eo w vk N.ks)(i:N.nm.length<=1048576):
  V S 114 #[eC N vn vk,Q M,Q M,Q M,Q Z] w fun e p=>e= O (Q (aI N M M M Z))/\Y w.heap.size w p:=by
 have d:∀f,Y w.heap.size w (w.alloc f):=fun f=>(ag _ w).alloc (ae _) f;obtain⟨s,u,rfl⟩:=j.form;obtain⟨t,v,rfl⟩:=h.form;clear j h;obtain⟨c,a⟩:=ay (aI N M M M Z);rw[a];unfold eC;generalize N.ks.length=r;obtain⟨y,x,B,A,n,l,o,m,z⟩:=N;simp only at i⊢;unfold aI oC at a;simp only at a;obtain⟨q,g⟩:=ay m.length;rw[g]at i a⊢;clear g;cases t1:(n==0) with
 |false=>
  rw[t1]at a;have b:A0 (M=c):=by first|exact a|simpa using a
  clear a;go_in;go_wp2;go_ret;exact⟨by rw[<-b.out];rfl,d _⟩
 |true=>
  rw[t1]at a;cases t2:(l==0) with
  |false=>
   rw[t2]at a;have b:A0 (M=c):=by first|exact a|simpa using a
   clear a;go_in;go_wp2;go_ret;exact⟨by rw[<-b.out];rfl,d _⟩
  |true=>
   rw[t2]at a;by_cases k:o.toList=[]
   case neg=>
    rw[aB k]at a;have b:A0 (M=c):=by first|exact a|simpa using a
    clear a;go_in;go_wp2;go_ret;exact⟨by rw[<-b.out];rfl,d _⟩
   rw[bC k]at a;have b:A0 (Z=c):=by first|exact a|simpa using a
   clear a;go_in;go_wp2;go_ret;exact⟨by rw[<-b.out];rfl,d _⟩
theorem mz(w:W)(N:Nd)(vn vk:A1)(l:cH w vn N.nm)(j:eo w vk N.ks)(k:N.nm.length<=1048576):
  V S 114 #[eC N vn vk,Q M,Q Z,Q M,Q M] w fun e q=>e= O (Q (aI N M Z M M))/\Y w.heap.size w q:=by
 have d:∀f,Y w.heap.size w (w.alloc f):=fun f=>(ag _ w).alloc (ae _) f;obtain⟨s,u,rfl⟩:=l.form;obtain⟨t,v,rfl⟩:=j.form;clear l j;obtain⟨c,a⟩:=ay (aI N M Z M M);rw[a];unfold eC;generalize N.ks.length=r;obtain⟨y,x,C,A,o,B,p,n,z⟩:=N;simp only at k⊢;unfold aI oC at a;simp only at a;obtain⟨g,i⟩:=ay n.length;rw[i]at k a⊢;clear i;cases t1:(o==0) with
 |false=>
  rw[t1]at a;have b:A0 (M=c):=by first|exact a|simpa using a
  clear a;go_in;go_wp2;go_ret;exact⟨by rw[<-b.out];rfl,d _⟩
 |true=>
  rw[t1]at a;by_cases m:p.toList=[]
  case neg=>
   rw[aB m]at a;have b:A0 (M=c):=by first|exact a|simpa using a
   clear a;go_in;go_wp2;go_ret;exact⟨by rw[<-b.out];rfl,d _⟩
  rw[bC m]at a;by_cases h:g=0
  ·subst h;have b:A0 (Z=c):=by first|exact a|simpa using a
   clear a;go_in;go_wp2;go_ret;exact⟨by rw[<-b.out];rfl,d _⟩
  ·have E:((g:Int)==0)=M:=by rw[aK];omega
   rw[aB h]at a;have b:A0 (M=c):=by first|exact a|simpa using a
   clear a;go_in;go_wp2;go_ret;exact⟨by rw[<-b.out];rfl,d _⟩
theorem mA(w:W)(N:Nd)(vn vk:A1)(l:cH w vn N.nm)(j:eo w vk N.ks)(k:N.nm.length<=1048576):
  V S 114 #[eC N vn vk,Q M,Q M,Q Z,Q M] w fun e p=>e= O (Q (aI N M M Z M))/\Y w.heap.size w p:=by
 have d:∀f,Y w.heap.size w (w.alloc f):=fun f=>(ag _ w).alloc (ae _) f;obtain⟨r,t,rfl⟩:=l.form;obtain⟨s,u,rfl⟩:=j.form;clear l j;obtain⟨c,a⟩:=ay (aI N M M Z M);rw[a];unfold eC;generalize N.ks.length=q;obtain⟨x,v,A,z,o,m,B,n,y⟩:=N;simp only at k⊢;unfold aI oC at a;simp only at a;obtain⟨g,i⟩:=ay n.length;rw[i]at k a⊢;clear i;cases t1:(o==0) with
 |false=>
  rw[t1]at a;have b:A0 (M=c):=by first|exact a|simpa using a
  clear a;go_in;go_wp2;go_ret;exact⟨by rw[<-b.out];rfl,d _⟩
 |true=>
  rw[t1]at a;cases t2:(m==0) with
  |false=>
   rw[t2]at a;have b:A0 (M=c):=by first|exact a|simpa using a
   clear a;go_in;go_wp2;go_ret;exact⟨by rw[<-b.out];rfl,d _⟩
  |true=>
   rw[t2]at a;by_cases h:g=0
   ·subst h;have b:A0 (Z=c):=by first|exact a|simpa using a
    clear a;go_in;go_wp2;go_ret;exact⟨by rw[<-b.out];rfl,d _⟩
   ·have C:((g:Int)==0)=M:=by rw[aK];omega
    rw[aB h]at a;have b:A0 (M=c):=by first|exact a|simpa using a
    clear a;go_in;go_wp2;go_ret;exact⟨by rw[<-b.out];rfl,d _⟩
theorem zm(w:W)(N:Nd)(vn vk:A1)(l:cH w vn N.nm)(j:eo w vk N.ks)(k:N.nm.length<=1048576):
  V S 114 #[eC N vn vk,Q Z,Q M,Q M,Q M] w fun e q=>e= O (Q (aI N Z M M M))/\Y w.heap.size w q:=by
 have d:∀f,Y w.heap.size w (w.alloc f):=fun f=>(ag _ w).alloc (ae _) f;obtain⟨s,u,rfl⟩:=l.form;obtain⟨t,v,rfl⟩:=j.form;clear l j;obtain⟨c,a⟩:=ay (aI N Z M M M);rw[a];unfold eC;generalize N.ks.length=r;obtain⟨y,x,C,A,B,n,p,o,z⟩:=N;simp only at k⊢;unfold aI oC at a;simp only at a;obtain⟨g,i⟩:=ay o.length;rw[i]at k a⊢;clear i;cases t2:(n==0) with
 |false=>
  rw[t2]at a;have b:A0 (M=c):=by first|exact a|simpa using a
  clear a;go_in;go_wp2;go_ret;exact⟨by rw[<-b.out];rfl,d _⟩
 |true=>
  rw[t2]at a;by_cases m:p.toList=[]
  case neg=>
   rw[aB m]at a;have b:A0 (M=c):=by first|exact a|simpa using a
   clear a;go_in;go_wp2;go_ret;exact⟨by rw[<-b.out];rfl,d _⟩
  rw[bC m]at a;by_cases h:g=0
  ·subst h;have b:A0 (Z=c):=by first|exact a|simpa using a
   clear a;go_in;go_wp2;go_ret;exact⟨by rw[<-b.out];rfl,d _⟩
  ·have E:((g:Int)==0)=M:=by rw[aK];omega
   rw[aB h]at a;have b:A0 (M=c):=by first|exact a|simpa using a
   clear a;go_in;go_wp2;go_ret;exact⟨by rw[<-b.out];rfl,d _⟩
theorem Hb(w:W)(N:Nd)(vn vk:A1)(j:cH w vn N.nm)(h:eo w vk N.ks)(i:N.nm.length<=1048576):
  V S 114 #[eC N vn vk,Q Z,Q M,Q M,Q Z] w fun e o=>e= O (Q (aI N Z M M Z))/\Y w.heap.size w o:=by
 have d:∀f,Y w.heap.size w (w.alloc f):=fun f=>(ag _ w).alloc (ae _) f;obtain⟨r,t,rfl⟩:=j.form;obtain⟨s,u,rfl⟩:=h.form;clear j h;obtain⟨c,a⟩:=ay (aI N Z M M Z);rw[a];unfold eC;generalize N.ks.length=q;obtain⟨x,v,B,z,A,l,n,m,y⟩:=N;simp only at i⊢;unfold aI oC at a;simp only at a;obtain⟨p,g⟩:=ay m.length;rw[g]at i a⊢;clear g;cases t2:(l==0) with
 |false=>
  rw[t2]at a;have b:A0 (M=c):=by first|exact a|simpa using a
  clear a;go_in;go_wp2;go_ret;exact⟨by rw[<-b.out];rfl,d _⟩
 |true=>
  rw[t2]at a;by_cases k:n.toList=[]
  case neg=>
   rw[aB k]at a;have b:A0 (M=c):=by first|exact a|simpa using a
   clear a;go_in;go_wp2;go_ret;exact⟨by rw[<-b.out];rfl,d _⟩
  rw[bC k]at a;have b:A0 (Z=c):=by first|exact a|simpa using a
  clear a;go_in;go_wp2;go_ret;exact⟨by rw[<-b.out];rfl,d _⟩
def wB:Nat->ByteArray
 |0=>⟨#[115,116,97,116]⟩
 |1=>⟨#[98,108,111,99,107]⟩
 |2=>⟨#[101,108,115,101]⟩
 |3=>⟨#[101,120,112,114]⟩
 |4=>⟨#[98,97,115,101]⟩
 |5=>⟨#[116,97,114,103,101,116]⟩
 |6=>⟨#[99,97,108,108]⟩
 |7=>⟨#[109,97,110,121]⟩
 |8=>⟨#[102,110]⟩
 |_=>⟨#[101,110,116,114,121]⟩
def ms:Nat->Int->Bool
 |0,k=>pE k
 |1,k=>k==1
 |2,k=>k==1||k==7
 |3,k=>oB k
 |4,k=>oB k&&k !=27
 |5,k=>k==26||k==32||k==33
 |6,k=>k==34
 |7,k=>k==34||k==27
 |8,k=>k==36
 |_,k=>decide (40<=k/\k<=42)
theorem BA(k:Int)(w:W):V S 247 #[T U k] w fun e c=>e= O (Q (oB k))/\c=w:=by
 unfold oB;rcases(show(20<=k/\k<=37)\/(20<=k/\¬k<=37)\/¬20<=k by omega) with⟨h1,b⟩|⟨h1,b⟩|h1
 ·rw[bC ⟨h1,b⟩];go_in;go_wp2;go_ret;exact⟨rfl,rfl⟩
 ·rw[aB (fun a=>b a.2)];go_in;go_wp2;go_ret;exact⟨rfl,rfl⟩
 ·rw[aB (fun a=>h1 a.1)];go_in;go_wp2;go_ret;exact⟨rfl,rfl⟩
theorem abf(k:Int)(w:W):V S 228 #[X ⟨#[115,116,97,116]⟩,T U k] w fun e b=>e= O (Q (ms 0 k))/\b=w:=by
 rcases(show(1<=k/\k<=16)\/(1<=k/\¬k<=16)\/(¬1<=k) by omega) with⟨h0,a⟩|⟨h0,a⟩|h0
 ·rw[show ms 0 k=Z from bC (by omega)];go_in;go_wp2;go_ret;exact⟨rfl,rfl⟩
 ·rw[show ms 0 k=M from aB (by omega)];go_in;go_wp2;go_ret;exact⟨rfl,rfl⟩
 ·rw[show ms 0 k=M from aB (by omega)];go_in;go_wp2;go_ret;exact⟨rfl,rfl⟩
theorem abg(k:Int)(w:W):V S 228 #[X ⟨#[98,108,111,99,107]⟩,T U k] w fun e a=>e= O (Q (ms 1 k))/\a=w:=by
 unfold ms;go_in;go_wp2;go_ret;exact⟨rfl,rfl⟩
theorem abh(k:Int)(w:W):V S 228 #[X ⟨#[101,108,115,101]⟩,T U k] w fun e a=>e= O (Q (ms 2 k))/\a=w:=by
 unfold ms;rcases(show(k=1)\/(k=7)\/(¬k=1/\¬k=7) by omega) with rfl|rfl|⟨b,c⟩
 ·go_in;go_wp2;go_ret;exact⟨rfl,rfl⟩
 ·go_in;go_wp2;go_ret;exact⟨rfl,rfl⟩
 ·go_in;go_wp2;go_ret;exact⟨rfl,rfl⟩
theorem abi(k:Int)(w:W):V S 228 #[X ⟨#[101,120,112,114]⟩,T U k] w fun e a=>e= O (Q (ms 3 k))/\a=w:=by
 have c:=fun w=>BA k w;obtain⟨d,b⟩:=ay (oB k);show V _ _ _ _ fun e a=>e= O (Q (oB k))/\a=w;rw[b]at c⊢;clear b;go_in;go_wp2_with (go_at_call 247;refine dK (c _) ?_);go_ret;exact⟨rfl,rfl⟩
theorem abj(k:Int)(w:W):V S 228 #[X ⟨#[98,97,115,101]⟩,T U k] w fun e b=>e= O (Q (ms 4 k))/\b=w:=by
 have a:=fun w=>BA k w;obtain⟨d,c⟩:=ay (oB k);show V _ _ _ _ fun e b=>e= O (Q (oB k&&k !=27))/\b=w;rw[c]at a⊢;clear c;cases d
 ·rw[dJ];go_in;go_wp2_with (go_at_call 247;refine dK (a _) ?_);go_ret;exact⟨rfl,rfl⟩
 ·rw[eG];go_in;go_wp2_with (go_at_call 247;refine dK (a _) ?_);go_ret;exact⟨rfl,rfl⟩
theorem abk(k:Int)(w:W):V S 228 #[X ⟨#[116,97,114,103,101,116]⟩,T U k] w fun e a=>e= O (Q (ms 5 k))/\a=w:=by
 unfold ms;rcases(show(k=26)\/(k=32)\/(k=33)\/(¬k=26/\¬k=32/\¬k=33) by omega) with rfl|rfl|rfl|⟨b,c,d⟩
 ·go_in;go_wp2;go_ret;exact⟨rfl,rfl⟩
 ·go_in;go_wp2;go_ret;exact⟨rfl,rfl⟩
 ·go_in;go_wp2;go_ret;exact⟨rfl,rfl⟩
 ·go_in;go_wp2;go_ret;exact⟨rfl,rfl⟩
theorem abl(k:Int)(w:W):V S 228 #[X ⟨#[99,97,108,108]⟩,T U k] w fun e a=>e= O (Q (ms 6 k))/\a=w:=by
 unfold ms;go_in;go_wp2;go_ret;exact⟨rfl,rfl⟩
theorem abm(k:Int)(w:W):V S 228 #[X ⟨#[109,97,110,121]⟩,T U k] w fun e a=>e= O (Q (ms 7 k))/\a=w:=by
 unfold ms;rcases(show(k=34)\/(k=27)\/(¬k=34/\¬k=27) by omega) with rfl|rfl|⟨b,c⟩
 ·go_in;go_wp2;go_ret;exact⟨rfl,rfl⟩
 ·go_in;go_wp2;go_ret;exact⟨rfl,rfl⟩
 ·go_in;go_wp2;go_ret;exact⟨rfl,rfl⟩
theorem abn(k:Int)(w:W):V S 228 #[X ⟨#[102,110]⟩,T U k] w fun e a=>e= O (Q (ms 8 k))/\a=w:=by
 unfold ms;go_in;go_wp2;go_ret;exact⟨rfl,rfl⟩
theorem abo(k:Int)(w:W):V S 228 #[X ⟨#[101,110,116,114,121]⟩,T U k] w fun e b=>e= O (Q (ms 9 k))/\b=w:=by
 rcases(show(40<=k/\k<=42)\/(40<=k/\¬k<=42)\/(¬40<=k) by omega) with⟨h0,a⟩|⟨h0,a⟩|h0
 ·rw[show ms 9 k=Z from bC (by omega)];go_in;go_wp2;go_ret;exact⟨rfl,rfl⟩
 ·rw[show ms 9 k=M from aB (by omega)];go_in;go_wp2;go_ret;exact⟨rfl,rfl⟩
 ·rw[show ms 9 k=M from aB (by omega)];go_in;go_wp2;go_ret;exact⟨rfl,rfl⟩
theorem EJ(i:Nat)(a:i<10)(k:Int)(w:W):V S 228 #[X (wB i),T U k] w fun e b=>e= O (Q (ms i k))/\b=w:=by
 match i,a with
 |0,_=>exact abf k w
 |1,_=>exact abg k w
 |2,_=>exact abh k w
 |3,_=>exact abi k w
 |4,_=>exact abj k w
 |5,_=>exact abk k w
 |6,_=>exact abl k w
 |7,_=>exact abm k w
 |8,_=>exact abn k w
 |9,_=>exact abo k w
