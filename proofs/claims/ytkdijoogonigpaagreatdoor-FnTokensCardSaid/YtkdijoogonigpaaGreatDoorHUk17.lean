import Derived.Test.YtkdijoogonigpaaGreatDoorHUk12
import Derived.Test.YtkdijoogonigpaaGreatDoorHUk04
import Derived.Test.YtkdijoogonigpaaGreatDoorHUk10
import Derived.Deep.Strs
import Derived.OpenShut
import Derived.Lib.ItoaLen
import Derived.Lib.Join
set_option linter.all false
set_option maxRecDepth 100000
set_option maxHeartbeats 1600000
open Go renaming World->M,Program->Y,Value->Z,Calls->A0
open Go.Value renaming int->O,slice->V,string->A2,bool->Br
open Go.IntKind renaming i64->Q
open Bool renaming true->T,false->Ax
open Option renaming some->U
open Go.Proofs.Tryz renaming prog->W
open Go.Ending renaming returned->X
namespace Go.Proofs.YtkdijoogonigpaaGreatDoor
open Go.RowKit
def fj(k:Int):Bool:=decide (20<=k/\k<=37)
def jE(k:Int):Bool:=decide (1<=k/\k<=16)
def BA(k:Int):Bool:=decide (k=26\/k=32\/k=33)
theorem Dq(k:Int)(w:M):A0 W 169 #[O Q k] w fun e c=>e= X (Br (fj k))/\c=w:=by
 unfold fj;rcases(show(20<=k/\k<=37)\/(20<=k/\¬k<=37)\/¬20<=k by omega) with⟨h1,b⟩|⟨h1,b⟩|h1
 ·rw[cG ⟨h1,b⟩];go_in;go_wp2;go_ret;exact⟨rfl,rfl⟩
 ·rw[bk (fun a=>b a.2)];go_in;go_wp2;go_ret;exact⟨rfl,rfl⟩
 ·rw[bk (fun a=>h1 a.1)];go_in;go_wp2;go_ret;exact⟨rfl,rfl⟩
theorem vy(k:Int)(w:M):A0 W 134 #[O Q k] w fun e c=>e= X (Br (jE k))/\c=w:=by
 unfold jE;rcases(show(1<=k/\k<=16)\/(1<=k/\¬k<=16)\/¬1<=k by omega) with⟨h1,b⟩|⟨h1,b⟩|h1
 ·rw[cG ⟨h1,b⟩];go_in;go_wp2;go_ret;exact⟨rfl,rfl⟩
 ·rw[bk (fun a=>b a.2)];go_in;go_wp2;go_ret;exact⟨rfl,rfl⟩
 ·rw[bk (fun a=>h1 a.1)];go_in;go_wp2;go_ret;exact⟨rfl,rfl⟩
theorem zC(k:Int)(w:M):A0 W 159 #[O Q k] w fun e d=>e= X (Br (BA k))/\d=w:=by
 unfold BA;by_cases a:k=26
 ·subst a;go_in;go_wp2;go_ret;exact⟨rfl,rfl⟩
 have f:(k==26)=Ax:=by rw[aC];exact a
 by_cases b:k=32
 ·subst b;go_in;go_wp2;go_ret;exact⟨rfl,rfl⟩
 have g:(k==32)=Ax:=by rw[aC];exact b
 by_cases c:k=33
 ·subst c;go_in;go_wp2;go_ret;exact⟨rfl,rfl⟩
 have h:(k==33)=Ax:=by rw[aC];exact c
 rw[bk (by omega)];go_in;go_wp2;go_ret;exact⟨rfl,rfl⟩
theorem Gz(w:M)(o:Z)(ns:List Nd)(N c:Nd)(vn vk:Z)(i:Nat)(z:Nat)(f:bI w o ns)(n:cj w vn N.nm)(d:aJ w vk N.ks)(b:N.ks[i]?=U (z:Int))(a:ns[z]?=U c)(s:ns.length<=1048576)(t:N.ks.length<=1048576):
  A0 W 155 #[.agg #[o],cE N vn vk,O Q i] w fun e y=>e= X (O Q c.k)/\Below w.heap.size w y:=by
 have r:∀g j,Below w.heap.size w ((w.alloc g).alloc j):=fun g j=>((aq _ w).alloc (ag _) g).alloc (by simp) j;obtain⟨C,G,rfl⟩:=f.form;obtain⟨E,H,rfl⟩:=n.form;obtain⟨F,I,rfl⟩:=d.form;obtain⟨a8,rfl,bd,bb,m⟩:=f.get a;obtain⟨a9,rfl,q⟩:=d.get b;have v:z<ns.length:=by rcases be z ns.length with h|h;exact h;rw[dL h]at a;cases a
 have u:i<N.ks.length:=by rcases be i N.ks.length with h|h;exact h;rw[dL h]at b;cases b
 have l:=m.c0;have ak:=ui q;have al:=ui l;unfold cE;generalize ns.length=x at s v;generalize N.ks.length=p at t u;generalize N.nm.length=A;generalize c.k=B at l;have af:(z:Int)<(x:Int):=by omega
 have K:(i:Int)<(p:Int):=by omega
 have L:(0:Int)<=(z:Int):=by omega
 have J:(0:Int)<=(i:Int):=by omega
 clear f n d b a m;obtain⟨an,am,a6,av,a5,a0,a7,a4,ap⟩:=N;simp only;go_in;go_wp2_with fail;go_quiet (fail)
 go_wp2_with fail;go_ret;exact⟨rfl,vg (r _ _) _⟩
def dm(ns:List Nd)(N:Nd)(j:Nat):Int:=(ns.getD ((N.ks.getD j 0).toNat) zNd).k
def gc(ns:List Nd)(N:Nd):Nat->Nat->Bool
 |0,_=>T
 |f+1,j=>fj (dm ns N j)&&gc ns N f (j+1)
structure adf (ns:List Nd) (N:Nd) (f j:Nat) (R:Bool):Prop where
 out:gc ns N f j=R
structure sB (ns:List Nd) (N:Nd):Prop where
 ok:∀z∈N.ks,0<=z/\z<(ns.length:Int)
theorem sB.get{ns:List Nd}{N:Nd}(f:sB ns N){j:Nat}(d:j<N.ks.length):∃(z:Nat) (b:Nd),N.ks[j]?=U (z:Int)/\ns[z]?=U b/\dm ns N j=b.k/\z<ns.length:=by
 have c:N.ks[j]?=U N.ks[j]:=aF d;obtain⟨g,h⟩:=f.ok N.ks[j] (lG d);obtain⟨z,e⟩:∃z:Nat,N.ks[j]=(z:Int):=⟨N.ks[j].toNat,by omega⟩;have a:z<ns.length:=by omega
 refine⟨z,ns[z],by rw[c,e],aF a,?_,a⟩;unfold dm;rw[bF,bF,c,e];simp[a]
theorem cx(w:M)(a0:Z)(ns:List Nd)(N:Nd)(vn vk:Z)(i k:Nat)(C:bI w a0 ns)(b:cj w vn N.nm)(B:aJ w vk N.ks)(bd:sB ns N)(bn:k<=N.ks.length)(bf:ns.length<=1048576)(bj:N.ks.length<=1048576):
  A0 W 158 #[.agg #[a0],cE N vn vk,O Q i,O Q k] w fun e bp=>e= X (Br (gc ns N (k-i) i))/\Below w.heap.size w bp:=by
 obtain⟨r,A⟩:=aD (gc ns N (k-i) i);rw[A];have a5:adf ns N (k-i) i r:=⟨A⟩;clear A;have av:∀E F,Below w.heap.size w ((w.alloc E).alloc F):=fun E F=>((aq _ w).alloc (ag _) E).alloc (by simp) F;have m:=cH C B;obtain⟨s,v,rfl⟩:=C.form;obtain⟨L,af,rfl⟩:=b.form;obtain⟨u,y,rfl⟩:=B.form;clear C b B;unfold cE;obtain⟨q,b⟩:=aD ns.length;obtain⟨n,z⟩:=aD N.ks.length;have I:=cH b z;rw[b]at m bf⊢;rw[z]at m bj bn⊢;clear b z;generalize N.nm.length=J;go_in;go_wp2_with fail;obtain⟨d,g⟩:=aD ((w.alloc (.cells #[V s q v] 76)).alloc (.cells #[O Q N.k,O Q N.f,O Q N.t,O Q N.l,O Q N.op,O Q N.n,A2 N.x,V L J af,V u n y] 96));have a6:d.cell? ⟨w.heap.size,0,none⟩=U (V s q v):=by
  rw[<-g,ay _ _ _ _ _ _ ((cg _ _ _ (by simp)).trans (ax w _))];rfl
 have a7:d.cell? ⟨w.heap.size+1,8,none⟩=U (V u n y):=by
  have:=ax (w.alloc (.cells #[V s q v] 76)) (.cells #[O Q N.k,O Q N.f,O Q N.t,O Q N.l,O Q N.op,O Q N.n,A2 N.x,V L J af,V u n y] 96);rw[dI]at this;rw[<-g,ay _ _ _ _ _ _ this];rfl
 have ap:Below w.heap.size w d:=by rw[<-g];exact av _ _
 rw[g];clear g av;go_loopw [9] (fun G wr=>∃(j:Nat),G= O Q j/\i<=j/\(i<=k->j<=k)/\adf ns N (k-j) j r/\Below d.heap.size d wr) (fun G _=>k-(intOf G).toNat)
 case atStart=>exact⟨i,rfl,ag _,fun bb=>bb,a5,aq _ _⟩
 case round=>
  obtain⟨j,rfl,bw,bE,H,o⟩:=hrel;have p:=ap.trans (o.mono ap.size);by_cases b1:j<k
  ·obtain⟨a4,K,ak,al,am,a8⟩:=bd.get (j:=j) (by rw[I.out.2];omega);rw[I.out.1]at a8;obtain⟨b4,rfl,b7,b6,an⟩:=(m.out.1.below p).get al;obtain⟨b5,rfl,bt⟩:=(m.out.2.below p).get ak;have br:=bm o a6;have bs:=bm o a7;have a9:=an.c0;have a:=H.out;rw[show k-j=(k-(j+1))+1 by omega,gc,am]at a;have bl:(j:Int)<(k:Int):=by omega
   have b0:(j:Int)<(n:Int):=by omega
   have b3:(a4:Int)<(q:Int):=by omega
   have b2:(0:Int)<=(a4:Int):=by omega
   have bx:(0:Int)<=(j:Int):=by omega
   have h:=fun w=>Dq K.k w;generalize K.k=bo at a9 a h;clear ak al am an;cases hx:fj bo with
   |true=>
    rw[hx,jf]at a;rw[hx]at h;have c:adf ns N (k-(j+1)) (j+1) r:=⟨a⟩;clear a hx;go_wp2_with fail;go_quiet ((go_at_call 169;exact Calls.quiet_of_same (h _)))
    go_wp2_with fail;exact⟨⟨j+1,by go_num,by omega,fun _=>by omega,c,vg o _⟩,by simp[intOf];omega⟩
   |false=>
    rw[hx,ip]at a;rw[hx]at h;have c:=ar a;clear a hx;go_wp2_with fail;go_quiet ((go_at_call 169;exact Calls.quiet_of_same (h _)))
    go_wp2_with fail;go_ret;exact⟨by rw[<-c.out];rfl,vg p _⟩
  ·have a:=H.out;rw[show k-j=0 by omega,gc]at a;have c:=ar a;have bl:¬(j:Int)<(k:Int):=by omega
   clear a;go_wp2_with fail;go_ret;exact⟨by rw[<-c.out];rfl,p⟩
open Go.Maps Go.WideMaps
def Dr(l:List ByteArray):Nat->Nat->Bool
 |0,_=>T
 |f+1,j=>iu (l.getD j ByteArray.empty)&&Dr l f (j+1)
structure I2 (l:List ByteArray) (f j:Nat) (R:Bool):Prop where
 out:Dr l f j=R
def dw(N:Nd)(a b:Int):Bool:=decide (a<=(N.nm.length:Int)/\(N.nm.length:Int)<=b)&&Dr N.nm N.nm.length 0
theorem gl(w:M)(N:Nd)(vn vk:Z)(q r:Int)(B:cj w vn N.nm)(L:aJ w vk N.ks)(an:N.nm.length<=1048576)(af:∀s∈N.nm,s.size<=1048576):
  A0 W 157 #[cE N vn vk,O Q q,O Q r] w fun e av=>e= X (Br (dw N q r))/\Below w.heap.size w av:=by
 have j:∀C,Below w.heap.size w (w.alloc C):=fun C=>(aq _ w).alloc (ag _) C;have u:=cH B af;obtain⟨H,J,rfl⟩:=B.form;obtain⟨I,K,rfl⟩:=L.form;clear B L af;obtain⟨i,c⟩:=aD (dw N q r);rw[c];unfold dw at c;unfold cE;obtain⟨a,y⟩:=aD N.nm.length;have al:=ar y;rw[y]at u an c⊢;clear y;generalize N.ks.length=F;by_cases a1:(a:Int)<q
 ·have g:Hid (Ax=i):=by rw[bk (by omega)]at c;exact c
  clear c;go_in;go_wp2;go_ret;exact⟨by rw[<-g.out];rfl,j _⟩
 by_cases a4:r<(a:Int)
 ·have g:Hid (Ax=i):=by rw[bk (by omega)]at c;exact c
  clear c;go_in;go_wp2;go_ret;exact⟨by rw[<-g.out];rfl,j _⟩
 have g:I2 N.nm a 0 i:=⟨by rw[cG (by omega)]at c;simpa using c⟩;clear c;go_in;go_wp2_with fail;have v:=j (.cells #[O Q N.k,O Q N.f,O Q N.t,O Q N.l,O Q N.op,O Q N.n,A2 N.x,V H a J,V I F K] 96);generalize w.alloc (.cells #[O Q N.k,O Q N.f,O Q N.t,O Q N.l,O Q N.op,O Q N.n,A2 N.x,V H a J,V I F K] 96)=G at v⊢;clear j;go_loopw [24,8] (fun E _ wr=>∃(b:Nat),E= O Q b/\b<=a/\I2 N.nm (a-b) b i/\Below G.heap.size G wr) (fun E _ _=>a-(intOf E).toNat)
 case atStart=>exact⟨0,rfl,by omega,g,aq _ _⟩
 case round=>
  obtain⟨b,rfl,a6,ak,z⟩:=hrel;have m:=v.trans (z.mono v.size);have d:=ak.out;by_cases ap:b<a
  ·obtain⟨s,o⟩:=eA al.out ap;have a8:=u.out.2 s (dC o);obtain⟨a9,rfl,a5⟩:=(u.out.1.below m).get o;rw[show a-b=(a-(b+1))+1 by omega,Dr,bF,o,ga]at d;have am:(b:Int)<(a:Int):=by omega
   have a7:(0:Int)<=(b:Int):=by omega
   have p:=iw s (by omega) wr;clear o;cases hx:iu s with
   |true=>
    rw[hx,jf]at d;rw[hx]at p;have h:I2 N.nm (a-(b+1)) (b+1) i:=⟨d⟩;clear d hx;go_wp2_with (go_at_call 23;refine p.mono ?_;rintro e a0 ⟨rfl,A⟩);exact⟨⟨b+1,by go_num,by omega,h,z.trans (A.mono z.size)⟩,by simp[intOf];omega⟩
   |false=>
    rw[hx,ip]at d;rw[hx]at p;have h:=ar d;clear d hx;go_wp2_with (go_at_call 23;refine p.mono ?_;rintro e a0 ⟨rfl,A⟩);go_ret;exact⟨by rw[<-h.out];rfl,m.trans (A.mono m.size)⟩
  ·rw[show a-b=0 by omega,Dr]at d;have h:=ar d;have am:¬(b:Int)<(a:Int):=by omega
   clear d;go_wp2_with fail;go_ret;exact⟨by rw[<-h.out];rfl,m⟩
def wpU(P:Y)(e:Region.Mode)(c:Array Oper)(d:Exit->Act->M->Prop)(S g:M->Prop)(C:Nat->Bool):Nat->Array Bool->Act->M->Prop
 |0,b,a,w=>Region.ready e c b=[]/\d .normal a w
 |fuel+1,b,a,w=>
  (Region.ready e c b=[]->d .normal a w)/\
  ∀i∈Region.ready e c b,wpOp P c d i (fun h f=>(g f/\(C i=T->S f))/\wpU P e c d S g C fuel (b.setIfInBounds i T) h f) a w
theorem vz{P:Y}{h:Array Oper}{c:Exit->Act->M->Prop}{g:Region.Mode}{S d:M->Prop}{C:Nat->Bool}:∀(fuel:Nat)(f:Array Bool)(a:Act)(w:M),wpU P g h c S d C fuel f a w->wpAnyH P g h c d fuel f a w
 |0,_,_,_,b=>b
 |fuel+1,_,_,_,b=>⟨b.1,fun i k=>wpOp_mono (fun j l e=>⟨e.1.1,vz fuel _ j l e.2⟩) (b.2 i k)⟩
theorem GA{P:Y}{f:Array Oper}{s:Exit->Act->M->Prop}{m:Region.Mode}{S y:M->Prop}{C:Nat->Bool}{i:Nat}{n:Oper}{v:Z}(G:f[i]?=U n)(af:∀(j:Nat) (al:Oper) cs b,f[j]?=U al->al.op≠ .select cs b)
  (a0:∀c a w,s (.panic c) (a.put n.dst v) w->s (.panic c) a w) (ap:∀(j:Nat) d,f[j]?=U d->C j=Ax->∃e∈d.after,Region.binds m e=T/\e.on=i):
  ∀(fuel:Nat)(g:Array Bool)(a:Act)(w:M),
   (∀j d,f[j]?=U d->j≠i->g.getD j T=Ax->(∀e∈d.after,Region.binds m e=T->e.on≠i)->n.apart f d=T)->
   i∈Region.ready m f g->YieldsIf P f S n v a->y w->S w->
   wpU P m f s S y C fuel (g.setIfInBounds i T) (a.put n.dst v) w->wpAnyH P m f s y (fuel+1) g a w:=by
 intro fuel
 induction fuel with
 |zero=>
  intro g a w _ l x A hS p;refine⟨fun z=>(by rw[z]at l;cases l),fun j t=>?_⟩;by_cases h:j=i
  ·subst h;exact x.wpOp G hS ⟨A,vz _ _ _ _ p⟩
  ·have:=ready_mono t h;rw[p.1]at this;cases this
 |succ fuel a6=>
  intro g a w I l x A hS p;refine⟨fun z=>(by rw[z]at l;cases l),fun j t=>?_⟩;by_cases h:j=i
  ·subst h;exact x.wpOp G hS ⟨A,vz _ _ _ _ p⟩
  ·have k:=p.2 j (ready_mono t h);obtain⟨K,d,u,a1⟩:=mem_ready.1 t;have L:∀e∈d.after,Region.binds m e=T->e.on≠i:=fun e E B F=>by
    have k:=a1 e E B;have H:=(mem_ready.1 l).1;rw[F]at k;rcases be i g.size with h'|h'
    ·simp[h']at H k;rw[H]at k;cases k
    ·simp[qx h']at k
   have av:C j=T:=by
    cases hc:C j with
    |true=>rfl
    |false=>
     obtain⟨e,E,B,F⟩:=ap j d u hc;exact absurd F (L e E B)
   have an:=wpOp_putIf u (I j d u h K L) (fun cs b=>af i n cs b G) (fun cs b=>af j d cs b u) a0 x k;have a2:∀o r,f[o]?=U r->o≠i->(g.setIfInBounds j T).getD o T=Ax->
     (∀e∈r.after,Region.binds m e=T->e.on≠i)->n.apart f r=T:=fun o r a3 a4 ak a5=>by
    refine I o r a3 a4 ?_ a5;by_cases J:j=o
    ·subst J;exact K
    ·rw[getD_set_ne T J]at ak;exact ak
   refine wpOp_mono (fun am a7 q=>⟨q.2.1.1,a6 (g.setIfInBounds j T) am a7 a2 (ready_mono l (de h)) q.1 q.2.1.1 (q.2.1.2 av) ?_⟩) an;rw[Array.setIfInBounds_comm _ _ h];exact q.2.2
theorem rt{P:Y}{b:Array Oper}{d:Exit->Act->M->Prop}{g:Region.Mode}{S c:M->Prop}{C:Nat->Bool}{i:Nat}{h:Oper}{fuel:Nat}{f:Array Bool}{a:Act}{w:M}(p:Region.ready g b f=[i])(v:b[i]?=U h)
  (r:∀j:Act->M->Prop,Shut (∀a w,c w->(C i=T->S w)->wpU P g b d S c C fuel (f.setIfInBounds i T) a w->j a w)->if Region.wanted h (yielded b a.tmps)=T then Oper.wp P h a w j d else j (a.put h.dst undef) w):wpU P g b d S c C (fuel+1) f a w:=by
 refine⟨fun n=>(by rw[p]at n;cases n),fun l o=>?_⟩;rw[p]at o;obtain rfl:l=i:=by simpa using o
 have e:=r (fun q m=>(c m/\(C l=T->S m))/\wpU P g b d S c C fuel (f.setIfInBounds l T) q m) (fun a w s t u=>⟨⟨s,t⟩,u⟩);unfold wpOp;simp only[v];split
 ·rename_i k;rw[ab k]at e;exact .inl e
 ·rename_i k;rw[aa k]at e;exact e
theorem I3{P:Y}{g:Array Oper}{b:Exit->Act->M->Prop}{f:Region.Mode}{S h:M->Prop}{C:Nat->Bool}{e:Array Bool}{a:Act}{w:M}(d:Region.ready f g e=[])(c:b .normal a w):
  ∀fuel,wpU P f g b S h C fuel e a w
 |0=>⟨d,c⟩
 |_+1=>⟨fun _=>c,by rw[d];simp⟩
theorem I4{P:Y}{g:Region.Mode}{b:Array Oper}{e:Exit->Act->M->Prop}{S:M->Prop}(i:Nat)(d:Tmp)(v:Z){h:Oper}{fuel:Nat}{f:Array Bool}{a:Act}{w:M}(n:b[i]?=U h)(j:h.dst=U d)
  (p:Region.noSelect b=T) (m:Region.free g b f i=T) (o:(Region.ready g b f).contains i=T)
  (l:∀c a w,e (.panic c) (a.put (U d) v) w->e (.panic c) a w) (q:Region.wanted h (yielded b a.tmps)=T) (hS:S w) (r:∀w,S w->(execOp a.eval h).run P w= .ok (.value v) w)
  (k:wpAnyH P g b e S fuel (f.setIfInBounds i T) (a.put (U d) v) w):wpAnyH P g b e S (fuel+1) f a w:=
 wpAnyH_take n p m o (by rw[j];exact l) (Or.inl ⟨q,r⟩) hS (by rw[j];exact k)
def afq(b:Region.Mode)(a:Array Oper)(m:List Bool)(i:Nat)(l:List Z):Bool:=Region.noSelect a&&Region.free b a m.toArray i&&(Region.ready b a m.toArray).contains i&&(match a[i]? with|some c=>Region.wanted c (yielded a l.toArray)|none=>Ax)
theorem Ff{P:Y}{h:Region.Mode}{f:Array Oper}{e:Exit->Act->M->Prop}{S:M->Prop}(i:Nat)(v:Z){d:Tmp}{j:Oper}{fuel:Nat}{m:List Bool}{l:List Z}{g:List Deferred}{w:M}(k:f[i]?=U j)(p:j.dst=U d)(b:afq h f m i l=T)
  (o:∀c a w,e (.panic c) (a.put (U d) v) w->e (.panic c) a w) (hS:S w) (q:∀w,S w->(execOp (Act.mk l.toArray g).eval j).run P w= .ok (.value v) w)
  (n:wpAnyH P h f e S fuel (m.set i T).toArray ⟨(l.set d v).toArray,g⟩ w):wpAnyH P h f e S (fuel+1) m.toArray ⟨l.toArray,g⟩ w:=by
 unfold afq at b;rw[k]at b;simp only[aw]at b;refine I4 i d v k p b.1.1.1 b.1.1.2 b.1.2 o b.2 hS q ?_;simp only[Act.put,mK];exact n
open Go.ChangeShapes Go.WideShapes Go.ChangeAt Go.WideElems Go.Deep
structure acf (N:Nd):Prop where
 k: -9223372036854775808<=N.k/\N.k<=9223372036854775807
 f: -9223372036854775808<=N.f/\N.f<=9223372036854775807
 t: -9223372036854775808<=N.t/\N.t<=9223372036854775807
 l: -9223372036854775808<=N.l/\N.l<=9223372036854775807
 op: -9223372036854775808<=N.op/\N.op<=9223372036854775807
 n: -9223372036854775808<=N.n/\N.n<=9223372036854775807
 ks:∀z∈N.ks, -9223372036854775808<=z/\z<=9223372036854775807
end Go.Proofs.YtkdijoogonigpaaGreatDoor
namespace Go.Proofs.YtkdijoogonigpaaGreatDoor
open Go.RowKit
open Go.Maps Go.WideMaps
def adg(s:ByteArray):ByteArray:=co (bG s)
theorem Ds(x:List Int):(co x).size=x.length:=by
 have d:∀(x:List Int)(a:ByteArray),(x.foldl (fun b e=>b.push (UInt8.ofNat e.toNat)) a).size=a.size+x.length:=by
  intro x
  induction x with
  |nil=>intro a;rfl
  |cons f b c=>intro a;show(b.foldl _ (a.push _)).size=_;rw[c];simp;omega
 have:=d x ByteArray.empty;unfold co;rw[this];simp
theorem GB(s:ByteArray):(adg s).size<=2+4*s.size:=by
 unfold adg;rw[Ds];unfold bG;have:=zg s s.size (ag _);simp;omega
