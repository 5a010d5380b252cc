import Derived.Test.YthboboahkkhopaaGreatDoorHRo07
import Derived.Test.YthboboahkkhopaaGreatDoorHRo05
import Derived.Test.YthboboahkkhopaaGreatDoorHRo06
import Derived.WalkSmall
set_option linter.all false
set_option maxRecDepth 100000
set_option maxHeartbeats 6400000
open Go.Proofs.Tryz renaming prog->O
open Go.Value renaming int->Q,bool->U,string->V,slice->Y,ownBlock->A2
open Go.IntKind renaming i64->S
open Go renaming World->T,Calls->X,Value->Ax,TypeId->A5
open Option renaming some->Z,none->A0
namespace Go.Proofs.YthboboahkkhopaaGreatDoor
open Go.RowKit
variable{g n:Nat}{v:Value}{w:World}{xs:List Value}
def fy(k:Int):Bool:=decide (20<=k/\k<=37)
def eA(k:Int):Bool:=decide (1<=k/\k<=16)
def ti(k:Int):Bool:=decide (k=26\/k=32\/k=33)
def abm(k:Int)(w:T):X O 188 #[Q S k] w (kL w (U (fy k))):=by
 unfold fy;rcases(show(20<=k/\k<=37)\/(20<=k/\¬k<=37)\/¬20<=k by omega) with⟨h1,b⟩|⟨h1,b⟩|h1
 .rw[aI ⟨h1,b⟩];go_in;go_wp2;go_ret;exact⟨rfl,rfl⟩
 .rw[aE (λa=>b a.2)];go_in;go_wp2;go_ret;exact⟨rfl,rfl⟩
 .rw[aE (λa=>h1 a.1)];go_in;go_wp2;go_ret;exact⟨rfl,rfl⟩
def DK(k:Int)(w:T):X O 83 #[Q S k] w (kL w (U (eA k))):=by
 unfold eA;rcases(show(1<=k/\k<=16)\/(1<=k/\¬k<=16)\/¬1<=k by omega) with⟨h1,b⟩|⟨h1,b⟩|h1
 .rw[aI ⟨h1,b⟩];go_in;go_wp2;go_ret;exact⟨rfl,rfl⟩
 .rw[aE (λa=>b a.2)];go_in;go_wp2;go_ret;exact⟨rfl,rfl⟩
 .rw[aE (λa=>h1 a.1)];go_in;go_wp2;go_ret;exact⟨rfl,rfl⟩
def Iu(k:Int)(w:T):X O 142 #[Q S k] w (kL w (U (ti k))):=by
 unfold ti;by_cases a:k=26
 .subst a;go_in;go_wp2;go_ret;exact⟨rfl,rfl⟩
 have d:(k==26)=false:=by rw[eJ];exact a
 by_cases b:k=32
 .subst b;go_in;go_wp2;go_ret;exact⟨rfl,rfl⟩
 have e:(k==32)=false:=by rw[eJ];exact b
 by_cases c:k=33
 .subst c;go_in;go_wp2;go_ret;exact⟨rfl,rfl⟩
 have f:(k==33)=false:=by rw[eJ];exact c
 rw[aE (by omega)];go_in;go_wp2;go_ret;exact⟨rfl,rfl⟩
def aeJ(w:T)(l:Ax)(ns:List Nd)(N M:Nd)(j g:Ax)(i:Nat)(z:Nat)(ht:dy w l ns)(s:bi w j N.nm)(f:dh w g N.ks)(b:N.ks[i]?=Z (z:Int))(a:ns[z]?=Z M)(p:ns.length<=1048576)(q:N.ks.length<=1048576):
  X O 138 #[.agg #[l],jG N j g,Q S i] w (gy w (Q S M.k)):=by
 have o:∀c d,be w ((w.alloc c).alloc d):=λc d=>((ah _ w).alloc (af _) c).alloc (by simp) d;obtain⟨y,C,rfl⟩:=ht.form;obtain⟨A,E,rfl⟩:=s.form;obtain⟨B,F,rfl⟩:=f.form;obtain⟨ar,rfl,ax,av,m⟩:=ht.get a;obtain⟨au,rfl,n⟩:=f.get b;have t:z<ns.length:=by rcases bI z ns.length with h|h;exact h;rw[jp h]at a;cases a
 have r:i<N.ks.length:=by rcases bI i N.ks.length with h|h;exact h;rw[jp h]at b;cases b
 have e:=m.c0;have G:=yG n;have H:=yG e;unfold jG;generalize ns.length=I at p t;generalize N.ks.length=v at q r;generalize N.nm.length=u;generalize M.k=x at e;obtain⟨K,J,ao,ad,an,ak,ap,al,L⟩:=N;simp only;go_in;go_wp21
 go_quiet (fail)
 go_wp21
 go_ret;exact⟨rfl,mG (o _ _) _⟩
def dK(ns:List Nd)(N:Nd)(j:Nat):Int:=(ns.getD ((N.ks.getD j 0).toNat) xL).k
def jF(ns:List Nd)(N:Nd):Nat->Nat->Bool
 |0,_=>true
 |f+1,j=>fy (dK ns N j)&&jF ns N f (j+1)
structure anv (ns:List Nd) (N:Nd) (f j:Nat) (R:Bool):Prop where
 out:jF ns N f j=R
structure Ay (ns:List Nd) (N:Nd):Prop where
 ok:∀z∈N.ks,0<=z/\z<(ns.length:Int)
def Ay.get{ns:List Nd}{N:Nd}(h:Ay ns N){j:Nat}(c:j<N.ks.length):∃(z:Nat) (M:Nd),N.ks[j]?=Z (z:Int)/\ns[z]?=Z M/\dK ns N j=M.k/\z<ns.length:=by
 have b:N.ks[j]?=Z N.ks[j]:=az c;have⟨e,f⟩:=h.ok N.ks[j] (iB c);obtain⟨z,d⟩:∃z:Nat,N.ks[j]=(z:Int):=⟨N.ks[j].toNat,by omega⟩;have a:z<ns.length:=by omega
 refine⟨z,ns[z],by rw[b,d],az a,?_,a⟩;unfold dK;rw[aD,aD,b,d];simp[a]
def nD(w:T)(E:Ax)(ns:List Nd)(N:Nd)(C B:Ax)(i k:Nat)(ht:dy w E ns)(g:bi w C N.nm)(z:dh w B N.ks)(ar:Ay ns N)(a4:k<=N.ks.length)(av:ns.length<=1048576)(ax:N.ks.length<=1048576):
  X O 141 #[.agg #[E],jG N C B,Q S i,Q S k] w (gy w (U (jF ns N (k-i) i))):=by
 have⟨h,y⟩:=aJ (jF ns N (k-i) i);rw[y];have G:anv ns N (k-i) i h:=⟨y⟩;have bc:∀o p,be w ((w.alloc o).alloc p):=λo p=>((ah _ w).alloc (af _) o).alloc (by simp) p;have d:=iK ht z;obtain⟨H,J,rfl⟩:=ht.form;obtain⟨a7,a8,rfl⟩:=g.form;obtain⟨I,K,rfl⟩:=z.form;unfold jG;have⟨A,g⟩:=aJ ns.length;have⟨t,x⟩:=aJ N.ks.length;have s:=iK g x;rw[g]at d av⊢;rw[x]at d ax a4⊢;generalize N.nm.length=a6;go_in;go_wp2_with fail;generalize au:(w.alloc _).alloc _=l;obtain⟨m,n,v, -⟩:=If au;replace m:l.cell? ⟨w.heap.size,0,A0⟩=Z (Y H A J):=(aj _ _ _ _ _ _ m).trans rfl;replace n:l.cell? ⟨w.heap.size+1,8,A0⟩=Z (Y I t K):=(aj _ _ _ _ _ _ n).trans rfl;go_loopw [9] (λq wr=>∃(j:Nat),q= Q S j/\i<=j/\(i<=k->j<=k)/\anv ns N (k-j) j h/\be l wr) (λq _=>k-(intOf q).toNat)
 case atStart=>exact⟨i,rfl,af _,λap=>ap,G,ah _ _⟩
 case round=>
  obtain⟨j,rfl,bd,bh,r,e⟩:=hrel;have f:=v.trans (e.mono v.size);by_cases bk:j<k
  .obtain⟨F,u,L,ad,ak,al⟩:=ar.get (j:=j) (by rw[s.out.2];omega);rw[s.out.1]at al;obtain⟨bo,rfl,bs,br,ao⟩:=(d.1.below f).get ad;obtain⟨bp,rfl,bb⟩:=(d.2.below f).get L;have a9:=ag e m;have ba:=ag e n;have an:=ao.c0;have a:=r.out;rw[show k-j=(k-(j+1))+1 by omega,jF,ak]at a;have a0:(j:Int)<(k:Int):=by omega
   have bj:(j:Int)<(t:Int):=by omega
   have bn:(F:Int)<(A:Int):=by omega
   have bl:(0:Int)<=(F:Int):=by omega
   have bf:(0:Int)<=(j:Int):=by omega
   have c:=λw=>abm u.k w;generalize u.k=a5 at an a c;cases hx:fy a5 with
   |true=>
    rw[hx,gE]at a;rw[hx]at c;have b:anv ns N (k-(j+1)) (j+1) h:=⟨a⟩;go_wp2_with fail;go_quiet ((go_at_call 188;exact Calls.quiet_of_same (c _)))
    go_wp2;exact⟨⟨j+1,by go_num,by omega,λ_=>by omega,b,mG e _⟩,by simp[intOf];omega⟩
   |false=>
    rw[hx,fw]at a;rw[hx]at c;have b:=am a;clear a hx;go_wp2_with fail;go_quiet ((go_at_call 188;exact Calls.quiet_of_same (c _)))
    go_wp2;go_ret;exact⟨by rw[<-b.out];rfl,mG f _⟩
  .have a:=r.out;rw[show k-j=0 by omega,jF]at a;have b:=am a;have a0:¬(j:Int)<(k:Int):=by omega
   go_wp2;go_ret;exact⟨by rw[<-b.out];rfl,f⟩
open Go.Maps Go.WideMaps
def tj(l:List ByteArray):Nat->Nat->Bool
 |0,_=>true
 |f+1,j=>jf (l.getD j ByteArray.empty)&&tj l f (j+1)
structure Gz (l:List ByteArray) (f j:Nat) (R:Bool):Prop where
 out:tj l f j=R
def fj(N:Nd)(least a:Int):Bool:=decide (least<=(N.nm.length:Int)/\(N.nm.length:Int)<=a)&&tj N.nm N.nm.length 0
def Lg(w:T)(N:Nd)(J I:Ax)(least o:Int)(H:bi w J N.nm)(an:dh w I N.ks)(ao:N.nm.length<=1048576)(ar:∀s∈N.nm,s.size<=1048576):
  X O 140 #[jG N J I,Q S least,Q S o] w (gy w (U (fj N least o))):=by
 have i:∀y,be w (w.alloc y):=λy=>(ah _ w).alloc (af _) y;have p:=iK H ar;obtain⟨B,E,rfl⟩:=H.form;obtain⟨C,F,rfl⟩:=an.form;have⟨h,c⟩:=aJ (fj N least o);rw[c];unfold fj at c;unfold jG;have⟨a,G⟩:=aJ N.nm.length;have L:=am G;rw[G]at p ao c⊢;generalize N.ks.length=A;by_cases av:(a:Int)<least
 .have e:Hid (false=h):=by rw[aE (by omega)]at c;exact c
  go_in;go_wp2;go_ret;exact⟨by rw[<-e.out];rfl,i _⟩
 by_cases ax:o<(a:Int)
 .have e:Hid (false=h):=by rw[aE (by omega)]at c;exact c
  go_in;go_wp2;go_ret;exact⟨by rw[<-e.out];rfl,i _⟩
 have e:Gz N.nm a 0 h:=⟨by rw[aI (by omega)]at c;simpa using c⟩;clear c;go_in;go_wp21
 have q:=i (.cells #[Q S N.k,Q S N.f,Q S N.t,Q S N.l,Q S N.op,Q S N.n,V N.x,Y B a E,Y C A F] 61);generalize w.alloc (.cells #[Q S N.k,Q S N.f,Q S N.t,Q S N.l,Q S N.op,Q S N.n,V N.x,Y B a E,Y C A F] 61)=ad at q⊢;clear i;go_loopw [24,8] (λz _ wr=>∃(b:Nat),z= Q S b/\b<=a/\Gz N.nm (a-b) b h/\be ad wr) (λz _ _=>a-(intOf z).toNat)
 case atStart=>exact⟨0,rfl,by omega,e,ah _ _⟩
 case round=>
  obtain⟨b,rfl,a1,K,r⟩:=hrel;have j:=q.trans (r.mono q.size);have d:=K.out;by_cases ap:b<a
  .obtain⟨s,v⟩:=cA L.out ap;have a4:=p.2 s (cG v);obtain⟨a5,rfl,a0⟩:=(p.1.below j).get v;rw[show a-b=(a-(b+1))+1 by omega,tj,aD,v,ie]at d;have al:(b:Int)<(a:Int):=by omega
   have m:=yH s (by omega) wr;cases hx:jf s with
   |true=>
    rw[hx,gE]at d;rw[hx]at m;have g:Gz N.nm (a-(b+1)) (b+1) h:=⟨d⟩;clear d hx;go_wp2_with (go_at_call 144;refine m.mono ?_;rintro ak au ⟨rfl,u⟩);exact⟨⟨b+1,by go_num,by omega,g,r.trans (u.mono r.size)⟩,by simp[intOf];omega⟩
   |false=>
    rw[hx,fw]at d;rw[hx]at m;have g:=am d;clear d hx;go_wp2_with (go_at_call 144;refine m.mono ?_;rintro ak au ⟨rfl,u⟩);go_ret;exact⟨by rw[<-g.out];rfl,j.trans (u.mono j.size)⟩
  .rw[show a-b=0 by omega,tj]at d;have g:=am d;have al:¬(b:Int)<(a:Int):=by omega
   go_wp21
   go_ret;exact⟨by rw[<-g.out];rfl,j⟩
def vJ(x:ByteArray):Bool:=decide (x.toList=[])
def aL(N:Nd)(op b c a:Bool):Bool:=(op||N.op==0)&&(b||N.n==0)&&(c||vJ N.x)&&(a||decide (N.nm.length=0))
def abn(w:T)(N:Nd)(g f:Ax)(k:bi w g N.nm)(j:dh w f N.ks)(s:N.nm.length<=1048576)(a b c d:Bool):
  X O 139 #[jG N g f,U a,U b,U c,U d] w (gy w (U (aL N a b c d))):=by
 have i:=am (gc w);obtain⟨o,q,rfl⟩:=k.form;obtain⟨p,r,rfl⟩:=j.form;have⟨n,e⟩:=aJ (aL N a b c d);rw[e];unfold jG;generalize N.ks.length=m;unfold aL vJ at e;by_cases l:N.x.toList=[];all_goals
  simp only[l,decide_true,decide_false]at e;have h:=am e;cases t4:((N.nm.length:Int)==0);all_goals
   go_in;go_wp2;all_goals
    go_ret;exact⟨by rw[<-h.out];simp at t4;simp[*],i _⟩
def DL(l:List Int):∀r:ByteArray,(l.foldl (λr n=>r.push (UInt8.ofNat n.toNat)) r).data.toList=r.data.toList++l.map (λn=>UInt8.ofNat n.toNat):=by
 induction l with
 |nil=>intro r;simp
 |cons b l a=>intro r;simp only[jd,dv];rw[a];simp[ByteArray.push]
def GA(l:List Int):(eD l).data.toList=l.map (λn=>UInt8.ofNat n.toNat):=by
 unfold eD;rw[DL,show ByteArray.empty.data.toList=[] from rfl,dI]
def aeK(s:ByteArray)(i:Nat):aA s i=((s.data.toList[i]?).map (λb=>(b.toNat:Int))).getD (-1):=by
 unfold aA;by_cases a:i<s.size
 .rw[pf a,az (by simpa using a)];rfl
 .rw[dif_neg a,jp (by simpa using a)];rfl
def ze(l:List Int)(h:∀x∈l,0<=x/\x<256)(i:Nat):aA (eD l) i=(l[i]?).getD (-1):=by
 rw[aeK,GA,ci,Option.map_map];by_cases a:i<l.length
 .rw[az a];have:=h _ (iB a);simp only[ug,ie,Function.comp];rw[UInt8.toNat_ofNat'];omega
 .rw[jp (by omega)];rfl
def pG(s:ByteArray):List Int:=s.data.toList.map λa=>(a.toNat:Int)
def abo(s:ByteArray):eD (pG s)=s:=by
 apply kI;apply Array.toList_inj.1;rw[GA];unfold pG;rw[List.map_map]
 conv=>rhs;rw[<-List.map_id s.data.toList]
 apply List.map_congr_left;intro a _;simp
def D0(s:ByteArray):(pG s).length=s.size:=by simp[pG]
def Lh(s:ByteArray)(k:Nat)(h:k<s.size):(pG s).take (k+1)=(pG s).take k++[(s[k].toNat:Int)]:=by
 have a:k<(pG s).length:=by rw[D0];exact h
 rw[List.take_succ_eq_append_getElem a]
 congr 2
 simp[pG];rfl
def Iv(d:Int)(a:0<=d)(b:d<16):32<=mq d/\mq d<=126:=by unfold mq;split<;>omega
def anw(c:Int)(e:0<=c)(f:c<256):∀x∈esc c,32<=x/\x<=126:=by
 unfold esc;split
 .simp
 split
 .simp
 split
 .rename_i d;simp;omega
 split
 .have a:=Iv (c / 16) (by omega) (by omega);have b:=Iv (c%16) (by omega) (by omega);simp;omega
 .simp;omega
def Iy(s:ByteArray)(k:Nat)(h:k<s.size):0<=(s[k].toNat:Int)/\(s[k].toNat:Int)<256:=by have:=s[k].toNat_lt;omega
def amr(s:ByteArray):∀k,k<=s.size->∀x∈qt s k,32<=x/\x<=126
 |0,_=>by simp[qt]
 |k+1,h=>by
  intro x hx;rw[uj s k (by omega),CH]at hx;rcases hx with hx|hx
  .exact amr s k (by omega) x hx
  .exact anw _ (Iy s k (by omega)).1 (Iy s k (by omega)).2 x hx
def D1(s:ByteArray):∀x∈dA s,32<=x/\x<=126:=by
 intro x hx;unfold dA at hx;rw[CH]at hx;rcases hx with hx|hx
 .exact amr s s.size (af _) x hx
 .simp at hx;omega
def D2(s:ByteArray)(k:Nat):∀n,k+n<=s.size->∃tl,qt s (k+n)=qt s k++tl
 |0,_=>⟨[],by simp⟩
 |n+1,h=>by
  have⟨tl,ht⟩:=D2 s k n (by omega);exact⟨tl++esc (s[k+n].toNat:Int),by rw[show k+(n+1)=(k+n)+1 by omega,uj s (k+n) (by omega),ht,dj]⟩
def agG(s:ByteArray)(k:Nat)(h:k<s.size):∃tl,dA s=qt s k++(esc (s[k].toNat:Int)++tl):=by
 have⟨tl,a⟩:=D2 s (k+1) (s.size-(k+1)) (by omega);rw[show k+1+(s.size-(k+1))=s.size by omega,uj s k h]at a;exact⟨tl++[34],by unfold dA;rw[a];simp⟩
def aeL(s:ByteArray)(k j:Nat)(h:k<s.size)(a:j<(esc (s[k].toNat:Int)).length):aA (eD (dA s)) ((qt s k).length+j)=(esc (s[k].toNat:Int))[j]:=by
 rw[ze _ (λd c=>by have:=D1 s d c;omega)];have⟨e,b⟩:=agG s k h;rw[b,dE (by omega),show(qt s k).length+j-(qt s k).length=j by omega,gq a,az a];rfl
def ae0(s:ByteArray):aA (eD (dA s)) (qt s s.size).length=34:=by
 rw[ze _ (λb a=>by have:=D1 s b a;omega)];unfold dA;rw[dE (by omega)];simp
def Li(s:ByteArray):aA (eD (dA s)) 0=34:=by
 rw[ze _ (λb a=>by have:=D1 s b a;omega)];unfold dA qt;simp
def ae1(s:ByteArray):(dA s).length=(qt s s.size).length+1:=by unfold dA;simp
def ae2:∀d:Fin 16,jA (mq (d.val:Int))=(d.val:Int):=by decide
def ye(d:Int)(b:0<=d)(c:d<16):jA (mq d)=d:=by
 have:=ae2 ⟨d.toNat,by omega⟩;have a:((d.toNat:Nat):Int)=d:=by omega
 simp only[a]at this;exact this
def agH(s:ByteArray):∀(n k f:Nat),k+n=s.size->(eD (dA s)).size<(qt s k).length+f->
  jv (eD (dA s)) f (qt s k).length ((pG s).take k)=(true,(eD (dA s)).size,pG s):=by
 have E:(eD (dA s)).size=(qt s s.size).length+1:=by rw[sD,ae1]
 intro n
 induction n with
 |zero=>
  intro k f z w;obtain rfl:k=s.size:=by omega
  obtain⟨f,rfl⟩:∃p,f=p+1:=⟨f-1,by omega⟩;unfold jv;rw[aa (by omega),ae0,ae rfl,E,cj (by rw[D0];omega)]
 |succ n H=>
  intro k f z w;have o:k<s.size:=by omega
  have al:=Iy s k o;have C:=uj s k o;have F:=Lh s k o;have b:=λI y=>aeL s k I o y;have A:(qt s (k+1)).length<=(qt s s.size).length:=by
   have⟨ao,r⟩:=D2 s (k+1) n (by omega);rw[show k+1+n=s.size by omega]at r;rw[r];simp
  have d:=λv x=>H (k+1) v (by omega) x;rw[F]at d;generalize (s[k].toNat:Int)=a at *;have B:(qt s (k+1)).length=(qt s k).length+(esc a).length:=by rw[C];simp
  generalize an:eD (dA s)=c at *;generalize ak:(qt s k).length=P at *;generalize ad:(pG s).take k=L at *;obtain⟨f,rfl⟩:∃p,f=p+1:=⟨f-1,by omega⟩;rw[B]at d A;unfold jv;rw[aa (by omega)];by_cases j:a=10
  .subst j;have e:aA c P=92:=b 0 (by decide);have g:=b 1 (by decide);have h:mw c (P+1)=(10,P+1+1,true):=by unfold mw;rw[g];rfl
   rw[e,aa (by decide),aa (by decide),ae rfl,h,ae rfl];exact d f (by have:(esc 10).length=2:=rfl;omega)
  by_cases l:a=9
  .subst l;have e:aA c P=92:=b 0 (by decide);have g:=b 1 (by decide);have h:mw c (P+1)=(9,P+1+1,true):=by unfold mw;rw[g];rfl
   rw[e,aa (by decide),aa (by decide),ae rfl,h,ae rfl];exact d f (by have:(esc 9).length=2:=rfl;omega)
  by_cases m:a=34\/a=92
  .have i:esc a=[92,a]:=by unfold esc;rw[aa j,aa l,ae m]
   rw[i]at b d;have e:aA c P=92:=b 0 (by simp);have g:aA c (P+1)=a:=b 1 (by simp);have h:mw c (P+1)=(a,P+1+1,true):=by unfold mw;rw[g,aa (by omega),aa (by omega),ae m]
   rw[e,aa (by decide),aa (by decide),ae rfl,h,ae rfl];exact d f (by simp;omega)
  by_cases q:a<32\/126<a
  .have i:esc a=[92,120,mq (a / 16),mq (a%16)]:=by unfold esc;rw[aa j,aa l,aa m,ae q]
   rw[i]at b d;have e:aA c P=92:=b 0 (by simp);have g:aA c (P+1)=120:=b 1 (by simp);have t:aA c (P+1+1)=mq (a / 16):=b 2 (by simp);have u:aA c (P+1+1+1)=mq (a%16):=b 3 (by simp);have J:=ye (a / 16) (by omega) (by omega);have K:=ye (a%16) (by omega) (by omega);have G:hexI c (P+1+1)=(a,P+1+1+1+1,true):=by
    unfold hexI;rw[t,u,J,K,aa (by omega),aa (by omega)]
    congr 1;omega
   have h:mw c (P+1)=(a,P+1+1+1+1,true):=by unfold mw;rw[g,aa (by decide),aa (by decide),aa (by decide),ae rfl,G]
   rw[e,aa (by decide),aa (by decide),ae rfl,h,ae rfl];exact d f (by simp;omega)
  .have i:esc a=[a]:=by unfold esc;rw[aa j,aa l,aa m,aa q]
   rw[i]at b d;have e:aA c P=a:=b 0 (by simp);rw[e,aa (by omega),aa (by omega),aa (by omega)];exact d f (by simp;omega)
def oF{W:T}{base e size:Nat}(o:W.ownsRow base e size v n xs){cs:Array Ax}{t:A5}{fr:Nat×Nat}(c:W.heap[g]?=Z (.cells cs t fr))(ht:t≠e):v.ownBlock≠Z g:=λa=>by
 rcases o.2 with⟨b,_⟩|⟨d,h,i,b,_,f,_⟩
 .rw[b]at a;simp[A2]at a
 .rw[b]at a;obtain rfl:d=g:=by simpa [A2] using a
  rw[f]at c;cases c;exact ht rfl
def Iz{W:T}{base e size:Nat}(o:W.ownsRow base e size v n xs)(a:v.ownBlock≠Z g)(c:Nat)(u:Ax):(W.setCell ⟨g,c,A0⟩ u).ownsRow base e size v n xs:=
 o.kept (row:=Z g) ⟨rfl,rfl,rfl,by simp[World.setCell],λh f b=>aC _ _ _ _ (λe=>b (by rw[e]))⟩ (by
  cases hv:v.ownBlock with
  |none=>exact .inl rfl
  |some d=>exact .inr (λe=>a (by rw[hv,e])))
def IA:(Tryz.prog.info? 61).map (λi=>(i.zero,i.size,i.bytes))=Z (Z (.agg #[Q S 0,Q S 0,Q S 0,Q S 0,Q S 0,Q S 0,V ⟨#[]⟩,Y A0 0 0,Y A0 0 0]),9,112):=by kernel_rfl
abbrev B9(N:Nd)(b a:Ax):Array Ax:=#[Q S N.k,Q S N.f,Q S N.t,Q S N.l,Q S N.op,Q S N.n,V N.x,b,a]
def ake{base:Nat}{e:A5}{size a d:Nat}{i:List Ax}(f:xs.length=n*size)
  (h:w.ownsRow base e size (Y (Z ⟨g,0,A0⟩) (n+d) a) (n+d) (xs++i)):w.ownsRow base e size (Y (Z ⟨g,0,A0⟩) n a) n xs:=by
 obtain⟨_,k⟩:=h;rcases k with⟨j,_⟩|⟨t,s,b,r,m,o,u,l,p,q⟩
 .cases j
 .cases r;refine⟨f,.inr ⟨g,a,b,rfl,m,o,by omega,l,p,?_⟩⟩;have c:(b.toList.take ((n+d)*size)).take (n*size)=(xs++i).take (n*size):=by rw[q]
  rw[List.take_take,ui (Nat.mul_le_mul_right _ (by omega))]at c;rw[c,<-f];exact take_len _ _
def akf{base:Nat}{e:A5}{size a:Nat}(h:w.ownsRow base e size (Y (Z ⟨g,0,A0⟩) n a) n xs):n<=a:=by
 rcases h.2 with⟨b,_⟩|⟨j,f,i,d,l,m,c,k,o,p⟩
 .cases b
 .cases d;exact c
def agI(st:List Int):Nat->List Int
 |0=>[]
 |j+1=>if(dz st ((j:Int)+1)).2=true then agI st j++[(j:Int)+1] else agI st j
def asn(st:List Int):List Int:=agI st 78
def pu{w':T}{lo c e size:Nat}(o:w.ownsRow lo e size v n xs)(h:∀g,v.ownBlock=Z g->lo<=g->g<w.heap.size->w'.heap[g]?=w.heap[g]?/\c<=g):w'.ownsRow c e size v n xs:=by
 obtain⟨j,a⟩:=o;refine⟨j,?_⟩;rcases a with a|⟨g,f,i,rfl,k,b,l⟩
 .exact .inl a
 .have d:=h g rfl k (ai b);exact .inr ⟨g,f,i,rfl,d.2,d.1.trans b,l⟩
structure Lw (w:T) (lo:Nat) (lv:Ax) (L:List Mb):Prop where
 row:w.ownsRow lo 61 9 lv L.length (im L)
 each:∀x∈L,w.ownsRow lo 9 1 x.vn x.N.nm.length (x.N.nm.map Value.string)/\w.ownsRow lo 3 1 x.vk x.N.ks.length (x.N.ks.map (Value.int .i64))
def Lw.mono{w':T}{lo:Nat}{L:List Mb}(h:Lw w lo v L)(d:∀k,lo<=k->k<w.heap.size->w'.heap[k]?=w.heap[k]?):Lw w' lo v L:=
 ⟨pu h.row λb _ a c=>⟨d b a c,a⟩,λf e=>⟨pu (h.each f e).1 λb _ a c=>⟨d b a c,a⟩,pu (h.each f e).2 λb _ a c=>⟨d b a c,a⟩⟩⟩
def Lw.nds{lo:Nat}{L:List Mb}(h:Lw w lo v L):dy w v (L.map Mb.N):=by
 rcases bJ h.row with⟨p,rfl⟩|⟨b,o,rfl⟩
 .exact .inl ⟨by rw[jb p];rfl,_,_,rfl⟩
 .refine .inr ⟨⟨b,0,A0⟩,o,by rw[bC],λc N a=>?_⟩;rw[ci]at a;cases hx:L[c]? with
  |none=>rw[hx]at a;cases a
  |some d=>
   rw[hx]at a;obtain rfl:=bz a;rw[show(⟨b,0,A0⟩:Addr).add (c*9)=⟨b,c*9,A0⟩ by unfold Addr.add;split<;>simp_all];have⟨f,g,i,j,k,c5,l,m,n⟩:=th h.row hx;have e:=h.each d (cG hx);exact⟨d.vn,d.vk,f,g,i,j,k,c5,l,m,n,Gx e.1,Gy e.2⟩
def wB:Nat->ByteArray
 |0=>⟨#[115,116,97,116]⟩
 |1=>⟨#[98,108,111,99,107]⟩
 |2=>⟨#[101,108,115,101]⟩
 |3=>⟨#[101,120,112,114]⟩
 |4=>⟨#[98,97,115,101]⟩
 |5=>⟨#[116,97,114,103,101,116]⟩
 |6=>⟨#[99,97,108,108]⟩
 |7=>⟨#[109,97,110,121]⟩
 |8=>⟨#[102,110]⟩
 |_=>⟨#[101,110,116,114,121]⟩
def ms:Nat->Int->Bool
 |0,k=>eA k
 |1,k=>k==1
 |2,k=>k==1||k==7
 |3,k=>fy k
 |4,k=>fy k&&k !=27
 |5,k=>k==26||k==32||k==33
 |6,k=>k==34
 |7,k=>k==34||k==27
 |8,k=>k==36
 |_,k=>decide (40<=k/\k<=42)
def D3(k:Int)(w:T):X O 260 #[Q S k] w (kL w (U (fy k))):=by
 unfold fy;rcases(show(20<=k/\k<=37)\/(20<=k/\¬k<=37)\/¬20<=k by omega) with⟨h1,b⟩|⟨h1,b⟩|h1
 .rw[aI ⟨h1,b⟩];go_in;go_wp2;go_ret;exact⟨rfl,rfl⟩
 .rw[aE (λa=>b a.2)];go_in;go_wp2;go_ret;exact⟨rfl,rfl⟩
 .rw[aE (λa=>h1 a.1)];go_in;go_wp2;go_ret;exact⟨rfl,rfl⟩
def ae3(k:Int)(w:T):X O 227 #[V ⟨#[115,116,97,116]⟩,Q S k] w (kL w (U (ms 0 k))):=by
 rcases(show(1<=k/\k<=16)\/(1<=k/\¬k<=16)\/(¬1<=k) by omega) with⟨h0,a⟩|⟨h0,a⟩|h0
 .rw[show ms 0 k=true from aI (by omega)];go_in;go_wp2;go_ret;exact⟨rfl,rfl⟩
 .rw[show ms 0 k=false from aE (by omega)];go_in;go_wp2;go_ret;exact⟨rfl,rfl⟩
 .rw[show ms 0 k=false from aE (by omega)];go_in;go_wp2;go_ret;exact⟨rfl,rfl⟩
def ae4(k:Int)(w:T):X O 227 #[V ⟨#[98,108,111,99,107]⟩,Q S k] w (kL w (U (ms 1 k))):=by
 unfold ms;go_in;go_wp2;go_ret;exact⟨rfl,rfl⟩
def ae5(k:Int)(w:T):X O 227 #[V ⟨#[101,108,115,101]⟩,Q S k] w (kL w (U (ms 2 k))):=by
 unfold ms;rcases(show(k=1)\/(k=7)\/(¬k=1/\¬k=7) by omega) with rfl|rfl|⟨a,b⟩
 .go_in;go_wp2;go_ret;exact⟨rfl,rfl⟩
 .go_in;go_wp2;go_ret;exact⟨rfl,rfl⟩
 .go_in;go_wp2;go_ret;exact⟨rfl,rfl⟩
def ae6(k:Int)(w:T):X O 227 #[V ⟨#[101,120,112,114]⟩,Q S k] w (kL w (U (ms 3 k))):=by
 have a:=λw=>D3 k w;have⟨c,b⟩:=aJ (fy k);show X _ _ _ _ (kL w (U (fy k)));rw[b]at a⊢;go_in;go_wp2_with (go_at_call 260;refine iI (a _) ?_);go_ret;exact⟨rfl,rfl⟩
def ae7(k:Int)(w:T):X O 227 #[V ⟨#[98,97,115,101]⟩,Q S k] w (kL w (U (ms 4 k))):=by
 have a:=λw=>D3 k w;have⟨b,c⟩:=aJ (fy k);show X _ _ _ _ (kL w (U (fy k&&k !=27)));rw[c]at a⊢;cases b
 .rw[fw];go_in;go_wp2_with (go_at_call 260;refine iI (a _) ?_);go_ret;exact⟨rfl,rfl⟩
 .rw[gE];go_in;go_wp2_with (go_at_call 260;refine iI (a _) ?_);go_ret;exact⟨rfl,rfl⟩
def ae8(k:Int)(w:T):X O 227 #[V ⟨#[116,97,114,103,101,116]⟩,Q S k] w (kL w (U (ms 5 k))):=by
 unfold ms;rcases(show(k=26)\/(k=32)\/(k=33)\/(¬k=26/\¬k=32/\¬k=33) by omega) with rfl|rfl|rfl|⟨a,b,c⟩
 .go_in;go_wp2;go_ret;exact⟨rfl,rfl⟩
 .go_in;go_wp2;go_ret;exact⟨rfl,rfl⟩
 .go_in;go_wp2;go_ret;exact⟨rfl,rfl⟩
 .go_in;go_wp2;go_ret;exact⟨rfl,rfl⟩
def ae9(k:Int)(w:T):X O 227 #[V ⟨#[99,97,108,108]⟩,Q S k] w (kL w (U (ms 6 k))):=by
 unfold ms;go_in;go_wp2;go_ret;exact⟨rfl,rfl⟩
def afa(k:Int)(w:T):X O 227 #[V ⟨#[109,97,110,121]⟩,Q S k] w (kL w (U (ms 7 k))):=by
 unfold ms;rcases(show(k=34)\/(k=27)\/(¬k=34/\¬k=27) by omega) with rfl|rfl|⟨a,b⟩
 .go_in;go_wp2;go_ret;exact⟨rfl,rfl⟩
 .go_in;go_wp2;go_ret;exact⟨rfl,rfl⟩
 .go_in;go_wp2;go_ret;exact⟨rfl,rfl⟩
def afb(k:Int)(w:T):X O 227 #[V ⟨#[102,110]⟩,Q S k] w (kL w (U (ms 8 k))):=by
 unfold ms;go_in;go_wp2;go_ret;exact⟨rfl,rfl⟩
def afc(k:Int)(w:T):X O 227 #[V ⟨#[101,110,116,114,121]⟩,Q S k] w (kL w (U (ms 9 k))):=by
 rcases(show(40<=k/\k<=42)\/(40<=k/\¬k<=42)\/(¬40<=k) by omega) with⟨h0,a⟩|⟨h0,a⟩|h0
 .rw[show ms 9 k=true from aI (by omega)];go_in;go_wp2;go_ret;exact⟨rfl,rfl⟩
 .rw[show ms 9 k=false from aE (by omega)];go_in;go_wp2;go_ret;exact⟨rfl,rfl⟩
 .rw[show ms 9 k=false from aE (by omega)];go_in;go_wp2;go_ret;exact⟨rfl,rfl⟩
def IB(i:Nat)(a:i<10)(k:Int)(w:T):X O 227 #[V (wB i),Q S k] w (kL w (U (ms i k))):=by
 match i,a with
 |0,_=>exact ae3 k w
 |1,_=>exact ae4 k w
 |2,_=>exact ae5 k w
 |3,_=>exact ae6 k w
 |4,_=>exact ae7 k w
 |5,_=>exact ae8 k w
 |6,_=>exact ae9 k w
 |7,_=>exact afa k w
 |8,_=>exact afb k w
 |9,_=>exact afc k w
