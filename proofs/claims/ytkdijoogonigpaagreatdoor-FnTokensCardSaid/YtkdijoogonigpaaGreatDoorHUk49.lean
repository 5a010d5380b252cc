import Derived.Test.YtkdijoogonigpaaGreatDoorHUk39
import Derived.Test.YtkdijoogonigpaaGreatDoorHUk19
set_option linter.all false
open List renaming range->M,replicate->O
open ByteArray renaming empty->Q
namespace Go.Proofs.YtkdijoogonigpaaGreatDoor
open Go.RowKit Go.Maps Go.WideMaps
def fW(N:Nd):Int:=150+8000*(bgN N:Int)
def Wp(ns:List Nd)(j:Int):Int:=((ns.take j.toNat).map fW).sum
def wN(ns:List Nd)(i:Int):Int:=Wp ns (i+1)-Wp ns (i+1-(jA ns).getD i.toNat 0)
def wK(ns:List Nd):List Int->Int
 |[]=>0
 |k::l=>wN ns k+wK ns l
theorem ti(ns:List Nd)(a b:List Int):wK ns (a++b)=wK ns a+wK ns b:=by
 induction a with
 |nil=>simp[wK]
 |cons d e c=>simp only[gn,wK,c];omega
theorem aep(ns:List Nd)(l:List Int):wK ns l.reverse=wK ns l:=by
 induction l with
 |nil=>rfl
 |cons b l a=>rw[List.reverse_cons,ti,a];simp only[wK];omega
theorem acy(ns:List Nd):∀(l:List Int)(a b:Int),wg (jA ns) l a=some b->wK ns l=Wp ns a-Wp ns b
 |[],a,b,c=>by simp[wg]at c;subst c;simp[wK]
 |k::r,a,b,c=>by
  rw[wg]at c;split at c
  ·rename_i d;have:=acy ns r _ _ c;simp only[wK,wN];rw[this,show k+1=a by omega];omega
  ·cases c
theorem CC(S:List Int)(i:Nat):∀(l:List Int)(a:Int),(∀k∈l,0<=k/\k<(i:Int))->wg (S.take i) l a=wg S l a
 |[],a,_=>rfl
 |k::r,a,b=>by
  have f:=b k dt;have c:(S.take i).getD k.toNat 0=S.getD k.toNat 0:=by
   rw[bF,bF,List.getElem?_take_of_lt (by omega)]
  rw[wg,wg,c,CC S i r _ fun e d=>b e (dJ _ d)]
theorem ab3{ns:List Nd}{i:Nat}{N:Nd}(a:ns[i]?=some N):Wp ns ((i:Int)+1)=Wp ns i+fW N:=by
 unfold Wp;rw[show((i:Int)+1).toNat=i+1 by omega,show((i:Int)).toNat=i by omega,iq,a];simp
structure Wzd (ns:List Nd):Prop where
 nb:∀i:Nat,i<ns.length->iy ns i (nodeI ns i)=true
 at_:∀i:Nat,i<ns.length->wN ns i=fW (nodeI ns i)+wK ns (nodeI ns i).ks
 root:wN ns ((ns.length:Int)-1)=Wp ns ns.length
 len:1<=ns.length
theorem aeq{ns:List Nd}(a:(fy ns).1=0):Wzd ns:=by
 have r:=KC a;have l:=rL a;have A:=a;unfold fy at a;by_cases k:iz ns=true
 ·rw[ab k]at a;exact absurd a (by decide)
 rw[aa k]at a;obtain⟨o,s⟩:=aD (kD (fJ ns) ns.length 0);rw[s]at a;cases o with
 |some i=>rw[tf2]at a;exact absurd a (by simp)
 |none=>
  rw[tf2]at a;obtain⟨p,j⟩:=aD (kD (ia (jA ns)) ns.length 0);rw[j]at a;cases p with
  |some i=>rw[tf3]at a;exact absurd a (by simp)
  |none=>
   have t:=mF j;rw[tf3]at a;have w:(jA ns).getD (ns.length-1) 0=(ns.length:Int):=by
    by_cases h:(jA ns).getD (ns.length-1) 0=(ns.length:Int)
    ·exact h
    ·rw[ab h]at a;exact absurd a (by simp)
   refine⟨r.nb,fun i u=>?_,?_,l.len.1⟩
   ·have d:ns[i]?=some (nodeI ns i):=by
     unfold nodeI;rw[jJ,List.getD,aF u];rfl
    generalize nodeI ns i=e at d;have c:=t i (aG _) (by omega);unfold ia at c;have b:=Kv d;rw[b]at c;unfold rC at c b;cases hw:wg ((jA ns).take i) e.ks.reverse i with
    |none=>rw[hw]at c;simp at c
    |some f=>
     rw[hw]at b;simp only at b;rw[CC (jA ns) i _ _ (fun z v=>l.kid i e d z (by simpa using v))]at hw;have g:=acy ns _ _ _ hw;rw[aep]at g;unfold wN;rw[show((i:Int)).toNat=i by omega,b,ab3 d,g,show(i:Int)+1-((i:Int)-f+1)=f by omega];omega
   ·unfold wN;rw[show((ns.length:Int)-1).toNat=ns.length-1 by omega,w,show(ns.length:Int)-1+1=ns.length by omega,Int.sub_self];have:Wp ns 0=0:=by unfold Wp;simp
    omega
theorem Gb{ns:List Nd}(d:Wzd ns):∀{i:Nat},i<ns.length->150<=wN ns i:=by
 intro i
 induction i using Nat.strongRecOn with
 |_ i l=>
  intro c;rw[d.at_ i c];have j:∀a:List Int,(∀b∈a,b∈(nodeI ns i).ks)->0<=wK ns a:=by
   intro a
   induction a with
   |nil=>intro _;exact Int.le_refl _
   |cons r a o=>
    intro g;obtain⟨p,k,h⟩:=iB (g r dt);obtain⟨y,e⟩:=eD (d.nb i c) c p k;have:=l y e.lt e.len;have:=o (fun b f=>g b (dJ _ f));simp only[wK];rw[<-h,e.id];omega
  have:=j _ (fun b f=>f);unfold fW;omega
theorem aer(a:List Mb):Wp (a.map Mb.N) (a.map Mb.N).length=150*(a.length:Int)+8000*(bigs a:Int):=by
 unfold Wp bigs;rw[show(((a.map Mb.N).length:Nat):Int).toNat=(a.map Mb.N).length by omega,cC (ag _)]
 induction a with
 |nil=>rfl
 |cons y a b=>
  simp only[fo,List.sum_cons,db]at b⊢;rw[b];unfold fW;omega
def CE(x:ByteArray)(b:Int):Prop:=∃a:Nat,Cs x a/\(a:Int)<=b
section
variable {x y : ByteArray} {m n : Int}
theorem CE.app(d:CE x m)(c:CE y n):CE (x++y) (m+n):=by
 obtain⟨a,e,g⟩:=d;obtain⟨b,f,h⟩:=c;exact⟨a+b,e.app f,by omega⟩
theorem CE.le(b:CE x m)(d:m<=n):CE x n:=by
 obtain⟨a,c,e⟩:=b;exact⟨a,c,by omega⟩
end
theorem Cs.ce{x:ByteArray}{c:Nat}(a:Cs x c):CE x c:=⟨c,a,Int.le_refl _⟩
theorem bh{x:ByteArray}(c:Nat)(a:∀q:Fin 4,oh q.val (cD x)<=c/\pz q.val (cD x)<4):CE x c:=(lu a).ce
theorem mu:CE Q 0:=⟨0,vA,by decide⟩
theorem Gc:∀t:Nat,oh 3 (O t 9)=0/\pz 3 (O t 9)=3
 |0=>⟨rfl,rfl⟩
 |t+1=>by
  obtain⟨a,b⟩:=Gc t;rw[List.replicate_succ,oh,pz,show iI 3 9=0 by decide,show iJ 3 9=3 by decide,a,b];exact⟨rfl,rfl⟩
theorem yA:∀t:Nat,cD (wi t)=O t 9
 |0=>rfl
 |t+1=>by
  show cD (wi t++⟨#[9]⟩)=_;rw[qm,yA t,List.replicate_succ'];rfl
theorem Ge(t:Nat):CE (ij t) 12:=⟨12,⟨fun q d=>by
 unfold ij;rw[qm,yA];show oh q (10::O t 9)<=12/\pz q (10::O t 9)<4;have a:iI q 10=12/\iJ q 10=3:=by rcases(show q=0\/q=1\/q=2\/q=3 by omega) with rfl|rfl|rfl|rfl<;>decide
 obtain⟨b,c⟩:=Gc t;rw[oh,pz,a.1,a.2,b,c];omega⟩,by decide⟩
theorem CD:CE di 14:=bh 14 (by decide)
theorem LA(l:List ByteArray)(w:Nat->Int)(g:∀k x,l[k]?=some x->CE x (w k))(j:∀k,k<l.length->0<=w k+14):∀k,k<=l.length->CE (bv (l.take k)) (((M k).map fun i=>w i+14).sum-(if k=0 then 0 else 14)):=by
 intro k
 induction k with
 |zero=>intro _;exact⟨0,vA,by simp⟩
 |succ k h=>
  intro o;have f:k<l.length:=by omega
  have c:l[k]?=some l[k]:=aF f;have e:(if k+1=0 then(0:Int) else 14)=14:=aa (by omega);rw[kJ l k _ c,List.range_succ,eL,List.sum_append,e];have b:=h (by omega);have d:=g k _ c;by_cases a:k=0
  ·subst a;rw[ab rfl];exact(b.app d).le (by simp)
  ·rw[aa a];rw[aa a]at b;exact((b.app CD).app d).le (by simp;omega)
theorem Av(ns:List Nd)(E:Int->ByteArray)(s:Int)(u:0<=s)(l:List Int)(c:∀z∈l,CE (E z) (wN ns z-14-s)):CE (bv (l.map E)) (wK ns l-(if l=[] then 0 else 14+s*l.length)):=by
 have d:=LA (l.map E) (fun b=>wN ns (l.getD b 0)-14-s) (fun b x f=>by
  rw[dj]at f;obtain⟨z,g,rfl⟩:=Option.map_eq_some_iff.1 f;show CE (E z) (wN ns (l.getD b 0)-14-s);rw[bF,g];exact c z (dC g)) (fun b o=>by
  have e:b<l.length:=by simpa using o
  obtain⟨r,_,t⟩:=c l[b] (lG e);simp only[bF,aF e,ga];omega) (l.map E).length (ag _)
 rw[cC (ag _),du]at d;refine d.le ?_;have h:((M l.length).map fun i=>wN ns (l.getD i 0)-14-s+14).sum=wK ns l-s*l.length:=by
  clear d c
  induction l using po with
  |b=>simp[wK]
  |c a x p=>
   rw[aH,List.length_singleton,List.range_succ,eL,List.sum_append,ti];have j:((M a.length).map fun i=>wN ns ((a++[x]).getD i 0)-14-s+14)=(M a.length).map fun i=>wN ns (a.getD i 0)-14-s+14:=by
    apply List.map_congr_left;intro i k;have:i<a.length:=List.mem_range.1 k;rw[bF,bF,jG this]
   rw[j,p];simp only[fo,List.map_nil,List.sum_cons,List.sum_nil,wK,bF,jc (ag _),fC,List.getElem?_cons_zero,ga];rw[show((a.length+1:Nat):Int)=(a.length:Int)+1 by omega,Int.mul_add];omega
 rw[h];cases l with
 |nil=>simp
 |cons z l=>
  rw[aa (by simp),aa (by simp)];omega
theorem Hk(x:ByteArray):cD x=(M x.size).map fun i=>ao x i:=by
 apply List.ext_getElem?;intro i;unfold cD;rw[dj,dj];rcases be i x.size with h|h
 ·have a:i<x.data.toList.length:=by rw[cJ];exact h
  rw[aF a,aF (by rw[List.length_range];exact h)];simp only[uc,List.getElem_range];rw[((dq x i _).1 (aF a)).2]
 ·rw[dL (by rw[cJ];exact h),dL (by rw[List.length_range];exact h)];rfl
theorem wB{x:ByteArray}(a:0<x.size):cD x=ao x 0::(M (x.size-1)).map fun i=>ao x (i+1):=by
 rw[Hk,show x.size=(x.size-1)+1 by omega,List.range_succ_eq_map];simp[Function.comp]
theorem Hl{x:ByteArray}(a:2<=x.size):cD x=ao x 0::ao x 1::(M (x.size-2)).map fun i=>ao x (i+2):=by
 rw[wB (by omega),show x.size-1=(x.size-2)+1 by omega,List.range_succ_eq_map];simp[Function.comp]
theorem aes(n:Int)(A: -9223372036854775808<=n)(j:n<=9223372036854775807):Cs (lr n) 70:=by
 unfold lr;by_cases k:n<0
 ·rw[ab k];obtain⟨a,v⟩:∃a,(n+18446744073709551616).toNat=a:=⟨_,rfl⟩;rw[v];obtain⟨o,p,r⟩:=ut a 16;have F:=lq a 16;obtain⟨x,h⟩:∃x,xK a 16=x:=⟨_,rfl⟩;rw[h]at o p r F⊢;clear h v k A j;have B:∀c∈(M (x.size-2)).map (fun i=>ao x (i+2)),nH c=true:=fun c b=>by
   obtain⟨i,f,rfl⟩:=List.mem_map.1 b;have f:i<x.size-2:=List.mem_range.1 f;rw[Nat.add_comm,r i (by omega)];unfold sx;have:∀d:Fin 16,nH (gg (d.val:Int))=true:=by decide
   exact this ⟨a / 16 ^ (15-i)%16,Nat.mod_lt _ (by decide)⟩
  refine⟨fun q e=>?_⟩;rw[Hl (by omega),o,p];have:=ye (d:=120) (by decide) (by decide) B q e;rw[du,List.length_range]at this;omega
 ·rw[aa k];have u:=vD n.toNat;have G:(im n.toNat).size<=20:=by rw[sD];exact Lib.nDigits_le20 _ (by omega)
  obtain⟨x,h⟩:∃x,im n.toNat=x:=⟨_,rfl⟩;show Cs (im n.toNat) 70;rw[h]at u G⊢;obtain⟨s,t,w,z,_⟩:=u;refine⟨fun q e=>?_⟩;rw[wB s];have I:=dl (t 0 s);have C:∀c∈(M (x.size-1)).map (fun i=>ao x (i+1)),nH c=true:=fun c b=>by
   obtain⟨i,f,rfl⟩:=List.mem_map.1 b;have:i<x.size-1:=List.mem_range.1 f;unfold nH;rw[t (i+1) (by omega)];simp
  by_cases H:n.toNat=0
  ·have j:=z (by omega);rw[j];rcases(show ao x 0=48\/ao x 0≠48 by omega) with g|g
   ·rw[g];have:∀q:Fin 4,oh q.val [48]<=70/\pz q.val [48]<4:=by decide
    exact this ⟨q,e⟩
   ·have:=I5 (c:=ao x 0) (l:=[]) (by omega) (fun c b=>by cases b) q e;simp only[gH]at this;show oh q [ao x 0]<=70/\pz q [ao x 0]<4;omega
  ·have:=I5 (c:=ao x 0) (by have:=w H;omega) C q e;simp only[du,List.length_range]at this;omega
theorem afJ{N:Nd}(b:sj N)(j:N.k≠25\/N.k=25):CE (GH N) (fW N-32):=by
 have h:(0:Int)<=bgN N:=by omega
 have c:fW N=150+8000*(bgN N:Int):=rfl;unfold GH
 repeat' split
 ·exact(bh 28 (by decide)).le (by omega)
 ·exact(bh 32 (by decide)).le (by omega)
 ·exact(bh 44 (by decide)).le (by omega)
 ·exact(aes N.n b.int.n.1 b.int.n.2).ce.le (by omega)
 ·rename_i g;rcases b.x with⟨_,_,a⟩|⟨a,_⟩
  ·exact a.ce.le (by omega)
  ·omega
 ·rename_i e;rcases b.x with⟨a,_⟩|⟨_,a|⟨a,f⟩⟩
  ·exact absurd e a
  ·exact a.2.ce.le (by omega)
  ·have d:bgN N=1:=by unfold bgN;rw[ab (by have:=a.lo;omega)]
   rw[c,d];exact(adj N.x (by have:=a.lo;omega) a.dg a.b0 a.b1).ce.le (by omega)
 ·exact(bh 36 (by decide)).le (by omega)
 ·exact mu.le (by omega)
theorem Ec{x:ByteArray}{m:Int}(a:CE x m):CE (xo x) (m+24):=(((bh (x:=⟨#[40]⟩) 12 (by decide)).app a).app (bh (x:=⟨#[41]⟩) 12 (by decide))).le (by omega)
theorem Aw{ns:List Nd}{E:Int->ByteArray}{k b m:Int}(a:CE (E k) m):CE (ik ns E k b) (m+24):=by
 unfold ik;split
 ·exact Ec a
 ·exact a.le (by omega)
theorem LB{ns:List Nd}{E:Int->ByteArray}{k m:Int}(a:CE (E k) m):CE (Hr ns E k) (m+24):=by
 unfold Hr;split
 ·exact a.le (by omega)
 ·exact Ec a
theorem afK(ns:List Nd)(N:Nd):CE (unS ns N) 30:=by
 unfold unS
 repeat' split
 ·exact bh 30 (by decide)
 ·exact bh 30 (by decide)
 ·exact bh 30 (by decide)
 ·exact((bh (x:=⟨#[45]⟩) 12 (by decide)).app (bh (x:=⟨#[32]⟩) 2 (by decide))).le (by decide)
 ·exact bh 30 (by decide)
theorem aet{op:Int}(a:1<=op/\op<=18):CE (px (60+op)) 24:=by
 obtain⟨b,c⟩:=a;rcases(show op=1\/op=2\/op=3\/op=4\/op=5\/op=6\/op=7\/op=8\/op=9\/op=10\/op=11\/op=12\/op=13\/op=14\/op=15\/op=16\/op=17\/op=18 by omega) with rfl|rfl|rfl|rfl|rfl|rfl|rfl|rfl|rfl|rfl|rfl|rfl|rfl|rfl|rfl|rfl|rfl|rfl;all_goals exact bh 24 (by decide+kernel)
theorem LC{nm:List ByteArray}(c:nm.length<=3)(a:∀s∈nm,Shr s):CE (bv nm) 106:=by
 have:=LA nm (fun _=>26) (fun d x b=>((a x (dC b)).cs).ce) (fun _ _=>by decide) nm.length (ag _);rw[cC (ag _)]at this;refine this.le ?_;rcases(show nm.length=0\/nm.length=1\/nm.length=2\/nm.length=3 by omega) with h|h|h|h<;>rw[h]<;>decide
theorem aeu{N:Nd}(a:sj N):CE (nm0 N) 26:=by
 unfold nm0;rw[bF];cases e:N.nm[0]? with
 |none=>exact mu.le (by decide)
 |some b=>exact((a.s b (dC e)).cs).ce
theorem aev{N:Nd}(a:sj N):CE (GJ N) 182:=by
 unfold GJ;have b:CE (if N.op=1 then(if N.nm=[] then(⟨#[46,46,46]⟩:ByteArray) else di++⟨#[46,46,46]⟩) else Q) 50:=by
  repeat' split
  ·exact(bh 36 (by decide)).le (by decide)
  ·exact(CD.app (bh (x:=⟨#[46,46,46]⟩) 36 (by decide))).le (by decide)
  ·exact mu.le (by decide)
 exact((((bh (x:=⟨#[40]⟩) 12 (by decide)).app (LC a.nm a.s)).app b).app (bh (x:=⟨#[41,32]⟩) 14 (by decide))).le (by decide)
structure LD (ns:List Nd) (E:Int->ByteArray) (S:Int->Nat->ByteArray) (i:Nat) (tab:Nat):Prop where
 e:∀z:Nat,z<i->CE (E z) (wN ns z-32)
 s:∀z:Nat,z<i->CE (S z (tab+1)) (wN ns z-14)
section
variable {ns : List Nd} {E : Int → ByteArray} {S : Int → Nat → ByteArray} {i tab q : Nat}
theorem LD.kid(a:LD ns E S i tab)(d:Wzd ns)(j:q<=i)(b:q<ns.length):∀z∈(nodeI ns q).ks,CE (E z) (wN ns z-32)/\CE (S z (tab+1)) (wN ns z-14):=by
 intro z g;obtain⟨h,f,rfl⟩:=iB g;obtain⟨y,c⟩:=eD (d.nb q b) b h f;rw[c.id];have:=c.lt;exact⟨a.e y (by omega),a.s y (by omega)⟩
theorem afL(ks:List Int)(f:∀z∈ks,CE (S z (tab+1)) (wN ns z-14)):CE (tK S ks tab) (wK ns ks+36):=by
 unfold tK;split
 ·rename_i c;subst c;exact(bh 24 (by decide)).le (by simp[wK])
 ·have j:CE (fw (ks.map fun a=>ij (tab+1)++S a (tab+1))) (wK ns ks):=by
   have:∀b:List Int,(∀z∈b,CE (S z (tab+1)) (wN ns z-14))->CE (fw (b.map fun a=>ij (tab+1)++S a (tab+1))) (wK ns b):=by
    intro b
    induction b using po with
    |b=>intro _;exact⟨0,vA,by simp[wK]⟩
    |c d x h=>
     intro e;have c:fw ((d++[x]).map fun a=>ij (tab+1)++S a (tab+1))=fw (d.map fun a=>ij (tab+1)++S a (tab+1))++(ij (tab+1)++S x (tab+1)):=by
      unfold fw;rw[eL,List.foldl_append];rfl
     rw[c,ti];exact((h fun z g=>e z (List.mem_append.2 (.inl g))).app ((Ge _).app (e x (by simp)))).le (by simp only[wK];omega)
   exact this ks f
  exact((((bh (x:=⟨#[123]⟩) 12 (by decide)).app j).app (Ge _)).app (bh (x:=⟨#[125]⟩) 12 (by decide))).le (by omega)
theorem wC(N:Nd):150<=fW N:=by unfold fW;omega
theorem LD.blk(b:LD ns E S i tab)(d:Wzd ns)(c:q<=i)(a:q<ns.length):CE (tK S (nodeI ns q).ks tab) (wN ns q-114):=by
 have:=afL (ns:=ns) (nodeI ns q).ks (fun f e=>(b.kid d c a f e).2);refine this.le ?_;rw[d.at_ q a];have:=wC (nodeI ns q);omega
theorem mw{N:Nd}(a:N.ks.length=1):wK ns N.ks=wN ns (bz N 0):=by
 unfold bz
 match e:N.ks,a with
 |[b],_=>simp[wK]
theorem tj{N:Nd}(a:N.ks.length=2):wK ns N.ks=wN ns (bz N 0)+wN ns (bz N 1):=by
 unfold bz
 match e:N.ks,a with
 |[b,c],_=>simp[wK]
theorem LE{N:Nd}(a:N.ks.length=3):wK ns N.ks=wN ns (bz N 0)+wN ns (bz N 1)+wN ns (bz N 2):=by
 unfold bz
 match e:N.ks,a with
 |[b,c,d],_=>simp[wK];omega
theorem ab4{N:Nd}(c:0<N.ks.length):wK ns N.ks=wK ns (N.ks.take (N.ks.length-1))+wN ns (bz N (N.ks.length-1)):=by
 have a:N.ks=N.ks.take (N.ks.length-1)++[bz N (N.ks.length-1)]:=by
  have b:=qy (N.ks.length-1) N.ks;rw[lB (by omega),wz,qv (by omega)]at b;exact b.symm
 rw[a,ti,<-a];simp[wK]
theorem ab5{N:Nd}(b:0<N.ks.length):wK ns N.ks=wN ns (bz N 0)+wK ns (N.ks.drop 1):=by
 unfold bz
 match e:N.ks,b with
 |a::c,_=>simp[wK]
theorem LD.bod(e:LD ns E S i tab)(d:Wzd ns)(g:∀N∈ns,sj N)(l:q<=i)(a:q<ns.length)(j:(nodeI ns q).k=36):CE (wj ns S (nodeI ns q) tab) (wN ns q-82):=by
 obtain⟨f,o,p,r⟩:=Kz (il (d.nb q a)).1 j;obtain⟨y,b⟩:=eD (d.nb q a) a 0 (by omega);have c:=e.blk d (bA (dD b.lt) l) b.len;have h:sj (nodeI ns q):=g _ (by unfold nodeI;rw[jJ,List.getD,aF a];exact lG _);unfold wj;rw[b.id];refine((aev h).app c).le ?_;rw[d.at_ q a,mw f,b.id];have:=wC (nodeI ns q);omega
end
section
variable {ns : List Nd} {E : Int → ByteArray} {S : Int → Nat → ByteArray} {i tab q : Nat}
theorem Ed(a:∀N∈ns,sj N)(b:q<ns.length):sj (nodeI ns q):=a _ (by unfold nodeI;rw[jJ,List.getD,aF b];exact lG _)
theorem af0{N:Nd}(b:sj N)(c:N.k≠25):CE N.x 90:=by
 rcases b.x with⟨_,_,a⟩|⟨a,_⟩
 ·exact a.ce
 ·exact absurd a c
theorem aew(g:LD ns E S i tab)(d:Wzd ns)(t:∀N∈ns,sj N)(A:q<=i)(b:q<ns.length)(z:40<=(nodeI ns q).k/\(nodeI ns q).k<=42):CE (iD ns E (nodeI ns q)) (wN ns q-32):=by
 have p:=(il (d.nb q b)).1;have j:=fun w u=>eD (d.nb q b) b w u;have B:=wC (nodeI ns q);have v:=af0 (Ed t b) (by omega);rw[d.at_ q b];unfold iD;by_cases l:(nodeI ns q).k=41
 ·rw[ab l];obtain⟨h,_,_⟩:=ja p (by omega);obtain⟨f,a⟩:=j 0 (by omega);obtain⟨r,o⟩:=j 1 (by omega);rw[tj h,a.id,o.id];have c:=g.e f (by have:=a.lt;omega);have s:=g.e r (by have:=o.lt;omega);exact((((bh (x:=⟨#[91]⟩) 12 (by decide)).app c).app (bh (x:=⟨#[93,32,61,32]⟩) 28 (by decide))).app s).le (by omega)
 ·rw[aa l];obtain⟨h,_,_⟩:=jD p (show _ by omega);obtain⟨f,a⟩:=j 0 (by omega);rw[mw h,a.id];have c:=g.e f (by have:=a.lt;omega);split
  ·exact((((bh (x:=⟨#[46]⟩) 12 (by decide)).app v).app (bh (x:=⟨#[32,61,32]⟩) 16 (by decide))).app c).le (by omega)
  ·exact c.le (by omega)
theorem aex(h:LD ns E S i tab)(d:Wzd ns)(C:∀N∈ns,sj N)(b:i<ns.length):CE (prE ns E S (nodeI ns i) tab) (wN ns i-32):=by
 have j:=(il (d.nb i b)).1;have k:=fun t F=>eD (d.nb i b) b t F;have a7:=wC (nodeI ns i);have ap:=Ed C b;have I:∀(K:ByteArray)(av:Int),CE K 36->((nodeI ns i).k=28\/(nodeI ns i).k=29\/(nodeI ns i).k=31\/(nodeI ns i).k=32\/(nodeI ns i).k=41)->CE (tJ ns E (nodeI ns i) K av) (wN ns i-32):=by
  intro K av a3 a1;obtain⟨c,_,_⟩:=ja j a1;obtain⟨f,a⟩:=k 0 (by omega);obtain⟨u,p⟩:=k 1 (by omega);rw[d.at_ i b,tj c,a.id,p.id];unfold tJ;rw[a.id,p.id];exact(((Aw (h.e f a.lt)).app a3).app (Aw (h.e u p.lt))).le (by omega)
 unfold prE;by_cases L:(nodeI ns i).k=28
 ·rw[ab L];exact I _ _ (bh 36 (by decide)) (by omega)
 rw[aa L];by_cases ak:(nodeI ns i).k=29
 ·rw[ab ak];exact I _ _ (bh 36 (by decide)) (by omega)
 rw[aa ak];by_cases w:(nodeI ns i).k=31
 ·rw[ab w];have:=aet ((ja j (by omega)).2.2 w);exact I _ _ (((bh (x:=⟨#[32]⟩) 2 (by decide)).app this).app (bh (x:=⟨#[32]⟩) 2 (by decide)) |>.le (by decide)) (by omega)
 rw[aa w];by_cases al:(nodeI ns i).k=30
 ·rw[ab al];obtain⟨c,_,_⟩:=jD j (by omega);obtain⟨f,a⟩:=k 0 (by omega);rw[d.at_ i b,mw c,a.id];unfold GG;rw[a.id];exact((afK ns (nodeI ns i)).app (Aw (h.e f a.lt))).le (by omega)
 rw[aa al];by_cases am:(nodeI ns i).k=32
 ·rw[ab am];obtain⟨c,_,_⟩:=ja j (by omega);obtain⟨f,a⟩:=k 0 (by omega);obtain⟨u,p⟩:=k 1 (by omega);rw[d.at_ i b,tj c,a.id,p.id];exact((((LB (h.e f a.lt)).app (bh (x:=⟨#[91]⟩) 12 (by decide))).app (h.e u p.lt)).app (bh (x:=⟨#[93]⟩) 12 (by decide))).le (by omega)
 rw[aa am];by_cases an:(nodeI ns i).k=33
 ·rw[ab an];obtain⟨c,_,_⟩:=jD j (by omega);obtain⟨f,a⟩:=k 0 (by omega);rw[d.at_ i b,mw c,a.id];exact((LB (h.e f a.lt)).app ((bh (x:=⟨#[46]⟩) 12 (by decide)).app (af0 ap (by omega)))).le (by omega)
 rw[aa an];have a5:=fun (l:List Int) (G:∀o∈l,o∈(nodeI ns i).ks)=>Av ns E 18 (by decide) l (fun o r=>(h.kid d (ag _) b o (G o r)).1.le (by omega));have a6:∀(l:List Int),(∀o∈l,o∈(nodeI ns i).ks)->CE (bv (l.map E)) (wK ns l):=fun l G=>(a5 l G).le (by split<;>omega);by_cases z:(nodeI ns i).k=34
 ·rw[ab z];obtain⟨c,_⟩:=Al j z;obtain⟨f,a⟩:=k 0 (by omega);rw[d.at_ i b,ab5 (by omega),a.id];exact((((LB (h.e f a.lt)).app (bh (x:=⟨#[40]⟩) 12 (by decide))).app (a6 ((nodeI ns i).ks.drop 1) (fun o r=>List.mem_of_mem_drop r))).app (bh (x:=⟨#[41]⟩) 12 (by decide))).le (by omega)
 rw[aa z];by_cases A:(nodeI ns i).k=35
 ·rw[ab A];unfold GI;have c:=wo j A;have s:=Av ns (fun J=>iD ns E (nodeI ns J)) 18 (by decide) (nodeI ns i).ks (fun o r=>by
   obtain⟨t,F,rfl⟩:=iB r;obtain⟨y,H⟩:=k t F;have s:=FK _ 0 c t (by omega) (by omega);rw[H.id]at s⊢;exact(aew h d C (dD H.lt) H.len s).le (by omega))
  have a0:CE (bv ((nodeI ns i).ks.map fun J=>iD ns E (nodeI ns J))) (wK ns (nodeI ns i).ks):=s.le (by split<;>omega);rw[d.at_ i b];exact(((bh (x:=⟨#[123]⟩) 12 (by decide)).app a0).app (bh (x:=⟨#[125]⟩) 12 (by decide))).le (by omega)
 rw[aa A];by_cases B:(nodeI ns i).k=36
 ·rw[ab B];exact((bh (x:=⟨#[102,110]⟩) 20 (by decide)).app (h.bod d C (ag _) b B)).le (by omega)
 rw[aa B];by_cases af:(nodeI ns i).k=37
 ·rw[ab af];obtain⟨c,_,_⟩:=jD j (by omega);obtain⟨f,a⟩:=k 0 (by omega);rw[d.at_ i b,mw c,a.id];exact(Ec (h.e f a.lt)).le (by omega)
 rw[aa af];rcases Cn j with g|g|g
 ·have v:GH (nodeI ns i)=Q:=by
   unfold GH;rw[aa (by omega),aa (by omega),aa (by omega),aa (by omega),aa (by omega),aa (by omega),aa (by omega)]
  have a4:=Gb d b;rw[v];exact mu.le (by omega)
 ·have a2:=KA j (by omega);rw[d.at_ i b];have:(nodeI ns i).ks=[]:=List.length_eq_zero_iff.1 a2;rw[this];exact(afJ ap (by omega)).le (by simp[wK])
 ·have v:GH (nodeI ns i)=Q:=by
   unfold GH;rw[aa (by omega),aa (by omega),aa (by omega),aa (by omega),aa (by omega),aa (by omega),aa (by omega)]
  have a4:=Gb d b;rw[v];exact mu.le (by omega)
end
section
variable {ns : List Nd} {E : Int → ByteArray} {S : Int → Nat → ByteArray} {i tab q : Nat}
theorem ab6{o:Int->ByteArray->ByteArray}(j:LD ns E S i tab)(d:Wzd ns)(e:i<ns.length)(C:(nodeI ns i).k=7)
  (A:∀(z:Nat)(w:ByteArray),z<i->(nodeI ns z).k=7->CE w 36->CE (o z w) (wN ns z-14)) (r:ByteArray) (G:CE r 36):CE (wk ns E S o (nodeI ns i) r tab) (wN ns i-14):=by
 have F:=(il (d.nb i e)).1;have l:=fun H B=>eD (d.nb i e) e H B;have ak:=wC (nodeI ns i);obtain⟨J,K,L,af,v⟩:=KE F C;obtain⟨s,b⟩:=l 0 (by omega);obtain⟨I,a⟩:=l 1 (by omega);have t:=j.e s b.lt;have u:=j.blk d (dD a.lt) a.len;unfold wk;rw[b.id,a.id,d.at_ i e];have h:=((G.app t).app (bh (x:=⟨#[32]⟩) 2 (by decide))).app u;rcases be (nodeI ns i).ks.length 3 with g|g
 ·rw[ab g,tj (by omega),b.id,a.id];exact(h.app mu).le (by omega)
 ·rw[aa (by omega),LE (by omega),b.id,a.id];obtain⟨p,c⟩:=l 2 (by omega);rw[c.id]at v⊢;by_cases f:(nodeI ns p).k=7
  ·rw[ab f];have:=A p ⟨#[32,101,108,105,102,32]⟩ c.lt f (bh 36 (by decide));exact(h.app this).le (by omega)
  ·rw[aa f];have:=j.blk d (dD c.lt) c.len;exact(h.app ((bh (x:=⟨#[32,101,108,115,101,32]⟩) 36 (by decide)).app this)).le (by omega)
theorem aey{K:Int->ByteArray->ByteArray}(f:LD ns E S i tab)(d:Wzd ns)(a2:∀N∈ns,sj N)(b:i<ns.length)
  (a5:(nodeI ns i).k=7->CE (K (-1) ⟨#[105,102,32]⟩) (wN ns i-14)):CE (prS ns E S K (nodeI ns i) tab) (wN ns i-14):=by
 have r:=(il (d.nb i b)).1;have p:=fun a8 a6=>eD (d.nb i b) b a8 a6;have bb:=wC (nodeI ns i);have J:=Ed a2 b;have nm0:=aeu J;have w:=LC J.nm J.s;have a9:=Gb d b;have a3:=fun (t:List Int) (u:∀l∈t,l∈(nodeI ns i).ks)=>Av ns E 18 (by decide) t (fun l j=>(f.kid d (ag _) b l (u l j)).1.le (by omega));have z:∀(t:List Int),(∀l∈t,l∈(nodeI ns i).ks)->CE (bv (t.map E)) (wK ns t):=fun t u=>(a3 t u).le (by split<;>omega);unfold prS;by_cases af:(nodeI ns i).k=1
 ·rw[ab af];exact(f.blk d (ag _) b).le (by omega)
 rw[aa af];by_cases ap:(nodeI ns i).k=2
 ·rw[ab ap,d.at_ i b];split
  ·rename_i e;rw[e];exact(((bh (x:=⟨#[108,101,116,32]⟩) 26 (by decide)).app w).app mu).le (by simp[wK];omega)
  ·rename_i e;have:=a3 (nodeI ns i).ks (fun l j=>j);rw[aa e]at this;have u:1<=(nodeI ns i).ks.length:=List.length_pos_iff.2 e;exact(((bh (x:=⟨#[108,101,116,32]⟩) 26 (by decide)).app w).app ((bh (x:=⟨#[32,61,32]⟩) 16 (by decide)).app this)).le (by omega)
 rw[aa ap];by_cases C:(nodeI ns i).k=3
 ·rw[ab C,d.at_ i b];obtain⟨c,o,v⟩:=wu r C;obtain⟨g,a⟩:=p 0 (by omega);rw[mw c,a.id];exact((((bh (x:=⟨#[99,111,110,115,116,32]⟩) 46 (by decide)).app nm0).app (bh (x:=⟨#[32,61,32]⟩) 16 (by decide))).app (f.e g a.lt)).le (by omega)
 rw[aa C];by_cases F:(nodeI ns i).k=4
 ·rw[ab F,d.at_ i b];obtain⟨c,o,v⟩:=D0 r F;obtain⟨g,a⟩:=p 0 (by omega);rw[mw c];rw[a.id]at o⊢;exact(((bh (x:=⟨#[102,110,32]⟩) 22 (by decide)).app nm0).app (f.bod d a2 (dD a.lt) a.len o)).le (by omega)
 rw[aa F];by_cases av:(nodeI ns i).k=5
 ·rw[ab av,d.at_ i b];have a4:wK ns (nodeI ns i).ks=wK ns ((nodeI ns i).ks.take (nodeI ns i).n.toNat)+wK ns ((nodeI ns i).ks.drop (nodeI ns i).n.toNat):=by rw[<-ti,qy]
  rw[a4];exact(((z ((nodeI ns i).ks.take (nodeI ns i).n.toNat) (fun l j=>qD j)).app (bh (x:=⟨#[32,61,32]⟩) 16 (by decide))).app (z ((nodeI ns i).ks.drop (nodeI ns i).n.toNat) (fun l j=>List.mem_of_mem_drop j))).le (by omega)
 rw[aa av];by_cases a0:(nodeI ns i).k=6
 ·rw[ab a0,d.at_ i b];obtain⟨c,o⟩:=yy r (by omega);obtain⟨g,a⟩:=p 0 (by omega);rw[mw c,a.id];exact(f.e g a.lt).le (by omega)
 rw[aa a0];by_cases G:(nodeI ns i).k=7
 ·rw[ab G];exact a5 G
 rw[aa G];by_cases H:(nodeI ns i).k=8
 ·rw[ab H,d.at_ i b];obtain⟨c,o,v⟩:=wv r H;obtain⟨g,a⟩:=p 0 (by omega);obtain⟨L,h⟩:=p 1 (by omega);rw[tj c,a.id,h.id];exact((((bh (x:=⟨#[119,104,105,108,101,32]⟩) 42 (by decide)).app (f.e g a.lt)).app (bh (x:=⟨#[32]⟩) 2 (by decide))).app (f.blk d (dD h.lt) h.len)).le (by omega)
 rw[aa H];by_cases I:(nodeI ns i).k=9\/(nodeI ns i).k=10
 ·rw[ab I,d.at_ i b];have u:0<(nodeI ns i).ks.length:=by
   rcases I with e|e
   ·obtain⟨c,o,v,a1⟩:=D1 r e;omega
   ·obtain⟨c,o,v,a1⟩:=Am r e;omega
  obtain⟨L,h⟩:=p ((nodeI ns i).ks.length-1) (by omega);rw[ab4 u,h.id];have a7:CE (if(nodeI ns i).k=9 then(⟨#[32,61,32]⟩:ByteArray) else⟨#[32,105,110,32]⟩) 24:=by
   split
   ·exact bh 24 (by decide)
   ·exact bh 24 (by decide)
  exact((((((bh (x:=⟨#[102,111,114,32]⟩) 26 (by decide)).app w).app a7).app (z ((nodeI ns i).ks.take ((nodeI ns i).ks.length-1)) (fun l j=>qD j))).app (bh (x:=⟨#[32]⟩) 2 (by decide))).app (f.blk d (dD h.lt) h.len)).le (by omega)
 rw[aa I];by_cases ak:(nodeI ns i).k=11
 ·rw[ab ak];exact(bh 60 (by decide)).le (by omega)
 rw[aa ak];by_cases al:(nodeI ns i).k=12
 ·rw[ab al];exact(bh 60 (by decide)).le (by omega)
 rw[aa al];by_cases am:(nodeI ns i).k=13
 ·rw[ab am,d.at_ i b];split
  ·rename_i e;rw[e];exact((bh (x:=⟨#[114,101,116,117,114,110]⟩) 52 (by decide)).app mu).le (by simp[wK];omega)
  ·exact((bh (x:=⟨#[114,101,116,117,114,110]⟩) 52 (by decide)).app ((bh (x:=⟨#[32]⟩) 2 (by decide)).app (z _ (fun l j=>j)))).le (by omega)
 rw[aa am];by_cases A:(nodeI ns i).k=14
 ·rw[ab A,d.at_ i b];obtain⟨c,o,v,a1⟩:=D2 r A;obtain⟨g,a⟩:=p 0 (by omega);obtain⟨L,h⟩:=p 1 (by omega);rw[tj c,a.id,h.id];exact((((((bh (x:=⟨#[116,114,121,32]⟩) 26 (by decide)).app (f.blk d (dD a.lt) a.len)).app (bh (x:=⟨#[32,99,97,116,99,104,32]⟩) 50 (by decide))).app w).app (bh (x:=⟨#[32]⟩) 2 (by decide))).app (f.blk d (dD h.lt) h.len)).le (by omega)
 rw[aa A];by_cases B:(nodeI ns i).k=15
 ·rw[ab B,d.at_ i b];obtain⟨c,o⟩:=ww r B;obtain⟨g,a⟩:=p 0 (by omega);rw[mw c,a.id];exact((bh (x:=⟨#[116,104,114,111,119,32]⟩) 42 (by decide)).app (f.e g a.lt)).le (by omega)
 rw[aa B];by_cases an:(nodeI ns i).k=16
 ·rw[ab an,d.at_ i b];obtain⟨c,o⟩:=yy r (by omega);obtain⟨g,a⟩:=p 0 (by omega);rw[mw c,a.id];exact((bh (x:=⟨#[100,101,102,101,114,32]⟩) 42 (by decide)).app (f.e g a.lt)).le (by omega)
 rw[aa an];exact mu.le (by omega)
end
theorem acz{ns:List Nd}(d:Wzd ns)(j:∀N∈ns,sj N):∀(f i tab:Nat),i<ns.length->
  CE (sJ ns f i tab) (wN ns i-32)/\CE (nF ns f i tab) (wN ns i-14)/\((nodeI ns i).k=7->∀w:ByteArray,CE w 36->CE (rH ns f i w tab) (wN ns i-14))
 |0,i,tab,e=>by
  have:=Gb d e;refine⟨?_,?_,fun _ w _=>?_⟩;all_goals (first|rw[sJ]|rw[nF]|rw[rH])
  all_goals exact mu.le (by omega)
 |f+1,i,tab,e=>by
  have l:=fun (a h:Nat) (c:a<i)=>acz d j f a h (by omega);have o:LD ns (fun k=>sJ ns f k tab) (fun k h=>nF ns f k h) i tab:=⟨fun a c=>(l a tab c).1,fun a c=>(l a (tab+1) c).2.1⟩;have p:(nodeI ns i).k=7->∀w:ByteArray,CE w 36->CE (wk ns (fun k=>sJ ns f k tab) (fun k h=>nF ns f k h) (fun k w=>rH ns f k w tab) (nodeI ns i) w tab) (wN ns i-14):=fun b w g=>
   ab6 o d e b (fun a w c b g=>(l a tab c).2.2 b w g) w g
  refine⟨?_,?_,?_⟩
  ·rw[sJ];exact aex o d j e
  ·rw[nF];exact aey o d j e (fun b=>p b _ (bh 36 (by decide)))
  ·intro b w g;rw[rH];exact p b w g
theorem LF{ns:List Nd}(p:(fy ns).1=0)(r:∀N∈ns,sj N):CE (iL ns) (Wp ns ns.length):=by
 have a:=aeq p;have z:=a.len;have g:((ns.length:Int)-1)=((ns.length-1:Nat):Int):=by omega
 have t:=a.root;rw[g,a.at_ (ns.length-1) (by omega)]at t;have A:=wC (nodeI ns ((ns.length-1:Nat):Int));unfold iL;rw[g];have w:∀c:List Int,(∀d∈c,d∈(nodeI ns ((ns.length-1:Nat):Int)).ks)->CE (fw (c.map fun b=>nF ns ns.length b 0++⟨#[10]⟩)) (wK ns c):=by
  intro c
  induction c using po with
  |b=>intro _;exact⟨0,vA,by simp[wK]⟩
  |c f x u=>
   intro h;have l:fw ((f++[x]).map fun b=>nF ns ns.length b 0++⟨#[10]⟩)=fw (f.map fun b=>nF ns ns.length b 0++⟨#[10]⟩)++(nF ns ns.length x 0++⟨#[10]⟩):=by
    unfold fw;rw[eL,List.foldl_append];rfl
   obtain⟨v,s,o⟩:=iB (h x (by simp));obtain⟨y,k⟩:=eD (a.nb _ (by omega)) (by omega) v s;have j:=(acz a r ns.length y 0 k.len).2.1;rw[<-k.id,o]at j;rw[l,ti];exact((u fun d e=>h d (List.mem_append.2 (.inl e))).app (j.app (bh (x:=⟨#[10]⟩) 12 (by decide)))).le (by simp only[wK];omega)
 exact(w _ (fun d e=>e)).le (by omega)
