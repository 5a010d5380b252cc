import Derived.Test.YtkdijoogonigpaaGreatDoorHUk15
import Derived.Test.YtkdijoogonigpaaGreatDoorHUk09
import Derived.Test.YtkdijoogonigpaaGreatDoorHUk17
import Derived.WalkSmall
set_option linter.all false
open Go renaming Value->M,World->Q,TypeId->Z
open Option renaming some->O,none->U
open Go.IntKind renaming i64->S
open Go.Value renaming int->T,ownBlock->V,slice->X,string->A2,string->Br,int->B0
open Go.RowKit renaming Below->Y
open Go.Obj renaming cells->Ax
open Bool renaming true->A0
namespace Go.Proofs.YtkdijoogonigpaaGreatDoor
open Go.RowKit
def nH(c:Int):Bool:=bc c||aL c
def iI(q:Nat)(c:Int):Nat:=
 if q=4 then(if c=10 then 12 else if 32<=c/\c<=126 then 2 else 14)
 else if c=92 then 2 else if c=10 then 12 else if c=32 then 2 else if c=9 then(if q=3 then 0 else 2) else if c=13 then 4
 else if aL c=A0 then(if q=1 then 2 else if q=2 then 8 else 18)
 else if bc c=A0 then(if q=1\/q=2 then 2 else if c=97\/c=110 then 12 else 8)
 else if c=34 then 8 else if 32<=c/\c<=126 then 12 else 14
def iJ(q:Nat)(c:Int):Nat:=
 if q=4 then(if c=10 then 3 else if nH c=A0 then 1 else 0)
 else if c=92 then 4 else if c=10 then 3 else if c=9 then(if q=3 then 3 else 0)
 else if aL c=A0 then(if q=1 then 1 else if c=48 then 2 else 1)
 else if bc c=A0 then(if q=1\/q=2 then 1 else 0)
 else 0
def oh:Nat->List Int->Nat
 |_,[]=>0
 |q,c::l=>iI q c+oh (iJ q c) l
def pz:Nat->List Int->Nat
 |q,[]=>q
 |q,c::l=>pz (iJ q c) l
theorem ru:∀(q:Nat)(a b:List Int),oh q (a++b)=oh q a+oh (pz q a) b
 |q,[],b=>by simp[oh,pz]
 |q,c::a,b=>by simp only[gn,oh,pz,ru (iJ q c) a b];omega
theorem pi:∀(q:Nat)(a b:List Int),pz q (a++b)=pz (pz q a) b
 |q,[],b=>rfl
 |q,c::a,b=>by simp only[gn,pz,pi (iJ q c) a b]
structure Cs (x:ByteArray) (n:Nat):Prop where
 out:∀q,q<4->oh q (cD x)<=n/\pz q (cD x)<4
theorem qm(a b:ByteArray):cD (a++b)=cD a++cD b:=by unfold cD;rw[lC,yL,eL]
section
variable {x y : ByteArray} {m n : Nat}
theorem Cs.app(c:Cs x m)(a:Cs y n):Cs (x++y) (m+n):=⟨fun f e=>by
 obtain⟨h,d⟩:=c.out f e;obtain⟨g,b⟩:=a.out _ d;rw[qm,ru,pi];exact⟨by omega,b⟩⟩
theorem Cs.le(a:Cs x m)(d:m<=n):Cs x n:=⟨fun c b=>by have:=a.out c b;omega⟩
end
theorem lu{x:ByteArray}{n:Nat}(a:∀q:Fin 4,oh q.val (cD x)<=n/\pz q.val (cD x)<4):Cs x n:=⟨fun q b=>a ⟨q,b⟩⟩
theorem vA:Cs ⟨#[]⟩ 0:=lu (by decide)
theorem Dt:∀(l:List Int),(∀c∈l,nH c=A0)->oh 1 l=2*l.length/\pz 1 l=1
 |[],_=>⟨rfl,rfl⟩
 |c::l,e=>by
  have a:=e c dt;obtain⟨h,i⟩:=Dt l (fun j g=>e j (dJ _ g));have k:(97<=c/\c<=122)\/(65<=c/\c<=90)\/c=95\/(48<=c/\c<=57):=by
   unfold nH bc aL at a;simp at a;omega
  have f:iI 1 c=2:=by
   unfold iI;rw[aa (by decide),aa (by omega),aa (by omega),aa (by omega),aa (by omega),aa (by omega)];split
   ·rfl
   ·rename_i b;rw[ab (by unfold nH at a;simpa [b] using a)];rfl
  have d:iJ 1 c=1:=by
   unfold iJ;rw[aa (by decide),aa (by omega),aa (by omega),aa (by omega)];split
   ·rfl
   ·rename_i b;rw[ab (by unfold nH at a;simpa [b] using a)];rfl
  exact⟨by rw[oh,f,d,h,db];omega,by rw[pz,d,i]⟩
theorem I5{c:Int}{l:List Int}(h:49<=c/\c<=57)(d:∀c∈l,nH c=A0):∀q,q<4->oh q (c::l)<=18+2*l.length/\pz q (c::l)<4:=by
 intro q i;obtain⟨e,f⟩:=Dt l d;have a:aL c=A0:=by simp[aL];omega
 have g:iI q c<=18:=by
  unfold iI;rw[aa (by omega),aa (by omega),aa (by omega),aa (by omega),aa (by omega),aa (by omega),ab a];split
  ·decide
  ·split<;>decide
 have b:iJ q c=1:=by
  unfold iJ;rw[aa (by omega),aa (by omega),aa (by omega),aa (by omega),ab a];split
  ·rfl
  ·rw[aa (by omega)]
 rw[oh,pz,b,e,f];omega
theorem ye{d:Int}{l:List Int}(b:nH d=A0)(o:d≠48)(p:∀c∈l,nH c=A0):∀q,q<4->oh q (48::d::l)<=26+2*l.length/\pz q (48::d::l)<4:=by
 intro q w;obtain⟨s,t⟩:=Dt l p;have z:(97<=d/\d<=122)\/(65<=d/\d<=90)\/d=95\/(49<=d/\d<=57):=by
  unfold nH bc aL at b;simp at b;omega
 have h:iI q 48<=18/\(iJ q 48=1\/iJ q 48=2):=by
  rcases(show q=0\/q=1\/q=2\/q=3 by omega) with rfl|rfl|rfl|rfl<;>decide
 have i:∀r,(r=1\/r=2)->iI r d<=8/\iJ r d=1:=by
  intro r f;have e:¬r=4:=by omega
  by_cases a:aL d=A0
  ·refine⟨?_,?_⟩
   ·unfold iI;rw[aa e,aa (by omega),aa (by omega),aa (by omega),aa (by omega),aa (by omega),ab a];rcases f with rfl|rfl<;>decide
   ·unfold iJ;rw[aa e,aa (by omega),aa (by omega),aa (by omega),ab a];split
    ·rfl
    ·first|rfl|rw[aa o]
  ·have g:bc d=A0:=by unfold nH at b;simpa [a] using b
   refine⟨?_,?_⟩
   ·unfold iI;rw[aa e,aa (by omega),aa (by omega),aa (by omega),aa (by omega),aa (by omega),aa a,ab g,ab f];decide
   ·unfold iJ;rw[aa e,aa (by omega),aa (by omega),aa (by omega),aa a,ab g,ab f]
 obtain⟨u,j⟩:=h;obtain⟨v,k⟩:=i _ j;rw[oh,oh,pz,pz,k,s,t];omega
theorem gw(a b:ByteArray)(i:Nat):ao (a++b) i=if i<a.size then ao a i else ao b (i-a.size):=by
 have e:(a++b).data.toList=a.data.toList++b.data.toList:=by rw[lC,yL]
 have f:a.data.toList.length=a.size:=cJ;rw[ll,e];split<;>rename_i c
 all_goals
  by_cases d:i<a.size
  ·rw[ab d,ll];rw[jG (by omega)]at c;rw[c]
  ·rw[aa d,ll];rw[jc (by omega),f]at c;rw[c]
theorem vB(s:ByteArray)(n i:Nat)(c:n<=s.size)(b:i<n):ao (s.extract 0 n) i=ao s i:=by
 rw[ll,ll];have a:(s.extract 0 n).data.toList=(s.data.toList.drop 0).take (n-0):=by rw[<-eo,Lib.extract_toList]
 rw[a,jI,ng,oF,ab b]
theorem adh:∀(c:Fin 256)(q:Fin 4),oh q.val (esc (c.val:Int))<=18/\pz q.val (esc (c.val:Int))<4:=by decide+kernel
theorem Fg:∀(l:List UInt8)(q:Nat),q<4->oh q (l.flatMap fun b=>esc (b.toNat:Int))<=18*l.length/\pz q (l.flatMap fun b=>esc (b.toNat:Int))<4
 |[],q,a=>⟨aG _,a⟩
 |b::l,q,a=>by
  obtain⟨c,d⟩:=adh ⟨b.toNat,b.toNat_lt⟩ ⟨q,a⟩;obtain⟨e,f⟩:=Fg l _ d;rw[qC,ru,pi,db];exact⟨by simp only at c e;omega,f⟩
theorem yg(s:ByteArray):cD (co (bG s))=bG s:=by
 unfold cD;rw[pg,List.map_map];have:∀a∈bG s,((fun b:UInt8=>(b.toNat:Int)) ∘ fun n:Int=>UInt8.ofNat n.toNat) a=a:=fun a c=>by
  have:=mD s a c;simp only[Function.comp];rw[UInt8.toNat_ofNat_of_lt' (by show a.toNat<256;omega)];omega
 rw[List.map_congr_left this,List.map_id']
theorem q34:∀q:Fin 4,iI q.val 34=8/\iJ q.val 34=0:=by decide
theorem adi(s:ByteArray):Cs (co (bG s)) (16+18*s.size):=⟨fun g f=>by
 rw[yg];unfold bG qt;obtain⟨a,b⟩:=q34 ⟨g,f⟩;simp only at a b;obtain⟨h,e⟩:=Fg (s.data.toList.take s.size) 0 (by decide);have i:(s.data.toList.take s.size).length<=s.size:=List.length_take_le _ _;obtain⟨c,d⟩:=q34 ⟨_,e⟩;simp only at c d;rw[gn,oh,pz,ru,pi,a,b];simp only[oh,pz,c,d];omega⟩
theorem adj(s:ByteArray)(af:2<=s.size)(C:∀i,i<s.size->aL (ao s i)=A0)(v:ao s 0=48)(w:ao s 1=49):Cs (co (bG s)) (42+2*s.size):=⟨fun I G=>by
 rw[yg];obtain⟨o,p⟩:=q34 ⟨I,G⟩;simp only at o p;have z:∀l:List UInt8,(∀b∈l,aL (b.toNat:Int)=A0)->(l.flatMap fun b=>esc (b.toNat:Int))=l.map fun b=>(b.toNat:Int):=by
  intro l t
  induction l with
  |nil=>rfl
  |cons b l H=>
   have e:=dl (t b dt);rw[qC,fo,H (fun k j=>t k (dJ _ j))];have:esc (b.toNat:Int)=[(b.toNat:Int)]:=by unfold esc;rw[aa (by omega),aa (by omega),aa (by omega),aa (by omega)]
   rw[this];rfl
 have f:∀b∈s.data.toList,aL (b.toNat:Int)=A0:=fun b e=>by
  obtain⟨i,F,rfl⟩:=gp e;have:=(dq s i s.data.toList[i]).1 (aF F);rw[<-this.2];exact C i this.1
 have A:s.data.toList.take s.size=s.data.toList:=cC (by rw[cJ];exact ag _);unfold bG qt;rw[A,z _ f];have c:s.data.toList.length=s.size:=cJ
 match hs:s.data.toList,c,f with
 |[],c,_=>simp at c;omega
 |[_],c,_=>simp at c;omega
 |a::b::r,c,f=>
  have q:=((dq s 0 a).1 (by rw[hs];rfl)).2;have e:=((dq s 1 b).1 (by rw[hs];rfl)).2;rw[v]at q;rw[w]at e;obtain⟨u,p2⟩:=ye (d:=49) (l:=r.map fun b=>(b.toNat:Int)) (by decide) (by decide) (fun K B=>by
   obtain⟨k,j,rfl⟩:=List.mem_map.1 B;unfold nH;rw[f k (dJ _ (dJ _ j))];simp) 0 (by decide)
  rw[du]at u;obtain⟨g,h⟩:=q34 ⟨_,p2⟩;simp only at g h;simp only[fo];rw[<-q,<-e];generalize (48::49::List.map (fun b:UInt8=>(b.toNat:Int)) r)=J at u p2 g h⊢;rw[gn,oh,pz,ru,pi,o,p];simp only[db]at c;simp only[oh,pz,g,h];omega⟩
structure Nb where
 N:Nd
 g:Nat
 h:Nat
def Nb.vn(x:Nb):M:= X (O ⟨x.g,0,U⟩) x.N.nm.length x.N.nm.length
def Nb.vk(x:Nb):M:= X (O ⟨x.h,0,U⟩) x.N.ks.length x.N.ks.length
def cNb(x:Nb):List M:=[T S x.N.k,T S x.N.f,T S x.N.t,T S x.N.l,T S x.N.op,T S x.N.n,Br x.N.x,x.vn,x.vk]
def zD(l:List Nb):List M:=l.flatMap cNb
def zc:List M:=[T S 0,T S 0,T S 0,T S 0,T S 0,T S 0,Br ⟨#[]⟩,X U 0 0,X U 0 0]
theorem BB(l:List Nb):(zD l).length=l.length*9:=by
 induction l with
 |nil=>rfl
 |cons a r c=>
  have b:zD (a::r)=cNb a++zD r:=by simp[zD]
  have d:(cNb a).length=9:=rfl;rw[b,aH,c,d,db];omega
structure vC (W:Q) (base:Nat) (x:Nb):Prop where
 on:W.ownsRow base 9 1 x.vn x.N.nm.length (x.N.nm.map A2)
 ok:W.ownsRow base 3 1 x.vk x.N.ks.length (x.N.ks.map (B0 .i64))
theorem vC.below{W W':Q}{base:Nat}{x:Nb}(a:vC W base x)(b:Y W.heap.size W W'):vC W' base x:=⟨ei a.on b,ei a.ok b⟩
theorem vC.set{W:Q}{base:Nat}{x:Nb}(b:vC W base x){a:Addr}(c:x.g≠a.block)(d:x.h≠a.block)(u:M):vC (W.setCell a u) base x:=
 ⟨ownsRow_setCell_other b.on (by unfold Nb.vn V;simp;exact c) u,ownsRow_setCell_other b.ok (by unfold Nb.vk V;simp;exact d) u⟩
structure mo (W:Q) (base g n:Nat) (L:List Nb) (rest:List M):Prop where
 row:W.ownsRow base 96 9 (.slice (O ⟨g,0,U⟩) n n) n (zD L++rest)
 each:∀x∈L,vC W base x
 dn:(L.map Nb.g).Nodup
 dk:(L.map Nb.h).Nodup
theorem mo.below{W W':Q}{base b n:Nat}{L:List Nb}{d:List M}(a:mo W base b n L d)(c:Y W.heap.size W W'):mo W' base b n L d:=
 ⟨ei a.row c,fun x e=>(a.each x e).below c,a.dn,a.dk⟩
theorem mo.le{W:Q}{base c d n:Nat}{L:List Nb}{f:List M}(a:mo W base d n L f)(b:c<=base):mo W c d n L f:=
 ⟨uF a.row b,fun x e=>⟨uF (a.each x e).on b,uF (a.each x e).ok b⟩,a.dn,a.dk⟩
theorem aaI(c:List Nb)(i j:Nat)(d:Nb)(a:c[i]?=O d)(h:j<9):(zD c)[i*9+j]?=(cNb d)[j]?:=by
 induction c generalizing i with
 |nil=>simp at a
 |cons b r f=>
  have e:zD (b::r)=cNb b++zD r:=by simp[zD]
  have g:(cNb b).length=9:=rfl;rw[e];cases i with
  |zero=>simp at a;subst a;rw[jG (by omega)];congr 1;omega
  |succ i=>
   rw[jc (by omega),g,show(i+1)*9+j-9=i*9+j by omega];exact f i (by simpa using a)
theorem yh(a m:Nat):(⟨a,0,U⟩:Addr).add m=⟨a,m,U⟩:=by unfold Addr.add;split<;>simp_all
theorem mo.nd{W:Q}{base g n:Nat}{L:List Nb}(c:mo W base g n L []){i:Nat}{x:Nb}(d:L[i]?=O x):C3 W ⟨g,i*9,U⟩ x.N x.vn x.vk:=by
 have j:n*9=L.length*9:=by have:=c.row.1;rw[fL,BB]at this;omega
 have h:i<L.length:=by rcases be i L.length with g|g;exact g;rw[dL g]at d;cases d
 have a:∀b,b<9->W.cell? ⟨g,i*9+b,U⟩=(cNb x)[b]?:=fun b f=>by
  rw[c.row.cellAt (i*9+b) (by omega),fL,aaI L i b x d f]
 have e:=dC d;exact⟨a 0 (by omega),a 1 (by omega),a 2 (by omega),a 3 (by omega),a 4 (by omega),a 5 (by omega),a 6 (by omega),a 7 (by omega),a 8 (by omega),A6 (c.each x e).on rfl,A7 (c.each x e).ok rfl⟩
theorem mo.nds{W:Q}{base b n:Nat}{L:List Nb}(c:mo W base b n L []):bI W (X (O ⟨b,0,U⟩) n n) (L.map Nb.N):=by
 have d:n=(L.map Nb.N).length:=by have:=c.row.1;rw[fL,BB]at this;rw[du];omega
 refine .inr ⟨⟨b,0,U⟩,n,by rw[<-d],fun e N a=>?_⟩;rw[dj]at a;cases hx:L[e]? with
 |none=>rw[hx]at a;cases a
 |some x=>
  rw[hx]at a;obtain rfl:=dr a;rw[yh];exact⟨_,_,c.nd hx⟩
structure Mb where
 N:Nd
 vn:M
 vk:M
def cMb(x:Mb):List M:=[T S x.N.k,T S x.N.f,T S x.N.t,T S x.N.l,T S x.N.op,T S x.N.n,Br x.N.x,x.vn,x.vk]
def lz(l:List Mb):List M:=l.flatMap cMb
theorem yi(a:Mb)(r:List Mb):lz (a::r)=cMb a++lz r:=by simp[lz]
theorem BC(a b:List Mb):lz (a++b)=lz a++lz b:=by simp[lz]
theorem I6(l:List Mb):(lz l).length=l.length*9:=by
 induction l with
 |nil=>rfl
 |cons a r b=>
  have c:(cMb a).length=9:=rfl;rw[yi,aH,b,c,db];omega
theorem aaJ(b:List Mb)(i j:Nat)(c:Mb)(a:b[i]?=O c)(g:j<9):(lz b)[i*9+j]?=(cMb c)[j]?:=by
 induction b generalizing i with
 |nil=>simp at a
 |cons d r e=>
  have f:(cMb d).length=9:=rfl;rw[yi];cases i with
  |zero=>simp at a;subst a;rw[jG (by omega)];congr 1;omega
  |succ i=>
   rw[jc (by omega),f,show(i+1)*9+j-9=i*9+j by omega];exact e i (by simpa using a)
def acg(e:List M):Prop:=∀(c d:Nat)(a b:M),c≠d->e[c]?=O a->e[d]?=O b->a.ownBlock=U\/a.ownBlock≠b.ownBlock
structure yj (W:Q) (lo hi:Nat) (x:Mb):Prop where
 on:W.ownsRow lo 9 1 x.vn x.N.nm.length (x.N.nm.map A2)
 ok:W.ownsRow lo 3 1 x.vk x.N.ks.length (x.N.ks.map (B0 .i64))
 hn:∀g,x.vn.ownBlock=O g->g<hi
 hk:∀g,x.vk.ownBlock=O g->g<hi
structure oo (W:Q) (lo hi:Nat) (v:M) (L:List Mb):Prop where
 row:W.ownsRow lo 96 9 v L.length (lz L)
 hh:∀g,v.ownBlock=O g->g<hi
 each:∀x∈L,yj W lo hi x
 dn:acg (L.map Mb.vn)
 dk:acg (L.map Mb.vk)
theorem yj.below{W W':Q}{d c:Nat}{x:Mb}(a:yj W d c x)(b:Y W.heap.size W W'):yj W' d c x:=⟨ei a.on b,ei a.ok b,a.hn,a.hk⟩
theorem oo.below{W W':Q}{d c:Nat}{v:M}{L:List Mb}(a:oo W d c v L)(b:Y W.heap.size W W'):oo W' d c v L:=
 ⟨ei a.row b,a.hh,fun x e=>(a.each x e).below b,a.dn,a.dk⟩
structure Mid (lo hi:Nat) (w w':Q):Prop where
 os:w'.os=w.os
 tape:w'.tape=w.tape
 output:w'.output=w.output
 size:w.heap.size<=w'.heap.size
 block:∀k,k<w.heap.size->(k<lo\/hi<=k)->w'.heap[k]?=w.heap[k]?
theorem Mid.refl(b a:Nat)(w:Q):Mid b a w w:=⟨rfl,rfl,rfl,ag _,fun _ _ _=>rfl⟩
theorem Mid.trans{c b:Nat}{x y z:Q}(a:Mid c b x y)(k:Mid c b y z):Mid c b x z:=
 ⟨k.os.trans a.os,k.tape.trans a.tape,k.output.trans a.output,bA a.size k.size,fun e b d=>(k.block e (eI b a.size) d).trans (a.block e b d)⟩
theorem Mid.kept{q d:Nat}{w f:Q}(j:Mid q d w f){base e size n:Nat}{v:M}{g:List M}(s:w.ownsRow base e size v n g)(u:d<=base):f.ownsRow base e size v n g:=by
 obtain⟨k,a⟩:=s;refine⟨k,?_⟩;rcases a with a|⟨b,h,i,p,o,c,t⟩
 ·exact .inl a
 ·exact .inr ⟨b,h,i,p,o,(j.block b (au c) (.inr (by omega))).trans c,t⟩
theorem Mid.bel{d f base:Nat}{w0 w e:Q}(a:Mid d f w e)(b:Y base w0 w)(h:base<=d)(i:base<=w.heap.size):Y base w0 e:=
 ⟨a.os.trans b.os,a.tape.trans b.tape,a.output.trans b.output,bA b.size a.size,fun c g=>(a.block c (by omega) (.inl (by omega))).trans (b.block c g)⟩
theorem yl{W:Q}{base:Nat}{v:M}{l:List ByteArray}(a:W.ownsRow base 9 1 v l.length (l.map A2)):cj W v l:=by
 rcases cL a with⟨b,rfl⟩|⟨d,c,rfl⟩
 ·exact .inl ⟨jd b,_,_,rfl⟩
 ·exact A6 a rfl
theorem pj{W:Q}{base:Nat}{v:M}{l:List Int}(a:W.ownsRow base 3 1 v l.length (l.map (B0 S))):aJ W v l:=by
 rcases cL a with⟨b,rfl⟩|⟨d,c,rfl⟩
 ·exact .inl ⟨jd b,_,_,rfl⟩
 ·exact A7 a rfl
theorem pl{W:Q}{j g n e:Nat}{L:List Mb}(d:W.ownsRow j 96 9 (X (O ⟨g,0,U⟩) n e) n (lz L)){i:Nat}{x:Mb}(c:L[i]?=O x):
  W.cell? ⟨g,i*9,U⟩=O (T S x.N.k)/\W.cell? ⟨g,i*9+1,U⟩=O (T S x.N.f)/\W.cell? ⟨g,i*9+2,U⟩=O (T S x.N.t)/\W.cell? ⟨g,i*9+3,U⟩=O (T S x.N.l)/\W.cell? ⟨g,i*9+4,U⟩=O (T S x.N.op)/\W.cell? ⟨g,i*9+5,U⟩=O (T S x.N.n)/\W.cell? ⟨g,i*9+6,U⟩=O (Br x.N.x)/\W.cell? ⟨g,i*9+7,U⟩=O x.vn/\W.cell? ⟨g,i*9+8,U⟩=O x.vk:=by
 have p:n*9=L.length*9:=by have:=d.1;rw[I6]at this;omega
 have o:i<L.length:=by rcases be i L.length with g|g;exact g;rw[dL g]at c;cases c
 have a:∀b,b<9->W.cell? ⟨g,i*9+b,U⟩=(cMb x)[b]?:=fun b h=>by
  rw[d.cellAt (i*9+b) (by omega),aaJ L i b x c h]
 exact⟨a 0 (by omega),a 1 (by omega),a 2 (by omega),a 3 (by omega),a 4 (by omega),a 5 (by omega),a 6 (by omega),a 7 (by omega),a 8 (by omega)⟩
theorem oo.nds{W:Q}{w s:Nat}{v:M}{L:List Mb}(b:oo W w s v L):bI W v (L.map Mb.N):=by
 rcases cL b.row with⟨t,rfl⟩|⟨q,p,rfl⟩
 ·exact .inl ⟨by rw[jd t];rfl,_,_,rfl⟩
 ·refine .inr ⟨⟨q,0,U⟩,p,by rw[du],fun u N a=>?_⟩;rw[dj]at a;cases hx:L[u]? with
  |none=>rw[hx]at a;cases a
  |some x=>
   rw[hx]at a;obtain rfl:=dr a;rw[yh];obtain⟨d,e,f,g,h,i,j,k,o⟩:=pl b.row hx;have c:=b.each x (dC hx);exact⟨x.vn,x.vk,d,e,f,g,h,i,j,k,o,yl c.on,pj c.ok⟩
theorem oo.put{w e:Q}{c d g n f:Nat}{a b:List Mb}{x y:Mb}{k:Nat}(t:a.length=k)(h:oo w c d (X (O ⟨g,0,U⟩) n f) (a++x::b))(o:e.ownsRow c 96 9 (X (O ⟨g,0,U⟩) n f) n (lz (a++y::b)))
  (j:n=(a++x::b).length) (s:yj e c d y) (q:y.vn=x.vn) (p:y.vk=x.vk) (i:∀z,z∈a\/z∈b->yj e c d z):oo e c d (X (O ⟨g,0,U⟩) n f) (a++y::b):=by
 refine⟨?_,h.hh,?_,?_,?_⟩
 ·rw[show(a++y::b).length=n by rw[j];simp];exact o
 ·intro z hz;rcases List.mem_append.1 hz with hz|hz
  ·exact i z (.inl hz)
  ·rcases List.mem_cons.1 hz with rfl|hz
   ·exact s
   ·exact i z (.inr hz)
 ·have:=h.dn;rw[eL,fo]at this⊢;rw[q];exact this
 ·have:=h.dk;rw[eL,fo]at this⊢;rw[p];exact this
open Go.Maps Go.WideMaps
theorem mq{W:Q}{base e size n b:Nat}{v:M}{j:List M}(i:W.ownsRow base e size v n j){cs:Array M}{t:Z}{fr:Nat×Nat}(d:W.heap[b]?=O (Ax cs t fr))(h:t≠e):v.ownBlock≠O b:=fun a=>by
 rcases i.2 with⟨c,_⟩|⟨f,k,o,c,_,g,_⟩
 ·rw[c]at a;simp[V]at a
 ·rw[c]at a;obtain rfl:f=b:=by simpa [V] using a
  rw[g]at d;cases d;exact h rfl
theorem zE{W:Q}{base e size n:Nat}{v:M}{b:List M}(f:W.ownsRow base e size v n b){a:Nat}(c:v.ownBlock≠O a)(q:Nat)(u:M):(W.setCell ⟨a,q,U⟩ u).ownsRow base e size v n b:=
 f.kept (row:=O a) ⟨rfl,rfl,rfl,by simp[World.setCell],fun i h d=>bC _ _ _ _ (fun e=>d (by rw[e]))⟩ (by
  cases hv:v.ownBlock with
  |none=>exact .inl rfl
  |some g=>exact .inr (fun e=>c (by rw[hv,e])))
theorem Fh:(Tryz.prog.info? 96).map (fun i=>(i.zero,i.size,i.bytes))=O (O (.agg #[T S 0,T S 0,T S 0,T S 0,T S 0,T S 0,Br ⟨#[]⟩,X U 0 0,X U 0 0]),9,112):=by kernel_rfl
abbrev xi(N:Nd)(vn vk:M):Array M:=#[T S N.k,T S N.f,T S N.t,T S N.l,T S N.op,T S N.n,Br N.x,vn,vk]
structure Bs where
 base:Nat
 cb:Nat
 bb:Nat
 a0:Option Addr
 len:Nat
 cap:Nat
 P:Int
 g:Nat
abbrev bV(E:Bs):M:= .pointer (O ⟨E.bb,0,U⟩)
abbrev cV(E:Bs):M:= .pointer (O ⟨E.cb,0,U⟩)
structure Kb (w w':Q):Prop where
 size:w.heap.size<=w'.heap.size
 block:∀k,k<w.heap.size->(∀cs t fr,w.heap[k]?=O (.cells cs t fr)->t≠96/\t≠93/\t≠35)->w'.heap[k]?=w.heap[k]?
theorem Kb.refl(w:Q):Kb w w:=⟨ag _,fun _ _ _=>rfl⟩
theorem Kb.trans{x y z:Q}(a:Kb x y)(k:Kb y z):Kb x z:=
 ⟨bA a.size k.size,fun e d c=>by
  have b:=a.block e d c;exact(k.block e (eI d a.size) (fun f i g h=>c f i g (by rw[<-b];exact h))).trans b⟩
theorem Kb.of_below{w b:Q}(a:Y w.heap.size w b):Kb w b:=⟨a.size,fun d c _=>a.block d c⟩
theorem Kb.blk{w c:Q}(d:Kb w c){k:Nat}{cs:Array M}{t:Z}{fr:Nat×Nat}(a:w.heap[k]?=O (Ax cs t fr))(e:t≠96/\t≠93/\t≠35):c.heap[k]?=O (Ax cs t fr):=
 (d.block k (au a) (fun f h g b=>by rw[a]at b;cases b;exact e)).trans a
theorem Kb.row{w b:Q}(i:Kb w b){base e size n:Nat}{v:M}{c:List M}(q:w.ownsRow base e size v n c)(j:e≠96/\e≠93/\e≠35):b.ownsRow base e size v n c:=by
 obtain⟨h,a⟩:=q;refine⟨h,?_⟩;rcases a with a|⟨g,d,f,p,o,k,s⟩
 ·exact .inl a
 ·exact .inr ⟨g,d,f,p,o,i.blk k j,s⟩
theorem Kb.grown{w c:Q}{b:Nat}{cs:Array M}{t:Z}{fr:Nat×Nat}(a:w.grownBy c (O b))(f:w.heap[b]?=O (Ax cs t fr))(h:t=96\/t=93\/t=35):Kb w c:=
 ⟨a.size,fun i g e=>a.block i g (fun d=>by cases d;have:=e _ _ _ f;rcases h with rfl|rfl|rfl<;>simp at this)⟩
theorem Kb.set{w:Q}{k:Nat}{cs:Array M}{t:Z}{fr:Nat×Nat}(c:w.heap[k]?=O (Ax cs t fr))(d:t=96\/t=93\/t=35)(q:Nat)(u:M):Kb w (w.setCell ⟨k,q,U⟩ u):=
 ⟨by simp[World.setCell],fun f e b=>bC _ _ _ _ (fun a=>by subst a;have:=b _ _ _ c;rcases d with rfl|rfl|rfl<;>simp at this)⟩
structure Shr (s:ByteArray):Prop where
 sz:s.size<=16
 cs:Cs s 26
structure Lng (s:ByteArray):Prop where
 lo:20<=s.size
 hi:s.size<=4001
 dg:∀i,i<s.size->aL (ao s i)=A0
 b0:ao s 0=48
 b1:ao s 1=49
def Sml(s:ByteArray):Prop:=s.size<=19/\Cs (co (bG s)) 106
def Txt(k:Int)(t:ByteArray):Prop:=(k≠25/\t.size<=19/\Cs t 90)\/(k=25/\(Sml t\/(Lng t/\t.size<=4000)))
theorem Txt.size{k:Int}{t:ByteArray}(a:Txt k t):t.size<=4000:=by
 rcases a with⟨_,a,_⟩|⟨_,a|⟨_,a⟩⟩
 ·omega
 ·have:=a.1;omega
 ·exact a
theorem lA{k:Int}(a:k≠25):Txt k ⟨#[]⟩:= .inl ⟨a,by decide,vA.le (by decide)⟩
theorem I7{k:Int}{s:ByteArray}(c:k≠25)(a:Shr s):Txt k s:=by
 by_cases b:s.size<=19
 ·exact .inl ⟨c,b,a.cs.le (by decide)⟩
 ·have:=a.sz;omega
structure sj (N:Nd):Prop where
 nm:N.nm.length<=3
 ks:N.ks.length<=64
 x:Txt N.k N.x
 s:∀s∈N.nm,Shr s
 int:acf N
def bgN(N:Nd):Nat:=if 19<N.x.size then 1 else 0
def bigs(L:List Mb):Nat:=(L.map fun y=>bgN y.N).sum
theorem I8(L:List Mb)(y:Mb):bigs (L++[y])=bigs L+bgN y.N:=by unfold bigs;simp
theorem I9{N:Nd}(a:N.x.size<=19):bgN N=0:=by unfold bgN;rw[aa (by omega)]
abbrev TO(t:Z):Prop:=t≠96/\t≠93/\t≠35
theorem BD:TO 9:=by decide
theorem toI:TO 3:=by decide
structure Rwx where
 t:Z
 v:M
 xs:List M
def bR(R:List Rwx):List Nat:=R.flatMap fun r=>r.v.ownBlock.toList
def bL(L:List Mb):List Nat:=L.flatMap fun y=>y.vn.ownBlock.toList++y.vk.ownBlock.toList
structure Bd (E:Bs) (W:Q) (L:List Mb) (l x:Int) (R:List Rwx):Prop where
 lo:E.base<=E.cb/\E.base<=E.bb
 hl:E.len<=1048576/\E.P<=100
 code:Code E.base W E.a0 E.len
 cur:∃p q r,dv E.cb W E.a0 E.len E.cap p q r/\0<=p/\p<=E.P+400*L.length+x/\0<=r/\r<=3/\(bigs L:Int)<=r
 row:∃v,W.heap[E.bb]?=O (.cells #[cV E,v,.int .i64 l] 93 (0,0))/\W.ownsRow E.base 96 9 v L.length (lz L)
 each:∀y∈L,(W.ownsRow E.base 9 1 y.vn y.N.nm.length (y.N.nm.map A2)/\W.ownsRow E.base 3 1 y.vk y.N.ks.length (y.N.ks.map (B0 .i64)))/\sj y.N
 rows:∀r∈R,TO r.t/\W.ownsRow E.base r.t 1 r.v r.xs.length r.xs
 sep:(bR R++bL L).Nodup
theorem tNo{t:Z}(a:TO t):t≠96/\t≠93/\t≠35:=a
section
variable {E : Bs} {W W' : World} {L : List Mb} {l x y : Int} {R : List Rwx} {r : Rwx}
theorem Bd.lt(b:Bd E W L l x R):E.cb<W.heap.size/\E.bb<W.heap.size/\E.base<=W.heap.size/\E.cb≠E.bb:=by
 obtain⟨i,c,_⟩:=b.row;obtain⟨g,h,r,a,_⟩:=b.cur;have e:=au c;have f:=a.lt;have:=b.lo;refine⟨f,e,by omega,fun d=>?_⟩;unfold dv at a;rw[d,c]at a;simp only[io,oD]at a;exact absurd a.2.1 (by decide)
theorem Bd.wide(a:Bd E W L l x R)(h:x<=y):Bd E W L l y R:=by
 obtain⟨e,f,r,b,c,g,d⟩:=a.cur;exact⟨a.lo,a.hl,a.code,⟨e,f,r,b,c,by omega,d⟩,a.row,a.each,a.rows,a.sep⟩
theorem Bd.below(a:Bd E W L l x R)(b:Y W.heap.size W W'):Bd E W' L l x R:=by
 have e:=a.lt;obtain⟨o,f,g⟩:=a.row;obtain⟨j,k,r,h,i⟩:=a.cur;exact⟨a.lo,a.hl,a.code.below (b.mono e.2.2.1),⟨j,k,r,h.below b e.1,i⟩,⟨o,(b.block _ e.2.1).trans f,ei g b⟩,fun d c=>⟨⟨ei (a.each d c).1.1 b,ei (a.each d c).1.2 b⟩,(a.each d c).2⟩,fun d c=>⟨(a.rows d c).1,ei (a.rows d c).2 b⟩,a.sep⟩
theorem Bd.ltR(d:Bd E W L l x R):∀b∈bR R++bL L,b<W.heap.size:=by
 intro b hb;rcases List.mem_append.1 hb with hb|hb
 ·obtain⟨c,a,e⟩:=List.mem_flatMap.1 hb;exact((d.rows c a).2.lt b (Option.mem_toList.1 e)).2
 ·obtain⟨c,a,e⟩:=List.mem_flatMap.1 hb;rcases List.mem_append.1 e with e|e
  ·exact((d.each c a).1.1.lt b (Option.mem_toList.1 e)).2
  ·exact((d.each c a).1.2.lt b (Option.mem_toList.1 e)).2
theorem Bd.went(a:Bd E W L l x R)(e:W.grownBy W' (O E.cb)){p q r:Int}(w:dv E.cb W' E.a0 E.len E.cap p q r)(j:0<=p/\p<=E.P+400*L.length+y)(A:0<=r/\r<=3/\(bigs L:Int)<=r):Bd E W' L l y R/\Kb W W'/\Y E.base W W':=by
 have g:=a.lt;obtain⟨B,u,v⟩:=a.row;obtain⟨C,F,G,h,_⟩:=a.cur;have i:Y E.base W W':=jr e a.lo.1 g.2.2.1;have f:∀{d o n:Nat}{s:M}{t:List M},W.ownsRow E.base d o s n t->d≠35->W'.ownsRow E.base d o s n t:=fun k z=>k.kept e (.inr (mq k h (de z)));exact⟨⟨a.lo,a.hl,a.code.below i,⟨p,q,r,w,j.1,j.2,A⟩,⟨B,(e.block _ g.2.1 (fun d=>g.2.2.2 (dr d).symm)).trans u,f v (by decide)⟩,fun c b=>⟨⟨f (a.each c b).1.1 (by decide),f (a.each c b).1.2 (by decide)⟩,(a.each c b).2⟩,fun c b=>⟨(a.rows c b).1,f (a.rows c b).2 (tNo (a.rows c b).1).2.2⟩,a.sep⟩,Kb.grown e h (.inr (.inr rfl)),i⟩
theorem Bd.hot{r':Rwx}(c:Bd E W L l x (r::R))(p:W.grownBy W' r.v.ownBlock)(s:TO r'.t)(an:W'.ownsRow E.base r'.t 1 r'.v r'.xs.length r'.xs)(ak:∀b,r'.v.ownBlock=O b->r.v.ownBlock=O b\/W.heap.size<=b):Bd E W' L l x (r'::R)/\Y E.base W W':=by
 have al:=c.lt;obtain⟨v,J,C⟩:=c.row;obtain⟨av,q,a0,K,af⟩:=c.cur;have i:=c.rows r dt;have u:=tNo i.1;have e:Y E.base W W':=(aq _ W).grown p al.2.2.1 (fun j f=>(i.2.lt j f).1);have F:=c.sep;have A:bR (r::R)=r.v.ownBlock.toList++bR R:=rfl;rw[A,dG,ub]at F;obtain⟨a6,a1,a2⟩:=F;have o:∀b∈bR R++bL L,r.v.ownBlock≠O b:=fun b e a=>a2 b (Option.mem_toList.2 a) b e rfl;have k:∀{a size n:Nat}{g:M}{w:List M},W.ownsRow E.base a size g n w->(∀b,g.ownBlock=O b->r.v.ownBlock≠O b)->W'.ownsRow E.base a size g n w:=fun {a size n g w} ap am=>by
  refine ap.kept p ?_;cases hu:g.ownBlock with
  |none=>exact .inl rfl
  |some b=>exact .inr (fun a=>am b hu a.symm)
 have G:∀{j:Nat}{z:Array M}{t:Z}{B:Nat×Nat},W.heap[j]?=O (Ax z t B)->t≠r.t->W'.heap[j]?=O (Ax z t B):=fun f s=>(p.block _ (au f) (fun a=>mq i.2 f s a.symm)).trans f;refine⟨⟨c.lo,c.hl,c.code.below e,⟨av,q,a0,G K (de u.2.2),af⟩,⟨v,G J (de u.2.1),k C (fun b a H=>?_)⟩,fun d hz=>⟨⟨k (c.each d hz).1.1 (fun b a=>o b (List.mem_append.2 (.inr (List.mem_flatMap.2 ⟨d,hz,List.mem_append.2 (.inl (Option.mem_toList.2 a))⟩)))),k (c.each d hz).1.2 (fun b a=>o b (List.mem_append.2 (.inr (List.mem_flatMap.2 ⟨d,hz,List.mem_append.2 (.inr (Option.mem_toList.2 a))⟩))))⟩,(c.each d hz).2⟩,fun d hz=>?_,?_⟩,e⟩
 ·rcases C.2 with⟨q,_⟩|⟨I,a4,a5,q,_,h,_⟩
  ·rw[q]at a;simp[V]at a
  ·rw[q]at a;obtain rfl:I=b:=by simpa [V] using a
   exact mq i.2 h (de u.1) H
 ·rcases List.mem_cons.1 hz with rfl|hz
  ·exact⟨s,an⟩
  ·have:=c.rows d (dJ _ hz);exact⟨this.1,k this.2 (fun b a=>o b (List.mem_append.2 (.inl (List.mem_flatMap.2 ⟨d,hz,Option.mem_toList.2 a⟩))))⟩
 ·show(r'.v.ownBlock.toList++bR R++bL L).Nodup;rw[dG,ub];refine⟨?_,a1,fun b e a3 h a=>?_⟩
  ·cases r'.v.ownBlock<;>simp
  ·subst a;rcases ak b (Option.mem_toList.1 e) with q|q
   ·exact o b h q
   ·have:=c.ltR b (by rw[A,dG];exact List.mem_append.2 (.inr h));omega
theorem Bd.new(b:Bd E W L l x R){t:Z}(j:TO t)(cs:Array M)(r':Rwx)(g:r'.t=t)(i:(W.alloc (Ax cs t)).ownsRow E.base t 1 r'.v r'.xs.length r'.xs)(c:r'.v.ownBlock=O W.heap.size):Bd E (W.alloc (Ax cs t)) L l x (r'::R):=by
 have a:=b.below (dF W (Ax cs t));refine⟨a.lo,a.hl,a.code,a.cur,a.row,a.each,fun k hz=>?_,?_⟩
 ·rcases List.mem_cons.1 hz with rfl|hz
  ·rw[g];exact⟨j,i⟩
  ·exact a.rows k hz
 ·show(r'.v.ownBlock.toList++bR R++bL L).Nodup;rw[dG,ub];refine⟨by rw[c];simp,b.sep,fun e d f h o=>?_⟩;rw[c]at d;have:e=W.heap.size:=by simpa using d
  have:=b.ltR f h;omega
theorem Bd.nil(a:Bd E W L l x R){t:Z}(b:TO t):Bd E W L l x (⟨t,X U 0 0,[]⟩::R):=
 ⟨a.lo,a.hl,a.code,a.cur,a.row,a.each,fun c hz=>by
  rcases List.mem_cons.1 hz with rfl|hz
  ·exact⟨b,dB _ _ _ _⟩
  ·exact a.rows c hz,a.sep⟩
theorem Bd.drop(a:Bd E W L l x (r::R)):Bd E W L l x R:=by
 have b:=a.sep;have c:bR (r::R)=r.v.ownBlock.toList++bR R:=rfl;rw[c,dG,ub]at b;exact⟨a.lo,a.hl,a.code,a.cur,a.row,a.each,fun e d=>a.rows e (dJ _ d),b.2.1⟩
theorem Bd.swap{b:Rwx}(a:Bd E W L l x (r::b::R)):Bd E W L l x (b::r::R):=by
 refine⟨a.lo,a.hl,a.code,a.cur,a.row,a.each,fun f hz=>a.rows f ?_,?_⟩
 ·simp only[List.mem_cons]at hz⊢;rcases hz with hz|hz|hz<;>simp[hz]
 ·have c:=a.sep;have d:bR (r::b::R)=r.v.ownBlock.toList++(b.v.ownBlock.toList++bR R):=rfl;have e:bR (b::r::R)=b.v.ownBlock.toList++(r.v.ownBlock.toList++bR R):=rfl;rw[d]at c;rw[e];refine List.Perm.nodup_iff ?_ |>.1 c
  rw[<-dG,<-dG (b.v.ownBlock.toList)];exact(List.perm_append_comm.append_right _).append_right _
theorem Bd.c0(b:Bd E W L l x R):W.cell? ⟨E.bb,0,U⟩=O (cV E):=by
 obtain⟨d,a,c⟩:=b.row;rw[ay _ _ _ _ _ _ a];rfl
theorem Bd.c2(b:Bd E W L l x R):W.cell? ⟨E.bb,2,U⟩=O (T S l):=by
 obtain⟨d,a,c⟩:=b.row;rw[ay _ _ _ _ _ _ a];rfl
def Bg(E:Bs)(W:Q)(L:List Mb)(n:Nat):Prop:=∀a b r,dv E.cb W E.a0 E.len E.cap a b r->((bigs L+n:Nat):Int)<=r/\0<=r/\r<=3
theorem Bd.bg0(d:Bd E W L l x R):Bg E W L 0:=fun e g r a=>by
 obtain⟨f,h,i,c,_,_,b⟩:=d.cur;unfold dv at c a;rw[c]at a;simp at a;obtain⟨_,_,rfl⟩:=a;exact⟨b.2.2,b.1,b.2.1⟩
theorem Bg.of_heap{n:Nat}(a:Bg E W L n)(c:W'.heap[E.cb]?=W.heap[E.cb]?):Bg E W' L n:=fun d e r b=>a d e r (c.symm.trans b)
theorem lL(a:Bd E W L l x R)(k:Int)(h:2<=k)(i:k<=200)(t:L.length<=25000)(u:x<=20000000):
  Calls Tryz.prog 9 #[cV E,T S k] W fun e b=>∃z:Int,0<=z/\z<k/\e= .returned (T S z)/\Bd E b L l (x+1) R/\Kb W b/\Y E.base W b:=by
 obtain⟨o,q,r,c,p,v,j⟩:=a.cur;have:=a.hl;refine(uy k h i E.cb E.base W E.a0 E.len E.cap o q r c a.code p (by omega) this.1).mono ?_;rintro e b ⟨z,z0,s,f,w,d,g⟩;exact⟨z,z0,s,f,a.went g d (by omega) j⟩
theorem afr{n:Nat}(a:Bd E W L l x R)(o:Bg E W L n)(k:Int)(s:2<=k)(t:k<=200)(B:L.length<=25000)(C:x<=20000000):
  Calls Tryz.prog 9 #[cV E,T S k] W fun e c=>∃z:Int,0<=z/\z<k/\e= .returned (T S z)/\Bd E c L l (x+1) R/\Bg E c L n/\Y E.base W c:=by
 obtain⟨g,h,r,f,w,F,u⟩:=a.cur;have:=a.hl;have v:=o g h r f;refine(uy k s t E.cb E.base W E.a0 E.len E.cap g h r f a.code w (by omega) this.1).mono ?_;rintro e c ⟨z,z0,A,p,G,d,q⟩;obtain⟨i,_,j⟩:=a.went (y:=x+1) q d (by omega) u;refine⟨z,z0,A,p,i,fun p2 H I b=>?_,j⟩;unfold dv at d b;rw[d]at b;simp at b;obtain⟨_,_,rfl⟩:=b;exact v
end
