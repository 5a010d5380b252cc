import Derived.Test.YthjpdjibdnecoaaGreatDoorHQk08
import Derived.Test.YthjpdjibdnecoaaGreatDoorHQk25
import Derived.WalkSmall
set_option linter.all false
set_option maxRecDepth 100000
set_option maxHeartbeats 6400000
open Option renaming none->M,some->O
open Go renaming Value->U,World->Y,Calls->A7,Program->B0,TypeId->B3
open Go.IntKind renaming i64->V
open Go.Value renaming int->X,slice->Z,ownBlock->A0,int->A4,string->A5,string->A8,bool->B1,agg->B2
open Go.Proofs.Tryz renaming prog->Ax
open Go.Ending renaming returned->A1
open Go.RowKit renaming Below->A2,Hid->A6
open Go.Obj renaming cells->A3
open Bool renaming true->A9,false->Bs
namespace Go.Proofs.YthjpdjibdnecoaaGreatDoor
open Go.RowKit
structure Nb where
 N:Nd
 g:Nat
 h:Nat
def Nb.vn(x:Nb):U:= Z (O ⟨x.g,0,M⟩) x.N.nm.length x.N.nm.length
def Nb.vk(x:Nb):U:= Z (O ⟨x.h,0,M⟩) x.N.ks.length x.N.ks.length
def cNb(x:Nb):List U:=[X V x.N.k,X V x.N.f,X V x.N.t,X V x.N.l,X V x.N.op,X V x.N.n,A8 x.N.x,x.vn,x.vk]
def Fe(l:List Nb):List U:=l.flatMap cNb
def zc:List U:=[X V 0,X V 0,X V 0,X V 0,X V 0,X V 0,A8 ⟨#[]⟩,Z M 0 0,Z M 0 0]
theorem Ht(l:List Nb):(Fe l).length=l.length*9:=by
 induction l with
 |nil=>rfl
 |cons a b d=>
  have c:Fe (a::b)=cNb a++Fe b:=by simp[Fe]
  have e:(cNb a).length=9:=rfl;rw[c,aH,d,e,bv];omega
structure BG (W:Y) (base:Nat) (x:Nb):Prop where
 on:W.ownsRow base 9 1 x.vn x.N.nm.length (x.N.nm.map A5)
 ok:W.ownsRow base 3 1 x.vk x.N.ks.length (x.N.ks.map (A4 .i64))
theorem BG.below{W W':Y}{base:Nat}{x:Nb}(h:BG W base x)(a:A2 W.heap.size W W'):BG W' base x:=⟨aE h.on a,aE h.ok a⟩
theorem abv{W:Y}{h k c d t u e f g n2 l m:Nat}{v x:List U}(o:W.ownsRow h c t (Z (O ⟨e,0,M⟩) g l) g v)(p:W.ownsRow k d u (Z (O ⟨f,0,M⟩) n2 m) n2 x)(q:c≠d):e≠f:=by
 rintro rfl;rcases o.2 with⟨a,_⟩|⟨F,y,A,a,_,r,_⟩
 ·cases a
 ·cases a;rcases p.2 with⟨a,_⟩|⟨G,z,C,n,_,s,_⟩
  ·cases a
  ·cases n;have b:=r.symm.trans s;simp only[dr,gE]at b;exact q b.2.1
theorem BG.set{W:Y}{base:Nat}{x:Nb}(h:BG W base x){a:Addr}(b:x.g≠a.block)(c:x.h≠a.block)(u:U):BG (W.setCell a u) base x:=
 ⟨ownsRow_setCell_other h.on (by unfold Nb.vn A0;simp;exact b) u,ownsRow_setCell_other h.ok (by unfold Nb.vk A0;simp;exact c) u⟩
structure qd (W:Y) (base g n:Nat) (L:List Nb) (rest:List U):Prop where
 row:W.ownsRow base 53 9 (.slice (O ⟨g,0,M⟩) n n) n (Fe L++rest)
 each:∀x∈L,BG W base x
 dn:(L.map Nb.g).Nodup
 dk:(L.map Nb.h).Nodup
theorem qd.below{W W':Y}{base g n:Nat}{L:List Nb}{b:List U}(h:qd W base g n L b)(a:A2 W.heap.size W W'):qd W' base g n L b:=
 ⟨aE h.row a,fun d c=>(h.each d c).below a,h.dn,h.dk⟩
theorem qd.le{W:Y}{base b g n:Nat}{L:List Nb}{d:List U}(h:qd W base g n L d)(a:b<=base):qd W b g n L d:=
 ⟨iE h.row a,fun e c=>⟨iE (h.each e c).on a,iE (h.each e c).ok a⟩,h.dn,h.dk⟩
theorem agJ(ts:List Nb)(i j:Nat)(T:Nb)(a:ts[i]?=O T)(g:j<9):(Fe ts)[i*9+j]?=(cNb T)[j]?:=by
 induction ts generalizing i with
 |nil=>simp at a
 |cons b c e=>
  have d:Fe (b::c)=cNb b++Fe c:=by simp[Fe]
  have f:(cNb b).length=9:=rfl;rw[d];cases i with
  |zero=>simp at a;subst a;rw[ie (by omega)];congr 1;omega
  |succ i=>
   rw[fJ (by omega),f,show(i+1)*9+j-9=i*9+j by omega];exact e i (by simpa using a)
theorem yu(g m:Nat):(⟨g,0,M⟩:Addr).add m=⟨g,m,M⟩:=by unfold Addr.add;split<;>simp_all
theorem qd.nd{W:Y}{base g n:Nat}{L:List Nb}(h:qd W base g n L []){i:Nat}{x:Nb}(b:L[i]?=O x):abb W ⟨g,i*9,M⟩ x.N x.vn x.vk:=by
 have f:n*9=L.length*9:=by have:=h.row.1;rw[da,Ht]at this;omega
 have e:i<L.length:=by rcases co i L.length with g|g;exact g;rw[jL g]at b;cases b
 have a:∀j,j<9->W.cell? ⟨g,i*9+j,M⟩=(cNb x)[j]?:=fun j d=>by
  rw[h.row.cellAt (i*9+j) (by omega),da,agJ L i j x b d]
 have c:=cJ b;exact⟨a 0 (by omega),a 1 (by omega),a 2 (by omega),a 3 (by omega),a 4 (by omega),a 5 (by omega),a 6 (by omega),a 7 (by omega),a 8 (by omega),GI (h.each x c).on rfl,GJ (h.each x c).ok rfl⟩
theorem qd.nds{W:Y}{base g n:Nat}{L:List Nb}(h:qd W base g n L []):fx W (Z (O ⟨g,0,M⟩) n n) (L.map Nb.N):=by
 have b:n=(L.map Nb.N).length:=by have:=h.row.1;rw[da,Ht]at this;rw[dc];omega
 refine .inr ⟨⟨g,0,M⟩,n,by rw[<-b],fun i N a=>?_⟩;rw[cA]at a;cases hx:L[i]? with
 |none=>rw[hx]at a;cases a
 |some c=>
  rw[hx]at a;obtain rfl:=bu a;rw[yu];exact⟨_,_,h.nd hx⟩
structure Mb where
 N:Nd
 vn:U
 vk:U
def cMb(x:Mb):List U:=[X V x.N.k,X V x.N.f,X V x.N.t,X V x.N.l,X V x.N.op,X V x.N.n,A8 x.N.x,x.vn,x.vk]
def lH(l:List Mb):List U:=l.flatMap cMb
theorem DF(a:Mb)(r:List Mb):lH (a::r)=cMb a++lH r:=by simp[lH]
theorem BH(a b:List Mb):lH (a++b)=lH a++lH b:=by simp[lH]
theorem adA(l:List Mb):(lH l).length=l.length*9:=by
 induction l with
 |nil=>rfl
 |cons a d b=>
  have c:(cMb a).length=9:=rfl;rw[DF,aH,b,c,bv];omega
theorem agK(ts:List Mb)(i j:Nat)(T:Mb)(a:ts[i]?=O T)(e:j<9):(lH ts)[i*9+j]?=(cMb T)[j]?:=by
 induction ts generalizing i with
 |nil=>simp at a
 |cons b f c=>
  have d:(cMb b).length=9:=rfl;rw[DF];cases i with
  |zero=>simp at a;subst a;rw[ie (by omega)];congr 1;omega
  |succ i=>
   rw[fJ (by omega),d,show(i+1)*9+j-9=i*9+j by omega];exact c i (by simpa using a)
def adB(c:List U):Prop:=∀(i j:Nat)(a b:U),i≠j->c[i]?=O a->c[j]?=O b->a.ownBlock=M\/a.ownBlock≠b.ownBlock
structure vh (W:Y) (lo hi:Nat) (x:Mb):Prop where
 on:W.ownsRow lo 9 1 x.vn x.N.nm.length (x.N.nm.map A5)
 ok:W.ownsRow lo 3 1 x.vk x.N.ks.length (x.N.ks.map (A4 .i64))
 hn:∀g,x.vn.ownBlock=O g->g<hi
 hk:∀g,x.vk.ownBlock=O g->g<hi
structure lI (W:Y) (lo hi:Nat) (v:U) (L:List Mb):Prop where
 row:W.ownsRow lo 53 9 v L.length (lH L)
 hh:∀g,v.ownBlock=O g->g<hi
 each:∀x∈L,vh W lo hi x
 dn:adB (L.map Mb.vn)
 dk:adB (L.map Mb.vk)
theorem vh.below{W W':Y}{lo b:Nat}{x:Mb}(h:vh W lo b x)(a:A2 W.heap.size W W'):vh W' lo b x:=⟨aE h.on a,aE h.ok a,h.hn,h.hk⟩
theorem lI.below{W W':Y}{lo b:Nat}{v:U}{L:List Mb}(h:lI W lo b v L)(a:A2 W.heap.size W W'):lI W' lo b v L:=
 ⟨aE h.row a,h.hh,fun d c=>(h.each d c).below a,h.dn,h.dk⟩
structure Mid (lo hi:Nat) (w w':Y):Prop where
 os:w'.os=w.os
 tape:w'.tape=w.tape
 output:w'.output=w.output
 size:w.heap.size<=w'.heap.size
 block:∀k,k<w.heap.size->(k<lo\/hi<=k)->w'.heap[k]?=w.heap[k]?
theorem Mid.refl(lo a:Nat)(w:Y):Mid lo a w w:=⟨rfl,rfl,rfl,ae _,fun _ _ _=>rfl⟩
theorem Mid.trans{lo a:Nat}{x c z:Y}(h:Mid lo a x c)(k:Mid lo a c z):Mid lo a x z:=
 ⟨k.os.trans h.os,k.tape.trans h.tape,k.output.trans h.output,bF h.size k.size,fun i a b=>(k.block i (eF a h.size) b).trans (h.block i a b)⟩
theorem Mid.kept{lo d:Nat}{w w':Y}(h:Mid lo d w w'){base e size n:Nat}{v:U}{f:List U}(o:w.ownsRow base e size v n f)(r:d<=base):w'.ownsRow base e size v n f:=by
 obtain⟨l,a⟩:=o;refine⟨l,?_⟩;rcases a with a|⟨b,g,k,p,m,c,q⟩
 ·exact .inl a
 ·exact .inr ⟨b,g,k,p,m,(h.block b (ah c) (.inr (by omega))).trans c,q⟩
theorem Mid.bel{lo d base:Nat}{c w w':Y}(h:Mid lo d w w')(a:A2 base c w)(f:base<=lo)(g:base<=w.heap.size):A2 base c w':=
 ⟨h.os.trans a.os,h.tape.trans a.tape,h.output.trans a.output,bF a.size h.size,fun b e=>(h.block b (by omega) (.inl (by omega))).trans (a.block b e)⟩
theorem yv{W:Y}{base:Nat}{v:U}{l:List ByteArray}(h:W.ownsRow base 9 1 v l.length (l.map A5)):cH W v l:=by
 rcases bp h with⟨a,rfl⟩|⟨c,b,rfl⟩
 ·exact .inl ⟨jK a,_,_,rfl⟩
 ·exact GI h rfl
theorem qy{W:Y}{base:Nat}{v:U}{l:List Int}(h:W.ownsRow base 3 1 v l.length (l.map (A4 V))):eo W v l:=by
 rcases bp h with⟨a,rfl⟩|⟨c,b,rfl⟩
 ·exact .inl ⟨jK a,_,_,rfl⟩
 ·exact GJ h rfl
theorem um{W:Y}{lo g n cap:Nat}{L:List Mb}(h:W.ownsRow lo 53 9 (Z (O ⟨g,0,M⟩) n cap) n (lH L)){i:Nat}{x:Mb}(b:L[i]?=O x):
  W.cell? ⟨g,i*9,M⟩=O (X V x.N.k)/\W.cell? ⟨g,i*9+1,M⟩=O (X V x.N.f)/\W.cell? ⟨g,i*9+2,M⟩=O (X V x.N.t)/\W.cell? ⟨g,i*9+3,M⟩=O (X V x.N.l)/\W.cell? ⟨g,i*9+4,M⟩=O (X V x.N.op)/\W.cell? ⟨g,i*9+5,M⟩=O (X V x.N.n)/\W.cell? ⟨g,i*9+6,M⟩=O (A8 x.N.x)/\W.cell? ⟨g,i*9+7,M⟩=O x.vn/\W.cell? ⟨g,i*9+8,M⟩=O x.vk:=by
 have e:n*9=L.length*9:=by have:=h.1;rw[adA]at this;omega
 have d:i<L.length:=by rcases co i L.length with g|g;exact g;rw[jL g]at b;cases b
 have a:∀j,j<9->W.cell? ⟨g,i*9+j,M⟩=(cMb x)[j]?:=fun j c=>by
  rw[h.cellAt (i*9+j) (by omega),agK L i j x b c]
 exact⟨a 0 (by omega),a 1 (by omega),a 2 (by omega),a 3 (by omega),a 4 (by omega),a 5 (by omega),a 6 (by omega),a 7 (by omega),a 8 (by omega)⟩
theorem lI.nds{W:Y}{lo r:Nat}{v:U}{L:List Mb}(h:lI W lo r v L):fx W v (L.map Mb.N):=by
 rcases bp h.row with⟨s,rfl⟩|⟨q,p,rfl⟩
 ·exact .inl ⟨by rw[jK s];rfl,_,_,rfl⟩
 ·refine .inr ⟨⟨q,0,M⟩,p,by rw[dc],fun i N a=>?_⟩;rw[cA]at a;cases hx:L[i]? with
  |none=>rw[hx]at a;cases a
  |some b=>
   rw[hx]at a;obtain rfl:=bu a;rw[yu];obtain⟨d,e,f,g,k,l,m,n,o⟩:=um h.row hx;have c:=h.each b (cJ hx);exact⟨b.vn,b.vk,d,e,f,g,k,l,m,n,o,yv c.on,qy c.ok⟩
def nxt(K:Nat)(N:Nd):Nat:=K+7+N.nm.length+N.ks.length
def Gq:Nat->List Nd->Nat
 |K,[]=>K
 |K,N::r=>Gq (nxt K N) r
theorem adC(a B:List Nd):∀K,Gq K (a++B)=Gq (Gq K a) B:=by
 induction a with
 |nil=>intro K;rfl
 |cons d c b=>intro K;simp[Gq,b]
theorem rB{W:Y}{g h b c o p n n2:Nat}{a f:U}{q r:List U}(d:W.ownsRow g b o a n q)(e:W.ownsRow h c p f n2 r)(l:b≠c):a.ownBlock=M\/a.ownBlock≠f.ownBlock:=by
 rcases bp d with⟨m,rfl⟩|⟨u,s,rfl⟩
 ·exact .inl rfl
 ·rcases bp e with⟨m,rfl⟩|⟨v,t,rfl⟩
  ·exact .inr (by simp[A0])
  ·exact .inr fun k=>abv d e l (by simpa [A0] using k)
theorem lI.put{w d:Y}{lo c g n cap:Nat}{a B:List Mb}{x b:Mb}{k:Nat}(q:a.length=k)(h:lI w lo c (Z (O ⟨g,0,M⟩) n cap) (a++x::B))(l:d.ownsRow lo 53 9 (Z (O ⟨g,0,M⟩) n cap) n (lH (a++b::B)))
  (f:n=(a++x::B).length) (p:vh d lo c b) (o:b.vn=x.vn) (m:b.vk=x.vk) (e:∀z,z∈a\/z∈B->vh d lo c z):lI d lo c (Z (O ⟨g,0,M⟩) n cap) (a++b::B):=by
 refine⟨?_,h.hh,?_,?_,?_⟩
 ·rw[show(a++b::B).length=n by rw[f];simp];exact l
 ·intro z hz;rcases List.mem_append.1 hz with hz|hz
  ·exact e z (.inl hz)
  ·rcases List.mem_cons.1 hz with rfl|hz
   ·exact p
   ·exact e z (.inr hz)
 ·have:=h.dn;rw[ee,wK]at this⊢;rw[o];exact this
 ·have:=h.dk;rw[ee,wK]at this⊢;rw[m];exact this
theorem vh.past{w o p q:Y}{lo a g:Nat}{z x:Mb}{b s n:Nat}{y:List U}{m:U}(h:vh w lo a z)(l:vh w lo a x)(f:w.ownsRow b 53 s m n y)(k:m.ownBlock=O g)
  (u:z.vn.ownBlock=M\/z.vn.ownBlock≠x.vn.ownBlock) (v:z.vk.ownBlock=M\/z.vk.ownBlock≠x.vk.ownBlock) (c:w.grownBy o (O g)) (d:o.grownBy p x.vn.ownBlock) (e:p.grownBy q x.vk.ownBlock):vh q lo a z:=by
 have r:z.vn.ownBlock=M\/z.vn.ownBlock≠O g:=by rw[<-k];exact rB h.on f (by decide)
 have t:z.vk.ownBlock=M\/z.vk.ownBlock≠O g:=by rw[<-k];exact rB h.ok f (by decide)
 exact⟨((h.on.kept c r).kept d u).kept e (rB h.on l.ok (by decide)),((h.ok.kept c t).kept d (rB h.ok l.on (by decide))).kept e v,h.hn,h.hk⟩
structure TkC (cs:Array U) (T:Tk) (q:Nat) (l:Int):Prop where
 c0:cs[q*6]?=O (.int .i64 T.k)
 c1:cs[q*6+1]?=O (.int .i64 T.f)
 c2:cs[q*6+2]?=O (.int .i64 T.t)
 c3:cs[q*6+3]?=O (.int .i64 l)
 c4:cs[q*6+4]?=O (.int .i64 T.n)
 c5:cs[q*6+5]?=O (.string T.x)
 hl:T.k≠6->l=T.l
def TkR(cs:Array U)(tk:Nat->Tk)(n:Nat):Prop:=∀a,a<n->∃b,TkC cs (tk a) a b
structure Kt (w w':Y):Prop where
 size:w.heap.size<=w'.heap.size
 block:∀k,k<w.heap.size->(∀cs fr,w.heap[k]?≠O (.cells cs 53 fr))->(∀cs fr,w.heap[k]?≠O (.cells cs 85 fr))->w'.heap[k]?=w.heap[k]?
theorem Kt.refl(w:Y):Kt w w:=⟨ae _,fun _ _ _ _=>rfl⟩
theorem Kt.trans{x g z:Y}(h:Kt x g)(k:Kt g z):Kt x z:=
 ⟨bF h.size k.size,fun i f d e=>by
  have b:=h.block i f d e;exact(k.block i (eF f h.size) (fun a c=>by rw[b];exact d a c) (fun a c=>by rw[b];exact e a c)).trans b⟩
theorem Kt.of_below{w w':Y}(h:A2 w.heap.size w w'):Kt w w':=⟨h.size,fun b a _ _=>h.block b a⟩
theorem Kt.blk{w w':Y}(h:Kt w w'){k:Nat}{cs:Array U}{t:B3}{fr:Nat×Nat}(b:w.heap[k]?=O (A3 cs t fr))(e:t≠53)(f:t≠85):w'.heap[k]?=O (A3 cs t fr):=
 (h.block k (ah b) (fun c d a=>by rw[b]at a;cases a;exact e rfl) (fun c d a=>by rw[b]at a;cases a;exact f rfl)).trans b
theorem Kt.row{w w':Y}(h:Kt w w'){base e size n:Nat}{v:U}{b:List U}(o:w.ownsRow base e size v n b)(k:e≠53)(l:e≠85):w'.ownsRow base e size v n b:=by
 obtain⟨g,a⟩:=o;refine⟨g,?_⟩;rcases a with a|⟨f,c,d,q,p,m,r⟩
 ·exact .inl a
 ·exact .inr ⟨f,c,d,q,p,h.blk m k l,r⟩
theorem Kt.past{x e z:Y}(h:Kt x e){b:Nat}(a:e.grownBy z (O b))(l:x.heap.size<=b):Kt x z:=
 ⟨bF h.size a.size,fun d c g k=>(a.block d (eF c h.size) (fun f=>by cases f;omega)).trans (h.block d c g k)⟩
theorem Kt.set{w:Y}{k:Nat}{cs:Array U}{t:B3}{fr:Nat×Nat}(a:w.heap[k]?=O (A3 cs t fr))(e:t=53\/t=85)(q:Nat)(u:U):Kt w (w.setCell ⟨k,q,M⟩ u):=
 ⟨by simp[World.setCell],fun i f c d=>aD _ _ _ _ (fun b=>by subst b;rcases e with rfl|rfl;exact c _ _ a;exact d _ _ a)⟩
structure Pe where
 base:Nat
 pb:Nat
 tb:Nat
 cap:Nat
 n:Nat
 tk:Nat->Tk
structure Sp (E:Pe) (W:Y) (i:Nat) (L:List Mb) (B:List (Nat×Array U)):Prop where
 lo:E.base<=E.pb
 hn:E.n<=1048576
 tks:∃cs fr,W.heap[E.tb]?=O (.cells cs 96 fr)/\TkR cs E.tk E.n
 row:∃v,W.heap[E.pb]?=O (.cells #[.slice (O ⟨E.tb,0,M⟩) E.n E.cap,.int .i64 i,v] 85 (0,0))/\W.ownsRow E.base 53 9 v L.length (lH L)/\∀b∈B,W.heap[b.1]?=O (.cells b.2 53 (0,0))/\v.ownBlock≠O b.1
 each:∀x∈L,W.ownsRow E.base 9 1 x.vn x.N.nm.length (x.N.nm.map A5)/\W.ownsRow E.base 3 1 x.vk x.N.ks.length (x.N.ks.map (A4 .i64))
 nb:(B.map Prod.fst).Nodup
section
variable {E : Pe} {W W' : World} {i : Nat} {L : List Mb} {B : List (Nat × Array Value)}
theorem Sp.lt(h:Sp E W i L B):E.pb<W.heap.size/\E.base<=W.heap.size:=by
 obtain⟨b,a,_⟩:=h.row;have:=ah a;have:=h.lo;omega
theorem Sp.below(h:Sp E W i L B)(a:A2 W.heap.size W W'):Sp E W' i L B:=by
 obtain⟨l,m,f,o⟩:=h.tks;obtain⟨p,e,n,c⟩:=h.row;exact⟨h.lo,h.hn,⟨l,m,(a.block _ (ah f)).trans f,o⟩,⟨p,(a.block _ (ah e)).trans e,aE n a,fun b d=>⟨(a.block _ (ah (c b d).1)).trans (c b d).1,(c b d).2⟩⟩,fun k g=>⟨aE (h.each k g).1 a,aE (h.each k g).2 a⟩,h.nb⟩
theorem Sp.alloc(h:Sp E W i L B)(cs:Array U):Sp E (W.alloc (A3 cs 53)) i L ((W.heap.size,cs)::B):=by
 have f:A2 W.heap.size W (W.alloc (A3 cs 53)):=(ag _ W).alloc (ae _) _;have a:=h.below f;obtain⟨g,e,m,n⟩:=a.row;obtain⟨r,d,k,l⟩:=h.row;have q:r=g:=by
  have b:=(f.block _ (ah d)).trans d;rw[e]at b;cases b;rfl
 refine⟨a.lo,a.hn,a.tks,⟨g,e,m,fun c hm=>?_⟩,a.each,?_⟩
 ·rcases List.mem_cons.1 hm with rfl|hm
  ·refine⟨aj W _,fun b=>?_⟩;have:=(k.lt W.heap.size (by rw[q];exact b)).2;omega
  ·exact n c hm
 ·rw[wK,List.nodup_cons];refine⟨fun hm=>?_,h.nb⟩;obtain⟨c,o,p⟩:=List.mem_map.1 hm;have:=ah (l c o).1;rw[p]at this;exact AI _ this
theorem Sp.drop(h:Sp E W i L B){B':List (Nat×Array U)}(e:∀b∈B',b∈B)(g:(B'.map Prod.fst).Nodup):Sp E W i L B':=by
 obtain⟨k,a,c,d⟩:=h.row;exact⟨h.lo,h.hn,h.tks,⟨k,a,c,fun b f=>d b (e b f)⟩,h.each,g⟩
theorem Sp.tail{b:Nat×Array U}(h:Sp E W i L (b::B)):Sp E W i L B:=h.drop (fun c a=>dC _ a) (List.nodup_cons.1 h.nb).2
theorem Sp.box(h:Sp E W i L B){b:Nat}{cs:Array U}(c:(b,cs)∈B):W.heap[b]?=O (A3 cs 53 (0,0)):=by
 obtain⟨f,d,e,a⟩:=h.row;exact(a _ c).1
theorem gA{base e size n g:Nat}{v:U}{k:List U}(o:W.ownsRow base e size v n k){cs:Array U}{t:B3}{fr:Nat×Nat}(c:W.heap[g]?=O (A3 cs t fr))(h:t≠e):v.ownBlock≠O g:=fun a=>by
 rcases o.2 with⟨b,_⟩|⟨d,l,m,b,_,f,_⟩
 ·rw[b]at a;simp[A0]at a
 ·rw[b]at a;obtain rfl:d=g:=by simpa [A0] using a
  rw[f]at c;cases c;exact h rfl
theorem pF{base e size n:Nat}{v:U}{a:List U}(o:W.ownsRow base e size v n a){g:Nat}(b:v.ownBlock≠O g)(q:Nat)(u:U):(W.setCell ⟨g,q,M⟩ u).ownsRow base e size v n a:=
 o.kept (row:=O g) ⟨rfl,rfl,rfl,by simp[World.setCell],fun h f c=>aD _ _ _ _ (fun e=>c (by rw[e]))⟩ (by
  cases hv:v.ownBlock with
  |none=>exact .inl rfl
  |some d=>exact .inr (fun e=>b (by rw[hv,e])))
theorem Sp.set{b:Nat}{cs:Array U}(h:Sp E W i L ((b,cs)::B))(q:Nat)(u:U):Sp E (W.setCell ⟨b,q,M⟩ u) i L ((b,cs.setIfInBounds q u)::B):=by
 obtain⟨p,r,m,t⟩:=h.tks;obtain⟨C,k,s,l⟩:=h.row;obtain⟨d,o⟩:=l _ (bK ..);have y:∀a∈B,a.1≠b:=fun a v c=>(List.nodup_cons.1 h.nb).1 (List.mem_map.2 ⟨a,v,c⟩);have n:∀f,f≠b->(W.setCell ⟨b,q,M⟩ u).heap[f]?=W.heap[f]?:=fun f x=>aD _ _ _ _ x;have A:E.tb≠b:=fun c=>by rw[c,d]at m;cases m
 have z:E.pb≠b:=fun c=>by rw[c,d]at k;cases k
 refine⟨h.lo,h.hn,⟨p,r,(n _ A).trans m,t⟩,⟨C,(n _ z).trans k,pF s o q u,fun a hm=>?_⟩,fun g e=>⟨pF (h.each g e).1 (gA (h.each g e).1 d (by decide)) q u,pF (h.each g e).2 (gA (h.each g e).2 d (by decide)) q u⟩,h.nb⟩;rcases List.mem_cons.1 hm with rfl|hm
 ·exact⟨bi _ b q _ _ _ d,o⟩
 ·exact⟨(n _ (y a hm)).trans (l a (dC _ hm)).1,(l a (dC _ hm)).2⟩
theorem Sp.other(h:Sp E W i L B){b:Nat}{cs:Array U}{fr:Nat×Nat}(m:W.heap[b]?=O (A3 cs 96 fr))(ad:E.tb≠b)(s:W.grownBy W' (O b)):Sp E W' i L B:=by
 obtain⟨C,F,H,I⟩:=h.tks;obtain⟨d,k,G,l⟩:=h.row;have p:∀c f q g,W.heap[c]?=O (A3 f q g)->c≠b->W'.heap[c]?=O (A3 f q g):=fun c f q g t K=>(s.block c (ah t) (fun a=>K (by cases a;rfl))).trans t;have o:∀{r a y v:Nat}{d:U}{A:List U},W.ownsRow r a y d v A->96≠a->W'.ownsRow r a y d v A:=fun x J=>x.kept s (by
  cases hv:A0 _ with
  |none=>exact .inl rfl
  |some af=>exact .inr (fun a=>gA x m J (by rw[hv,a])))
 refine⟨h.lo,h.hn,⟨C,F,p _ _ _ _ H ad,I⟩,⟨d,p _ _ _ _ k (fun a=>by rw[a,m]at k;cases k),o G (by decide),fun e n=>⟨p _ _ _ _ (l e n).1 (fun a=>?_),(l e n).2⟩⟩,fun z u=>⟨o (h.each z u).1 (by decide),o (h.each z u).2 (by decide)⟩,h.nb⟩;have:=(l e n).1;rw[a,m]at this;simp only[dr,gE]at this;exact absurd this.2.1 (by decide)
theorem Sp.move(h:Sp E W i L B)(j:Nat):Sp E (W.setCell ⟨E.pb,1,M⟩ (X V j)) j L B:=by
 obtain⟨o,p,k,q⟩:=h.tks;obtain⟨t,a,m,g⟩:=h.row;have n:∀c,c≠E.pb->(W.setCell ⟨E.pb,1,M⟩ (X V j)).heap[c]?=W.heap[c]?:=fun c r=>aD _ _ _ _ r;have s:E.tb≠E.pb:=fun f=>by rw[f,a]at k;cases k
 refine⟨h.lo,h.hn,⟨o,p,(n _ s).trans k,q⟩,⟨t,bi _ E.pb 1 _ _ _ a,pF m (gA m a (by decide)) 1 _,fun e l=>⟨(n _ (fun f=>?_)).trans (g e l).1,(g e l).2⟩⟩,fun d b=>⟨pF (h.each d b).1 (gA (h.each d b).1 a (by decide)) 1 _,pF (h.each d b).2 (gA (h.each d b).2 a (by decide)) 1 _⟩,h.nb⟩;have:=(g e l).1;rw[f,a]at this;simp only[dr,gE]at this;exact absurd this.2.1 (by decide)
theorem Sp.kmove(h:Sp E W i L B)(u:U):Kt W (W.setCell ⟨E.pb,1,M⟩ u)/\A2 E.base W (W.setCell ⟨E.pb,1,M⟩ u):=by
 obtain⟨d,a,b,c⟩:=h.row;exact⟨Kt.set a (.inr rfl) 1 u,(ag _ W).setCell h.lo _⟩
theorem Sp.cells(h:Sp E W i L B):W.cell? ⟨E.pb,0,M⟩=O (Z (O ⟨E.tb,0,M⟩) E.n E.cap)/\W.cell? ⟨E.pb,1,M⟩=O (X V i)/\∀j,W.frozen? ⟨E.pb,j,M⟩=Bs:=by
 obtain⟨d,a,b,c⟩:=h.row;exact⟨by rw[aq _ _ _ _ _ _ a];rfl,by rw[aq _ _ _ _ _ _ a];rfl,fun j=>cC _ _ _ _ _ a⟩
theorem Sp.tok(h:Sp E W i L B){q:Nat}(d:q<E.n):∃l,((E.tk q).k≠6->l=(E.tk q).l)/\W.cell? ⟨E.tb,q*6,M⟩=O (X V (E.tk q).k)/\W.cell? ⟨E.tb,q*6+1,M⟩=O (X V (E.tk q).f)/\W.cell? ⟨E.tb,q*6+2,M⟩=O (X V (E.tk q).t)/\W.cell? ⟨E.tb,q*6+3,M⟩=O (X V l)/\W.cell? ⟨E.tb,q*6+4,M⟩=O (X V (E.tk q).n)/\W.cell? ⟨E.tb,q*6+5,M⟩=O (A8 (E.tk q).x):=by
 obtain⟨e,g,b,c⟩:=h.tks;obtain⟨l,a⟩:=c q d;exact⟨l,a.hl,by rw[aq _ _ _ _ _ _ b];exact a.c0,by rw[aq _ _ _ _ _ _ b];exact a.c1,by rw[aq _ _ _ _ _ _ b];exact a.c2,by rw[aq _ _ _ _ _ _ b];exact a.c3,by rw[aq _ _ _ _ _ _ b];exact a.c4,by rw[aq _ _ _ _ _ _ b];exact a.c5⟩
theorem Sp.kset{b:Nat}{cs:Array U}(h:Sp E W i L ((b,cs)::B))(q:Nat)(u:U):Kt W (W.setCell ⟨b,q,M⟩ u):=Kt.set (h.box (bK ..)) (.inl rfl) q u
end
def Fr(s:Nat)(v:U):Prop:=∀a,v.ownBlock=O a->s<=a
def Ac(s:Nat)(L L':List Mb)(R:Fo):Prop:=∃a,L'=L++a/\a.map Mb.N=R.flat L.length/\∀b∈a,Fr s b.vn/\Fr s b.vk
theorem Ac.nil(s:Nat)(L:List Mb):Ac s L L .nil:=⟨[],(da L).symm,rfl,fun b a=>by cases a⟩
theorem Ac.len{s:Nat}{L L':List Mb}{R:Fo}(h:Ac s L L' R):L'.length=L.length+R.sz:=by
 obtain⟨b,rfl,a,_⟩:=h;have a:=congrArg List.length a;rw[dc,Fo.flat_len]at a;rw[aH,a]
theorem Ac.le{s t:Nat}{L L':List Mb}{R:Fo}(h:Ac s L L' R)(d:t<=s):Ac t L L' R:=by
 obtain⟨g,k,l,c⟩:=h;exact⟨g,k,l,fun f e=>⟨fun a b=>bF d ((c f e).1 a b),fun a b=>bF d ((c f e).2 a b)⟩⟩
theorem Ac.app{s:Nat}{L L1 a:List Mb}{x b:Fo}(h:Ac s L L1 x)(k:Ac s L1 a b):Ac s L a (x.app b):=by
 have n:=h.len;obtain⟨d,rfl,f,l⟩:=h;obtain⟨e,rfl,g,m⟩:=k;refine⟨d++e,by rw[dh],by rw[ee,f,g,Fo.flat_app,n],fun c hz=>?_⟩;rcases List.mem_append.1 hz with hz|hz
 ·exact l c hz
 ·exact m c hz
theorem Ac.add{s:Nat}{L L1:List Mb}{R:Fo}(h:Ac s L L1 R)(N:Nd){vn vk:U}(fn:Fr s vn)(d:Fr s vk):Ac s L (L1++[⟨{N with ks:=R.tops L.length},vn,vk⟩]) (one N R):=by
 obtain⟨a,rfl,b,c⟩:=h;refine⟨a++[⟨{N with ks:=R.tops L.length},vn,vk⟩],by rw[dh],by rw[ee,b];rfl,fun e hz=>?_⟩;rcases List.mem_append.1 hz with hz|hz
 ·exact c e hz
 ·obtain rfl:=List.mem_singleton.1 hz;exact⟨fn,d⟩
theorem Fr.nil(s n c:Nat):Fr s (Z M n c):=fun b a=>by simp[A0]at a
theorem Fr.new{s b n c:Nat}(h:s<=b):Fr s (Z (O ⟨b,0,M⟩) n c):=fun a d=>by
 obtain rfl:b=a:=by simpa [A0] using d
 exact h
theorem Fr.le{s t:Nat}{v:U}(h:Fr s v)(c:t<=s):Fr t v:=fun a b=>bF c (h a b)
def Sv(v:U)(L:List Mb):Prop:=∀b∈L,∀a,v.ownBlock=O a->b.vk.ownBlock≠O a
theorem Sv.next{v:U}{s:Nat}{L L':List Mb}{R:Fo}(h:Sv v L)(a:Ac s L L' R)(f:∀g,v.ownBlock=O g->g<s):Sv v L':=by
 obtain⟨k,rfl,_,e⟩:=a;intro c hx g b;rcases List.mem_append.1 hx with hx|hx
 ·exact h c hx g b
 ·intro d;have:=(e c hx).2 g d;have:=f g b;omega
structure Pst (E:Pe) (W w':Y) (L L':List Mb) (B:List (Nat×Array U)) (R:Fo) (j:Nat):Prop where
 ac:Ac W.heap.size L L' R
 sp:Sp E w' j L' B
 kt:Kt W w'
 bl:A2 E.base W w'
abbrev pV(E:Pe):U:= .pointer (O ⟨E.pb,0,M⟩)
def CI(E:Pe)(f:FuncId)(args:Array U)(i:Nat)(R:Fo)(j:Nat):Prop:=
 ∀(W:Y)(L:List Mb)(B:List (Nat×Array U)),Sp E W i L B->L.length+R.sz<=50000000->A7 Ax f args W fun b w'=>∃a L',b= A1 (X V a)/\R.tops L.length=[a]/\Pst E W w' L L' B R j
def CL(E:Pe)(f:FuncId)(args:Array U)(i:Nat)(R:Fo)(j:Nat):Prop:=
 ∀(W:Y)(L:List Mb)(B:List (Nat×Array U)),Sp E W i L B->L.length+R.sz<=50000000->A7 Ax f args W fun b w'=>∃a L',b= A1 a/\(Fr W.heap.size a/\Sv a L')/\w'.ownsRow E.base 3 1 a R.len ((R.tops L.length).map (A4 V))/\Pst E W w' L L' B R j
section
variable {E : Pe} {W : World} {i : Nat} {L : List Mb} {B : List (Nat × Array Value)}
theorem adD(h:Sp E W i L B)(a:i<E.n):A7 Ax 62 #[pV E] W fun e w'=>e= A1 (X V (E.tk i).k)/\A2 W.heap.size W w':=by
 obtain⟨b,c,d⟩:=h.cells;obtain⟨m,l,o,p,q,r,s,t⟩:=h.tok a;have g:(i:Int)<(E.n:Int):=by omega
 have f:(0:Int)<=(i:Int):=by omega
 clear h a;go_in;go_wp2_with fail;go_quiet (fail)
 go_wp2;go_ret;exact⟨rfl,rfl,rfl,rfl,ae _,fun _ _=>rfl⟩
structure TkW (W:Y) (E:Pe) (q:Nat):Prop where
 c0:W.cell? ⟨E.tb,q*6,M⟩=O (.int .i64 (E.tk q).k)
 c1:W.cell? ⟨E.tb,q*6+1,M⟩=O (.int .i64 (E.tk q).f)
 c2:W.cell? ⟨E.tb,q*6+2,M⟩=O (.int .i64 (E.tk q).t)
 c3:W.cell? ⟨E.tb,q*6+3,M⟩=O (.int .i64 (E.tk q).l)
 c4:W.cell? ⟨E.tb,q*6+4,M⟩=O (.int .i64 (E.tk q).n)
 c5:W.cell? ⟨E.tb,q*6+5,M⟩=O (.string (E.tk q).x)
theorem Sp.tkw(h:Sp E W i L B){q:Nat}(d:q<E.n)(b:(E.tk q).k≠6):TkW W E q:=by
 obtain⟨o,c,e,f,g,a,l,m⟩:=h.tok d;rw[c b]at a;exact⟨e,f,g,a,l,m⟩
theorem ak9(h:Sp E W i L B)(a4:i<E.n)(a3:(E.tk i).k≠6):A7 Ax 103 #[pV E] W fun e w'=>e= .returned (Jj (E.tk i))/\Sp E w' (i+1) L B/\Kt W w'/\A2 E.base W w':=by
 have a6:=h.lt;have u:=bg W (.cells #[.int .i64 0,.int .i64 0,.int .i64 0,.int .i64 0,.int .i64 0,.string ⟨#[]⟩] 96);have s:=h.below u;have c:=s.move (i+1);have d:=s.kmove (.int .i64 ((i+1:Nat):Int));obtain⟨av,a0,a1⟩:=s.cells;obtain⟨q,r,am⟩:=c.cells;obtain⟨y,z,A,C,F,G⟩:=c.tkw a4 a3;have a2:((i+1:Nat):Int)=(i:Int)+1:=by omega
 rw[a2]at c d r q am y z A C F G;have bl:(i:Int)<(E.n:Int):=by omega
 have bk:(0:Int)<=(i:Int):=by omega
 have bn:=h.hn;have bo:IntKind.i64.wrap ((i:Int)+1-1)=(i:Int):=by rw[di];omega
 have br:IntKind.i64.wrap (i:Int)=(i:Int):=by rw[di];omega
 have bs:IntKind.i64.wrap ((i:Int)+1)=(i:Int)+1:=by rw[di];omega
 obtain⟨a,m⟩:=ay ((W.alloc (.cells #[.int .i64 0,.int .i64 0,.int .i64 0,.int .i64 0,.int .i64 0,.string ⟨#[]⟩] 96)).setCell ⟨E.pb,1,M⟩ (.int .i64 ((i:Int)+1)));have v:a.heap[W.heap.size]?=O (.cells #[.int .i64 0,.int .i64 0,.int .i64 0,.int .i64 0,.int .i64 0,.string ⟨#[]⟩] 96 (0,0)):=by
  rw[<-m,aD _ _ _ _ (by show W.heap.size≠E.pb;omega)];exact aj W _
 have an:A2 E.base W a:=by rw[<-m];exact(u.mono a6.2).trans d.2
 have ao:Kt W a:=by rw[<-m];exact(Kt.of_below u).trans d.1
 rw[m]at c q r am y z A C F G;go_in;go_wp2_with fail;have p:=Gu c an ao v;have ar:=aw h;clear m s u c d av a0 a1 h an ao v;obtain⟨z0,bt,bw,bx,bA,bD⟩:=eJ p.out.2.2.2;obtain⟨bE,b0,b1,b3,b4,b5⟩:=mu p.out.2.2.2;have a7:E.pb≠W.heap.size:=by omega
 have ap:E.tb≠W.heap.size:=by
  obtain⟨bd,bh,a8,_⟩:=ar.out.tks;have:=ah a8;omega
 have H:∀j I J K ad af ak,(uG a W.heap.size I J K ad af ak).drew.cell? ⟨E.pb,j,M⟩=a.cell? ⟨E.pb,j,M⟩:=fun j=>lg a7 j;have b:∀j I J K ad af ak,(uG a W.heap.size I J K ad af ak).drew.cell? ⟨E.tb,j,M⟩=a.cell? ⟨E.tb,j,M⟩:=fun j=>lg ap j;unfold uG at H b;go_region_held3 (fun w'=>w'.cell? ⟨E.pb,0,M⟩=O (.slice (O ⟨E.tb,0,M⟩) E.n E.cap)/\w'.cell? ⟨E.pb,1,M⟩=O (.int .i64 ((i:Int)+1))/\w'.cell? ⟨E.tb,i*6,M⟩=O (.int .i64 (E.tk i).k)/\w'.cell? ⟨E.tb,i*6+1,M⟩=O (.int .i64 (E.tk i).f)/\w'.cell? ⟨E.tb,i*6+2,M⟩=O (.int .i64 (E.tk i).t)/\w'.cell? ⟨E.tb,i*6+3,M⟩=O (.int .i64 (E.tk i).l)/\w'.cell? ⟨E.tb,i*6+4,M⟩=O (.int .i64 (E.tk i).n)/\w'.cell? ⟨E.tb,i*6+5,M⟩=O (.string (E.tk i).x)) (first|with_reducible exact⟨(H 0 _ _ _ _ _ _).trans q,(H 1 _ _ _ _ _ _).trans r,(b (i*6) _ _ _ _ _ _).trans y,(b (i*6+1) _ _ _ _ _ _).trans z,(b (i*6+2) _ _ _ _ _ _).trans A,(b (i*6+3) _ _ _ _ _ _).trans C,(b (i*6+4) _ _ _ _ _ _).trans F,(b (i*6+5) _ _ _ _ _ _).trans G⟩|exact⟨q,r,y,z,A,C,F,G⟩) (fail)
 have g:=xp a W.heap.size (.int .i64 (E.tk i).k) (.int .i64 (E.tk i).f) (.int .i64 (E.tk i).t) (.int .i64 (E.tk i).l) (.int .i64 (E.tk i).n) (.string (E.tk i).x);have o:=yn p.out.2.2.2 (.int .i64 (E.tk i).k) (.int .i64 (E.tk i).f) (.int .i64 (E.tk i).t) (.int .i64 (E.tk i).l) (.int .i64 (E.tk i).n) (.string (E.tk i).x);rw[<-oq]at o;unfold uG at g o;generalize World.drew _=bb at g o⊢;go_wp2;obtain⟨a9,al,d,v⟩:=p.out;exact ba (eu rfl _ _ W.heap.size _ _ _ _ rfl o Tryz.underlying96 rfl (by kernel_rfl)) rfl ⟨rfl,a9.other v ap g,d.past g (ae _),al.grown g (by have:=al.size;omega) (fun k a5=>by cases a5;omega)⟩
theorem agL(k:Int)(T:Tk)(w:Y):A7 Ax 104 #[.int .i64 k,Jj T] w fun e w'=>e= .returned (.agg #[.int .i64 k,.int .i64 T.f,.int .i64 0,.int .i64 T.l,.int .i64 0,.int .i64 0,.string ⟨#[]⟩,.slice M 0 0,.slice M 0 0])/\A2 w.heap.size w w':=by
 unfold Jj;go_in;go_wp2_with fail;exact ba (eu rfl _ _ (w.heap.size+1) _ _ _ _ rfl (by have:=aj (w.alloc (.cells #[.int .i64 T.k,.int .i64 T.f,.int .i64 T.t,.int .i64 T.l,.int .i64 T.n,.string T.x] 96)) (.cells #[.int .i64 k,.int .i64 T.f,.int .i64 0,.int .i64 T.l,.int .i64 0,.int .i64 0,.string ⟨#[]⟩,.slice M 0 0,.slice M 0 0] 53);rw[aF]at this;exact this) Tryz.underlying53 rfl (by kernel_rfl)) rfl ⟨rfl,(bg w _).alloc (by simp) _⟩
theorem ag0(h:Sp E W i L B)(b:i<E.n)(k:Int)(l:(E.tk i).k=k):A7 Ax 63 #[pV E,X V k] W fun e w'=>e= A1 (B1 A9)/\Sp E w' (i+1) L B/\Kt W w'/\A2 E.base W w':=by
 have v:((E.tk i).k !=k)=Bs:=by simp[l]
 have m:=adD h b;have f:=aw h;have u:=h.hn;have t:=b;clear h l b;go_in;go_wp2_with fail;refine m.mono ?_;rintro e x ⟨rfl,a⟩;have d:=f.out.below a;obtain⟨q,r,s⟩:=d.cells;have p:=f.out.lt;have g:=aw d;clear d m;go_wp2_with fail;go_ret;have o:=g.out.move (i+1);have c:=g.out.kmove (X V ((i+1:Nat):Int));rw[show((i+1:Nat):Int)=(i:Int)+1 by omega]at o c;exact⟨rfl,o,(Kt.of_below a).trans c.1,(a.mono p.2).trans c.2⟩
theorem ai5(h:Sp E W i L B)(a:i<E.n)(k:Int)(b:(E.tk i).k≠k):A7 Ax 63 #[pV E,X V k] W fun e w'=>e= A1 (B1 Bs)/\A2 W.heap.size W w':=by
 have f:((E.tk i).k !=k)=A9:=by simp[b]
 have d:=adD h a;clear h b a;go_in;go_wp2_with (go_at_call 62;refine d.mono ?_;rintro e g ⟨rfl,c⟩);go_ret;exact⟨rfl,c⟩
end
def wpU(P:B0)(d:Region.Mode)(c:Array Oper)(Q:Exit->Act->Y->Prop)(S e:Y->Prop)(C:Nat->Bool):Nat->Array Bool->Act->Y->Prop
 |0,b,a,w=>Region.ready d c b=[]/\Q .normal a w
 |fuel+1,b,a,w=>
  (Region.ready d c b=[]->Q .normal a w)/\
  ∀i∈Region.ready d c b,wpOp P c Q i (fun f w'=>(e w'/\(C i=A9->S w'))/\wpU P d c Q S e C fuel (b.setIfInBounds i A9) f w') a w
theorem BI{P:B0}{f:Array Oper}{Q:Exit->Act->Y->Prop}{e:Region.Mode}{S b:Y->Prop}{C:Nat->Bool}:∀(fuel:Nat)(d:Array Bool)(a:Act)(w:Y),wpU P e f Q S b C fuel d a w->wpAnyH P e f Q b fuel d a w
 |0,_,_,_,h=>h
 |fuel+1,_,_,_,h=>⟨h.1,fun i k=>wpOp_mono (fun g w' c=>⟨c.1.1,BI fuel _ g w' c.2⟩) (h.2 i k)⟩
theorem qz{P:B0}{f:Array Oper}{Q:Exit->Act->Y->Prop}{m:Region.Mode}{S y:Y->Prop}{C:Nat->Bool}{i:Nat}{n:Oper}{v:U}(I:f[i]?=O n)(al:∀(j:Nat) (o:Oper) cs b,f[j]?=O o->o.op≠ .select cs b)
  (av:∀c a w,Q (.panic c) (a.put n.dst v) w->Q (.panic c) a w) (ap:∀(j:Nat) d,f[j]?=O d->C j=Bs->∃e∈d.after,Region.binds m e=A9/\e.on=i):
  ∀(fuel:Nat)(g:Array Bool)(a:Act)(w:Y),
   (∀j d,f[j]?=O d->j≠i->g.getD j A9=Bs->(∀e∈d.after,Region.binds m e=A9->e.on≠i)->n.apart f d=A9)->
   i∈Region.ready m f g->YieldsIf P f S n v a->y w->S w->
   wpU P m f Q S y C fuel (g.setIfInBounds i A9) (a.put n.dst v) w->wpAnyH P m f Q y (fuel+1) g a w:=by
 intro fuel
 induction fuel with
 |zero=>
  intro g a w _ l x A hS q;refine⟨fun z=>(by rw[z]at l;cases l),fun j t=>?_⟩;by_cases h:j=i
  ·subst h;exact x.wpOp I hS ⟨A,BI _ _ _ _ q⟩
  ·have:=ready_mono t h;rw[q.1]at this;cases this
 |succ fuel a5=>
  intro g a w K l x A hS q;refine⟨fun z=>(by rw[z]at l;cases l),fun j t=>?_⟩;by_cases h:j=i
  ·subst h;exact x.wpOp I hS ⟨A,BI _ _ _ _ q⟩
  ·have k:=q.2 j (ready_mono t h);obtain⟨af,d,u,a0⟩:=mem_ready.1 t;have ak:∀e∈d.after,Region.binds m e=A9->e.on≠i:=fun e G F H=>by
    have k:=a0 e G F;have J:=(mem_ready.1 l).1;rw[H]at k;rcases co i g.size with h'|h'
    ·simp[h']at J k;rw[J]at k;cases k
    ·simp[tE h']at k
   have ar:C j=A9:=by
    cases hc:C j with
    |true=>rfl
    |false=>
     obtain⟨e,G,F,H⟩:=ap j d u hc;exact absurd H (ak e G F)
   have ao:=wpOp_putIf u (K j d u h af ak) (fun cs b=>al i n cs b I) (fun cs b=>al j d cs b u) av x k;have a1:∀p s,f[p]?=O s->p≠i->(g.setIfInBounds j A9).getD p A9=Bs->
     (∀e∈s.after,Region.binds m e=A9->e.on≠i)->n.apart f s=A9:=fun p s a2 a3 am a4=>by
    refine K p s a2 a3 ?_ a4;by_cases ad:j=p
    ·subst ad;exact af
    ·rw[getD_set_ne A9 ad]at am;exact am
   refine wpOp_mono (fun an w' r=>⟨r.2.1.1,a5 (g.setIfInBounds j A9) an w' a1 (ready_mono l (dD h)) r.1 r.2.1.1 (r.2.1.2 ar) ?_⟩) ao;rw[Array.setIfInBounds_comm _ _ h];exact r.2.2
theorem du{P:B0}{b:Array Oper}{Q:Exit->Act->Y->Prop}{f:Region.Mode}{S c:Y->Prop}{C:Nat->Bool}{i:Nat}{o:Oper}{fuel:Nat}{e:Array Bool}{a:Act}{w:Y}(n:Region.ready f b e=[i])(t:b[i]?=O o)
  (h:∀g:Act->Y->Prop,Shut (∀a w,c w->(C i=A9->S w)->wpU P f b Q S c C fuel (e.setIfInBounds i A9) a w->g a w)->if Region.wanted o (yielded b a.tmps)=A9 then Oper.wp P o a w g Q else g (a.put o.dst undef) w):wpU P f b Q S c C (fuel+1) e a w:=by
 refine⟨fun l=>(by rw[n]at l;cases l),fun j m=>?_⟩;rw[n]at m;obtain rfl:j=i:=by simpa using m
 have d:=h (fun p w'=>(c w'/\(C j=A9->S w'))/\wpU P f b Q S c C fuel (e.setIfInBounds j A9) p w') (fun a w q r s=>⟨⟨q,r⟩,s⟩);unfold wpOp;simp only[t];split
 ·rename_i k;rw[ab k]at d;exact .inl d
 ·rename_i k;rw[aa k]at d;exact d
theorem sH{P:B0}{e:Array Oper}{Q:Exit->Act->Y->Prop}{d:Region.Mode}{S f:Y->Prop}{C:Nat->Bool}{c:Array Bool}{a:Act}{w:Y}(b:Region.ready d e c=[])(h:Q .normal a w):
  ∀fuel,wpU P d e Q S f C fuel c a w
 |0=>⟨b,h⟩
 |_+1=>⟨fun _=>h,by rw[b];simp⟩
open Go.Maps Go.WideMaps
theorem Ff:(Tryz.prog.info? 53).map (fun i=>(i.zero,i.size,i.bytes))=O (O (B2 #[X V 0,X V 0,X V 0,X V 0,X V 0,X V 0,A8 ⟨#[]⟩,Z M 0 0,Z M 0 0]),9,112):=by kernel_rfl
abbrev dy(N:Nd)(vn vk:U):Array U:=#[X V N.k,X V N.f,X V N.t,X V N.l,X V N.op,X V N.n,A8 N.x,vn,vk]
section
variable {E : Pe} {W : World} {i : Nat} {L : List Mb} {B : List (Nat × Array Value)}
theorem Sp.push(h:Sp E W i L B){v:U}(K:W.heap[E.pb]?=O (A3 #[Z (O ⟨E.tb,0,M⟩) E.n E.cap,X V i,v] 85 (0,0))){c:Y}{g r cap:Nat}(a1:L.length+1=r)(x:Mb)(af:c.ownsRow E.base 53 9 (Z (O ⟨g,0,M⟩) r cap) r (lH (L++[x])))(f:W.grownBy c v.ownBlock)(ar:v.ownBlock=O g\/g=W.heap.size)
  (on:W.ownsRow E.base 9 1 x.vn x.N.nm.length (x.N.nm.map A5)) (a5:W.ownsRow E.base 3 1 x.vk x.N.ks.length (x.N.ks.map (A4 V))):
  Sp E (c.setCell ⟨E.pb,2,M⟩ (Z (O ⟨g,0,M⟩) r cap)) i (L++[x]) B/\Kt W (c.setCell ⟨E.pb,2,M⟩ (Z (O ⟨g,0,M⟩) r cap))/\A2 E.base W (c.setCell ⟨E.pb,2,M⟩ (Z (O ⟨g,0,M⟩) r cap))/\c.heap[E.pb]?=O (A3 #[Z (O ⟨E.tb,0,M⟩) E.n E.cap,X V i,v] 85 (0,0)):=by
 subst a1;obtain⟨ao,p,m,u⟩:=h.tks;obtain⟨a7,l,t,I⟩:=h.row;obtain rfl:a7=v:=by rw[l]at K;cases K;rfl
 have av:=h.lt;have z:∀{b:Nat}{G:Array U}{F:B3}{p:Nat×Nat},W.heap[b]?=O (A3 G F p)->F≠53->c.heap[b]?=O (A3 G F p):=fun d a2=>(f.block _ (ah d) (fun a=>gA t d a2 a.symm)).trans d;have A:=z l (by decide);have C:∀b,b≠E.pb->(c.setCell ⟨E.pb,2,M⟩ (Z (O ⟨g,0,M⟩) (L.length+1) cap)).heap[b]?=c.heap[b]?:=fun b d=>aD _ _ _ _ d;have s:∀{base a size n:Nat}{al:U}{am:List U},W.ownsRow base a size al n am->a≠53->a≠85->(c.setCell ⟨E.pb,2,M⟩ (Z (O ⟨g,0,M⟩) (L.length+1) cap)).ownsRow base a size al n am:=fun ak m u=>by
  refine pF ?_ ?_ 2 _
  ·obtain⟨e,k⟩:=ak;refine⟨e,?_⟩;rcases k with k|⟨g,cap,H,a3,f,y,a6⟩
   ·exact .inl k
   ·exact .inr ⟨g,cap,H,a3,f,z y m,a6⟩
  ·exact gA ak l (dD u)
 refine⟨⟨h.lo,h.hn,⟨ao,p,(C _ (fun a=>by rw[a,l]at m;cases m)).trans (z m (by decide)),u⟩,⟨_,bi _ E.pb 2 _ _ _ A,?_,fun o J=>⟨?_,?_⟩⟩,fun an hy=>?_,h.nb⟩,⟨?_,fun b d a4 ad=>?_⟩,?_,A⟩
 ·rw[aH];exact pF af (gA af A (by decide)) 2 _
 ·obtain⟨e,k⟩:=I o J;have a0:o.1≠E.pb:=fun a=>by
   rw[a,l]at e;simp only[dr,gE]at e;exact absurd e.2.1 (by decide)
  exact(C _ a0).trans ((f.block _ (ah e) (fun a=>k a.symm)).trans e)
 ·obtain⟨e,k⟩:=I o J;intro a;have a:g=o.1:=by simpa [A0] using a
  rcases ar with q|q
  ·exact k (by rw[q,a])
  ·have:=ah e;omega
 ·rcases List.mem_append.1 hy with hy|hy
  ·exact⟨s (h.each an hy).1 (by decide) (by decide),s (h.each an hy).2 (by decide) (by decide)⟩
  ·obtain rfl:=List.mem_singleton.1 hy;exact⟨s on (by decide) (by decide),s a5 (by decide) (by decide)⟩
 ·show W.heap.size<=_;simp[World.setCell];exact f.size
 ·rw[C b (fun a=>by rw[a]at ad;exact ad _ _ l)];refine f.block b d (fun a=>?_);rcases t.2 with⟨q,_⟩|⟨ap,a8,H,q,_,y,_⟩
  ·rw[q]at a;simp[A0]at a
  ·rw[q]at a;obtain rfl:b=ap:=by simpa [A0] using a
   exact a4 _ _ y
 ·exact((ag _ W).grown f av.2 (fun b d=>(t.lt b d).1)).setCell h.lo _
theorem ai6(h:Sp E W i L B)(cw:1<=i)(cz:i<=E.n)(N:Nd)(b a:Option Addr)(l d g c:Nat)(on:W.ownsRow E.base 9 1 (.slice b l d) N.nm.length (N.nm.map A5))(cg:W.ownsRow E.base 3 1 (.slice a g c) N.ks.length (N.ks.map (A4 .i64)))(b4:L.length<=50000000):
  A7 Ax 107 #[pV E,.agg (dy N (.slice b l d) (.slice a g c))] W fun e w'=>e= .returned (.int .i64 (L.length:Nat))/\Sp E w' i (L++[⟨{N with t:=(E.tk (i-1)).t},.slice b l d,.slice a g c⟩]) B/\Kt W w'/\A2 E.base W w':=by
 obtain⟨q,rfl⟩:∃q,i=q+1:=⟨i-1,by omega⟩;rw[mj];obtain⟨p,a6⟩:=ay L.length;rw[a6]at b4⊢;have b7:=h.lt;have cI:=h.hn;have b2:((q+1:Nat):Int)=(q:Int)+1:=by omega
 have a1:=fun A=>(h.below (bg W A)).cells.1;have am:=fun A=>(h.below (bg W A)).cells.2.1;have al:∀A,(W.alloc A).cell? ⟨E.tb,q*6+2,M⟩=O (.int .i64 (E.tk q).t):=fun A=>by
  obtain⟨c7,cB,c9,df,al,dk,dn,dq⟩:=(h.below (bg W A)).tok (q:=q) (by omega);exact al
 have b0:=a1 (.cells (dy N (.slice b l d) (.slice a g c)) 53);have bd:=am (.cells (dy N (.slice b l d) (.slice a g c)) 53);have cm:=al (.cells (dy N (.slice b l d) (.slice a g c)) 53);have cy:(q:Int)<(E.n:Int):=by omega
 have cx:(0:Int)<=(q:Int):=by omega
 have c2:IntKind.i64.wrap ((q:Int)+1-1)=(q:Int):=by rw[di];omega
 have c3:IntKind.i64.wrap (q:Int)=(q:Int):=by rw[di];omega
 rw[b2]at am bd;have bk:=h.alloc (dy {N with t:=(E.tk q).t} (.slice b l d) (.slice a g c));have bn:=bg W (.cells (dy {N with t:=(E.tk q).t} (.slice b l d) (.slice a g c)) 53);have a0:=gK bk bn;clear bk bn;go_in;go_wp2_with fail;go_region_held3 (fun w'=>w'.cell? ⟨E.pb,0,M⟩=O (.slice (O ⟨E.tb,0,M⟩) E.n E.cap)/\w'.cell? ⟨E.pb,1,M⟩=O (.int .i64 ((q:Int)+1))/\w'.cell? ⟨E.tb,q*6+2,M⟩=O (.int .i64 (E.tk q).t)) (exact⟨a1 _,am _,al _⟩) (fail)
 obtain⟨m,ad⟩:=ay ((W.alloc (.cells (dy {N with t:=(E.tk q).t} (.slice b l d) (.slice a g c)) 53)).drew);have u:A6 (Sp E m (q+1) L ((W.heap.size,dy {N with t:=(E.tk q).t} (.slice b l d) (.slice a g c))::B)/\A2 W.heap.size W m):=by
  rw[<-ad];exact⟨a0.out.1.below ⟨rfl,rfl,rfl,ae _,fun _ _=>rfl⟩,a0.out.2.drew⟩
 have b8:m.heap.size=W.heap.size+1:=by rw[<-ad];show(W.alloc _).heap.size=_;simp
 simp only[dy]at ad;rw[ad];clear ad a0 a1 am al b0 bd cm;obtain⟨v,ao,a3,ct⟩:=u.out.1.row;obtain⟨J,K,rfl⟩:=bz a3;have a2:m.cell? ⟨E.pb,2,M⟩=O (.slice J L.length K):=by rw[aq _ _ _ _ _ _ ao];rfl
 rw[a6]at a2 ao a3;go_wp2_with fail;have a5:m.heap[W.heap.size]?=O (.cells (dy {N with t:=(E.tk q).t} (.slice b l d) (.slice a g c)) 53 (0,0)):=u.out.1.box (bK ..);refine wp_region_held_drew (S:=fun W'=>W'.heap[W.heap.size]?=O (.cells (dy {N with t:=(E.tk q).t} (.slice b l d) (.slice a g c)) 53 (0,0))) (by kernel_rfl) a5 (fun hS=>?_);simp only[gi,bv,dd,Nat.reduceAdd,gh,gC,gD,de,ej];refine bq 0 (.pointer (O ⟨E.pb,0,M⟩)) rfl rfl (by kernel_rfl) (fun _ _ _=>id) hS (fun w' H=>by go_simp) ?_;simp only[List.set];refine bq 1 (.pointer (O ⟨E.pb,0,M⟩)) rfl rfl (by kernel_rfl) (fun _ _ _=>id) hS (fun w' H=>by go_simp) ?_;simp only[List.set];refine bq 2 (.pointer (O ⟨E.pb,0,M⟩)) rfl rfl (by kernel_rfl) (fun _ _ _=>id) hS (fun w' H=>by go_simp) ?_;simp only[List.set];refine bq 3 (.pointer (O ⟨E.pb,2,M⟩)) rfl rfl (by kernel_rfl) (fun _ _ _=>id) hS (fun w' H=>by go_simp) ?_;simp only[List.set];refine J3 5 23 (.agg #[.int .i64 N.k,.int .i64 N.f,.int .i64 (E.tk q).t,.int .i64 N.l,.int .i64 N.op,.int .i64 N.n,.string N.x,.slice b l d,.slice a g c]) rfl rfl (by kernel_rfl) (by kernel_rfl) (by kernel_rfl) (fun _ _ _ h=>h) (by rfl) hS (fun w' H=>by obtain⟨z0,dz,d0,d1,d2,ar,bE,d3,d4,d5⟩:=ax (N:={N with t:=(E.tk q).t}) (vn:= .slice b l d) (vk:= .slice a g c) H;go_simp) ?_;simp only[Act.put,bG,bH,bI];have b5:=a2;refine qz (S:=fun W'=>W'.cell? ⟨E.pb,2,M⟩=O (.slice J p K)) (C:=fun j=>!(j==7||j==8||j==9||j==10)) (i:=4) (v:= .slice J p K) rfl (wJ (by kernel_rfl)) (fun _ _ _ h=>h) ?hC _ _ _ _ (wL rfl (by kernel_rfl)) (List.contains_iff_mem.1 (by kernel_rfl)) (Or.inl ⟨by rfl,fun w' H=>by go_simp⟩) hS b5 ?_
 case hC=>
  intro j c8 br r;simp only[Bool.not_eq_false',xd,ix]at r;rcases r with((rfl|rfl)|rfl)|rfl
  ·obtain rfl:=bu br;exact⟨{on:=4,ground:=Ground.data},by simp,rfl,rfl⟩
  all_goals
   obtain rfl:=bu br;exact⟨{on:=4,ground:=Ground.phase},by simp,rfl,rfl⟩
 simp only[Act.put,bG,bH,bI];refine du (i:=6) (by kernel_rfl) rfl (fun s o=>?_);go_simp;have a4:A2 m.heap.size m (m.drew.alloc (.cells (dy {N with t:=(E.tk q).t} (.slice b l d) (.slice a g c)) 53)):=(cj (ag _ _)).alloc (by simp) _;refine o.out _ _ ((a4.block _ (ah a5)).trans a5) (fun _=>ai a4 a2) ?_;clear o s;try simp only[bG,bH,bI]
 obtain⟨I,af⟩:=ay ((m.alloc (.cells (dy {N with t:=(E.tk q).t} (.slice b l d) (.slice a g c)) 53)).drew);have y:A2 m.heap.size m I:=by rw[<-af];exact cj (bg m _)
 have b9:I.heap[m.heap.size]?=O (.cells (dy {N with t:=(E.tk q).t} (.slice b l d) (.slice a g c)) 53 (0,0)):=by rw[<-af];exact aj m _
 simp only[dy]at af;rw[af];clear af a4 hS;have cl:=u.out.1.below y;have ch:=(y.block _ (ah ao)).trans ao;have b3:=aE a3 y;have bs:=u.out.1.lt;obtain⟨ca,cb,cc,ce,cf⟩:=dt Ff;refine du (i:=7) (by kernel_rfl) rfl (fun s o=>?_);refine step_append_lies _ (by rfl) _ _ 24 (by rfl) E.base 53 ca _ 9 112 Tryz.underlying24 cb cc ce cf rfl (by decide) (.slice J p K) p _ (by rfl) b3 ⟨m.heap.size,0,M⟩ 1 1 (dy {N with t:=(E.tk q).t} (.slice b l d) (.slice a g c)).toList (by rw[b8];rfl) rfl (World.news_of_block b9) (by intro ds bt;simp at bt;rcases bt with rfl|rfl|rfl|rfl|rfl|rfl|rfl|rfl|rfl<;>rfl) (by decide) (by unfold maxLen;omega) (by omega) (bF bs.2 y.size) I.heap.size rfl ?_;intro G F z a7 bo bl cF;have bh:lH L++(dy {N with t:=(E.tk q).t} (.slice b l d) (.slice a g c)).toList=lH (L++[⟨{N with t:=(E.tk q).t},.slice b l d,.slice a g c⟩]):=by rw[BH];show _=lH L++(cMb _++[]);rw[da];rfl
 rw[bh]at a7;have bA:I.ownsRow E.base 9 1 (.slice b l d) N.nm.length (N.nm.map A5):=aE (aE on u.out.2) y;have bx:I.ownsRow E.base 3 1 (.slice a g c) N.ks.length (N.ks.map (A4 .i64)):=aE (aE cg u.out.2) y;obtain⟨ap,bw,bb,a8⟩:=cl.push ch (by rw[a6]) ⟨{N with t:=(E.tk q).t},.slice b l d,.slice a g c⟩ a7 bo bl bA bx;have ar:z.heap[W.heap.size]?=O (.cells (dy {N with t:=(E.tk q).t} (.slice b l d) (.slice a g c)) 53 (0,0)):=by
  have bD:=ap.box (bK ..);rw[aD _ _ _ _ (by show W.heap.size≠E.pb;omega)]at bD;exact bD
 have bE:=ap.box (bK ..);have cr:z.cell? ⟨E.pb,2,M⟩=O (.slice J p K):=by rw[aq _ _ _ _ _ _ a8];rfl
 have cs:z.frozen? ⟨E.pb,2,M⟩=Bs:=cC _ _ _ _ _ a8;have a9:A6 (Sp E (z.setCell ⟨E.pb,2,M⟩ (.slice (O ⟨G,0,M⟩) (p+1) F)) (q+1) (L++[⟨{N with t:=(E.tk q).t},.slice b l d,.slice a g c⟩]) B/\Kt W (z.setCell ⟨E.pb,2,M⟩ (.slice (O ⟨G,0,M⟩) (p+1) F))/\A2 E.base W (z.setCell ⟨E.pb,2,M⟩ (.slice (O ⟨G,0,M⟩) (p+1) F))):=
  ⟨ap.tail,((Kt.of_below u.out.2).trans (Kt.of_below y)).trans bw,((u.out.2.mono b7.2).trans (y.mono bs.2)).trans bb⟩
 clear ap bw bb bA bx bh a7 bo bl;refine o.out _ _ ar (fun r=>by cases r) ?_;clear o s;simp only[Act.put,bG,bH,bI];refine du (i:=8) (by kernel_rfl) rfl (fun s o=>?_);go_simp;refine o.out _ _ ar (fun r=>by cases r) ?_;clear o s;try simp only[bG,bH,bI]
 refine du (i:=9) (by kernel_rfl) rfl (fun s o=>?_);go_simp;refine o.out _ _ ar (fun r=>by cases r) ?_;clear o s;try simp only[bG,bH,bI]
 refine du (i:=10) (by kernel_rfl) rfl (fun s o=>?_);go_simp;refine o.out _ _ bE (fun r=>by cases r) ?_;clear o s;refine sH (by kernel_rfl) ?_ _;have b1:(z.setCell ⟨E.pb,2,M⟩ (.slice (O ⟨G,0,M⟩) (p+1) F)).cell? ⟨E.pb,2,M⟩=O (.slice (O ⟨G,0,M⟩) (p+1) F):=by rw[aq _ _ _ _ _ _ (bi _ E.pb 2 _ _ _ a8)];rfl
 generalize z.setCell ⟨E.pb,2,M⟩ (.slice (O ⟨G,0,M⟩) (p+1) F)=cq at a9 b1⊢;have c4:IntKind.i64.wrap ((p:Int)+1-1)=(p:Int):=by rw[di];omega
 go_wp2_with fail;go_ret;exact⟨by go_num,a9.out⟩
end
structure gl (E:Pe) (W w:Y) (i:Nat) (L:List Mb) (B:List (Nat×Array U)):Prop where
 sp:Sp E w i L B
 kt:Kt W w
 bl:A2 E.base W w
def TB(w:Y)(b:Nat)(T:Tk):Prop:=w.heap[b]?=O (A3 #[X V T.k,X V T.f,X V T.t,X V T.l,X V T.n,A8 T.x] 96 (0,0))
abbrev ew(k:Int)(T:Tk):Array U:=#[X V k,X V T.f,X V T.t,X V T.l,X V T.n,A8 T.x]
abbrev nN(k:Int)(T:Tk):Nd:=⟨k,T.f,0,T.l,0,0,⟨#[]⟩,[],[]⟩
abbrev s0:U:= Z M 0 0
section
variable {E : Pe} {W w w' : World} {i j : Nat} {L L1 L' : List Mb} {B B' : List (Nat × Array Value)}
theorem gl.start(h:Sp E W i L B):A6 (gl E W W i L B):=⟨h,Kt.refl _,ag _ _⟩
theorem nX(h:A6 (gl E W w i L B))(s:Sp E w' j L' B'/\Kt w w'/\A2 E.base w w'):A6 (gl E W w' j L' B'):=⟨s.1,h.out.kt.trans s.2.1,h.out.bl.trans s.2.2⟩
theorem nB(h:A6 (gl E W w i L B))(b:A2 w.heap.size w w'):A6 (gl E W w' i L B):=nX h ⟨h.out.sp.below b,Kt.of_below b,b.mono h.out.sp.lt.2⟩
theorem nA(h:A6 (gl E W w i L B))(cs:Array U):A6 (gl E W (w.alloc (A3 cs 53)) i L ((w.heap.size,cs)::B)):=nX h ⟨h.out.sp.alloc cs,Kt.of_below (bg w _),(bg w _).mono h.out.sp.lt.2⟩
theorem nP{R:Fo}(h:A6 (gl E W w i L B))(p:Pst E w w' L L' B R j):A6 (gl E W w' j L' B):=nX h ⟨p.sp,p.kt,p.bl⟩
theorem nS{b:Nat}{cs:Array U}(h:A6 (gl E W w i L ((b,cs)::B)))(a:E.base<=b)(q:Nat)(u:U):A6 (gl E W (w.setCell ⟨b,q,M⟩ u) i L ((b,cs.setIfInBounds q u)::B)):=nX h ⟨h.out.sp.set q u,h.out.sp.kset q u,(ag _ w).setCell a _⟩
theorem tN{q:Nat}{k:Int}(a:(E.tk q).k=k):A6 (TB (w.alloc (A3 (ew k (E.tk q)) 96)) w.heap.size (E.tk q)):=by
 show _=_;rw[a];exact aj w _
theorem tK{b:Nat}{T:Tk}(h:A6 (TB w b T))(k:Kt w w'):A6 (TB w' b T):=k.blk h.out (by decide) (by decide)
theorem tB{b:Nat}{T:Tk}(h:A6 (TB w b T))(k:A2 w.heap.size w w'):A6 (TB w' b T):=tK h (Kt.of_below k)
theorem tC{b:Nat}{T:Tk}{k:Int}(h:A6 (TB w b T))(a:T.k=k):w.cell? ⟨b,0,M⟩=O (X V k)/\w.cell? ⟨b,1,M⟩=O (X V T.f)/\w.cell? ⟨b,2,M⟩=O (X V T.t)/\w.cell? ⟨b,3,M⟩=O (X V T.l)/\w.cell? ⟨b,4,M⟩=O (X V T.n)/\w.cell? ⟨b,5,M⟩=O (A8 T.x):=by
 rw[<-a];exact eJ h.out
theorem tA{b:Nat}{T:Tk}{k:Int}(h:A6 (TB w b T))(a:T.k=k)(o:Obj):(w.alloc o).cell? ⟨b,0,M⟩=O (X V k)/\(w.alloc o).cell? ⟨b,1,M⟩=O (X V T.f)/\(w.alloc o).cell? ⟨b,2,M⟩=O (X V T.t)/\(w.alloc o).cell? ⟨b,3,M⟩=O (X V T.l)/\(w.alloc o).cell? ⟨b,4,M⟩=O (X V T.n)/\(w.alloc o).cell? ⟨b,5,M⟩=O (A8 T.x):=tC (tB h (bg w o)) a
theorem iq{k:Int}(b:(E.tk i).k=k)(h:A6 (gl E W w i L B))(a:i<E.n):A7 Ax 62 #[pV E] w fun e w'=>e= A1 (X V k)/\A2 w.heap.size w w':=by
 rw[<-b];exact adD h.out.sp a
theorem gG{k:Int}(c:(E.tk i).k=k)(h:A6 (gl E W w i L B))(b:i<E.n)(a:k≠6):A7 Ax 103 #[pV E] w fun e w'=>e= A1 (B2 (ew k (E.tk i)))/\Sp E w' (i+1) L B/\Kt w w'/\A2 E.base w w':=by
 rw[<-c]at a⊢;exact ak9 h.out.sp b a
theorem cK{k:Int}(c:(E.tk i).k=k)(h:A6 (gl E W w i L B))(b:i<E.n):A7 Ax 62 #[pV E] w fun e w'=>e= A1 (X V k)/\A6 (gl E W w' i L B):=(iq c h b).mono fun _ _ a=>⟨a.1,nB h a.2⟩
theorem ja{k:Int}(d:(E.tk i).k=k)(h:A6 (gl E W w i L B))(c:i<E.n)(b:k≠6):A7 Ax 103 #[pV E] w fun e w'=>e= A1 (B2 (ew k (E.tk i)))/\A6 (gl E W w' (i+1) L B):=(gG d h c b).mono fun _ _ a=>⟨a.1,nX h a.2⟩
theorem fL{k:Int}{q:Nat}(a:(E.tk q).k=k)(nk:Int)(w:Y):A7 Ax 104 #[X V nk,B2 (ew k (E.tk q))] w fun e w'=>e= A1 (B2 (dy (nN nk (E.tk q)) s0 s0))/\A2 w.heap.size w w':=by
 rw[<-a];exact agL nk (E.tk q) w
theorem mC(h:A6 (gl E W w i L1 B))(r:1<=i)(s:i<=E.n)(N:Nd)(c b:Option Addr)(k f g d:Nat)(on:w.ownsRow E.base 9 1 (Z c k f) N.nm.length (N.nm.map A5))(v:w.ownsRow E.base 3 1 (Z b g d) N.ks.length (N.ks.map (A4 V)))(p:L1.length<=50000000)(fn:Fr W.heap.size (Z c k f))(o:Fr W.heap.size (Z b g d))(a:Nd){R:Fo}(ac:Ac W.heap.size L L1 R)(q:({N with t:=(E.tk (i-1)).t}:Nd)={a with ks:=R.tops L.length}):
  A7 Ax 107 #[pV E,B2 (dy N (Z c k f) (Z b g d))] w fun e w'=>∃z L',e= A1 (X V z)/\(one a R).tops L.length=[z]/\A6 (Pst E W w' L L' B (one a R) i):=by
 refine(ai6 h.out.sp r s N c b k f g d on v p).mono ?_;rintro e w' ⟨rfl,l,u,m⟩;rw[q]at l;exact⟨_,_,rfl,by rw[xF,ac.len],ac.add a fn o,l,h.out.kt.trans u,h.out.bl.trans m⟩
theorem pT{R:Fo}{b:Nat×Array U}(h:A6 (Pst E W w L L' (b::B) R j)):A6 (Pst E W w L L' B R j):=⟨h.out.ac,h.out.sp.tail,h.out.kt,h.out.bl⟩
theorem nQ{R:Fo}(h:A6 (gl E W w i L B))(p:Pst E w w' L L' B R j):A6 (Pst E W w' L L' B R j):=⟨p.ac.le h.out.kt.size,p.sp,h.out.kt.trans p.kt,h.out.bl.trans p.bl⟩
theorem uv{q:Nat}{k:Int}(b:(E.tk q).k=k)(h:A6 (gl E W w i L B)):∃a,w.alloc (A3 (ew k (E.tk q)) 96)=a/\A6 (gl E W a i L B)/\A6 (TB a w.heap.size (E.tk q)):=⟨_,rfl,nB h (bg _ _),tN b⟩
theorem adE{t:Int}{b:Bool}(h:ld t=b)(w:Y):A7 Ax 155 #[X V t] w fun e w'=>e= A1 (B1 b)/\w'=w:=by
 rw[<-h];exact ru w t
theorem ai7{t:Int}{b:Bool}(h:ia t=b)(w:Y):A7 Ax 158 #[X V t] w fun e w'=>e= A1 (B1 b)/\w'=w:=by
 rw[<-h];exact zl w t
theorem ala{t:Int}{b:Bool}(h:dG t=b)(w:Y):A7 Ax 98 #[X V t] w fun e w'=>e= A1 (B1 b)/\w'=w:=by
 rw[<-h];exact ry w t
theorem nL{R:Fo}(h:A6 (gl E W w i L B))(p:Pst E w w' L L' B R j):A6 (Ac W.heap.size L L' R):=p.ac.le h.out.kt.size
end
section
variable {E : Pe} {i j : Nat}
theorem un{k nk:Int}(q:(k=24/\nk=20)\/(k=29/\nk=21)\/(k=17/\nk=22)\/(k=49/\nk=27))(a:(E.tk i).k=k)(z:i+1<E.n):CI E 159 #[pV E] i (one (fp nk (E.tk i) (E.tk i).t) .nil) (i+1):=by
 intro W L B c r;have e:=gl.start c;clear c;rcases q with⟨rfl,rfl⟩|⟨rfl,rfl⟩|⟨rfl,rfl⟩|⟨rfl,rfl⟩;all_goals
  go_in;go_wp2_with fail;refine aJ (cK a e (by omega)) fun C f=>?_;go_wp2_with fail;refine aJ (cK a f (by omega)) fun F g=>?_;go_wp2_with fail;refine aJ (ja a g (by omega) (by omega)) fun v h=>?_;obtain⟨G,d,l,o⟩:=uv (w:=v) a h;simp only[ew]at d;obtain⟨J,K,ad,af,ak,al⟩:=tC o a;go_wp2_with fail;refine aJ (adE (b:=Bs) (by decide) _) fun w' A=>?_;subst w';clear d;go_wp2_with fail;refine aJ (fL a _ _) fun H p=>?_;have m:=nB l p;go_wp2_with fail;refine(mC m (by omega) (by omega) (nN _ (E.tk i)) M M 0 0 0 0 (bc _ _ _ _) (bc _ _ _ _) (by simp only[aA]at r;omega) (Fr.nil _ _ _) (Fr.nil _ _ _) (fp _ (E.tk i) (E.tk i).t) (Ac.nil _ L) rfl).mono ?_;rintro y I ⟨am,x,rfl,s,u⟩;go_wp2_with fail;go_ret;exact⟨_,_,rfl,s,u.out⟩
theorem yw{k nk c:Int}{d:ByteArray}(y:(k=2/\nk=23/\c=(E.tk i).n/\d=z0)\/(k=3/\nk=24/\c=0/\d=(E.tk i).x)\/(k=4/\nk=25/\c=0/\d=(E.tk i).x))(a:(E.tk i).k=k)(I:i+1<E.n):CI E 159 #[pV E] i (one (nd nk (E.tk i) (E.tk i).t 0 c d []) .nil) (i+1):=by
 intro W L B o z;have q:=gl.start o;clear o;rcases y with⟨rfl,rfl,rfl,rfl⟩|⟨rfl,rfl,rfl,rfl⟩|⟨rfl,rfl,rfl,rfl⟩;all_goals
  go_in;go_wp2_with fail;refine aJ (cK a q (by omega)) fun K r=>?_;go_wp2_with fail;refine aJ (cK a r (by omega)) fun ad s=>?_;go_wp2_with fail;refine aJ (ja a s (by omega) (by omega)) fun F u=>?_;obtain⟨af,p,v,h⟩:=uv (w:=F) a u;simp only[ew]at p;obtain⟨am,an,ao,ap,ar,av⟩:=tC h a;go_wp2_with fail;refine aJ (adE (b:=Bs) (by decide) _) fun w' J=>?_;subst w';clear p;go_wp2_with fail;refine aJ (fL a _ _) fun ak m=>?_;have g:=tA (tB h m) a;have a0:=fun e=>(g e).2.2.2.2.1;have a1:=fun e=>(g e).2.2.2.2.2;clear g;go_wp2_with fail;refine(mC (nA (nB v m) _) (by omega) (by omega) ⟨_,(E.tk i).f,0,(E.tk i).l,0,_,_,[],[]⟩ M M 0 0 0 0 (bc _ _ _ _) (bc _ _ _ _) (by simp only[aA]at z;omega) (Fr.nil _ _ _) (Fr.nil _ _ _) (nd _ (E.tk i) (E.tk i).t 0 _ _ []) (Ac.nil _ L) rfl).mono ?_;rintro H al ⟨a2,G,rfl,A,C⟩;go_wp2_with fail;go_ret;exact⟨_,_,rfl,A,(pT C).out⟩
theorem ag1(a:(E.tk i).k=18)(z:i<E.n){R:Fo}(q:CI E 109 #[pV E,B2 (dy (nN 36 (E.tk i)) s0 s0)] (i+1) R j):CI E 159 #[pV E] i R j:=by
 intro W L B d r;have f:=gl.start d;clear d;go_in;go_wp2_with fail;refine aJ (cK a f (by omega)) fun C g=>?_;go_wp2_with fail;refine aJ (cK a g (by omega)) fun F h=>?_;go_wp2_with fail;refine aJ (ja a h (by omega) (by omega)) fun v l=>?_;obtain⟨G,e,m,o⟩:=uv (w:=v) a l;simp only[ew]at e;obtain⟨J,K,ad,af,ak,al⟩:=tC o a;go_wp2_with fail;refine aJ (adE (b:=Bs) (by decide) _) fun w' A=>?_;subst w';clear e;go_wp2_with fail;refine aJ (fL a _ _) fun H p=>?_;have c:=nB m p;go_wp2_with fail;refine(q _ _ _ c.out.sp r).mono ?_;rintro y I ⟨am,x,rfl,s,t⟩;have u:=nQ c t;go_wp2_with fail;go_ret;exact⟨_,_,rfl,s,u.out⟩
theorem abw{k:Int}(q:k=1\/k=40)(b:(E.tk i).k=k)(u:i<E.n){R:Fo}(h:CI E 112 #[pV E] i R j):CI E 159 #[pV E] i R j:=by
 intro W L B g l;have f:=gl.start g;clear g;rcases q with rfl|rfl
 ·go_in;go_wp2_with fail;refine aJ (cK b f (by omega)) fun r a=>?_;go_wp2_with fail;refine(h _ _ _ a.out.sp l).mono ?_;rintro p s ⟨t,m,rfl,c,d⟩;have e:=nQ a d;go_wp2_with fail;go_ret;exact⟨_,_,rfl,c,e.out⟩
 ·go_in;go_wp2_with fail;refine aJ (cK b f (by omega)) fun r o=>?_;go_wp2_with fail;refine aJ (cK b o (by omega)) fun v a=>?_;go_wp2_with fail;refine(h _ _ _ a.out.sp l).mono ?_;rintro p s ⟨t,m,rfl,c,d⟩;have e:=nQ a d;go_wp2_with fail;go_ret;exact⟨_,_,rfl,c,e.out⟩
end
section
variable {E : Pe} {W w w' : World} {i j : Nat} {L L1 L' : List Mb} {B B' : List (Nat × Array Value)}
theorem nC{b:Nat}{N:Nd}{vn vk:U}(h:A6 (gl E W w i L ((b,dy N vn vk)::B))):w.cell? ⟨b,0,M⟩=O (X V N.k)/\w.cell? ⟨b,1,M⟩=O (X V N.f)/\w.cell? ⟨b,2,M⟩=O (X V N.t)/\w.cell? ⟨b,3,M⟩=O (X V N.l)/\w.cell? ⟨b,4,M⟩=O (X V N.op)/\w.cell? ⟨b,5,M⟩=O (X V N.n)/\w.cell? ⟨b,6,M⟩=O (A8 N.x)/\w.cell? ⟨b,7,M⟩=O vn/\w.cell? ⟨b,8,M⟩=O vk/\∀j,w.frozen? ⟨b,j,M⟩=Bs:=ax (h.out.sp.box (bK ..))
theorem oK{e n:Nat}{v:U}{b:List U}(o:A6 (w.ownsRow E.base e 1 v n b))(k:Kt w w')(a:e=3\/e=9):A6 (w'.ownsRow E.base e 1 v n b):=k.row o.out (by rcases a with rfl|rfl<;>decide) (by rcases a with rfl|rfl<;>decide)
theorem nK{b:Nat}{N:Nd}{vn vk:U}(h:A6 (gl E W w i L ((b,dy N vn vk)::B)))(a:E.base<=b)(v:U):A6 (gl E W (w.setCell ⟨b,8,M⟩ v) i L ((b,dy N vn v)::B))/\Kt w (w.setCell ⟨b,8,M⟩ v):=⟨nS h a 8 v,h.out.sp.kset 8 v⟩
theorem alb(l:List Int)(cs:Array U)(p:cs=(l.map (A4 V)).toArray)(u:l.length<=100)(h:A6 (gl E W w i L1 B))(q:1<=i)(r:i<=E.n)(N:Nd)(a:Option Addr)(c b:Nat)(on:w.ownsRow E.base 9 1 (Z a c b) N.nm.length (N.nm.map A5))(m:Nat)(v:l.length=m)(s:N.ks=l)(k:L1.length<=50000000)(fn:Fr W.heap.size (Z a c b))(d:Nd){R:Fo}(ac:Ac W.heap.size L L1 R)(o:({N with t:=(E.tk (i-1)).t}:Nd)={d with ks:=R.tops L.length}):
  A7 Ax 107 #[pV E,B2 (dy N (Z a c b) (Z (O ⟨w.heap.size+1,0,M⟩) m m))] ((w.alloc (A3 (dy N (Z a c b) (Z (O ⟨w.heap.size+1,0,M⟩) m m)) 53)).alloc (A3 cs 3)) fun e w'=>∃z L',e= A1 (X V z)/\(one d R).tops L.length=[z]/\A6 (Pst E W w' L L' B (one d R) i):=by
 subst p v;have y:=nA h (dy N (Z a c b) (Z (O ⟨w.heap.size+1,0,M⟩) l.length l.length));have f:=bg (w.alloc (A3 (dy N (Z a c b) (Z (O ⟨w.heap.size+1,0,M⟩) l.length l.length)) 53)) (A3 (l.map (A4 V)).toArray 3);have A:=nB y f;have g:=qp (w.alloc (A3 (dy N (Z a c b) (Z (O ⟨w.heap.size+1,0,M⟩) l.length l.length)) 53)) l l.length rfl u;rw[aF]at g;refine(mC A q r N a _ c b _ _ (aE (aE on (bg _ _)) f) (by rw[s];exact iE g (by have:=h.out.sp.lt.2;omega)) k fn (Fr.new (by have:=h.out.kt.size;omega)) d ac o).mono ?_;rintro e w' ⟨z,L',rfl,x,C⟩;exact⟨z,L',rfl,x,pT C⟩
theorem nCA{b:Nat}{N:Nd}{vn vk:U}(h:A6 (gl E W w i L ((b,dy N vn vk)::B)))(o:Obj):(w.alloc o).cell? ⟨b,8,M⟩=O vk/\∀j,(w.alloc o).frozen? ⟨b,j,M⟩=Bs:=(nC (nB h (bg w o))).2.2.2.2.2.2.2.2
theorem nKI{b:Nat}{N:Nd}{vn vk:U}(l:List Int)(cs:Array U)(f:cs=(l.map (A4 V)).toArray)(m:Nat)(k:l.length=m)(h:A6 (gl E W w i L ((b,dy N vn vk)::B)))(e:E.base<=b)(g:m<=100):∃a,(w.alloc (A3 cs 3)).setCell ⟨b,8,M⟩ (Z (O ⟨w.heap.size,0,M⟩) m m)=a/\A6 (gl E W a i L ((b,dy N vn (Z (O ⟨w.heap.size,0,M⟩) m m))::B))/\A6 (a.ownsRow E.base 3 1 (Z (O ⟨w.heap.size,0,M⟩) m m) l.length (l.map (A4 V)))/\Kt w a:=by
 subst f k;have c:=bg w (A3 (l.map (A4 V)).toArray 3);have n:=nB h c;obtain⟨o,d⟩:=nK n e (Z (O ⟨w.heap.size,0,M⟩) l.length l.length);exact⟨_,rfl,o,oK (E:=E) (iE (qp w l l.length rfl g) h.out.sp.lt.2) d (.inl rfl),(Kt.of_below c).trans d⟩
theorem ag2{k:Nat}(r:(E.tk i).k=42)(J:i<E.n){S:Fo}(hS:CL E 31 #[pV E,X V 43] (i+1) S k)(K:(E.tk k).k=43)(a5:k+1<E.n):CI E 101 #[pV E] i (one (fp 1 (E.tk i) (E.tk k).t) S) (k+1):=by
 intro W L B q s;have x:=gl.start q;clear q;go_in;go_wp2_with fail;refine aJ (ja r x J (by omega)) fun a7 y=>?_;go_wp2_with fail;refine aJ (fL r _ _) fun a8 o=>?_;have e:=nB y o;have I:=aw e.out.sp.lt.2;have a:=nA e (dy (nN 1 (E.tk i)) s0 s0);go_wp2_with fail;refine(hS _ _ _ a.out.sp (by simp only[aA]at s;omega)).mono ?_;rintro H a9 ⟨a6,a3,rfl,⟨p,_⟩,b,c⟩;have z:=aw b;obtain⟨F,G,rfl⟩:=bz b;have g:=nP a c;have ac:=nL a c;have v:A6 (Fr W.heap.size _):=p.le a.out.kt.size;clear p;obtain⟨al,am,an,ao,ap,ar,av,a0,a1,a2⟩:=nC g;obtain⟨h,u⟩:=nK g I.out (Z F S.len G);have A:=oK z u (.inl rfl);clear b c o u;go_wp2_with fail;refine aJ (gG K h (by omega) (by omega)) fun bb d=>?_;have m:=nX h d;have C:=oK A d.2.1 (.inl rfl);obtain⟨al,am,an,ao,ap,ar,av,a0,a1,a2⟩:=nC m;clear d;go_wp2_with fail;refine(mC m (by omega) (by omega) ⟨1,(E.tk i).f,0,(E.tk i).l,0,0,⟨#[]⟩,[],S.tops L.length⟩ M _ 0 0 _ _ (bc _ _ _ _) (by rw[Fo.tops_len];exact C.out) (by rw[ac.out.len];simp only[aA]at s;omega) (Fr.nil _ _ _) v.out (fp 1 (E.tk i) (E.tk k).t) ac.out rfl).mono ?_;rintro H bd ⟨bh,a4,rfl,ad,af⟩;go_wp2_with fail;go_ret;exact⟨_,_,rfl,ad,(pT af).out⟩
theorem ai8(k:Int)(w:Y):A7 Ax 203 #[X V k] w fun e w'=>e= A1 (X V (abt k))/\w'=w:=by
 unfold abt;by_cases a:k=25
 ·subst a;go_in;go_wp2;go_ret;exact⟨rfl,rfl⟩
 by_cases b:k=50
 ·subst b;go_in;go_wp2;go_ret;exact⟨rfl,rfl⟩
 by_cases c:k=69
 ·subst c;go_in;go_wp2;go_ret;exact⟨rfl,rfl⟩
 ·rw[aa a,aa b,aa c];have d:(k==25)=Bs:=by simp[a]
  have f:(k==50)=Bs:=by simp[b]
  have g:(k==69)=Bs:=by simp[c]
  go_in;go_wp2;go_ret;exact⟨rfl,rfl⟩
theorem adF{k:Int}(F:k=25\/k=50\/k=62\/k=69)(a:(E.tk i).k=k)(a1:i<E.n){x:Fo}(I:CI E 159 #[pV E] (i+1) x j)(a2:i+1<=j)(G:j<=E.n):CI E 159 #[pV E] i (one (nd 30 (E.tk i) (E.tk (j-1)).t (abt (E.tk i).k) 0 z0 []) x) j:=by
 intro W L B m o;have s:=gl.start m;clear m;rw[a];rcases F with rfl|rfl|rfl|rfl;all_goals
  go_in;go_wp2_with fail;refine aJ (cK a s (by omega)) fun a3 u=>?_;go_wp2_with fail;refine aJ (cK a u (by omega)) fun a4 v=>?_;go_wp2_with fail;refine aJ (ja a v (by omega) (by omega)) fun ak y=>?_;obtain⟨a5,p,d,e⟩:=uv (w:=ak) a y;simp only[ew]at p;obtain⟨al,am,an,ao,ap,ar⟩:=tC e a;go_wp2_with fail;refine aJ (adE (b:=A9) (by decide) _) fun w' H=>?_;subst w';clear p;go_wp2_with fail;refine(I _ _ _ d.out.sp (by simp only[aA]at o;omega)).mono ?_;rintro C a6 ⟨r,av,rfl,J,c⟩;have z:=nP d c;have ac:=nL d c;have g:=tK e c.kt;obtain⟨al,am,an,ao,ap,ar⟩:=tC g a;clear c;go_wp2_with fail;refine aJ (fL a _ _) fun a7 h=>?_;have A:=nB z h;have q:=tA (tB g h) a;have a9:=fun ad=>(q ad).1;clear q;go_wp2_with fail;refine aJ (ai8 _ _) fun w' H=>?_;subst w';go_wp2_with fail;refine(alb [r] _ rfl (by simp) A (by omega) G ⟨30,(E.tk i).f,0,(E.tk i).l,_,0,⟨#[]⟩,[],[r]⟩ M 0 0 (bc _ _ _ _) 1 rfl rfl (by rw[ac.out.len];simp only[aA]at o;omega) (Fr.nil _ _ _) (nd 30 (E.tk i) (E.tk (j-1)).t _ 0 z0 []) ac.out (by rw[J];rfl)).mono ?_;rintro C a8 ⟨bb,a0,rfl,K,af⟩;go_wp2_with fail;go_ret;exact⟨_,_,rfl,K,af.out⟩
theorem isY{k:Int}(b:(E.tk i).k=k)(h:A6 (gl E W w i L B))(a:i<E.n):A7 Ax 63 #[pV E,X V k] w fun e w'=>e= A1 (B1 A9)/\Sp E w' (i+1) L B/\Kt w w'/\A2 E.base w w':=ag0 h.out.sp a k b
theorem isN{k:Int}(b:(E.tk i).k≠k)(h:A6 (gl E W w i L B))(a:i<E.n):A7 Ax 63 #[pV E,X V k] w fun e w'=>e= A1 (B1 Bs)/\A2 w.heap.size w w':=ai5 h.out.sp a k b
theorem nM{b:Nat}{N:Nd}{vn vk:U}(h:A6 (gl E W w i L ((b,dy N vn vk)::B)))(a:E.base<=b)(v:U):A6 (gl E W (w.setCell ⟨b,7,M⟩ v) i L ((b,dy N v vk)::B))/\Kt w (w.setCell ⟨b,7,M⟩ v):=⟨nS h a 7 v,h.out.sp.kset 7 v⟩
def CM(E:Pe)(i:Nat)(ns:List ByteArray)(j:Nat):Prop:=
 ∀(W:Y)(L:List Mb)(B:List (Nat×Array U)),Sp E W i L B->A7 Ax 105 #[pV E] W fun b w'=>∃a,b= A1 a/\Fr W.heap.size a/\w'.ownsRow E.base 9 1 a ns.length (ns.map A5)/\Sp E w' j L B/\Kt W w'/\A2 E.base W w'
end
