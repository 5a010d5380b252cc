import Derived.Test.YtnoojdbdapljoaaGreatDoorHOk07
import Derived.Test.YtnoojdbdapljoaaGreatDoorHOk10
import Derived.Test.YtnoojdbdapljoaaGreatDoorHOk08
import Derived.WalkSmall
set_option linter.all false
set_option maxRecDepth 100000
set_option maxHeartbeats 12800000
open Option renaming some->M,none->O
open Go renaming Value->Q,World->U,Calls->A5,TypeId->Br
open Go.IntKind renaming i64->V
open Go.Value renaming int->X,ownBlock->Y,slice->Ax,int->A0,string->A4,bool->A7,string->A8,tuple->B0
open Go.Proofs.Tryz renaming prog->Z
open Go.Ending renaming returned->A1
open Go.RowKit renaming Below->A2
open Go.Obj renaming cells->A3
open Bool renaming false->A6,true->A9
namespace Go.Proofs.YtnoojdbdapljoaaGreatDoor
open Go.RowKit
structure Mb where
 N:Nd
 vn:Q
 vk:Q
def cMb(x:Mb):List Q:=[X V x.N.k,X V x.N.f,X V x.N.t,X V x.N.l,X V x.N.op,X V x.N.n,A8 x.N.x,x.vn,x.vk]
def jn(a:List Mb):List Q:=a.flatMap cMb
theorem BK(a:Mb)(r:List Mb):jn (a::r)=cMb a++jn r:=by simp[jn]
theorem uq(a b:List Mb):jn (a++b)=jn a++jn b:=by simp[jn]
theorem aby(a:List Mb):(jn a).length=a.length*9:=by
 induction a with
 |nil=>rfl
 |cons b e c=>
  have d:(cMb b).length=9:=rfl;rw[BK,aC,c,d,di];omega
theorem afl(b:List Mb)(i j:Nat)(T:Mb)(a:b[i]?=M T)(f:j<9):(jn b)[i*9+j]?=(cMb T)[j]?:=by
 induction b generalizing i with
 |nil=>simp at a
 |cons c g d=>
  have e:(cMb c).length=9:=rfl;rw[BK];cases i with
  |zero=>simp at a;subst a;rw[ie (by omega)];congr 1;omega
  |succ i=>
   rw[gc (by omega),e,show(i+1)*9+j-9=i*9+j by omega];exact d i (by simpa using a)
def ag7(d:List Q):Prop:=∀(i c:Nat)(a b:Q),i≠c->d[i]?=M a->d[c]?=M b->a.ownBlock=O\/a.ownBlock≠b.ownBlock
structure sw (W:U) (lo hi:Nat) (x:Mb):Prop where
 on:W.ownsRow lo 9 1 x.vn x.N.nm.length (x.N.nm.map A4)
 ok:W.ownsRow lo 3 1 x.vk x.N.ks.length (x.N.ks.map (A0 .i64))
 hn:∀g,x.vn.ownBlock=M g->g<hi
 hk:∀g,x.vk.ownBlock=M g->g<hi
structure qC (W:U) (lo hi:Nat) (v:Q) (L:List Mb):Prop where
 row:W.ownsRow lo 35 9 v L.length (jn L)
 hh:∀g,v.ownBlock=M g->g<hi
 each:∀x∈L,sw W lo hi x
 dn:ag7 (L.map Mb.vn)
 dk:ag7 (L.map Mb.vk)
theorem sw.below{W W':U}{c b:Nat}{x:Mb}(h:sw W c b x)(a:A2 W.heap.size W W'):sw W' c b x:=⟨aG h.on a,aG h.ok a,h.hn,h.hk⟩
theorem qC.below{W W':U}{c b:Nat}{v:Q}{L:List Mb}(h:qC W c b v L)(a:A2 W.heap.size W W'):qC W' c b v L:=
 ⟨aG h.row a,h.hh,fun e d=>(h.each e d).below a,h.dn,h.dk⟩
structure Mid (lo hi:Nat) (w w':U):Prop where
 os:w'.os=w.os
 tape:w'.tape=w.tape
 output:w'.output=w.output
 size:w.heap.size<=w'.heap.size
 block:∀k,k<w.heap.size->(k<lo\/hi<=k)->w'.heap[k]?=w.heap[k]?
theorem Mid.refl(b a:Nat)(w:U):Mid b a w w:=⟨rfl,rfl,rfl,ah _,fun _ _ _=>rfl⟩
theorem Mid.trans{b a:Nat}{x y z:U}(h:Mid b a x y)(k:Mid b a y z):Mid b a x z:=
 ⟨k.os.trans h.os,k.tape.trans h.tape,k.output.trans h.output,bz h.size k.size,fun i a c=>(k.block i (gh a h.size) c).trans (h.block i a c)⟩
theorem Mid.kept{p d:Nat}{w f:U}(h:Mid p d w f){base e size n:Nat}{v:Q}{g:List Q}(q:w.ownsRow base e size v n g)(s:d<=base):f.ownsRow base e size v n g:=by
 obtain⟨l,a⟩:=q;refine⟨l,?_⟩;rcases a with a|⟨b,j,k,o,m,c,r⟩
 ·exact .inl a
 ·exact .inr ⟨b,j,k,o,m,(h.block b (ax c) (.inr (by omega))).trans c,r⟩
theorem Mid.bel{c e base:Nat}{w0 w d:U}(h:Mid c e w d)(a:A2 base w0 w)(g:base<=c)(j:base<=w.heap.size):A2 base w0 d:=
 ⟨h.os.trans a.os,h.tape.trans a.tape,h.output.trans a.output,bz a.size h.size,fun b f=>(h.block b (by omega) (.inl (by omega))).trans (a.block b f)⟩
theorem vF{W:U}{base:Nat}{v:Q}{a:List ByteArray}(h:W.ownsRow base 9 1 v a.length (a.map A4)):bu W v a:=by
 rcases bq h with⟨b,rfl⟩|⟨d,c,rfl⟩
 ·exact .inl ⟨iE b,_,_,rfl⟩
 ·exact Ep h rfl
theorem pi{W:U}{base:Nat}{v:Q}{a:List Int}(h:W.ownsRow base 3 1 v a.length (a.map (A0 V))):bi W v a:=by
 rcases bq h with⟨b,rfl⟩|⟨d,c,rfl⟩
 ·exact .inl ⟨iE b,_,_,rfl⟩
 ·exact Er h rfl
theorem mD{W:U}{e g n cap:Nat}{L:List Mb}(h:W.ownsRow e 35 9 (Ax (M ⟨g,0,O⟩) n cap) n (jn L)){i:Nat}{x:Mb}(c:L[i]?=M x):
  W.cell? ⟨g,i*9,O⟩=M (X V x.N.k)/\W.cell? ⟨g,i*9+1,O⟩=M (X V x.N.f)/\W.cell? ⟨g,i*9+2,O⟩=M (X V x.N.t)/\W.cell? ⟨g,i*9+3,O⟩=M (X V x.N.l)/\W.cell? ⟨g,i*9+4,O⟩=M (X V x.N.op)/\W.cell? ⟨g,i*9+5,O⟩=M (X V x.N.n)/\W.cell? ⟨g,i*9+6,O⟩=M (A8 x.N.x)/\W.cell? ⟨g,i*9+7,O⟩=M x.vn/\W.cell? ⟨g,i*9+8,O⟩=M x.vk:=by
 have m:n*9=L.length*9:=by have:=h.1;rw[aby]at this;omega
 have j:i<L.length:=by rcases cA i L.length with g|g;exact g;rw[fG g]at c;cases c
 have a:∀b,b<9->W.cell? ⟨g,i*9+b,O⟩=(cMb x)[b]?:=fun b d=>by
  rw[h.cellAt (i*9+b) (by omega),afl L i b x c d]
 exact⟨a 0 (by omega),a 1 (by omega),a 2 (by omega),a 3 (by omega),a 4 (by omega),a 5 (by omega),a 6 (by omega),a 7 (by omega),a 8 (by omega)⟩
theorem qC.nds{W:U}{s q:Nat}{v:Q}{L:List Mb}(h:qC W s q v L):cg W v (L.map Mb.N):=by
 rcases bq h.row with⟨r,rfl⟩|⟨p,o,rfl⟩
 ·exact .inl ⟨by rw[iE r];rfl,_,_,rfl⟩
 ·refine .inr ⟨⟨p,0,O⟩,o,by rw[dv],fun i N a=>?_⟩;rw[cj]at a;cases hx:L[i]? with
  |none=>rw[hx]at a;cases a
  |some b=>
   rw[hx]at a;obtain rfl:=db a;rw[vD];obtain⟨d,e,f,g,j,k,l,m,n⟩:=mD h.row hx;have c:=h.each b (bC hx);exact⟨b.vn,b.vk,d,e,f,g,j,k,l,m,n,vF c.on,pi c.ok⟩
def nxt(a:Nat)(N:Nd):Nat:=a+7+N.nm.length+N.ks.length
def cnt:Nat->List Nd->Nat
 |K,[]=>K
 |K,N::r=>cnt (nxt K N) r
theorem abz(b B:List Nd):∀a,cnt a (b++B)=cnt (cnt a b) B:=by
 induction b with
 |nil=>intro a;rfl
 |cons e d c=>intro a;simp[cnt,c]
theorem pG{W:U}{g h b c o p m n:Nat}{a f:Q}{q x2:List Q}(d:W.ownsRow g b o a m q)(e:W.ownsRow h c p f n x2)(k:b≠c):a.ownBlock=O\/a.ownBlock≠f.ownBlock:=by
 rcases bq d with⟨l,rfl⟩|⟨t,r,rfl⟩
 ·exact .inl rfl
 ·rcases bq e with⟨l,rfl⟩|⟨u,s,rfl⟩
  ·exact .inr (by simp[Y])
  ·exact .inr fun j=>KC d e k (by simpa [Y] using j)
theorem qC.put{w d:U}{b c g n cap:Nat}{a B:List Mb}{x y:Mb}{k:Nat}(p:a.length=k)(h:qC w b c (Ax (M ⟨g,0,O⟩) n cap) (a++x::B))(j:d.ownsRow b 35 9 (Ax (M ⟨g,0,O⟩) n cap) n (jn (a++y::B)))
  (f:n=(a++x::B).length) (o:sw d b c y) (m:y.vn=x.vn) (l:y.vk=x.vk) (e:∀z,z∈a\/z∈B->sw d b c z):qC d b c (Ax (M ⟨g,0,O⟩) n cap) (a++y::B):=by
 refine⟨?_,h.hh,?_,?_,?_⟩
 ·rw[show(a++y::B).length=n by rw[f];simp];exact j
 ·intro z hz;rcases List.mem_append.1 hz with hz|hz
  ·exact e z (.inl hz)
  ·rcases List.mem_cons.1 hz with rfl|hz
   ·exact o
   ·exact e z (.inr hz)
 ·have:=h.dn;rw[en,lg]at this⊢;rw[m];exact this
 ·have:=h.dk;rw[en,lg]at this⊢;rw[l];exact this
theorem sw.past{w o p q:U}{c a g:Nat}{z x:Mb}{b s n:Nat}{y:List Q}{m:Q}(h:sw w c a z)(l:sw w c a x)(j:w.ownsRow b 35 s m n y)(k:m.ownBlock=M g)
  (u:z.vn.ownBlock=O\/z.vn.ownBlock≠x.vn.ownBlock) (v:z.vk.ownBlock=O\/z.vk.ownBlock≠x.vk.ownBlock) (d:w.grownBy o (M g)) (e:o.grownBy p x.vn.ownBlock) (f:p.grownBy q x.vk.ownBlock):sw q c a z:=by
 have r:z.vn.ownBlock=O\/z.vn.ownBlock≠M g:=by rw[<-k];exact pG h.on j (by decide)
 have t:z.vk.ownBlock=O\/z.vk.ownBlock≠M g:=by rw[<-k];exact pG h.ok j (by decide)
 exact⟨((h.on.kept d r).kept e u).kept f (pG h.on l.ok (by decide)),((h.ok.kept d t).kept e (pG h.ok l.on (by decide))).kept f v,h.hn,h.hk⟩
structure TkC (cs:Array Q) (T:Tk) (q:Nat) (l:Int):Prop where
 c0:cs[q*6]?=M (.int .i64 T.k)
 c1:cs[q*6+1]?=M (.int .i64 T.f)
 c2:cs[q*6+2]?=M (.int .i64 T.t)
 c3:cs[q*6+3]?=M (.int .i64 l)
 c4:cs[q*6+4]?=M (.int .i64 T.n)
 c5:cs[q*6+5]?=M (.string T.x)
 hl:T.k≠6->l=T.l
def TkR(cs:Array Q)(tk:Nat->Tk)(n:Nat):Prop:=∀a,a<n->∃b,TkC cs (tk a) a b
structure Kt (w w':U):Prop where
 size:w.heap.size<=w'.heap.size
 block:∀k,k<w.heap.size->(∀cs fr,w.heap[k]?≠M (.cells cs 35 fr))->(∀cs fr,w.heap[k]?≠M (.cells cs 84 fr))->w'.heap[k]?=w.heap[k]?
theorem Kt.refl(w:U):Kt w w:=⟨ah _,fun _ _ _ _=>rfl⟩
theorem Kt.trans{x y z:U}(h:Kt x y)(k:Kt y z):Kt x z:=
 ⟨bz h.size k.size,fun i f d e=>by
  have b:=h.block i f d e;exact(k.block i (gh f h.size) (fun a c=>by rw[b];exact d a c) (fun a c=>by rw[b];exact e a c)).trans b⟩
theorem Kt.of_below{w a:U}(h:A2 w.heap.size w a):Kt w a:=⟨h.size,fun c b _ _=>h.block c b⟩
theorem Kt.blk{w c:U}(h:Kt w c){k:Nat}{cs:Array Q}{t:Br}{fr:Nat×Nat}(b:w.heap[k]?=M (A3 cs t fr))(f:t≠35)(g:t≠84):c.heap[k]?=M (A3 cs t fr):=
 (h.block k (ax b) (fun d e a=>by rw[b]at a;cases a;exact f rfl) (fun d e a=>by rw[b]at a;cases a;exact g rfl)).trans b
theorem Kt.row{w b:U}(h:Kt w b){base e size n:Nat}{v:Q}{c:List Q}(q:w.ownsRow base e size v n c)(k:e≠35)(l:e≠84):b.ownsRow base e size v n c:=by
 obtain⟨j,a⟩:=q;refine⟨j,?_⟩;rcases a with a|⟨g,d,f,p,o,m,r⟩
 ·exact .inl a
 ·exact .inr ⟨g,d,f,p,o,h.blk m k l,r⟩
theorem Kt.past{x y z:U}(h:Kt x y){b:Nat}(a:y.grownBy z (M b))(j:x.heap.size<=b):Kt x z:=
 ⟨bz h.size a.size,fun d c f g=>(a.block d (gh c h.size) (fun e=>by cases e;omega)).trans (h.block d c f g)⟩
theorem Kt.set{w:U}{k:Nat}{cs:Array Q}{t:Br}{fr:Nat×Nat}(a:w.heap[k]?=M (A3 cs t fr))(e:t=35\/t=84)(q:Nat)(u:Q):Kt w (w.setCell ⟨k,q,O⟩ u):=
 ⟨by simp[World.setCell],fun i f c d=>bh _ _ _ _ (fun b=>by subst b;rcases e with rfl|rfl;exact c _ _ a;exact d _ _ a)⟩
structure Pe where
 base:Nat
 pb:Nat
 tb:Nat
 cap:Nat
 n:Nat
 tk:Nat->Tk
structure Sp (E:Pe) (W:U) (i:Nat) (L:List Mb) (B:List (Nat×Array Q)):Prop where
 lo:E.base<=E.pb
 hn:E.n<=1048576
 tks:∃cs fr,W.heap[E.tb]?=M (.cells cs 109 fr)/\TkR cs E.tk E.n
 row:∃v,W.heap[E.pb]?=M (.cells #[.slice (M ⟨E.tb,0,O⟩) E.n E.cap,.int .i64 i,v] 84 (0,0))/\W.ownsRow E.base 35 9 v L.length (jn L)/\∀b∈B,W.heap[b.1]?=M (.cells b.2 35 (0,0))/\v.ownBlock≠M b.1
 each:∀x∈L,W.ownsRow E.base 9 1 x.vn x.N.nm.length (x.N.nm.map A4)/\W.ownsRow E.base 3 1 x.vk x.N.ks.length (x.N.ks.map (A0 .i64))
 nb:(B.map Prod.fst).Nodup
section
variable {E : Pe} {W W' : World} {i : Nat} {L : List Mb} {B : List (Nat × Array Value)}
theorem Sp.lt(h:Sp E W i L B):E.pb<W.heap.size/\E.base<=W.heap.size:=by
 obtain⟨b,a,_⟩:=h.row;have:=ax a;have:=h.lo;omega
theorem Sp.below(h:Sp E W i L B)(a:A2 W.heap.size W W'):Sp E W' i L B:=by
 obtain⟨k,l,f,n⟩:=h.tks;obtain⟨o,e,m,c⟩:=h.row;exact⟨h.lo,h.hn,⟨k,l,(a.block _ (ax f)).trans f,n⟩,⟨o,(a.block _ (ax e)).trans e,aG m a,fun b d=>⟨(a.block _ (ax (c b d).1)).trans (c b d).1,(c b d).2⟩⟩,fun j g=>⟨aG (h.each j g).1 a,aG (h.each j g).2 a⟩,h.nb⟩
theorem Sp.alloc(h:Sp E W i L B)(cs:Array Q):Sp E (W.alloc (A3 cs 35)) i L ((W.heap.size,cs)::B):=by
 have f:A2 W.heap.size W (W.alloc (A3 cs 35)):=(aj _ W).alloc (ah _) _;have a:=h.below f;obtain⟨g,e,l,m⟩:=a.row;obtain⟨q,d,j,k⟩:=h.row;have p:q=g:=by
  have b:=(f.block _ (ax d)).trans d;rw[e]at b;cases b;rfl
 refine⟨a.lo,a.hn,a.tks,⟨g,e,l,fun c hm=>?_⟩,a.each,?_⟩
 ·rcases List.mem_cons.1 hm with rfl|hm
  ·refine⟨aw W _,fun b=>?_⟩;have:=(j.lt W.heap.size (by rw[p];exact b)).2;omega
  ·exact m c hm
 ·rw[lg,List.nodup_cons];refine⟨fun hm=>?_,h.nb⟩;obtain⟨c,n,o⟩:=List.mem_map.1 hm;have:=ax (k c n).1;rw[o]at this;exact Nat.lt_irrefl _ this
theorem Sp.drop(h:Sp E W i L B){a:List (Nat×Array Q)}(f:∀b∈a,b∈B)(j:(a.map Prod.fst).Nodup):Sp E W i L a:=by
 obtain⟨k,c,d,e⟩:=h.row;exact⟨h.lo,h.hn,h.tks,⟨k,c,d,fun b g=>e b (f b g)⟩,h.each,j⟩
theorem Sp.tail{b:Nat×Array Q}(h:Sp E W i L (b::B)):Sp E W i L B:=h.drop (fun c a=>dJ _ a) (List.nodup_cons.1 h.nb).2
theorem Sp.box(h:Sp E W i L B){b:Nat}{cs:Array Q}(c:(b,cs)∈B):W.heap[b]?=M (A3 cs 35 (0,0)):=by
 obtain⟨f,d,e,a⟩:=h.row;exact(a _ c).1
theorem fl{base e size n g:Nat}{v:Q}{k:List Q}(j:W.ownsRow base e size v n k){cs:Array Q}{t:Br}{fr:Nat×Nat}(c:W.heap[g]?=M (A3 cs t fr))(h:t≠e):v.ownBlock≠M g:=fun a=>by
 rcases j.2 with⟨b,_⟩|⟨d,l,m,b,_,f,_⟩
 ·rw[b]at a;simp[Y]at a
 ·rw[b]at a;obtain rfl:d=g:=by simpa [Y] using a
  rw[f]at c;cases c;exact h rfl
theorem jA{base e size n:Nat}{v:Q}{a:List Q}(d:W.ownsRow base e size v n a){g:Nat}(b:v.ownBlock≠M g)(q:Nat)(u:Q):(W.setCell ⟨g,q,O⟩ u).ownsRow base e size v n a:=
 d.kept (row:=M g) ⟨rfl,rfl,rfl,by simp[World.setCell],fun j h c=>bh _ _ _ _ (fun e=>c (by rw[e]))⟩ (by
  cases hv:v.ownBlock with
  |none=>exact .inl rfl
  |some f=>exact .inr (fun e=>b (by rw[hv,e])))
theorem Sp.set{b:Nat}{cs:Array Q}(h:Sp E W i L ((b,cs)::B))(q:Nat)(u:Q):Sp E (W.setCell ⟨b,q,O⟩ u) i L ((b,cs.setIfInBounds q u)::B):=by
 obtain⟨o,p,l,s⟩:=h.tks;obtain⟨z,j,r,k⟩:=h.row;obtain⟨d,n⟩:=k _ (cH ..);have w:∀a∈B,a.1≠b:=fun a t c=>(List.nodup_cons.1 h.nb).1 (List.mem_map.2 ⟨a,t,c⟩);have m:∀f,f≠b->(W.setCell ⟨b,q,O⟩ u).heap[f]?=W.heap[f]?:=fun f v=>bh _ _ _ _ v;have y:E.tb≠b:=fun c=>by rw[c,d]at l;cases l
 have x:E.pb≠b:=fun c=>by rw[c,d]at j;cases j
 refine⟨h.lo,h.hn,⟨o,p,(m _ y).trans l,s⟩,⟨z,(m _ x).trans j,jA r n q u,fun a hm=>?_⟩,fun g e=>⟨jA (h.each g e).1 (fl (h.each g e).1 d (by decide)) q u,jA (h.each g e).2 (fl (h.each g e).2 d (by decide)) q u⟩,h.nb⟩;rcases List.mem_cons.1 hm with rfl|hm
 ·exact⟨cD _ b q _ _ _ d,n⟩
 ·exact⟨(m _ (w a hm)).trans (k a (dJ _ hm)).1,(k a (dJ _ hm)).2⟩
theorem Sp.other(h:Sp E W i L B){b:Nat}{cs:Array Q}{fr:Nat×Nat}(l:W.heap[b]?=M (A3 cs 109 fr))(J:E.tb≠b)(r:W.grownBy W' (M b)):Sp E W' i L B:=by
 obtain⟨z,A,F,G⟩:=h.tks;obtain⟨d,j,C,k⟩:=h.row;have o:∀c f p g,W.heap[c]?=M (A3 f p g)->c≠b->W'.heap[c]?=M (A3 f p g):=fun c f p g s I=>(r.block c (ax s) (fun a=>I (by cases a;rfl))).trans s;have n:∀{q a w u:Nat}{d:Q}{y:List Q},W.ownsRow q a w d u y->109≠a->W'.ownsRow q a w d u y:=fun v H=>v.kept r (by
  cases hv:Y _ with
  |none=>exact .inl rfl
  |some K=>exact .inr (fun a=>fl v l H (by rw[hv,a])))
 refine⟨h.lo,h.hn,⟨z,A,o _ _ _ _ F J,G⟩,⟨d,o _ _ _ _ j (fun a=>by rw[a,l]at j;cases j),n C (by decide),fun e m=>⟨o _ _ _ _ (k e m).1 (fun a=>?_),(k e m).2⟩⟩,fun x t=>⟨n (h.each x t).1 (by decide),n (h.each x t).2 (by decide)⟩,h.nb⟩;have:=(k e m).1;rw[a,l]at this;simp only[gg,jh]at this;exact absurd this.2.1 (by decide)
theorem Sp.move(h:Sp E W i L B)(j:Nat):Sp E (W.setCell ⟨E.pb,1,O⟩ (X V j)) j L B:=by
 obtain⟨o,p,k,q⟩:=h.tks;obtain⟨t,a,m,g⟩:=h.row;have n:∀c,c≠E.pb->(W.setCell ⟨E.pb,1,O⟩ (X V j)).heap[c]?=W.heap[c]?:=fun c r=>bh _ _ _ _ r;have s:E.tb≠E.pb:=fun f=>by rw[f,a]at k;cases k
 refine⟨h.lo,h.hn,⟨o,p,(n _ s).trans k,q⟩,⟨t,cD _ E.pb 1 _ _ _ a,jA m (fl m a (by decide)) 1 _,fun e l=>⟨(n _ (fun f=>?_)).trans (g e l).1,(g e l).2⟩⟩,fun d b=>⟨jA (h.each d b).1 (fl (h.each d b).1 a (by decide)) 1 _,jA (h.each d b).2 (fl (h.each d b).2 a (by decide)) 1 _⟩,h.nb⟩;have:=(g e l).1;rw[f,a]at this;simp only[gg,jh]at this;exact absurd this.2.1 (by decide)
theorem Sp.kmove(h:Sp E W i L B)(u:Q):Kt W (W.setCell ⟨E.pb,1,O⟩ u)/\A2 E.base W (W.setCell ⟨E.pb,1,O⟩ u):=by
 obtain⟨d,a,b,c⟩:=h.row;exact⟨Kt.set a (.inr rfl) 1 u,(aj _ W).setCell h.lo _⟩
theorem Sp.cells(h:Sp E W i L B):W.cell? ⟨E.pb,0,O⟩=M (Ax (M ⟨E.tb,0,O⟩) E.n E.cap)/\W.cell? ⟨E.pb,1,O⟩=M (X V i)/\∀j,W.frozen? ⟨E.pb,j,O⟩=A6:=by
 obtain⟨d,a,b,c⟩:=h.row;exact⟨by rw[az _ _ _ _ _ _ a];rfl,by rw[az _ _ _ _ _ _ a];rfl,fun j=>du _ _ _ _ _ a⟩
theorem Sp.tok(h:Sp E W i L B){q:Nat}(e:q<E.n):∃c,((E.tk q).k≠6->c=(E.tk q).l)/\W.cell? ⟨E.tb,q*6,O⟩=M (X V (E.tk q).k)/\W.cell? ⟨E.tb,q*6+1,O⟩=M (X V (E.tk q).f)/\W.cell? ⟨E.tb,q*6+2,O⟩=M (X V (E.tk q).t)/\W.cell? ⟨E.tb,q*6+3,O⟩=M (X V c)/\W.cell? ⟨E.tb,q*6+4,O⟩=M (X V (E.tk q).n)/\W.cell? ⟨E.tb,q*6+5,O⟩=M (A8 (E.tk q).x):=by
 obtain⟨g,j,b,d⟩:=h.tks;obtain⟨c,a⟩:=d q e;exact⟨c,a.hl,by rw[az _ _ _ _ _ _ b];exact a.c0,by rw[az _ _ _ _ _ _ b];exact a.c1,by rw[az _ _ _ _ _ _ b];exact a.c2,by rw[az _ _ _ _ _ _ b];exact a.c3,by rw[az _ _ _ _ _ _ b];exact a.c4,by rw[az _ _ _ _ _ _ b];exact a.c5⟩
theorem Sp.kset{b:Nat}{cs:Array Q}(h:Sp E W i L ((b,cs)::B))(q:Nat)(u:Q):Kt W (W.setCell ⟨b,q,O⟩ u):=Kt.set (h.box (cH ..)) (.inl rfl) q u
end
def Fr(s:Nat)(v:Q):Prop:=∀a,v.ownBlock=M a->s<=a
def Ac(s:Nat)(L c:List Mb)(R:Fo):Prop:=∃a,c=L++a/\a.map Mb.N=R.flat L.length/\∀b∈a,Fr s b.vn/\Fr s b.vk
theorem Ac.nil(s:Nat)(L:List Mb):Ac s L L .nil:=⟨[],(dA L).symm,rfl,fun b a=>by cases a⟩
theorem Ac.len{s:Nat}{L b:List Mb}{R:Fo}(h:Ac s L b R):b.length=L.length+R.sz:=by
 obtain⟨c,rfl,a,_⟩:=h;have a:=congrArg List.length a;rw[dv,Fo.flat_len]at a;rw[aC,a]
theorem Ac.le{s t:Nat}{L c:List Mb}{R:Fo}(h:Ac s L c R)(e:t<=s):Ac t L c R:=by
 obtain⟨j,k,l,d⟩:=h;exact⟨j,k,l,fun g f=>⟨fun a b=>bz e ((d g f).1 a b),fun a b=>bz e ((d g f).2 a b)⟩⟩
theorem Ac.app{s:Nat}{L a b:List Mb}{x y:Fo}(h:Ac s L a x)(k:Ac s a b y):Ac s L b (x.app y):=by
 have m:=h.len;obtain⟨d,rfl,f,j⟩:=h;obtain⟨e,rfl,g,l⟩:=k;refine⟨d++e,by rw[cI],by rw[en,f,g,Fo.flat_app,m],fun c hz=>?_⟩;rcases List.mem_append.1 hz with hz|hz
 ·exact j c hz
 ·exact l c hz
theorem Ac.add{s:Nat}{L a:List Mb}{R:Fo}(h:Ac s L a R)(N:Nd){vn vk:Q}(f:Fr s vn)(e:Fr s vk):Ac s L (a++[⟨{N with ks:=R.tops L.length},vn,vk⟩]) (one N R):=by
 obtain⟨b,rfl,c,d⟩:=h;refine⟨b++[⟨{N with ks:=R.tops L.length},vn,vk⟩],by rw[cI],by rw[en,c];rfl,fun g hz=>?_⟩;rcases List.mem_append.1 hz with hz|hz
 ·exact d g hz
 ·obtain rfl:=List.mem_singleton.1 hz;exact⟨f,e⟩
theorem Fr.nil(s n c:Nat):Fr s (Ax O n c):=fun b a=>by simp[Y]at a
theorem Fr.new{s b n c:Nat}(h:s<=b):Fr s (Ax (M ⟨b,0,O⟩) n c):=fun a d=>by
 obtain rfl:b=a:=by simpa [Y] using d
 exact h
theorem Fr.le{s t:Nat}{v:Q}(h:Fr s v)(c:t<=s):Fr t v:=fun a b=>bz c (h a b)
def Sv(v:Q)(L:List Mb):Prop:=∀b∈L,∀a,v.ownBlock=M a->b.vk.ownBlock≠M a
theorem Sv.next{v:Q}{s:Nat}{L b:List Mb}{R:Fo}(h:Sv v L)(a:Ac s L b R)(j:∀g,v.ownBlock=M g->g<s):Sv v b:=by
 obtain⟨k,rfl,_,f⟩:=a;intro d hx g c;rcases List.mem_append.1 hx with hx|hx
 ·exact h d hx g c
 ·intro e;have:=(f d hx).2 g e;have:=j g c;omega
structure Jd (E:Pe) (W w':U) (L L':List Mb) (B:List (Nat×Array Q)) (R:Fo) (j:Nat):Prop where
 ac:Ac W.heap.size L L' R
 sp:Sp E w' j L' B
 kt:Kt W w'
 bl:A2 E.base W w'
abbrev pV(E:Pe):Q:= .pointer (M ⟨E.pb,0,O⟩)
def CI(E:Pe)(d:FuncId)(args:Array Q)(i:Nat)(R:Fo)(j:Nat):Prop:=
 ∀(W:U)(L:List Mb)(B:List (Nat×Array Q)),Sp E W i L B->L.length+R.sz<=50000000->A5 Z d args W fun c e=>∃a b,c= A1 (X V a)/\R.tops L.length=[a]/\Jd E W e L b B R j
def CL(E:Pe)(e:FuncId)(args:Array Q)(i:Nat)(R:Fo)(j:Nat):Prop:=
 ∀(W:U)(L:List Mb)(B:List (Nat×Array Q)),Sp E W i L B->L.length+R.sz<=50000000->A5 Z e args W fun d c=>∃a b,d= A1 a/\(Fr W.heap.size a/\Sv a b)/\c.ownsRow E.base 3 1 a R.len ((R.tops L.length).map (A0 V))/\Jd E W c L b B R j
def iJ(w:U)(r:List Int×Bool)(e:Ending)(c:U):Prop:=
 ∃a b,e= A1 (B0 #[Ax a r.1.length b,A7 r.2])/\c.ownsRow w.heap.size 3 1 (Ax a r.1.length b) r.1.length (r.1.map (A0 V))/\A2 w.heap.size w c
theorem pj(w:U)(a:List Int)(n:Nat)(b:a.length=n)(c:n<=100):(w.alloc (A3 (a.map (A0 V)).toArray 3)).ownsRow w.heap.size 3 1 (Ax (M ⟨w.heap.size,0,O⟩) n n) n (a.map (A0 V)):=by
 have:=Cl (base:=w.heap.size) (e:=3) (size:=1) w (a.map (A0 V)).toArray n (ah _) (by unfold maxLen;omega) (by simp[b]);simpa using this
theorem bel1(w:U)(a:Obj):A2 w.heap.size w (w.alloc a):=(aj _ w).alloc (ah _) a
theorem pl(w:U)(a:List Int)(b:Bool)(c:a.length<=100):iJ w (a,b) (A1 (B0 #[Ax (M ⟨w.heap.size,0,O⟩) a.length a.length,A7 b])) (w.alloc (A3 (a.map (A0 V)).toArray 3)):=
 ⟨_,_,rfl,pj w a _ rfl c,bel1 w _⟩
theorem yD(w:U)(b:Bool):iJ w ([],b) (A1 (B0 #[Ax O 0 0,A7 b])) w:=⟨_,_,rfl,bk _ _ _ _,aj _ w⟩
theorem rF(v:Q)(w:U):A5 Z 85 #[v] w fun e a=>e= A1 v/\a=w:=by
 go_in;go_wp2;go_ret;exact⟨rfl,rfl⟩
theorem pH(w:U)(t:Int):A5 Z 143 #[X V t] w fun e g=>e= A1 (A7 (lj t))/\g=w:=by
 by_cases a:t=25\/t=50\/t=62\/t=69
 ·have e:lj t=A9:=bG a;rw[e];rcases a with rfl|rfl|rfl|rfl;all_goals
   go_in;go_wp2;go_ret;exact⟨rfl,rfl⟩
 ·have e:lj t=A6:=aD a;rw[e];have b:¬t=25:=by omega
  have c:¬t=50:=by omega
  have d:¬t=62:=by omega
  have f:¬t=69:=by omega
  have h:(t==25)=A6:=beq_eq_false_iff_ne.2 b;have j:(t==50)=A6:=beq_eq_false_iff_ne.2 c;have k:(t==62)=A6:=beq_eq_false_iff_ne.2 d;have l:(t==69)=A6:=beq_eq_false_iff_ne.2 f;clear a e;go_in;go_wp2;go_ret;exact⟨rfl,rfl⟩
theorem wE(w:U)(t:Int):A5 Z 146 #[X V t] w fun e d=>e= A1 (A7 (ja t))/\d=w:=by
 by_cases a:t=10\/t=26
 ·have e:ja t=A9:=bG (by omega);rw[e];rcases a with rfl|rfl;all_goals
   go_in;go_wp2;go_ret;exact⟨rfl,rfl⟩
 ·have b:¬t=10:=by omega
  have c:¬t=26:=by omega
  have f:(t==10)=A6:=beq_eq_false_iff_ne.2 b;have g:(t==26)=A6:=beq_eq_false_iff_ne.2 c;by_cases h:60<t
  ·have e:ja t=A9:=bG (by omega);rw[e];clear a e;go_in;go_wp2;go_ret;exact⟨rfl,rfl⟩
  ·have e:ja t=A6:=aD (by omega);rw[e];clear a e;go_in;go_wp2;go_ret;exact⟨rfl,rfl⟩
theorem pI(w:U)(t:Int):A5 Z 87 #[X V t] w fun e c=>e= A1 (A7 (dH t))/\c=w:=by
 by_cases a:t=1\/t=2\/t=3\/t=4\/t=24\/t=29\/t=17\/t=49\/t=18\/t=40\/t=42
 ·have e:dH t=A9:=by unfold dH;rw[bG a];rfl
  rw[e];rcases a with rfl|rfl|rfl|rfl|rfl|rfl|rfl|rfl|rfl|rfl|rfl;all_goals
   go_in;go_wp2;go_ret;exact⟨rfl,rfl⟩
 ·have e:dH t=lj t:=by unfold dH;rw[aD a];rfl
  rw[e];have f:¬t=1:=by omega
  have j:¬t=2:=by omega
  have m:¬t=3:=by omega
  have n:¬t=4:=by omega
  have k:¬t=24:=by omega
  have l:¬t=29:=by omega
  have g:¬t=17:=by omega
  have q:¬t=49:=by omega
  have h:¬t=18:=by omega
  have o:¬t=40:=by omega
  have p:¬t=42:=by omega
  have b:=fun w=>pH w t;clear a e;generalize lj t=d at b⊢;go_in;go_wp2_with (go_at_call 143;refine ee (b _) ?_);go_ret;exact⟨rfl,rfl⟩
section
variable {E : Pe} {W : World} {i : Nat} {L : List Mb} {B : List (Nat × Array Value)}
theorem abA(h:Sp E W i L B)(a:i<E.n):A5 Z 52 #[pV E] W fun e b=>e= A1 (X V (E.tk i).k)/\A2 W.heap.size W b:=by
 obtain⟨c,d,f⟩:=h.cells;obtain⟨m,l,o,p,q,r,s,t⟩:=h.tok a;have j:(i:Int)<(E.n:Int):=by omega
 have g:(0:Int)<=(i:Int):=by omega
 clear h a;go_in;go_wp2_with fail;go_quiet (fail)
 go_wp2;go_ret;exact⟨rfl,rfl,rfl,rfl,ah _,fun _ _=>rfl⟩
structure TkW (W:U) (E:Pe) (q:Nat):Prop where
 c0:W.cell? ⟨E.tb,q*6,O⟩=M (.int .i64 (E.tk q).k)
 c1:W.cell? ⟨E.tb,q*6+1,O⟩=M (.int .i64 (E.tk q).f)
 c2:W.cell? ⟨E.tb,q*6+2,O⟩=M (.int .i64 (E.tk q).t)
 c3:W.cell? ⟨E.tb,q*6+3,O⟩=M (.int .i64 (E.tk q).l)
 c4:W.cell? ⟨E.tb,q*6+4,O⟩=M (.int .i64 (E.tk q).n)
 c5:W.cell? ⟨E.tb,q*6+5,O⟩=M (.string (E.tk q).x)
theorem Sp.tkw(h:Sp E W i L B){q:Nat}(d:q<E.n)(b:(E.tk q).k≠6):TkW W E q:=by
 obtain⟨m,c,e,f,g,a,j,l⟩:=h.tok d;rw[c b]at a;exact⟨e,f,g,a,j,l⟩
theorem ajw(h:Sp E W i L B)(a5:i<E.n)(a4:(E.tk i).k≠6):A5 Z 92 #[pV E] W fun e a=>e= .returned (vTk (E.tk i))/\Sp E a (i+1) L B/\Kt W a/\A2 E.base W a:=by
 have a7:=h.lt;have v:=bel1 W (.cells #[.int .i64 0,.int .i64 0,.int .i64 0,.int .i64 0,.int .i64 0,.string ⟨#[]⟩] 109);have u:=h.below v;have g:=u.move (i+1);have j:=u.kmove (.int .i64 ((i+1:Nat):Int));obtain⟨a0,a1,a2⟩:=u.cells;obtain⟨r,s,an⟩:=g.cells;obtain⟨y,z,A,C,F,G⟩:=g.tkw a5 a4;have a3:((i+1:Nat):Int)=(i:Int)+1:=by omega
 rw[a3]at g j s r an y z A C F G;have bo:(i:Int)<(E.n:Int):=by omega
 have bn:(0:Int)<=(i:Int):=by omega
 have bp:=h.hn;have br:IntKind.i64.wrap ((i:Int)+1-1)=(i:Int):=by rw[cJ];omega
 have bs:IntKind.i64.wrap (i:Int)=(i:Int):=by rw[cJ];omega
 have bt:IntKind.i64.wrap ((i:Int)+1)=(i:Int)+1:=by rw[cJ];omega
 obtain⟨c,o⟩:=aA ((W.alloc (.cells #[.int .i64 0,.int .i64 0,.int .i64 0,.int .i64 0,.int .i64 0,.string ⟨#[]⟩] 109)).setCell ⟨E.pb,1,O⟩ (.int .i64 ((i:Int)+1)));have w:c.heap[W.heap.size]?=M (.cells #[.int .i64 0,.int .i64 0,.int .i64 0,.int .i64 0,.int .i64 0,.string ⟨#[]⟩] 109 (0,0)):=by
  rw[<-o,bh _ _ _ _ (by show W.heap.size≠E.pb;omega)];exact aw W _
 have ao:A2 E.base W c:=by rw[<-o];exact(v.mono a7.2).trans j.2
 have ap:Kt W c:=by rw[<-o];exact(Kt.of_below v).trans j.1
 rw[o]at g r s an y z A C F G;go_in;go_wp2_with fail;have q:=tI g ao ap w;have av:=aq h;clear o u v g j a0 a1 a2 h ao ap w;obtain⟨z0,bw,bx,bA,bD,bE⟩:=sE q.out.2.2.2;obtain⟨bF,b0,b1,b3,b4,b5⟩:=Em q.out.2.2.2;have a8:E.pb≠W.heap.size:=by omega
 have ar:E.tb≠W.heap.size:=by
  obtain⟨bf,bl,a9,_⟩:=av.out.tks;have:=ax a9;omega
 have H:∀b I J K ad af ak,(Gz c W.heap.size I J K ad af ak).drew.cell? ⟨E.pb,b,O⟩=c.cell? ⟨E.pb,b,O⟩:=fun b=>Eo a8 b;have d:∀b I J K ad af ak,(Gz c W.heap.size I J K ad af ak).drew.cell? ⟨E.tb,b,O⟩=c.cell? ⟨E.tb,b,O⟩:=fun b=>Eo ar b;unfold Gz at H d;go_region_held3 (fun a=>a.cell? ⟨E.pb,0,O⟩=M (.slice (M ⟨E.tb,0,O⟩) E.n E.cap)/\a.cell? ⟨E.pb,1,O⟩=M (.int .i64 ((i:Int)+1))/\a.cell? ⟨E.tb,i*6,O⟩=M (.int .i64 (E.tk i).k)/\a.cell? ⟨E.tb,i*6+1,O⟩=M (.int .i64 (E.tk i).f)/\a.cell? ⟨E.tb,i*6+2,O⟩=M (.int .i64 (E.tk i).t)/\a.cell? ⟨E.tb,i*6+3,O⟩=M (.int .i64 (E.tk i).l)/\a.cell? ⟨E.tb,i*6+4,O⟩=M (.int .i64 (E.tk i).n)/\a.cell? ⟨E.tb,i*6+5,O⟩=M (.string (E.tk i).x)) (first|with_reducible exact⟨(H 0 _ _ _ _ _ _).trans r,(H 1 _ _ _ _ _ _).trans s,(d (i*6) _ _ _ _ _ _).trans y,(d (i*6+1) _ _ _ _ _ _).trans z,(d (i*6+2) _ _ _ _ _ _).trans A,(d (i*6+3) _ _ _ _ _ _).trans C,(d (i*6+4) _ _ _ _ _ _).trans F,(d (i*6+5) _ _ _ _ _ _).trans G⟩|exact⟨r,s,y,z,A,C,F,G⟩) (fail)
 have m:=aa2 c W.heap.size (.int .i64 (E.tk i).k) (.int .i64 (E.tk i).f) (.int .i64 (E.tk i).t) (.int .i64 (E.tk i).l) (.int .i64 (E.tk i).n) (.string (E.tk i).x);have p:=aa1 q.out.2.2.2 (.int .i64 (E.tk i).k) (.int .i64 (E.tk i).f) (.int .i64 (E.tk i).t) (.int .i64 (E.tk i).l) (.int .i64 (E.tk i).n) (.string (E.tk i).x);rw[<-vw]at p;unfold Gz at m p;generalize World.drew _=bd at m p⊢;go_wp2;obtain⟨bb,am,j,w⟩:=q.out;exact bB (gi rfl _ _ W.heap.size _ _ _ _ rfl p Tryz.underlying109 rfl (by kernel_rfl)) rfl ⟨rfl,bb.other w ar m,j.past m (ah _),am.grown m (by have:=am.size;omega) (fun k a6=>by cases a6;omega)⟩
theorem afm(k:Int)(T:Tk)(w:U):A5 Z 93 #[.int .i64 k,vTk T] w fun e a=>e= .returned (.agg #[.int .i64 k,.int .i64 T.f,.int .i64 0,.int .i64 T.l,.int .i64 0,.int .i64 0,.string ⟨#[]⟩,.slice O 0 0,.slice O 0 0])/\A2 w.heap.size w a:=by
 unfold vTk;go_in;go_wp2_with fail;exact bB (gi rfl _ _ (w.heap.size+1) _ _ _ _ rfl (by have:=aw (w.alloc (.cells #[.int .i64 T.k,.int .i64 T.f,.int .i64 T.t,.int .i64 T.l,.int .i64 T.n,.string T.x] 109)) (.cells #[.int .i64 k,.int .i64 T.f,.int .i64 0,.int .i64 T.l,.int .i64 0,.int .i64 0,.string ⟨#[]⟩,.slice O 0 0,.slice O 0 0] 35);rw[ba]at this;exact this) Tryz.underlying35 rfl (by kernel_rfl)) rfl ⟨rfl,(bel1 w _).alloc (by simp) _⟩
theorem afn(h:Sp E W i L B)(b:i<E.n)(k:Int)(l:(E.tk i).k=k):A5 Z 53 #[pV E,X V k] W fun e f=>e= A1 (A7 A9)/\Sp E f (i+1) L B/\Kt W f/\A2 E.base W f:=by
 have v:((E.tk i).k !=k)=A6:=by simp[l]
 have m:=abA h b;have g:=aq h;have u:=h.hn;have t:=b;clear h l b;go_in;go_wp2_with fail;refine m.mono ?_;rintro e w1 ⟨rfl,a⟩;have d:=g.out.below a;obtain⟨q,r,s⟩:=d.cells;have p:=g.out.lt;have j:=aq d;clear d m;go_wp2_with fail;go_ret;have o:=j.out.move (i+1);have c:=j.out.kmove (X V ((i+1:Nat):Int));rw[show((i+1:Nat):Int)=(i:Int)+1 by omega]at o c;exact⟨rfl,o,(Kt.of_below a).trans c.1,(a.mono p.2).trans c.2⟩
theorem ahJ(h:Sp E W i L B)(a:i<E.n)(k:Int)(b:(E.tk i).k≠k):A5 Z 53 #[pV E,X V k] W fun e f=>e= A1 (A7 A6)/\A2 W.heap.size W f:=by
 have g:((E.tk i).k !=k)=A9:=by simp[b]
 have d:=abA h a;clear h b a;go_in;go_wp2_with (go_at_call 52;refine d.mono ?_;rintro e w1 ⟨rfl,c⟩);go_ret;exact⟨rfl,c⟩
end
open Go.Maps Go.WideMaps
theorem yE:(Tryz.prog.info? 35).map (fun i=>(i.zero,i.size,i.bytes))=M (M (.agg #[X V 0,X V 0,X V 0,X V 0,X V 0,X V 0,A8 ⟨#[]⟩,Ax O 0 0,Ax O 0 0]),9,112):=by kernel_rfl
abbrev dw(N:Nd)(vn vk:Q):Array Q:=#[X V N.k,X V N.f,X V N.t,X V N.l,X V N.op,X V N.n,A8 N.x,vn,vk]
section
variable {E : Pe} {W : World} {i : Nat} {L : List Mb} {B : List (Nat × Array Value)}
theorem Sp.push(h:Sp E W i L B){v:Q}(I:W.heap[E.pb]?=M (A3 #[Ax (M ⟨E.tb,0,O⟩) E.n E.cap,X V i,v] 84 (0,0))){c:U}{g r cap:Nat}(a0:L.length+1=r)(x:Mb)(K:c.ownsRow E.base 35 9 (Ax (M ⟨g,0,O⟩) r cap) r (jn (L++[x])))(f:W.grownBy c v.ownBlock)(ap:v.ownBlock=M g\/g=W.heap.size)
  (on:W.ownsRow E.base 9 1 x.vn x.N.nm.length (x.N.nm.map A4)) (a4:W.ownsRow E.base 3 1 x.vk x.N.ks.length (x.N.ks.map (A0 V))):
  Sp E (c.setCell ⟨E.pb,2,O⟩ (Ax (M ⟨g,0,O⟩) r cap)) i (L++[x]) B/\Kt W (c.setCell ⟨E.pb,2,O⟩ (Ax (M ⟨g,0,O⟩) r cap))/\A2 E.base W (c.setCell ⟨E.pb,2,O⟩ (Ax (M ⟨g,0,O⟩) r cap))/\c.heap[E.pb]?=M (A3 #[Ax (M ⟨E.tb,0,O⟩) E.n E.cap,X V i,v] 84 (0,0)):=by
 subst a0;obtain⟨an,o,l,t⟩:=h.tks;obtain⟨a6,k,s,G⟩:=h.row;obtain rfl:a6=v:=by rw[k]at I;cases I;rfl
 have ar:=h.lt;have w:∀{b:Nat}{C:Array Q}{A:Br}{o:Nat×Nat},W.heap[b]?=M (A3 C A o)->A≠35->c.heap[b]?=M (A3 C A o):=fun d a1=>(f.block _ (ax d) (fun a=>fl s d a1 a.symm)).trans d;have y:=w k (by decide);have z:∀b,b≠E.pb->(c.setCell ⟨E.pb,2,O⟩ (Ax (M ⟨g,0,O⟩) (L.length+1) cap)).heap[b]?=c.heap[b]?:=fun b d=>bh _ _ _ _ d;have p:∀{base a size n:Nat}{af:Q}{ak:List Q},W.ownsRow base a size af n ak->a≠35->a≠84->(c.setCell ⟨E.pb,2,O⟩ (Ax (M ⟨g,0,O⟩) (L.length+1) cap)).ownsRow base a size af n ak:=fun ad l t=>by
  refine jA ?_ ?_ 2 _
  ·obtain⟨e,j⟩:=ad;refine⟨e,?_⟩;rcases j with j|⟨g,cap,F,a2,f,u,a5⟩
   ·exact .inl j
   ·exact .inr ⟨g,cap,F,a2,f,w u l,a5⟩
  ·exact fl ad k (gI t)
 refine⟨⟨h.lo,h.hn,⟨an,o,(z _ (fun a=>by rw[a,k]at l;cases l)).trans (w l (by decide)),t⟩,⟨_,cD _ E.pb 2 _ _ _ y,?_,fun m H=>⟨?_,?_⟩⟩,fun am hy=>?_,h.nb⟩,⟨?_,fun b d a3 J=>?_⟩,?_,y⟩
 ·rw[aC];exact jA K (fl K y (by decide)) 2 _
 ·obtain⟨e,j⟩:=G m H;have av:m.1≠E.pb:=fun a=>by
   rw[a,k]at e;simp only[gg,jh]at e;exact absurd e.2.1 (by decide)
  exact(z _ av).trans ((f.block _ (ax e) (fun a=>j a.symm)).trans e)
 ·obtain⟨e,j⟩:=G m H;intro a;have a:g=m.1:=by simpa [Y] using a
  rcases ap with q|q
  ·exact j (by rw[q,a])
  ·have:=ax e;omega
 ·rcases List.mem_append.1 hy with hy|hy
  ·exact⟨p (h.each am hy).1 (by decide) (by decide),p (h.each am hy).2 (by decide) (by decide)⟩
  ·obtain rfl:=List.mem_singleton.1 hy;exact⟨p on (by decide) (by decide),p a4 (by decide) (by decide)⟩
 ·show W.heap.size<=_;simp[World.setCell];exact f.size
 ·rw[z b (fun a=>by rw[a]at J;exact J _ _ k)];refine f.block b d (fun a=>?_);rcases s.2 with⟨q,_⟩|⟨ao,a7,F,q,_,u,_⟩
  ·rw[q]at a;simp[Y]at a
  ·rw[q]at a;obtain rfl:b=ao:=by simpa [Y] using a
   exact a3 _ _ u
 ·exact((aj _ W).grown f ar.2 (fun b d=>(s.lt b d).1)).setCell h.lo _
theorem addM(h:Sp E W i L B)(cp:1<=i)(cs:i<=E.n)(N:Nd)(an a:Option Addr)(mn cn mk ck:Nat)(on:W.ownsRow E.base 9 1 (.slice an mn cn) N.nm.length (N.nm.map A4))(ca:W.ownsRow E.base 3 1 (.slice a mk ck) N.ks.length (N.ks.map (A0 .i64)))(bF:L.length<=50000000):
  A5 Z 96 #[pV E,.agg (dw N (.slice an mn cn) (.slice a mk ck))] W fun e g=>e= .returned (.int .i64 (L.length:Nat))/\Sp E g i (L++[⟨{N with t:=(E.tk (i-1)).t},.slice an mn cn,.slice a mk ck⟩]) B/\Kt W g/\A2 E.base W g:=by
 obtain⟨q,rfl⟩:∃q,i=q+1:=⟨i-1,by omega⟩;rw[mh];obtain⟨d,a2⟩:=aA L.length;rw[a2]at bF⊢;have b1:=h.lt;have cx:=h.hn;have bD:((q+1:Nat):Int)=(q:Int)+1:=by omega
 have ao:=fun r=>(h.below (bel1 W r)).cells.1;have J:=fun r=>(h.below (bel1 W r)).cells.2.1;have I:∀r,(W.alloc r).cell? ⟨E.tb,q*6+2,O⟩=M (.int .i64 (E.tk q).t):=fun r=>by
  obtain⟨c2,ct,c4,c7,I,c8,c9,dd⟩:=(h.below (bel1 W r)).tok (q:=q) (by omega);exact I
 have bx:=ao (.cells (dw N (.slice an mn cn) (.slice a mk ck)) 35);have a7:=J (.cells (dw N (.slice an mn cn) (.slice a mk ck)) 35);have ce:=I (.cells (dw N (.slice an mn cn) (.slice a mk ck)) 35);have cr:(q:Int)<(E.n:Int):=by omega
 have cq:(0:Int)<=(q:Int):=by omega
 have cy:IntKind.i64.wrap ((q:Int)+1-1)=(q:Int):=by rw[cJ];omega
 have cz:IntKind.i64.wrap (q:Int)=(q:Int):=by rw[cJ];omega
 rw[bD]at J a7;have a9:=h.alloc (dw {N with t:=(E.tk q).t} (.slice an mn cn) (.slice a mk ck));have bd:=bel1 W (.cells (dw {N with t:=(E.tk q).t} (.slice an mn cn) (.slice a mk ck)) 35);have am:=dx a9 bd;clear a9 bd;go_in;go_wp2_with fail;go_region_held3 (fun g=>g.cell? ⟨E.pb,0,O⟩=M (.slice (M ⟨E.tb,0,O⟩) E.n E.cap)/\g.cell? ⟨E.pb,1,O⟩=M (.int .i64 ((q:Int)+1))/\g.cell? ⟨E.tb,q*6+2,O⟩=M (.int .i64 (E.tk q).t)) (exact⟨ao _,J _,I _⟩) (fail)
 obtain⟨b,F⟩:=aA ((W.alloc (.cells (dw {N with t:=(E.tk q).t} (.slice an mn cn) (.slice a mk ck)) 35)).drew);have m:Hid (Sp E b (q+1) L ((W.heap.size,dw {N with t:=(E.tk q).t} (.slice an mn cn) (.slice a mk ck))::B)/\A2 W.heap.size W b):=by
  rw[<-F];exact⟨am.out.1.below ⟨rfl,rfl,rfl,ah _,fun _ _=>rfl⟩,am.out.2.drew⟩
 have b2:b.heap.size=W.heap.size+1:=by rw[<-F];show(W.alloc _).heap.size=_;simp
 simp only[dw]at F;rw[F];clear F am ao J I bx a7 ce;obtain⟨v,K,ar,co⟩:=m.out.1.row;obtain⟨z,A,rfl⟩:=bI ar;have ap:b.cell? ⟨E.pb,2,O⟩=M (.slice z L.length A):=by rw[az _ _ _ _ _ _ K];rfl
 rw[a2]at ap K ar;go_wp2_with fail;have a1:b.heap[W.heap.size]?=M (.cells (dw {N with t:=(E.tk q).t} (.slice an mn cn) (.slice a mk ck)) 35 (0,0)):=m.out.1.box (cH ..);refine wp_region_held_drew (S:=fun W'=>W'.heap[W.heap.size]?=M (.cells (dw {N with t:=(E.tk q).t} (.slice an mn cn) (.slice a mk ck)) 35 (0,0))) (by kernel_rfl) a1 (fun hS=>?_);simp only[ip,di,fs,Nat.reduceAdd,jt,ju,jw,fd,fF];refine dg 0 (.pointer (M ⟨E.pb,0,O⟩)) rfl rfl (by kernel_rfl) (fun _ _ _=>id) hS (fun g w=>by go_simp) ?_;simp only[List.set];refine dg 1 (.pointer (M ⟨E.pb,0,O⟩)) rfl rfl (by kernel_rfl) (fun _ _ _=>id) hS (fun g w=>by go_simp) ?_;simp only[List.set];refine dg 2 (.pointer (M ⟨E.pb,0,O⟩)) rfl rfl (by kernel_rfl) (fun _ _ _=>id) hS (fun g w=>by go_simp) ?_;simp only[List.set];refine dg 3 (.pointer (M ⟨E.pb,2,O⟩)) rfl rfl (by kernel_rfl) (fun _ _ _=>id) hS (fun g w=>by go_simp) ?_;simp only[List.set];refine jz 5 23 (.agg #[.int .i64 N.k,.int .i64 N.f,.int .i64 (E.tk q).t,.int .i64 N.l,.int .i64 N.op,.int .i64 N.n,.string N.x,.slice an mn cn,.slice a mk ck]) rfl rfl (by kernel_rfl) (by kernel_rfl) (by kernel_rfl) (fun _ _ _ h=>h) (by rfl) hS (fun g w=>by obtain⟨z0,dk,dn,dp,dq,af,bw,ds,dz,d0⟩:=au (N:={N with t:=(E.tk q).t}) (vn:= .slice an mn cn) (vk:= .slice a mk ck) w;go_simp) ?_;simp only[Act.put,bJ,bK,ci];have b0:=ap;refine rC (S:=fun W'=>W'.cell? ⟨E.pb,2,O⟩=M (.slice z d A)) (C:=fun H=>!(H==7||H==8||H==9||H==10)) (i:=4) (v:= .slice z d A) rfl (yi (by kernel_rfl)) (fun _ _ _ h=>h) ?hC _ _ _ _ (yj rfl (by kernel_rfl)) (List.contains_iff_mem.1 (by kernel_rfl)) (Or.inl ⟨by rfl,fun g w=>by go_simp⟩) hS b0 ?_
 case hC=>
  intro H c3 bl j;simp only[Bool.not_eq_false',yo,gn]at j;rcases j with((rfl|rfl)|rfl)|rfl
  ·obtain rfl:=db bl;exact⟨{on:=4,ground:=Ground.data},by simp,rfl,rfl⟩
  all_goals
   obtain rfl:=db bl;exact⟨{on:=4,ground:=Ground.phase},by simp,rfl,rfl⟩
 simp only[Act.put,bJ,bK,ci];refine fi (i:=6) (by kernel_rfl) rfl (fun l c=>?_);go_simp;have a0:A2 b.heap.size b (b.drew.alloc (.cells (dw {N with t:=(E.tk q).t} (.slice an mn cn) (.slice a mk ck)) 35)):=(aL (aj _ _)).alloc (by simp) _;refine c.out _ _ ((a0.block _ (ax a1)).trans a1) (fun _=>cell_kept a0 ap) ?_;clear c l;try simp only[bJ,bK,ci]
 obtain⟨y,G⟩:=aA ((b.alloc (.cells (dw {N with t:=(E.tk q).t} (.slice an mn cn) (.slice a mk ck)) 35)).drew);have o:A2 b.heap.size b y:=by rw[<-G];exact aL (bel1 b _)
 have b3:y.heap[b.heap.size]?=M (.cells (dw {N with t:=(E.tk q).t} (.slice an mn cn) (.slice a mk ck)) 35 (0,0)):=by rw[<-G];exact aw b _
 simp only[dw]at G;rw[G];clear G a0 hS;have cc:=m.out.1.below o;have cb:=(o.block _ (ax K)).trans K;have bE:=aG ar o;have bn:=m.out.1.lt;obtain⟨b4,b5,b7,b8,b9⟩:=dC yE;refine fi (i:=7) (by kernel_rfl) rfl (fun l c=>?_);refine step_append_lies _ (by rfl) _ _ 23 (by rfl) E.base 35 b4 _ 9 112 Tryz.underlying23 b5 b7 b8 b9 rfl (by decide) (.slice z d A) d _ (by rfl) bE ⟨b.heap.size,0,O⟩ 1 1 (dw {N with t:=(E.tk q).t} (.slice an mn cn) (.slice a mk ck)).toList (by rw[b2];rfl) rfl (World.news_of_block b3) (by intro df bo;simp at bo;rcases bo with rfl|rfl|rfl|rfl|rfl|rfl|rfl|rfl|rfl<;>rfl) (by decide) (by unfold maxLen;omega) (by omega) (bz bn.2 o.size) y.heap.size rfl ?_;intro u s p a3 bf bb cu;have a8:jn L++(dw {N with t:=(E.tk q).t} (.slice an mn cn) (.slice a mk ck)).toList=jn (L++[⟨{N with t:=(E.tk q).t},.slice an mn cn,.slice a mk ck⟩]):=by rw[uq];show _=jn L++(cMb _++[]);rw[dA];rfl
 rw[a8]at a3;have bs:y.ownsRow E.base 9 1 (.slice an mn cn) N.nm.length (N.nm.map A4):=aG (aG on m.out.2) o;have br:y.ownsRow E.base 3 1 (.slice a mk ck) N.ks.length (N.ks.map (A0 .i64)):=aG (aG ca m.out.2) o;obtain⟨ad,bp,a6,a4⟩:=cc.push cb (by rw[a2]) ⟨{N with t:=(E.tk q).t},.slice an mn cn,.slice a mk ck⟩ a3 bf bb bs br;have af:p.heap[W.heap.size]?=M (.cells (dw {N with t:=(E.tk q).t} (.slice an mn cn) (.slice a mk ck)) 35 (0,0)):=by
  have bt:=ad.box (cH ..);rw[bh _ _ _ _ (by show W.heap.size≠E.pb;omega)]at bt;exact bt
 have bw:=ad.box (cH ..);have cl:p.cell? ⟨E.pb,2,O⟩=M (.slice z d A):=by rw[az _ _ _ _ _ _ a4];rfl
 have cm:p.frozen? ⟨E.pb,2,O⟩=A6:=du _ _ _ _ _ a4;have a5:Hid (Sp E (p.setCell ⟨E.pb,2,O⟩ (.slice (M ⟨u,0,O⟩) (d+1) s)) (q+1) (L++[⟨{N with t:=(E.tk q).t},.slice an mn cn,.slice a mk ck⟩]) B/\Kt W (p.setCell ⟨E.pb,2,O⟩ (.slice (M ⟨u,0,O⟩) (d+1) s))/\A2 E.base W (p.setCell ⟨E.pb,2,O⟩ (.slice (M ⟨u,0,O⟩) (d+1) s))):=
  ⟨ad.tail,((Kt.of_below m.out.2).trans (Kt.of_below o)).trans bp,((m.out.2.mono b1.2).trans (o.mono bn.2)).trans a6⟩
 clear ad bp a6 bs br a8 a3 bf bb;refine c.out _ _ af (fun j=>by cases j) ?_;clear c l;simp only[Act.put,bJ,bK,ci];refine fi (i:=8) (by kernel_rfl) rfl (fun l c=>?_);go_simp;refine c.out _ _ af (fun j=>by cases j) ?_;clear c l;try simp only[bJ,bK,ci]
 refine fi (i:=9) (by kernel_rfl) rfl (fun l c=>?_);go_simp;refine c.out _ _ af (fun j=>by cases j) ?_;clear c l;try simp only[bJ,bK,ci]
 refine fi (i:=10) (by kernel_rfl) rfl (fun l c=>?_);go_simp;refine c.out _ _ bw (fun j=>by cases j) ?_;clear c l;refine uo (by kernel_rfl) ?_ _;have bA:(p.setCell ⟨E.pb,2,O⟩ (.slice (M ⟨u,0,O⟩) (d+1) s)).cell? ⟨E.pb,2,O⟩=M (.slice (M ⟨u,0,O⟩) (d+1) s):=by rw[az _ _ _ _ _ _ (cD _ E.pb 2 _ _ _ a4)];rfl
 generalize p.setCell ⟨E.pb,2,O⟩ (.slice (M ⟨u,0,O⟩) (d+1) s)=cf at a5 bA⊢;have cB:IntKind.i64.wrap ((d:Int)+1-1)=(d:Int):=by rw[cJ];omega
 go_wp2_with fail;go_ret;exact⟨by go_num,a5.out⟩
end
theorem ieq(t c:Int):(t=c)=((t==c)=A9):=by simp
theorem Hb(w:U)(t:Int):A5 Z 86 #[X V t] w (iJ w (gL t)):=by
 go_in;go_wp2_with (go_at_call 85;refine ee (rF _ _) ?_);all_goals
  go_ret2;go_tidy
  simp only[gL,ieq, *];simp[*];first|exact pl w _ _ (by simp)|exact yD w _
theorem Hc(w:U)(t:Int):A5 Z 145 #[X V t] w (iJ w (EG t)):=by
 have b:=fun w=>pH w t;have a:=fun w=>pI w t;go_in;go_wp2_with (first|(go_at_call 85;refine ee (rF _ _) ?_)|(go_at_call 143;refine ee (b _) ?_)|(go_at_call 87;refine ee (a _) ?_));all_goals
  go_ret2;go_tidy
  simp only[EG,ieq, *];simp[*];first|exact pl w _ _ (by simp)|exact yD w _
