import Derived.Test.YtcbmoiabehpliaaGreatDoorHPk01
import Derived.Test.YtcbmoiabehpliaaGreatDoorHPk08
import Derived.Test.YtcbmoiabehpliaaGreatDoorHPk09
import Derived.Test.YtcbmoiabehpliaaGreatDoorHPk07
import Derived.WalkSmall
import Derived.Test.YtcbmoiabehpliaaGreatDoorProg
import Derived.OrdersHeld
import Derived.Deep.RegionHeld3
import Derived.Test.YtcbmoiabehpliaaGreatDoorHPk24
set_option linter.unusedVariables false
set_option maxRecDepth 100000
set_option maxHeartbeats 6400000
namespace Go.Proofs.YtcbmoiabehpliaaGreatDoor
open Go.RowKit
structure Nb where
 N:Nd
 g:Nat
 h:Nat
def Nb.vn(x:Nb):Value:= .slice (some ⟨x.g,0,none⟩) x.N.nm.length x.N.nm.length
def Nb.vk(x:Nb):Value:= .slice (some ⟨x.h,0,none⟩) x.N.ks.length x.N.ks.length
def GH(x:Nb):List Value:=[.int .i64 x.N.k,.int .i64 x.N.f,.int .i64 x.N.t,.int .i64 x.N.l,.int .i64 x.N.op,.int .i64 x.N.n,.string x.N.x,x.vn,x.vk]
def rC(l:List Nb):List Value:=l.flatMap GH
def zc:List Value:=[.int .i64 0,.int .i64 0,.int .i64 0,.int .i64 0,.int .i64 0,.int .i64 0,.string ⟨#[]⟩,.slice none 0 0,.slice none 0 0]
theorem tW(l:List Nb):(rC l).length=l.length*9:=by
 induction l with
 |nil=>rfl
 |cons a b d=>
  have c:rC (a::b)=GH a++rC b:=by simp[rC]
  have e:(GH a).length=9:=rfl;rw[c,List.length_append,d,e,List.length_cons];omega
structure ot (W:World) (base:Nat) (x:Nb):Prop where
 on:W.ownsRow base 9 1 x.vn x.N.nm.length (x.N.nm.map Value.string)
 ok:W.ownsRow base 3 1 x.vk x.N.ks.length (x.N.ks.map (Value.int .i64))
theorem ot.below{W W':World}{base:Nat}{x:Nb}(h:ot W base x)(a:Below W.heap.size W W'):ot W' base x:=⟨ai h.on a,ai h.ok a⟩
theorem zA{W:World}{p k b f q r d c e n2 t o:Nat}{n h:List Value}(u:W.ownsRow p b q (.slice (some ⟨d,0,none⟩) e t) e n)(s:W.ownsRow k f r (.slice (some ⟨c,0,none⟩) n2 o) n2 h)(v:b≠f):d≠c:=by
 rintro rfl;rcases u.2 with⟨a,_⟩|⟨z,y,x,a,_,m,_⟩
 ·cases a
 ·cases a;rcases s.2 with⟨a,_⟩|⟨C,A,w,l,_,j,_⟩
  ·cases a
  ·cases l;have g:=m.symm.trans j;simp only[Option.some.injEq,Obj.cells.injEq]at g;exact v g.2.1
theorem ot.set{W:World}{base:Nat}{x:Nb}(h:ot W base x){a:Addr}(b:x.g≠a.block)(c:x.h≠a.block)(u:Value):ot (W.setCell a u) base x:=
 ⟨ownsRow_setCell_other h.on (by unfold Nb.vn Value.ownBlock;simp;exact b) u,ownsRow_setCell_other h.ok (by unfold Nb.vk Value.ownBlock;simp;exact c) u⟩
structure fN (W:World) (base g n:Nat) (L:List Nb) (rest:List Value):Prop where
 row:W.ownsRow base 69 9 (.slice (some ⟨g,0,none⟩) n n) n (rC L++rest)
 each:∀x∈L,ot W base x
 dn:(L.map Nb.g).Nodup
 dk:(L.map Nb.h).Nodup
theorem fN.below{W W':World}{base g n:Nat}{L:List Nb}{a:List Value}(h:fN W base g n L a)(b:Below W.heap.size W W'):fN W' base g n L a:=
 ⟨ai h.row b,fun d c=>(h.each d c).below b,h.dn,h.dk⟩
theorem fN.le{W:World}{base c g n:Nat}{L:List Nb}{b:List Value}(h:fN W base g n L b)(a:c<=base):fN W c g n L b:=
 ⟨cU h.row a,fun e d=>⟨cU (h.each e d).on a,cU (h.each e d).ok a⟩,h.dn,h.dk⟩
theorem Ev(ts:List Nb)(i j:Nat)(T:Nb)(a:ts[i]?=some T)(g:j<9):(rC ts)[i*9+j]?=(GH T)[j]?:=by
 induction ts generalizing i with
 |nil=>simp at a
 |cons b c f=>
  have e:rC (b::c)=GH b++rC c:=by simp[rC]
  have d:(GH b).length=9:=rfl;rw[e];cases i with
  |zero=>simp at a;subst a;rw[List.getElem?_append_left (by omega)];congr 1;omega
  |succ i=>
   rw[List.getElem?_append_right (by omega),d,show(i+1)*9+j-9=i*9+j by omega];exact f i (by simpa using a)
theorem lB(g m:Nat):(⟨g,0,none⟩:Addr).add m=⟨g,m,none⟩:=by unfold Addr.add;split<;>simp_all
theorem fN.nd{W:World}{base g n:Nat}{L:List Nb}(h:fN W base g n L []){i:Nat}{x:Nb}(c:L[i]?=some x):yQ W ⟨g,i*9,none⟩ x.N x.vn x.vk:=by
 have j:n*9=L.length*9:=by have:=h.row.1;rw[List.append_nil,tW]at this;omega
 have f:i<L.length:=by rcases Nat.lt_or_ge i L.length with g|g;exact g;rw[List.getElem?_eq_none g]at c;cases c
 have a:∀b,b<9->W.cell? ⟨g,i*9+b,none⟩=(GH x)[b]?:=fun b e=>by
  rw[h.row.cellAt (i*9+b) (by omega),List.append_nil,Ev L i b x c e]
 have d:=List.mem_of_getElem? c;exact⟨a 0 (by omega),a 1 (by omega),a 2 (by omega),a 3 (by omega),a 4 (by omega),a 5 (by omega),a 6 (by omega),a 7 (by omega),a 8 (by omega),tw (h.each x d).on rfl,tz (h.each x d).ok rfl⟩
theorem fN.nds{W:World}{base g n:Nat}{L:List Nb}(h:fN W base g n L []):bf W (.slice (some ⟨g,0,none⟩) n n) (L.map Nb.N):=by
 have b:n=(L.map Nb.N).length:=by have:=h.row.1;rw[List.append_nil,tW]at this;rw[List.length_map];omega
 refine .inr ⟨⟨g,0,none⟩,n,by rw[<-b],fun i N a=>?_⟩;rw[List.getElem?_map]at a;cases hx:L[i]? with
 |none=>rw[hx]at a;cases a
 |some c=>
  rw[hx]at a;obtain rfl:=Option.some.inj a;rw[lB];exact⟨_,_,h.nd hx⟩
structure Mb where
 N:Nd
 vn:Value
 vk:Value
def zB(x:Mb):List Value:=[.int .i64 x.N.k,.int .i64 x.N.f,.int .i64 x.N.t,.int .i64 x.N.l,.int .i64 x.N.op,.int .i64 x.N.n,.string x.N.x,x.vn,x.vk]
def cQ(l:List Mb):List Value:=l.flatMap zB
theorem iO(a:Mb)(r:List Mb):cQ (a::r)=zB a++cQ r:=by simp[cQ]
theorem iv(a b:List Mb):cQ (a++b)=cQ a++cQ b:=by simp[cQ]
theorem ou(l:List Mb):(cQ l).length=l.length*9:=by
 induction l with
 |nil=>rfl
 |cons c d b=>
  have a:(zB c).length=9:=rfl;rw[iO,List.length_append,b,a,List.length_cons];omega
theorem mU(ts:List Mb)(i j:Nat)(T:Mb)(a:ts[i]?=some T)(f:j<9):(cQ ts)[i*9+j]?=(zB T)[j]?:=by
 induction ts generalizing i with
 |nil=>simp at a
 |cons c e d=>
  have b:(zB c).length=9:=rfl;rw[iO];cases i with
  |zero=>simp at a;subst a;rw[List.getElem?_append_left (by omega)];congr 1;omega
  |succ i=>
   rw[List.getElem?_append_right (by omega),b,show(i+1)*9+j-9=i*9+j by omega];exact d i (by simpa using a)
def oy(b:List Value):Prop:=∀(i d:Nat)(a c:Value),i≠d->b[i]?=some a->b[d]?=some c->a.ownBlock=none\/a.ownBlock≠c.ownBlock
structure iw (W:World) (lo hi:Nat) (x:Mb):Prop where
 on:W.ownsRow lo 9 1 x.vn x.N.nm.length (x.N.nm.map Value.string)
 ok:W.ownsRow lo 3 1 x.vk x.N.ks.length (x.N.ks.map (Value.int .i64))
 hn:∀g,x.vn.ownBlock=some g->g<hi
 hk:∀g,x.vk.ownBlock=some g->g<hi
structure bY (W:World) (lo hi:Nat) (v:Value) (L:List Mb):Prop where
 row:W.ownsRow lo 69 9 v L.length (cQ L)
 hh:∀g,v.ownBlock=some g->g<hi
 each:∀x∈L,iw W lo hi x
 dn:oy (L.map Mb.vn)
 dk:oy (L.map Mb.vk)
theorem iw.below{W W':World}{lo b:Nat}{x:Mb}(h:iw W lo b x)(a:Below W.heap.size W W'):iw W' lo b x:=⟨ai h.on a,ai h.ok a,h.hn,h.hk⟩
theorem bY.below{W W':World}{lo a:Nat}{v:Value}{L:List Mb}(h:bY W lo a v L)(b:Below W.heap.size W W'):bY W' lo a v L:=
 ⟨ai h.row b,h.hh,fun d c=>(h.each d c).below b,h.dn,h.dk⟩
structure mV (lo hi:Nat) (w w':World):Prop where
 os:w'.os=w.os
 tape:w'.tape=w.tape
 output:w'.output=w.output
 size:w.heap.size<=w'.heap.size
 block:∀k,k<w.heap.size->(k<lo\/hi<=k)->w'.heap[k]?=w.heap[k]?
theorem mV.refl(lo a:Nat)(w:World):mV lo a w w:=⟨rfl,rfl,rfl,Nat.le_refl _,fun _ _ _=>rfl⟩
theorem mV.trans{lo a:Nat}{x c z:World}(h:mV lo a x c)(k:mV lo a c z):mV lo a x z:=
 ⟨k.os.trans h.os,k.tape.trans h.tape,k.output.trans h.output,Nat.le_trans h.size k.size,fun i a b=>(k.block i (Nat.lt_of_lt_of_le a h.size) b).trans (h.block i a b)⟩
theorem mV.of_grown{lo c:Nat}{w b:World}{row:Option Nat}(h:w.grownBy b row)(d:∀g,row=some g->lo<=g/\g<c):mV lo c w b:=
 ⟨h.os,h.tape,h.output,h.size,fun a e j=>h.block a e (fun f=>by have:=d a f.symm;omega)⟩
theorem mV.kept{lo g:Nat}{w d:World}(h:mV lo g w d){base e size n:Nat}{v:Value}{b:List Value}(o:w.ownsRow base e size v n b)(r:g<=base):d.ownsRow base e size v n b:=by
 obtain⟨q,a⟩:=o;refine⟨q,?_⟩;rcases a with a|⟨f,p,l,j,k,c,m⟩
 ·exact .inl a
 ·exact .inr ⟨f,p,l,j,k,(h.block f (lt_of_block c) (.inr (by omega))).trans c,m⟩
theorem mV.bel{lo f base:Nat}{b w d:World}(h:mV lo f w d)(a:Below base b w)(j:base<=lo)(g:base<=w.heap.size):Below base b d:=
 ⟨h.os.trans a.os,h.tape.trans a.tape,h.output.trans a.output,Nat.le_trans a.size h.size,fun c e=>(h.block c (by omega) (.inl (by omega))).trans (a.block c e)⟩
theorem lC{W:World}{base:Nat}{v:Value}{l:List ByteArray}(h:W.ownsRow base 9 1 v l.length (l.map Value.string)):aH W v l:=by
 rcases ay h with⟨a,rfl⟩|⟨b,c,rfl⟩
 ·exact .inl ⟨List.eq_nil_of_length_eq_zero a,_,_,rfl⟩
 ·exact tw h rfl
theorem ga{W:World}{base:Nat}{v:Value}{l:List Int}(h:W.ownsRow base 3 1 v l.length (l.map (Value.int .i64))):aV W v l:=by
 rcases ay h with⟨a,rfl⟩|⟨b,c,rfl⟩
 ·exact .inl ⟨List.eq_nil_of_length_eq_zero a,_,_,rfl⟩
 ·exact tz h rfl
theorem gc{W:World}{lo g n cap:Nat}{L:List Mb}(h:W.ownsRow lo 69 9 (.slice (some ⟨g,0,none⟩) n cap) n (cQ L)){i:Nat}{x:Mb}(c:L[i]?=some x):
  W.cell? ⟨g,i*9,none⟩=some (.int .i64 x.N.k)/\W.cell? ⟨g,i*9+1,none⟩=some (.int .i64 x.N.f)/\W.cell? ⟨g,i*9+2,none⟩=some (.int .i64 x.N.t)/\W.cell? ⟨g,i*9+3,none⟩=some (.int .i64 x.N.l)/\W.cell? ⟨g,i*9+4,none⟩=some (.int .i64 x.N.op)/\W.cell? ⟨g,i*9+5,none⟩=some (.int .i64 x.N.n)/\W.cell? ⟨g,i*9+6,none⟩=some (.string x.N.x)/\W.cell? ⟨g,i*9+7,none⟩=some x.vn/\W.cell? ⟨g,i*9+8,none⟩=some x.vk:=by
 have j:n*9=L.length*9:=by have:=h.1;rw[ou]at this;omega
 have e:i<L.length:=by rcases Nat.lt_or_ge i L.length with g|g;exact g;rw[List.getElem?_eq_none g]at c;cases c
 have a:∀b,b<9->W.cell? ⟨g,i*9+b,none⟩=(zB x)[b]?:=fun b d=>by
  rw[h.cellAt (i*9+b) (by omega),mU L i b x c d]
 exact⟨a 0 (by omega),a 1 (by omega),a 2 (by omega),a 3 (by omega),a 4 (by omega),a 5 (by omega),a 6 (by omega),a 7 (by omega),a 8 (by omega)⟩
theorem bY.nds{W:World}{lo n:Nat}{v:Value}{L:List Mb}(h:bY W lo n v L):bf W v (L.map Mb.N):=by
 rcases ay h.row with⟨l,rfl⟩|⟨k,f,rfl⟩
 ·exact .inl ⟨by rw[List.eq_nil_of_length_eq_zero l];rfl,_,_,rfl⟩
 ·refine .inr ⟨⟨k,0,none⟩,f,by rw[List.length_map],fun i N a=>?_⟩;rw[List.getElem?_map]at a;cases hx:L[i]? with
  |none=>rw[hx]at a;cases a
  |some b=>
   rw[hx]at a;obtain rfl:=Option.some.inj a;rw[lB];obtain⟨j,o,g,d,p,q,e,r,m⟩:=gc h.row hx;have c:=h.each b (List.mem_of_getElem? hx);exact⟨b.vn,b.vk,j,o,g,d,p,q,e,r,m,lC c.on,ga c.ok⟩
def tX(K:Nat)(N:Nd):Nd:=⟨(K:Nat),(K+1:Nat),(K+2:Nat),(K+3:Nat),(K+4:Nat),(K+5:Nat),vy (K+6),mks (K+7) N.nm.length,py (K+7+N.nm.length) N.ks.length⟩
def vz(K:Nat)(N:Nd):Nat:=K+7+N.nm.length+N.ks.length
def cnt:Nat->List Nd->Nat
 |K,[]=>K
 |K,N::r=>cnt (vz K N) r
def mkNs:Nat->List Nd->List Nd
 |_,[]=>[]
 |K,N::r=>tX K N::mkNs (vz K N) r
def dz:Nat->List Mb->List Mb
 |_,[]=>[]
 |K,x::r=>⟨tX K x.N,x.vn,x.vk⟩::dz (vz K x.N) r
theorem GI(L:List Mb):∀K,(dz K L).map Mb.N=mkNs K (L.map Mb.N):=by
 induction L with
 |nil=>intro K;rfl
 |cons c b a=>intro K;simp[dz,mkNs,a]
theorem Ew(L:List Mb):∀K,(dz K L).map Mb.vn=L.map Mb.vn:=by
 induction L with
 |nil=>intro K;rfl
 |cons c b a=>intro K;simp[dz,a]
theorem BF(L:List Mb)(K:Nat):(dz K L).length=L.length:=by have:=congrArg List.length (Ew L K);simpa using this
theorem BG(x:Mb)(L:List Mb):∀K,dz K (L++[x])=dz K L++[⟨tX (cnt K (L.map Mb.N)) x.N,x.vn,x.vk⟩]:=by
 induction L with
 |nil=>intro K;rfl
 |cons c b a=>intro K;simp[dz,cnt,a]
theorem xV(N:Nd)(L:List Nd):∀K,cnt K (L++[N])=vz (cnt K L) N:=by
 induction L with
 |nil=>intro K;rfl
 |cons c b a=>intro K;simp[cnt,a]
theorem GJ(L:List Nd):∀K,K<=cnt K L:=by
 induction L with
 |nil=>intro K;exact Nat.le_refl _
 |cons b c a=>intro K;exact Nat.le_trans (by unfold vz;omega) (a (vz K b))
theorem tY(a B:List Nd):∀K,cnt K (a++B)=cnt (cnt K a) B:=by
 induction a with
 |nil=>intro K;rfl
 |cons d c b=>intro K;simp[cnt,b]
theorem tZ(L:List Nd)(K k:Nat):cnt K (L.take k)<=cnt K L:=by
 have a:=tY (L.take k) (L.drop k) K;rw[List.take_append_drop]at a;rw[a];exact GJ _ _
theorem BH(L:List Nd):∀K,(mkNs K L).length=L.length:=by
 induction L with
 |nil=>intro K;rfl
 |cons c b a=>intro K;simp[mkNs,a]
theorem Ey(L:List Nd):∀(K i:Nat)(N:Nd),L[i]?=some N->(mkNs K L)[i]?=some (tX (cnt K (L.take i)) N):=by
 induction L with
 |nil=>intro K i N a;simp at a
 |cons c d b=>
  intro K i N a;cases i with
  |zero=>simp at a;subst a;rfl
  |succ i=>simp at a;simpa [mkNs,cnt] using b (vz K c) i N a
theorem J1(b R:List Value)(m:Nat)(t:b.length=m)(s u r v w x q o g k l h j p f n:Value):
  (((((((b++([s,u,r,v,w,x,q,f,n]++R)).set m o).set (m+1) g).set (m+2) k).set (m+3) l).set (m+4) h).set (m+5) j).set (m+6) p=b++([o,g,k,l,h,j,p,f,n]++R):=by
 subst t;have a:∀(c:List Value)(e:Nat)(d:Value),(b++c).set (b.length+e) d=b++c.set e d:=fun c e d=>by
  rw[List.set_append_right _ _ (by omega)];congr 2;omega
 have s0:=fun c d=>a c 0 d;simp only[Nat.add_zero]at s0;rw[s0,a,a,a,a,a,a];rfl
theorem cy{W:World}{n l b c o p h n2:Nat}{a d:Value}{m g:List Value}(f:W.ownsRow n b o a h m)(e:W.ownsRow l c p d n2 g)(q:b≠c):a.ownBlock=none\/a.ownBlock≠d.ownBlock:=by
 rcases ay f with⟨j,rfl⟩|⟨s,u,rfl⟩
 ·exact .inl rfl
 ·rcases ay e with⟨j,rfl⟩|⟨r,t,rfl⟩
  ·exact .inr (by simp[Value.ownBlock])
  ·exact .inr fun k=>zA f e q (by simpa [Value.ownBlock] using k)
end Go.Proofs.YtcbmoiabehpliaaGreatDoor
namespace Go.Proofs.YtcbmoiabehpliaaGreatDoor
inductive Fo where
 |nil:Fo
 |cons:Nd->Fo->Fo->Fo
def Fo.sz:Fo->Nat
 | .nil=>0
 | .cons _ k r=>k.sz+1+r.sz
def Fo.len:Fo->Nat
 | .nil=>0
 | .cons _ _ r=>r.len+1
def Fo.tops:Fo->Nat->List Int
 | .nil,_=>[]
 | .cons _ k r,b=>((b+k.sz:Nat):Int)::r.tops (b+k.sz+1)
def Fo.flat:Fo->Nat->List Nd
 | .nil,_=>[]
 | .cons N k r,b=>k.flat b++({N with ks:=k.tops b}::r.flat (b+k.sz+1))
def Fo.app:Fo->Fo->Fo
 | .nil,c=>c
 | .cons N k r,c=> .cons N k (r.app c)
def one(N:Nd)(k:Fo):Fo:= .cons N k .nil
theorem Fo.app_nil:∀(a:Fo),a.app .nil=a
 | .nil=>rfl
 | .cons N k r=>by rw[Fo.app,r.app_nil]
theorem Fo.app_app:∀(a b c:Fo),(a.app b).app c=a.app (b.app c)
 | .nil,_,_=>rfl
 | .cons N k r,b,c=>by simp only[Fo.app];rw[r.app_app b c]
theorem Fo.sz_app:∀(a c:Fo),(a.app c).sz=a.sz+c.sz
 | .nil,c=>by simp[Fo.app,Fo.sz]
 | .cons N k r,c=>by simp only[Fo.app,Fo.sz,r.sz_app c];omega
theorem Fo.len_app:∀(a c:Fo),(a.app c).len=a.len+c.len
 | .nil,c=>by simp[Fo.app,Fo.len]
 | .cons N k r,c=>by simp only[Fo.app,Fo.len,r.len_app c];omega
theorem Fo.tops_app:∀(a c:Fo)(b:Nat),(a.app c).tops b=a.tops b++c.tops (b+a.sz)
 | .nil,c,b=>by simp[Fo.app,Fo.sz,Fo.tops]
 | .cons N k r,c,b=>by simp only[Fo.app,Fo.tops,Fo.sz,r.tops_app c,List.cons_append];rw[show b+k.sz+1+r.sz=b+(k.sz+1+r.sz) by omega]
theorem Fo.flat_app:∀(a c:Fo)(b:Nat),(a.app c).flat b=a.flat b++c.flat (b+a.sz)
 | .nil,c,b=>by simp[Fo.app,Fo.sz,Fo.flat]
 | .cons N k r,c,b=>by simp only[Fo.app,Fo.flat,Fo.sz,r.flat_app c,List.cons_append,List.append_assoc];rw[show b+k.sz+1+r.sz=b+(k.sz+1+r.sz) by omega]
theorem Fo.flat_len:∀(a:Fo)(b:Nat),(a.flat b).length=a.sz
 | .nil,_=>rfl
 | .cons N k r,b=>by simp only[Fo.flat,Fo.sz,List.length_append,List.length_cons,k.flat_len,r.flat_len];omega
theorem Fo.tops_len:∀(a:Fo)(b:Nat),(a.tops b).length=a.len
 | .nil,_=>rfl
 | .cons N k r,b=>by simp only[Fo.tops,Fo.len,List.length_cons,r.tops_len]
theorem ag(N:Nd)(k:Fo):(one N k).sz=k.sz+1:=rfl
theorem kG(N:Nd)(k:Fo)(b:Nat):(one N k).tops b=[((b+k.sz:Nat):Int)]:=rfl
theorem ua(N:Nd)(k:Fo)(b:Nat):(one N k).flat b=k.flat b++[{N with ks:=k.tops b}]:=rfl
theorem Fo.len_le:∀(a:Fo),a.len<=a.sz
 | .nil=>Nat.le_refl _
 | .cons N k r=>by have:=r.len_le;simp only[Fo.len,Fo.sz];omega
def z0:ByteArray:=⟨#[]⟩
def nd(k:Int)(s:Tk)(e a n:Int)(x:ByteArray)(b:List ByteArray):Nd:=⟨k,s.f,e,s.l,a,n,x,b,[]⟩
def bH(k:Int)(s:Tk)(e:Int):Nd:=nd k s e 0 0 z0 []
def gV(k:Int)(s:Tk)(e:Int):Nd:=if k=10 then bH 28 s e else if k=26 then bH 29 s e else nd 31 s e (k-60) 0 z0 []
def Ez(k:Int):Int:=if k=25 then 21 else if k=50 then 22 else if k=69 then 20 else 19
def sH(k:Int):Int:=if k=26 then 1 else if k=10 then 2 else if 73<=k then 3 else if k=72 then 4 else if k=68 then 5 else if k=69 then 6 else if k=67 then 7 else if k=70\/k=71 then 8 else if k=61\/k=62 then 9 else 10
def FL(k:Int):Int:=if k=72 then 4 else sH k+1
def wj(k:Int):Bool:=decide (k=48\/k=44\/k=40)
def dE(N:Nd)(ks:Fo)(s:Tk)(e:Int):Fo:=if N.k=34\/N.k=27 then one (bH 37 s e) (one N ks) else one N ks
inductive rD (tk:Nat->Tk) (n:Nat):Nat->List ByteArray->Nat->Prop where
 |stop {k:Nat}:(tk k).k≠46->k<n->rD tk n k [] k
 |go {k j:Nat}{ns:List ByteArray}:(tk k).k=46->k+1<n->(tk (k+1)).k=1->rD tk n (k+2) ns j->rD tk n k ((tk (k+1)).x::ns) j
inductive xW (tk:Nat->Tk) (n:Nat):Nat->List ByteArray->Bool->Nat->Prop where
 |close {k:Nat}:(tk k).k=41->k+1<n->xW tk n k [] false (k+1)
 |rest {k:Nat}:(tk k).k=49->(tk (k+1)).k=41->k+2<n->xW tk n k [] true (k+2)
 |last {k:Nat}:(tk k).k=1->(tk (k+1)).k=41->k+2<n->xW tk n k [(tk k).x] false (k+2)
 |go {k j:Nat}{ns:List ByteArray}{r:Bool}:(tk k).k=1->(tk (k+1)).k=46->k+2<n->xW tk n (k+2) ns r j->xW tk n k ((tk k).x::ns) r j
inductive kW where
 |unit:kW
 |expr:Int->kW
 |more:Int->Tk->Fo->kW
 |base:kW
 |post:Tk->Fo->kW
 |exprs:kW
 |moreE:kW
 |moreB:kW
 |stat:kW
 |stats:kW
 |block:kW
 |body:Tk->kW
 |entry:kW
 |entries:kW
 |branch:kW
inductive P (tk:Nat->Tk) (n:Nat):kW->Nat->Fo->Nat->Prop where
 |upre {i j:Nat}{x:Fo}:dM (tk i).k=true->i<n->P tk n .unit (i+1) x j->P tk n .unit i (one (nd 30 (tk i) (tk (j-1)).t (Ez (tk i).k) 0 z0 []) x) j
 |uint {i:Nat}:(tk i).k=2->i+1<n->P tk n .unit i (one (nd 23 (tk i) (tk i).t 0 (tk i).n z0 []) .nil) (i+1)
 |uflt {i:Nat}:(tk i).k=3->i+1<n->P tk n .unit i (one (nd 24 (tk i) (tk i).t 0 0 (tk i).x []) .nil) (i+1)
 |ustr {i:Nat}:(tk i).k=4->i+1<n->P tk n .unit i (one (nd 25 (tk i) (tk i).t 0 0 (tk i).x []) .nil) (i+1)
 |unil {i:Nat}:(tk i).k=24->i+1<n->P tk n .unit i (one (bH 20 (tk i) (tk i).t) .nil) (i+1)
 |utru {i:Nat}:(tk i).k=29->i+1<n->P tk n .unit i (one (bH 21 (tk i) (tk i).t) .nil) (i+1)
 |ufls {i:Nat}:(tk i).k=17->i+1<n->P tk n .unit i (one (bH 22 (tk i) (tk i).t) .nil) (i+1)
 |urst {i:Nat}:(tk i).k=49->i+1<n->P tk n .unit i (one (bH 27 (tk i) (tk i).t) .nil) (i+1)
 |ufn {i j:Nat}{R:Fo}:(tk i).k=18->i<n->P tk n (.body (tk i)) (i+1) R j->P tk n .unit i R j
 |utab {i j:Nat}{E:Fo}:(tk i).k=42->i<n->P tk n .entries (i+1) E j->(tk j).k=43->j+1<n->P tk n .unit i (one (bH 35 (tk i) (tk j).t) E) (j+1)
 |ubas {i j:Nat}{R:Fo}:(tk i).k=1\/(tk i).k=40->i<n->P tk n .base i R j->P tk n .unit i R j
 |ex {p:Int}{i k j:Nat}{x R:Fo}:(tk i).k≠6->i<n->P tk n .unit i x k->P tk n (.more p (tk i) x) k R j->P tk n (.expr p) i R j
 |mstop {p:Int}{s:Tk}{x:Fo}{k:Nat}:k<n->(cu (tk k).k=true->sH (tk k).k<p)->P tk n (.more p s x) k x k
 |mgo {p:Int}{s:Tk}{x y R:Fo}{k k1 j:Nat}:k<n->cu (tk k).k=true->p<=sH (tk k).k->P tk n (.expr (FL (tk k).k)) (k+1) y k1->P tk n (.more p s (one (gV (tk k).k s (tk (k1-1)).t) (x.app y))) k1 R j->P tk n (.more p s x) k R j
 |bname {i j:Nat}{R:Fo}:(tk i).k=1->i<n->P tk n (.post (tk i) (one (nd 26 (tk i) (tk i).t 0 0 (tk i).x []) .nil)) (i+1) R j->P tk n .base i R j
 |bopen {i k j:Nat}{N:Nd}{ks R:Fo}:(tk i).k=40->i<n->P tk n (.expr 0) (i+1) (one N ks) k->(tk k).k=41->k<n->P tk n (.post (tk i) (dE N ks (tk i) (tk k).t)) (k+1) R j->P tk n .base i R j
 |pstop {s:Tk}{B:Fo}{k:Nat}:k<n->wj (tk k).k=false->P tk n (.post s B) k B k
 |pdot {s:Tk}{B R:Fo}{k j:Nat}:(tk k).k=48->(tk (k+1)).k=1->k+1<n->P tk n (.post s (one (nd 33 s (tk (k+1)).t 0 0 (tk (k+1)).x []) B)) (k+2) R j->P tk n (.post s B) k R j
 |psq {s:Tk}{B Y R:Fo}{k k1 j:Nat}:(tk k).k=44->k<n->P tk n (.expr 0) (k+1) Y k1->(tk k1).k=45->k1<n->P tk n (.post s (one (bH 32 s (tk k1).t) (B.app Y))) (k1+1) R j->P tk n (.post s B) k R j
 |pcall0 {s:Tk}{B R:Fo}{k j:Nat}:(tk k).k=40->(tk (k+1)).k=41->k+1<n->P tk n (.post s (one (bH 34 s (tk (k+1)).t) B)) (k+2) R j->P tk n (.post s B) k R j
 |pcall {s:Tk}{B Y R:Fo}{k k1 j:Nat}:(tk k).k=40->k+1<n->(tk (k+1)).k≠41->P tk n .exprs (k+1) Y k1->(tk k1).k=41->k1<n->P tk n (.post s (one (bH 34 s (tk k1).t) (B.app Y))) (k1+1) R j->P tk n (.post s B) k R j
 |es {i k j:Nat}{x R:Fo}:P tk n (.expr 0) i x k->P tk n .moreE k R j->P tk n .exprs i (x.app R) j
 |estop {k:Nat}:(tk k).k≠46->k<n->P tk n .moreE k .nil k
 |ego {k k1 j:Nat}{x R:Fo}:(tk k).k=46->k<n->P tk n (.expr 0) (k+1) x k1->P tk n .moreE k1 R j->P tk n .moreE k (x.app R) j
 |bstop {k:Nat}:(tk k).k≠46->k<n->P tk n .moreB k .nil k
 |bgo {k k1 j:Nat}{x R:Fo}:(tk k).k=46->k<n->P tk n .base (k+1) x k1->P tk n .moreB k1 R j->P tk n .moreB k (x.app R) j
 |body {i k j:Nat}{s:Tk}{nm:List ByteArray}{r:Bool}{B:Fo}:(tk i).k=40->i<n->xW tk n (i+1) nm r k->P tk n .block k B j->P tk n (.body s) i (one (nd 36 s (tk (j-1)).t (if r=true then 1 else 0) 0 z0 nm) B) j
 |block {i k:Nat}{S:Fo}:(tk i).k=42->i<n->P tk n .stats (i+1) S k->(tk k).k=43->k+1<n->P tk n .block i (one (bH 1 (tk i) (tk k).t) S) (k+1)
 |sstop {k:Nat}:(tk k).k=43\/(tk k).k=6->k<n->P tk n .stats k .nil k
 |ssep {k j:Nat}{R:Fo}:(tk k).k=5->k<n->P tk n .stats (k+1) R j->P tk n .stats k R j
 |sgo {k k1 j:Nat}{x R:Fo}:(tk k).k≠5->(tk k).k≠6->(tk k).k≠43->k<n->P tk n .stat k x k1->P tk n .stats k1 R j->P tk n .stats k (x.app R) j
 |nstop {k:Nat}:(tk k).k=43->k<n->P tk n .entries k .nil k
 |ncom {k k1 j:Nat}{x R:Fo}:(tk k).k≠43->k<n->P tk n .entry k x k1->(tk k1).k=46->k1<n->P tk n .entries (k1+1) R j->P tk n .entries k (x.app R) j
 |nlast {k k1 j:Nat}{x R:Fo}:(tk k).k≠43->k<n->P tk n .entry k x k1->(tk k1).k≠46->k1<n->P tk n .entries k1 R j->P tk n .entries k (x.app R) j
 |item {i j:Nat}{x:Fo}:(tk i).k≠48->(tk i).k≠44->(tk i).k≠6->i<n->P tk n (.expr 0) i x j->P tk n .entry i (one (bH 40 (tk i) (tk (j-1)).t) x) j
 |pair {i k j:Nat}{x y:Fo}:(tk i).k=44->i<n->P tk n (.expr 0) (i+1) x k->(tk k).k=45->(tk (k+1)).k=47->k+1<n->P tk n (.expr 0) (k+2) y j->P tk n .entry i (one (bH 41 (tk i) (tk (j-1)).t) (x.app y)) j
 |named {i j:Nat}{y:Fo}:(tk i).k=48->(tk (i+1)).k=1->(tk (i+2)).k=47->i+2<n->P tk n (.expr 0) (i+3) y j->P tk n .entry i (one (nd 42 (tk i) (tk (j-1)).t 0 0 (tk (i+1)).x []) y) j
 |belif {i k k1 j:Nat}{x b z:Fo}:(tk i).k=20\/(tk i).k=15->i<n->P tk n (.expr 0) (i+1) x k->P tk n .block k b k1->(tk k1).k=15->k1<n->P tk n .branch k1 z j->P tk n .branch i (one (bH 7 (tk i) (tk (j-1)).t) ((x.app b).app z)) j
 |belse {i k k1 j:Nat}{x b z:Fo}:(tk i).k=20\/(tk i).k=15->i<n->P tk n (.expr 0) (i+1) x k->P tk n .block k b k1->(tk k1).k=16->k1<n->P tk n .block (k1+1) z j->P tk n .branch i (one (bH 7 (tk i) (tk (j-1)).t) ((x.app b).app z)) j
 |bno {i k k1:Nat}{x b:Fo}:(tk i).k=20\/(tk i).k=15->i<n->P tk n (.expr 0) (i+1) x k->P tk n .block k b k1->(tk k1).k≠15->(tk k1).k≠16->k1<n->P tk n .branch i (one (bH 7 (tk i) (tk (k1-1)).t) (x.app b)) k1
 |tlet0 {i k:Nat}{ns:List ByteArray}:(tk i).k=22->i+1<n->(tk (i+1)).k=1->rD tk n (i+2) ns k->(tk k).k≠47->P tk n .stat i (one (nd 2 (tk i) (tk (k-1)).t 0 0 z0 ((tk (i+1)).x::ns)) .nil) k
 |tlet {i k j:Nat}{ns:List ByteArray}{E:Fo}:(tk i).k=22->i+1<n->(tk (i+1)).k=1->rD tk n (i+2) ns k->(tk k).k=47->P tk n .exprs (k+1) E j->P tk n .stat i (one (nd 2 (tk i) (tk (j-1)).t 0 0 z0 ((tk (i+1)).x::ns)) E) j
 |tcon {i j:Nat}{x:Fo}:(tk i).k=13->(tk (i+1)).k=1->(tk (i+2)).k=47->i+2<n->P tk n (.expr 0) (i+3) x j->P tk n .stat i (one (nd 3 (tk i) (tk (j-1)).t 0 0 z0 [(tk (i+1)).x]) x) j
 |tfn {i j:Nat}{B:Fo}:(tk i).k=18->(tk (i+1)).k=1->(tk (i+2)).k=40->i+2<n->P tk n (.body (tk (i+2))) (i+2) B j->P tk n .stat i (one (nd 4 (tk i) (tk (j-1)).t 0 0 z0 [(tk (i+1)).x]) B) j
 |tif {i j:Nat}{R:Fo}:(tk i).k=20->i<n->P tk n .branch i R j->P tk n .stat i R j
 |twhile {i k j:Nat}{x b:Fo}:(tk i).k=31->i<n->P tk n (.expr 0) (i+1) x k->P tk n .block k b j->P tk n .stat i (one (bH 8 (tk i) (tk (j-1)).t) (x.app b)) j
 |tfor {i k k1 j:Nat}{ns:List ByteArray}{E b:Fo}:(tk i).k=19->i+1<n->(tk (i+1)).k=1->rD tk n (i+2) ns k->(tk k).k=47->P tk n .exprs (k+1) E k1->P tk n .block k1 b j->P tk n .stat i (one (nd 9 (tk i) (tk (j-1)).t 0 0 z0 ((tk (i+1)).x::ns)) (E.app b)) j
 |teach {i k k1 j:Nat}{ns:List ByteArray}{x b:Fo}:(tk i).k=19->i+1<n->(tk (i+1)).k=1->rD tk n (i+2) ns k->(tk k).k=21->P tk n (.expr 0) (k+1) x k1->(tk k1).k=42->k1<n->P tk n .block k1 b j->P tk n .stat i (one (nd 10 (tk i) (tk (j-1)).t 0 0 z0 ((tk (i+1)).x::ns)) (x.app b)) j
 |tbreak {i:Nat}:(tk i).k=11->i+1<n->P tk n .stat i (one (bH 11 (tk i) (tk i).t) .nil) (i+1)
 |tnext {i:Nat}:(tk i).k=23->i+1<n->P tk n .stat i (one (bH 12 (tk i) (tk i).t) .nil) (i+1)
 |tret0 {i:Nat}:(tk i).k=27->i+1<n->(tk (i+1)).k=5\/(tk (i+1)).k=6\/(tk (i+1)).k=43->P tk n .stat i (one (bH 13 (tk i) (tk i).t) .nil) (i+1)
 |tret {i j:Nat}{E:Fo}:(tk i).k=27->i+1<n->aZ (tk (i+1)).k=true->P tk n .exprs (i+1) E j->P tk n .stat i (one (bH 13 (tk i) (tk (j-1)).t) E) j
 |ttry {i k k1 j:Nat}{ns:List ByteArray}{a b:Fo}:(tk i).k=30->i<n->P tk n .block (i+1) a k->(tk k).k=12->k+1<n->(tk (k+1)).k=1->rD tk n (k+2) ns k1->P tk n .block k1 b j->P tk n .stat i (one (nd 14 (tk i) (tk (j-1)).t 0 0 z0 ((tk (k+1)).x::ns)) (a.app b)) j
 |tthrow {i j:Nat}{x:Fo}:(tk i).k=28->i<n->P tk n (.expr 0) (i+1) x j->P tk n .stat i (one (bH 15 (tk i) (tk (j-1)).t) x) j
 |tdefer {i j:Nat}{x:Fo}:(tk i).k=14->i<n->P tk n .base (i+1) x j->P tk n .stat i (one (bH 16 (tk i) (tk (j-1)).t) x) j
 |tblock {i j:Nat}{R:Fo}:(tk i).k=42->i<n->P tk n .block i R j->P tk n .stat i R j
 |tdo {i j:Nat}{x:Fo}:(tk i).k=1\/(tk i).k=40->i<n->P tk n .base i x j->(tk j).k≠46->(tk j).k≠47->j<n->P tk n .stat i (one (bH 6 (tk i) (tk (j-1)).t) x) j
 |tset {i k k1 j:Nat}{x R E:Fo}:(tk i).k=1\/(tk i).k=40->i<n->P tk n .base i x k->P tk n .moreB k R k1->(tk k1).k=47->k1<n->P tk n .exprs (k1+1) E j->P tk n .stat i (one (nd 5 (tk i) (tk (j-1)).t 0 ((x.app R).len:Nat) z0 []) ((x.app R).app E)) j
end Go.Proofs.YtcbmoiabehpliaaGreatDoor
namespace Go.Proofs.YtcbmoiabehpliaaGreatDoor
open Go.RowKit
theorem pO(a:Int)(w:World)(l:List ByteArray)(K:Nat)(base:Nat)(v:Value)(f:a=(K:Int))(d:0<K)(c:K+l.length<=50000000)(o:w.ownsRow base 9 1 v l.length (l.map Value.string)):
  Calls Tryz.prog 76 #[v,.int .i64 a] w fun e b=>e= .returned (.int .i64 (K+l.length:Nat))/\b.ownsRow base 9 1 v l.length ((mks K l.length).map Value.string)/\w.grownBy b v.ownBlock:=by
 subst f;exact mF w l K base v d c o
theorem wl(a:Int)(w:World)(l:List Int)(K:Nat)(base:Nat)(v:Value)(f:a=(K:Int))(d:0<K)(c:K+l.length<=50000000)(o:w.ownsRow base 3 1 v l.length (l.map (Value.int .i64))):
  Calls Tryz.prog 77 #[v,.int .i64 a] w fun e b=>e= .returned (.int .i64 (K+l.length:Nat))/\b.ownsRow base 3 1 v l.length ((py K l.length).map (Value.int .i64))/\w.grownBy b v.ownBlock:=by
 subst f;exact qX w l K base v d c o
theorem pP(a:Int)(w:World)(v:Value)(K n:Nat)(f:a=(K:Int))(d:0<K)(b:K+n<=50000000)(h:aH w v (mks K n)):
  Calls Tryz.prog 78 #[v,.int .i64 a] w fun e c=>e= .returned (.int .i64 (K+n:Nat))/\Below w.heap.size w c:=by
 subst f;exact mG w v K n d b h
theorem wm(a:Int)(w:World)(v:Value)(K n:Nat)(f:a=(K:Int))(d:0<K)(b:K+n<=50000000)(h:aV w v (py K n)):
  Calls Tryz.prog 79 #[v,.int .i64 a] w fun e c=>e= .returned (.int .i64 (K+n:Nat))/\c=w:=by
 subst f;exact qY w v K n d b h
theorem EA{α:Type}{L:List α}{k:Nat}{x:α}(h:L[k]?=some x):L.drop k=x::L.drop (k+1):=by
 have a:=(List.getElem?_eq_some_iff.1 h);rw[List.drop_eq_getElem_cons a.1,a.2]
theorem xX{α:Type}{L:List α}{k:Nat}{x:α}(h:L[k]?=some x):L.take (k+1)=L.take k++[x]:=by
 rw[List.take_add_one,h];rfl
theorem GK(X:List Value)(m:Nat)(b c d e a f:Value)(j:Nat)(g:6<=j):((((((X.set m b).set (m+1) c).set (m+2) d).set (m+3) e).set (m+4) a).set (m+5) f)[m+j]?=X[m+j]?:=by
 rw[List.getElem?_set_ne (by omega),List.getElem?_set_ne (by omega),List.getElem?_set_ne (by omega),List.getElem?_set_ne (by omega),List.getElem?_set_ne (by omega),List.getElem?_set_ne (by omega)]
theorem bY.put{w c:World}{lo d g n cap:Nat}{a B:List Mb}{x b:Mb}{k:Nat}(p:a.length=k)(h:bY w lo d (.slice (some ⟨g,0,none⟩) n cap) (a++x::B))(f:c.ownsRow lo 69 9 (.slice (some ⟨g,0,none⟩) n cap) n (cQ (a++b::B)))
  (l:n=(a++x::B).length) (m:iw c lo d b) (j:b.vn=x.vn) (o:b.vk=x.vk) (e:∀z,z∈a\/z∈B->iw c lo d z):bY c lo d (.slice (some ⟨g,0,none⟩) n cap) (a++b::B):=by
 refine⟨?_,h.hh,?_,?_,?_⟩
 ·rw[show(a++b::B).length=n by rw[l];simp];exact f
 ·intro z hz;rcases List.mem_append.1 hz with hz|hz
  ·exact e z (.inl hz)
  ·rcases List.mem_cons.1 hz with rfl|hz
   ·exact m
   ·exact e z (.inr hz)
 ·have:=h.dn;rw[List.map_append,List.map_cons]at this⊢;rw[j];exact this
 ·have:=h.dk;rw[List.map_append,List.map_cons]at this⊢;rw[o];exact this
theorem oy.mid{a B:List Value}{v:Value}(h:oy (a++v::B)):∀z,z∈a\/z∈B->z.ownBlock=none\/z.ownBlock≠v.ownBlock:=by
 intro z hz;have d:(a++v::B)[a.length]?=some v:=by simp
 rcases hz with hz|hz
 ·obtain⟨i,b,c⟩:=List.getElem_of_mem hz;exact h i a.length z v (by omega) (by rw[List.getElem?_append_left b,List.getElem?_eq_getElem b,c]) d
 ·obtain⟨i,b,c⟩:=List.getElem_of_mem hz;exact h (a.length+1+i) a.length z v (by omega) (by rw[List.getElem?_append_right (by omega),show a.length+1+i-a.length=i+1 by omega,List.getElem?_cons_succ,List.getElem?_eq_getElem b,c]) d
theorem iw.past{w e j k:World}{lo a g:Nat}{z x:Mb}{b s n:Nat}{r:List Value}{c:Value}(h:iw w lo a z)(m:iw w lo a x)(p:w.ownsRow b 69 s c n r)(o:c.ownBlock=some g)
  (u:z.vn.ownBlock=none\/z.vn.ownBlock≠x.vn.ownBlock) (v:z.vk.ownBlock=none\/z.vk.ownBlock≠x.vk.ownBlock) (f:w.grownBy e (some g)) (l:e.grownBy j x.vn.ownBlock) (d:j.grownBy k x.vk.ownBlock):iw k lo a z:=by
 have q:z.vn.ownBlock=none\/z.vn.ownBlock≠some g:=by rw[<-o];exact cy h.on p (by decide)
 have t:z.vk.ownBlock=none\/z.vk.ownBlock≠some g:=by rw[<-o];exact cy h.ok p (by decide)
 exact⟨((h.on.kept f q).kept l u).kept d (cy h.on m.ok (by decide)),((h.ok.kept f t).kept l (cy h.ok m.on (by decide))).kept d v,h.hn,h.hk⟩
theorem oz(w:World)(L:List Mb)(K lo s n g cap:Nat)(cB:0<K)(a8:cnt K (L.map Mb.N)<=40000000)(cz:L.length=n)(d1:n<=1048576)(o:bY w lo s (.slice (some ⟨g,0,none⟩) n cap) L):
  Calls Tryz.prog 39 #[.slice (some ⟨g,0,none⟩) n cap,.int .i64 K] w fun e bd=>e= .returned (.int .i64 (cnt K (L.map Mb.N):Nat))/\bY bd lo s (.slice (some ⟨g,0,none⟩) n cap) (dz K L)/\mV lo s w bd:=by
 have cP:Hid (cnt K (L.map Mb.N)<=40000000):=a8;clear a8;go_in;go_wp2_with fail;go_loopw [1,5] (fun b9 Z wr=>∃a b:Nat,a<=n/\Z= .int .i64 a/\b9= .int .i64 b/\0<b/\Hid (cnt K ((L.take a).map Mb.N)=b)/\bY wr lo s (.slice (some ⟨g,0,none⟩) n cap) (dz K (L.take a)++L.drop a)/\mV lo s w wr) (fun _ Z _=>n-(intOf Z).toNat)
 case atStart=>exact⟨0,K,Nat.zero_le _,rfl,rfl,cB,rfl,o,mV.refl _ _ _⟩
 case round=>
  obtain⟨a,b,ea,rfl,rfl,ec,S,t,b8⟩:=hrel;clear o;by_cases cF:a<n
  ·have d2:(a:Int)<(n:Int):=by omega
   have d9:(0:Int)<=(a:Int):=by omega
   obtain⟨c,av⟩:=aF cz cF;have ao:=xX av;have H:cnt K ((L.take (a+1)).map Mb.N)=vz b c.N:=by rw[ao,List.map_append,List.map_cons,List.map_nil,xV,S.out]
   have a2:vz b c.N<=40000000:=by
    have cm:=tZ (L.map Mb.N) K (a+1);rw[<-List.map_take,H]at cm;have:=cP.out;omega
   have q:(dz K (L.take a)).length=a:=by rw[BF,List.length_take];omega
   have U:dz K (L.take (a+1))=dz K (L.take a)++[⟨tX b c.N,c.vn,c.vk⟩]:=by rw[ao,BG,S.out]
   rw[EA av]at t;have A:n=(dz K (L.take a)++c::L.drop (a+1)).length:=by rw[List.length_append,q,List.length_cons,List.length_drop];omega
   have z:wr.ownsRow lo 69 9 (.slice (some ⟨g,0,none⟩) n cap) n (cQ (dz K (L.take a)++c::L.drop (a+1))):=by have:=t.row;rw[<-A]at this;exact this
   have J:(dz K (L.take a)++c::L.drop (a+1))[a]?=some c:=by rw[List.getElem?_append_right (by omega),q,Nat.sub_self];rfl
   obtain⟨bn,bt,bl,b5,b2,b3,a9,a5,a3⟩:=gc z J;have bh:=mU _ a 8 c J (by omega);have bA:=mU _ a 7 c J (by omega);have bD:=mU _ a 6 c J (by omega);have d:=t.each c (by simp);have cs:=fun V=>z.frozenAt V;have O:cQ (dz K (L.take a)++c::L.drop (a+1))=cQ (dz K (L.take a))++(zB c++cQ (L.drop (a+1))):=by rw[iv,iO]
   have bs:(cQ (dz K (L.take a))).length=a*9:=by rw[ou,q]
   have ca:=vC U H q O A;have b7:Hid (b+7+c.N.nm.length+c.N.ks.length<=40000000):=a2;have eb:b+7<=40000000:=by unfold vz at a2;omega
   have a4:=((((((z.stored (a*9) (.int .i64 (b:Int))).1.stored (a*9+1) (.int .i64 ((b:Int)+1))).1.stored (a*9+2) (.int .i64 ((b:Int)+1+1))).1.stored (a*9+3) (.int .i64 ((b:Int)+1+1+1))).1.stored (a*9+4) (.int .i64 ((b:Int)+1+1+1+1))).1.stored (a*9+5) (.int .i64 ((b:Int)+1+1+1+1+1))).1;have bb:=fun w=>nU ((b:Int)+1+1+1+1+1+1) (b+6) (by omega) (by omega) (by omega) w;obtain⟨N,ef,b9⟩:=c;simp only at bn bt bl b5 b2 b3 a9 a5 a3 d b7;obtain⟨l,m,b4⟩:=aB d.on;obtain⟨k,j,a7⟩:=aB d.ok;simp only at b4 a7;subst b4 a7;have C:Hid (wr.ownsRow lo 69 9 (.slice (some ⟨g,0,none⟩) n cap) n (cQ (dz K (L.take a)++⟨N,.slice l N.nm.length m,.slice k N.ks.length j⟩::L.drop (a+1)))):=z;have cv:Hid (bY wr lo s (.slice (some ⟨g,0,none⟩) n cap) (dz K (L.take a)++⟨N,.slice l N.nm.length m,.slice k N.ks.length j⟩::L.drop (a+1))):=t;have cb:Hid (iw wr lo s ⟨N,.slice l N.nm.length m,.slice k N.ks.length j⟩):=d;obtain⟨v,f⟩:=ah N.nm.length;obtain⟨y,h⟩:=ah N.ks.length;have bo:=cK f h;rw[f]at a5;rw[h]at a3;have bw:(cQ (dz K (L.take a)++⟨N,.slice l N.nm.length m,.slice k N.ks.length j⟩::L.drop (a+1)))[a*9+6]?=some (.string N.x):=bD;have bN:(cQ (dz K (L.take a)++⟨N,.slice l N.nm.length m,.slice k N.ks.length j⟩::L.drop (a+1)))[a*9+7]?=some (.slice l v m):=by rw[<-f];exact bA
   have cc:(cQ (dz K (L.take a)++⟨N,.slice l N.nm.length m,.slice k N.ks.length j⟩::L.drop (a+1)))[a*9+8]?=some (.slice k y j):=by rw[<-h];exact bh
   clear bD bA bh d z t f h U H q O A ao a2 av J;generalize cQ (dz K (L.take a)++⟨N,.slice l N.nm.length m,.slice k N.ks.length j⟩::L.drop (a+1))=cf at a4 bw bN cc C ca;go_wp2_with (go_at_call 75;refine(bb _).mono ?_;rintro e ar ⟨rfl,Y⟩;have M:=ai a4 Y;have cq:=fun V=>M.frozenAt V;have cn:ar.cell? ⟨g,a*9+6,none⟩=some (.string N.x):=(M.cellAt _ (by omega)).trans ((GK _ _ _ _ _ _ _ _ 6 (by omega)).trans bw);have dq:ar.cell? ⟨g,a*9+7,none⟩=some (.slice l v m):=(M.cellAt _ (by omega)).trans ((GK _ _ _ _ _ _ _ _ 7 (by omega)).trans bN));have al:=(M.stored (a*9+6) (.string (vy (b+6)))).1;have I:=ci (qu (ci (ci (ci (ci (ci (ci (dt wr (some g)) (a*9) (.int .i64 (b:Int))) (a*9+1) (.int .i64 ((b:Int)+1))) (a*9+2) (.int .i64 ((b:Int)+1+1))) (a*9+3) (.int .i64 ((b:Int)+1+1+1))) (a*9+4) (.int .i64 ((b:Int)+1+1+1+1))) (a*9+5) (.int .i64 ((b:Int)+1+1+1+1+1))) (ll _ Y)) (a*9+6) (.string (vy (b+6)));clear M cq cn dq Y bn bt bl b5 b2 b3 a9 a5 a3 a4 cs bb;have cw:(((((((cf.set (a*9) (.int .i64 (b:Int))).set (a*9+1) (.int .i64 ((b:Int)+1))).set (a*9+2) (.int .i64 ((b:Int)+1+1))).set (a*9+3) (.int .i64 ((b:Int)+1+1+1))).set (a*9+4) (.int .i64 ((b:Int)+1+1+1+1))).set (a*9+5) (.int .i64 ((b:Int)+1+1+1+1+1))).set (a*9+6) (.string (vy (b+6))))[a*9+8]?=some (.slice k y j):=by
    rw[List.getElem?_set_ne (by omega)];exact(GK _ _ _ _ _ _ _ _ 8 (by omega)).trans cc
   generalize (ar.setCell ⟨g,a*9+6,none⟩ (.string (vy (b+6))))=cg at al I⊢;have d:=cb.out;have ap:=d.on.kept I (cy d.on C.out (by decide));have b6:=d.ok.kept I (cy d.ok C.out (by decide));obtain⟨f,h⟩:=bo.out;have ch:=b7.out;have br:=pO ((b:Int)+1+1+1+1+1+1+1) cg N.nm (b+7) lo _ (by omega) (by omega) (by omega) ap;simp only[f]at br;refine br.mono ?_;rintro e b0 ⟨rfl,bk,T⟩;have a0:=al.kept T (by have:=cy al ap (by decide);simp only[f]at this;exact this);have am:=b6.kept T (by have:=cy b6 ap (by decide);simp only[f]at this;exact this);have d3:b0.cell? ⟨g,a*9+8,none⟩=some (.slice k y j):=(a0.cellAt _ (by omega)).trans cw;obtain⟨u,af⟩:∃u:Int,((b+7+v:Nat):Int)=u:=⟨_,rfl⟩;have b1:=wl u b0 N.ks (b+7+v) lo _ af.symm (by omega) (by omega) am;simp only[h]at b1;rw[f,h]at ch;have d0:0<=u:=by omega
   have d4:u<=40000000:=by omega
   rw[af];clear f h af;go_wp2_with fail;refine b1.mono ?_;rintro e a6 ⟨rfl,ds,Q⟩;obtain⟨X,a1⟩:∃u:Int,((b+7+v+y:Nat):Int)=u:=⟨_,rfl⟩;have ed:0<=X:=by omega
   have d5:X<=40000000:=by omega
   rw[a1];have cl:Hid (((b+7+v+y:Nat):Int)=X):=a1;clear a1;go_wp2_with fail;obtain⟨U,H,q,O,A⟩:=ca.out;obtain⟨f,h⟩:=bo.out;have F:=cv.out;have bs:(cQ (dz K (L.take a))).length=a*9:=by rw[ou,q]
   have G:=a0.kept Q (by have:=cy a0 am (by decide);rw[h]at this;exact this);have cI:=bk.kept Q (by have:=cy bk am (by decide);rw[h]at this;exact this);have cr:=cl.out;have cT:((b+1:Nat):Int)=(b:Int)+1:=by omega
   have cx:((b+2:Nat):Int)=(b:Int)+1+1:=by omega
   have cN:((b+3:Nat):Int)=(b:Int)+1+1+1:=by omega
   have df:((b+4:Nat):Int)=(b:Int)+1+1+1+1:=by omega
   have ck:((b+5:Nat):Int)=(b:Int)+1+1+1+1+1:=by omega
   rw[O]at G;simp only[zB]at G;rw[J1 _ _ _ bs]at G;have ct:zB ⟨tX b N,.slice l N.nm.length m,.slice k N.ks.length j⟩=[.int .i64 (b:Int),.int .i64 ((b:Int)+1),.int .i64 ((b:Int)+1+1),.int .i64 ((b:Int)+1+1+1),.int .i64 ((b:Int)+1+1+1+1),.int .i64 ((b:Int)+1+1+1+1+1),.string (vy (b+6)),.slice l N.nm.length m,.slice k N.ks.length j]:=by
    simp only[zB,tX,cT,cx,cN,df,ck]
   rw[<-ct,<-iO,<-iv]at G;have d:=cb.out;refine⟨⟨a+1,b+7+v+y,by omega,by go_num,by rw[cr],by omega,?_,?_,?_⟩,by simp[intOf];omega⟩
   ·show _=_;rw[H];unfold vz;simp only[f,h]
   ·rw[U,List.append_assoc];refine bY.put q F G A ⟨?_,?_,d.hn,d.hk⟩ rfl rfl ?_
    ·have p:=cI;show a6.ownsRow lo 9 1 (.slice l N.nm.length m) (mks (b+7) N.nm.length).length ((mks (b+7) N.nm.length).map Value.string);rw[jW,f];exact p
    ·have p:=ds;show a6.ownsRow lo 3 1 (.slice k N.ks.length j) (py (b+7+N.nm.length) N.ks.length).length ((py (b+7+N.nm.length) N.ks.length).map (Value.int .i64));rw[jX,f,h];exact p
    ·intro R hz;have bx:=F.dn;have bE:=F.dk;rw[List.map_append,List.map_cons]at bx bE;have c9:R∈dz K (L.take a)++⟨N,.slice l N.nm.length m,.slice k N.ks.length j⟩::L.drop (a+1):=by
      rcases hz with hz|hz
      ·exact List.mem_append.2 (.inl hz)
      ·exact List.mem_append.2 (.inr (List.mem_cons_of_mem _ hz))
     exact(F.each R c9).past (g:=g) d C.out rfl (oy.mid bx R.vn (hz.imp (fun p=>List.mem_map_of_mem p) (fun p=>List.mem_map_of_mem p))) (oy.mid bE R.vk (hz.imp (fun p=>List.mem_map_of_mem p) (fun p=>List.mem_map_of_mem p))) I (by simp only[f];exact T) (by simp only[h];exact Q)
   ·refine((b8.trans (mV.of_grown I ?_)).trans (mV.of_grown T ?_)).trans (mV.of_grown Q ?_)
    ·intro x r;obtain rfl:=Option.some.inj r;exact⟨(C.out.lt g rfl).1,F.hh g rfl⟩
    ·intro x r;exact⟨(d.on.lt x (by rw[f];exact r)).1,d.hn x (by rw[f];exact r)⟩
    ·intro x r;exact⟨(d.ok.lt x (by rw[h];exact r)).1,d.hk x (by rw[h];exact r)⟩
  ·obtain rfl:a=n:=by omega
   go_wp2_with fail;go_ret;refine⟨by rw[List.take_of_length_le (by omega)]at S;rw[S.out];rfl,?_,b8⟩;rw[List.drop_of_length_le (by omega),List.append_nil,List.take_of_length_le (by omega)]at t;exact t
structure KT (cs:Array Value) (T:Tk) (q:Nat) (l:Int):Prop where
 c0:cs[q*6]?=some (.int .i64 T.k)
 c1:cs[q*6+1]?=some (.int .i64 T.f)
 c2:cs[q*6+2]?=some (.int .i64 T.t)
 c3:cs[q*6+3]?=some (.int .i64 l)
 c4:cs[q*6+4]?=some (.int .i64 T.n)
 c5:cs[q*6+5]?=some (.string T.x)
 hl:T.k≠6->l=T.l
def GL(cs:Array Value)(tk:Nat->Tk)(n:Nat):Prop:=∀a,a<n->∃b,KT cs (tk a) a b
structure Kt (w w':World):Prop where
 size:w.heap.size<=w'.heap.size
 block:∀k,k<w.heap.size->(∀cs fr,w.heap[k]?≠some (.cells cs 69 fr))->(∀cs fr,w.heap[k]?≠some (.cells cs 65 fr))->w'.heap[k]?=w.heap[k]?
theorem Kt.refl(w:World):Kt w w:=⟨Nat.le_refl _,fun _ _ _ _=>rfl⟩
theorem Kt.trans{x g z:World}(h:Kt x g)(k:Kt g z):Kt x z:=
 ⟨Nat.le_trans h.size k.size,fun i e f d=>by
  have b:=h.block i e f d;exact(k.block i (Nat.lt_of_lt_of_le e h.size) (fun c a=>by rw[b];exact f c a) (fun c a=>by rw[b];exact d c a)).trans b⟩
theorem Kt.of_below{w a:World}(h:Below w.heap.size w a):Kt w a:=⟨h.size,fun b c _ _=>h.block b c⟩
theorem Kt.blk{w c:World}(h:Kt w c){k:Nat}{cs:Array Value}{t:TypeId}{fr:Nat×Nat}(b:w.heap[k]?=some (.cells cs t fr))(g:t≠69)(f:t≠65):c.heap[k]?=some (.cells cs t fr):=
 (h.block k (lt_of_block b) (fun e d a=>by rw[b]at a;cases a;exact g rfl) (fun e d a=>by rw[b]at a;cases a;exact f rfl)).trans b
theorem Kt.row{w c:World}(h:Kt w c){base e size n:Nat}{v:Value}{b:List Value}(o:w.ownsRow base e size v n b)(r:e≠69)(q:e≠65):c.ownsRow base e size v n b:=by
 obtain⟨d,a⟩:=o;refine⟨d,?_⟩;rcases a with a|⟨p,m,k,g,j,f,l⟩
 ·exact .inl a
 ·exact .inr ⟨p,m,k,g,j,h.blk f r q,l⟩
theorem Kt.past{x e z:World}(h:Kt x e){b:Nat}(d:e.grownBy z (some b))(k:x.heap.size<=b):Kt x z:=
 ⟨Nat.le_trans h.size d.size,fun a c g j=>(d.block a (Nat.lt_of_lt_of_le c h.size) (fun f=>by cases f;omega)).trans (h.block a c g j)⟩
theorem Kt.set{w:World}{k:Nat}{cs:Array Value}{t:TypeId}{fr:Nat×Nat}(a:w.heap[k]?=some (.cells cs t fr))(e:t=69\/t=65)(q:Nat)(u:Value):Kt w (w.setCell ⟨k,q,none⟩ u):=
 ⟨by simp[World.setCell],fun i f c d=>heap_setCell_other _ _ _ _ (fun b=>by subst b;rcases e with rfl|rfl;exact c _ _ a;exact d _ _ a)⟩
structure Pe where
 base:Nat
 pb:Nat
 tb:Nat
 cap:Nat
 n:Nat
 tk:Nat->Tk
structure Sp (E:Pe) (W:World) (i:Nat) (L:List Mb) (B:List (Nat×Array Value)):Prop where
 lo:E.base<=E.pb
 hn:E.n<=1048576
 tks:∃cs fr,W.heap[E.tb]?=some (.cells cs 45 fr)/\GL cs E.tk E.n
 row:∃v,W.heap[E.pb]?=some (.cells #[.slice (some ⟨E.tb,0,none⟩) E.n E.cap,.int .i64 i,v] 65 (0,0))/\W.ownsRow E.base 69 9 v L.length (cQ L)/\∀b∈B,W.heap[b.1]?=some (.cells b.2 69 (0,0))/\v.ownBlock≠some b.1
 each:∀x∈L,W.ownsRow E.base 9 1 x.vn x.N.nm.length (x.N.nm.map Value.string)/\W.ownsRow E.base 3 1 x.vk x.N.ks.length (x.N.ks.map (Value.int .i64))
 nb:(B.map Prod.fst).Nodup
section
variable {E : Pe} {W W' : World} {i : Nat} {L : List Mb} {B : List (Nat × Array Value)}
theorem Sp.lt(h:Sp E W i L B):E.pb<W.heap.size/\E.base<=W.heap.size:=by
 obtain⟨b,a,_⟩:=h.row;have:=lt_of_block a;have:=h.lo;omega
theorem Sp.below(h:Sp E W i L B)(a:Below W.heap.size W W'):Sp E W' i L B:=by
 obtain⟨o,l,j,n⟩:=h.tks;obtain⟨m,f,k,d⟩:=h.row;exact⟨h.lo,h.hn,⟨o,l,(a.block _ (lt_of_block j)).trans j,n⟩,⟨m,(a.block _ (lt_of_block f)).trans f,ai k a,fun b c=>⟨(a.block _ (lt_of_block (d b c).1)).trans (d b c).1,(d b c).2⟩⟩,fun e g=>⟨ai (h.each e g).1 a,ai (h.each e g).2 a⟩,h.nb⟩
theorem Sp.alloc(h:Sp E W i L B)(cs:Array Value):Sp E (W.alloc (.cells cs 69)) i L ((W.heap.size,cs)::B):=by
 have g:Below W.heap.size W (W.alloc (.cells cs 69)):=(Below.refl _ W).alloc (Nat.le_refl _) _;have a:=h.below g;obtain⟨f,d,j,q⟩:=a.row;obtain⟨p,e,m,n⟩:=h.row;have l:p=f:=by
  have b:=(g.block _ (lt_of_block e)).trans e;rw[d]at b;cases b;rfl
 refine⟨a.lo,a.hn,a.tks,⟨f,d,j,fun c hm=>?_⟩,a.each,?_⟩
 ·rcases List.mem_cons.1 hm with rfl|hm
  ·refine⟨heap_alloc_new W _,fun b=>?_⟩;have:=(m.lt W.heap.size (by rw[l];exact b)).2;omega
  ·exact q c hm
 ·rw[List.map_cons,List.nodup_cons];refine⟨fun hm=>?_,h.nb⟩;obtain⟨c,k,o⟩:=List.mem_map.1 hm;have:=lt_of_block (n c k).1;rw[o]at this;exact Nat.lt_irrefl _ this
theorem Sp.drop(h:Sp E W i L B){a:List (Nat×Array Value)}(f:∀b∈a,b∈B)(j:(a.map Prod.fst).Nodup):Sp E W i L a:=by
 obtain⟨e,d,c,g⟩:=h.row;exact⟨h.lo,h.hn,h.tks,⟨e,d,c,fun b k=>g b (f b k)⟩,h.each,j⟩
theorem Sp.tail{b:Nat×Array Value}(h:Sp E W i L (b::B)):Sp E W i L B:=h.drop (fun c a=>List.mem_cons_of_mem _ a) (List.nodup_cons.1 h.nb).2
theorem Sp.box(h:Sp E W i L B){b:Nat}{cs:Array Value}(a:(b,cs)∈B):W.heap[b]?=some (.cells cs 69 (0,0)):=by
 obtain⟨f,e,d,c⟩:=h.row;exact(c _ a).1
theorem bZ{base e size n g:Nat}{v:Value}{f:List Value}(o:W.ownsRow base e size v n f){cs:Array Value}{t:TypeId}{fr:Nat×Nat}(c:W.heap[g]?=some (.cells cs t fr))(h:t≠e):v.ownBlock≠some g:=fun a=>by
 rcases o.2 with⟨b,_⟩|⟨d,k,l,b,_,j,_⟩
 ·rw[b]at a;simp[Value.ownBlock]at a
 ·rw[b]at a;obtain rfl:d=g:=by simpa [Value.ownBlock] using a
  rw[j]at c;cases c;exact h rfl
theorem fE{base e size n:Nat}{v:Value}{a:List Value}(o:W.ownsRow base e size v n a){g:Nat}(c:v.ownBlock≠some g)(q:Nat)(u:Value):(W.setCell ⟨g,q,none⟩ u).ownsRow base e size v n a:=
 o.kept (row:=some g) ⟨rfl,rfl,rfl,by simp[World.setCell],fun f h b=>heap_setCell_other _ _ _ _ (fun e=>b (by rw[e]))⟩ (by
  cases hv:v.ownBlock with
  |none=>exact .inl rfl
  |some d=>exact .inr (fun e=>c (by rw[hv,e])))
theorem Sp.set{b:Nat}{cs:Array Value}(h:Sp E W i L ((b,cs)::B))(q:Nat)(u:Value):Sp E (W.setCell ⟨b,q,none⟩ u) i L ((b,cs.setIfInBounds q u)::B):=by
 obtain⟨s,y,m,z⟩:=h.tks;obtain⟨p,j,o,k⟩:=h.row;obtain⟨d,n⟩:=k _ (List.mem_cons_self ..);have t:∀a∈B,a.1≠b:=fun a v c=>(List.nodup_cons.1 h.nb).1 (List.mem_map.2 ⟨a,v,c⟩);have l:∀f,f≠b->(W.setCell ⟨b,q,none⟩ u).heap[f]?=W.heap[f]?:=fun f r=>heap_setCell_other _ _ _ _ r;have w:E.tb≠b:=fun c=>by rw[c,d]at m;cases m
 have x:E.pb≠b:=fun c=>by rw[c,d]at j;cases j
 refine⟨h.lo,h.hn,⟨s,y,(l _ w).trans m,z⟩,⟨p,(l _ x).trans j,fE o n q u,fun a hm=>?_⟩,fun e g=>⟨fE (h.each e g).1 (bZ (h.each e g).1 d (by decide)) q u,fE (h.each e g).2 (bZ (h.each e g).2 d (by decide)) q u⟩,h.nb⟩;rcases List.mem_cons.1 hm with rfl|hm
 ·exact⟨heap_setCell_same _ b q _ _ _ d,n⟩
 ·exact⟨(l _ (t a hm)).trans (k a (List.mem_cons_of_mem _ hm)).1,(k a (List.mem_cons_of_mem _ hm)).2⟩
theorem Sp.other(h:Sp E W i L B){b:Nat}{cs:Array Value}{fr:Nat×Nat}(o:W.heap[b]?=some (.cells cs 45 fr))(C:E.tb≠b)(u:W.grownBy W' (some b)):Sp E W' i L B:=by
 obtain⟨A,G,I,H⟩:=h.tks;obtain⟨d,e,z,k⟩:=h.row;have l:∀c m g n,W.heap[c]?=some (.cells m g n)->c≠b->W'.heap[c]?=some (.cells m g n):=fun c m g n s F=>(u.block c (lt_of_block s) (fun a=>F (by cases a;rfl))).trans s;have j:∀{t a x v:Nat}{d:Value}{r:List Value},W.ownsRow t a x d v r->45≠a->W'.ownsRow t a x d v r:=fun w J=>w.kept u (by
  cases hv:Value.ownBlock _ with
  |none=>exact .inl rfl
  |some K=>exact .inr (fun a=>bZ w o J (by rw[hv,a])))
 refine⟨h.lo,h.hn,⟨A,G,l _ _ _ _ I C,H⟩,⟨d,l _ _ _ _ e (fun a=>by rw[a,o]at e;cases e),j z (by decide),fun f p=>⟨l _ _ _ _ (k f p).1 (fun a=>?_),(k f p).2⟩⟩,fun q y=>⟨j (h.each q y).1 (by decide),j (h.each q y).2 (by decide)⟩,h.nb⟩;have:=(k f p).1;rw[a,o]at this;simp only[Option.some.injEq,Obj.cells.injEq]at this;exact absurd this.2.1 (by decide)
theorem Sp.move(h:Sp E W i L B)(j:Nat):Sp E (W.setCell ⟨E.pb,1,none⟩ (.int .i64 j)) j L B:=by
 obtain⟨r,s,l,t⟩:=h.tks;obtain⟨p,a,m,e⟩:=h.row;have n:∀b,b≠E.pb->(W.setCell ⟨E.pb,1,none⟩ (.int .i64 j)).heap[b]?=W.heap[b]?:=fun b q=>heap_setCell_other _ _ _ _ q;have o:E.tb≠E.pb:=fun f=>by rw[f,a]at l;cases l
 refine⟨h.lo,h.hn,⟨r,s,(n _ o).trans l,t⟩,⟨p,heap_setCell_same _ E.pb 1 _ _ _ a,fE m (bZ m a (by decide)) 1 _,fun g k=>⟨(n _ (fun f=>?_)).trans (e g k).1,(e g k).2⟩⟩,fun d c=>⟨fE (h.each d c).1 (bZ (h.each d c).1 a (by decide)) 1 _,fE (h.each d c).2 (bZ (h.each d c).2 a (by decide)) 1 _⟩,h.nb⟩;have:=(e g k).1;rw[f,a]at this;simp only[Option.some.injEq,Obj.cells.injEq]at this;exact absurd this.2.1 (by decide)
theorem Sp.kmove(h:Sp E W i L B)(u:Value):Kt W (W.setCell ⟨E.pb,1,none⟩ u)/\Below E.base W (W.setCell ⟨E.pb,1,none⟩ u):=by
 obtain⟨c,a,b,d⟩:=h.row;exact⟨Kt.set a (.inr rfl) 1 u,(Below.refl _ W).setCell h.lo _⟩
theorem Sp.cells(h:Sp E W i L B):W.cell? ⟨E.pb,0,none⟩=some (.slice (some ⟨E.tb,0,none⟩) E.n E.cap)/\W.cell? ⟨E.pb,1,none⟩=some (.int .i64 i)/\∀j,W.frozen? ⟨E.pb,j,none⟩=false:=by
 obtain⟨c,a,b,d⟩:=h.row;exact⟨by rw[cell_of_row _ _ _ _ _ _ a];rfl,by rw[cell_of_row _ _ _ _ _ _ a];rfl,fun j=>frozen_of_row _ _ _ _ _ a⟩
theorem Sp.tok(h:Sp E W i L B){q:Nat}(c:q<E.n):∃l,((E.tk q).k≠6->l=(E.tk q).l)/\W.cell? ⟨E.tb,q*6,none⟩=some (.int .i64 (E.tk q).k)/\W.cell? ⟨E.tb,q*6+1,none⟩=some (.int .i64 (E.tk q).f)/\W.cell? ⟨E.tb,q*6+2,none⟩=some (.int .i64 (E.tk q).t)/\W.cell? ⟨E.tb,q*6+3,none⟩=some (.int .i64 l)/\W.cell? ⟨E.tb,q*6+4,none⟩=some (.int .i64 (E.tk q).n)/\W.cell? ⟨E.tb,q*6+5,none⟩=some (.string (E.tk q).x):=by
 obtain⟨g,e,b,d⟩:=h.tks;obtain⟨l,a⟩:=d q c;exact⟨l,a.hl,by rw[cell_of_row _ _ _ _ _ _ b];exact a.c0,by rw[cell_of_row _ _ _ _ _ _ b];exact a.c1,by rw[cell_of_row _ _ _ _ _ _ b];exact a.c2,by rw[cell_of_row _ _ _ _ _ _ b];exact a.c3,by rw[cell_of_row _ _ _ _ _ _ b];exact a.c4,by rw[cell_of_row _ _ _ _ _ _ b];exact a.c5⟩
theorem Sp.kset{b:Nat}{cs:Array Value}(h:Sp E W i L ((b,cs)::B))(q:Nat)(u:Value):Kt W (W.setCell ⟨b,q,none⟩ u):=Kt.set (h.box (List.mem_cons_self ..)) (.inl rfl) q u
end
def Fr(s:Nat)(v:Value):Prop:=∀a,v.ownBlock=some a->s<=a
def Ac(s:Nat)(L c:List Mb)(R:Fo):Prop:=∃a,c=L++a/\a.map Mb.N=R.flat L.length/\∀b∈a,Fr s b.vn/\Fr s b.vk
theorem Ac.nil(s:Nat)(L:List Mb):Ac s L L .nil:=⟨[],(List.append_nil L).symm,rfl,fun b a=>by cases a⟩
theorem Ac.len{s:Nat}{L b:List Mb}{R:Fo}(h:Ac s L b R):b.length=L.length+R.sz:=by
 obtain⟨c,rfl,a,_⟩:=h;have a:=congrArg List.length a;rw[List.length_map,Fo.flat_len]at a;rw[List.length_append,a]
theorem Ac.le{s t:Nat}{L d:List Mb}{R:Fo}(h:Ac s L d R)(f:t<=s):Ac t L d R:=by
 obtain⟨k,l,j,e⟩:=h;exact⟨k,l,j,fun c g=>⟨fun a b=>Nat.le_trans f ((e c g).1 a b),fun a b=>Nat.le_trans f ((e c g).2 a b)⟩⟩
theorem Ac.app{s:Nat}{L a b:List Mb}{x d:Fo}(h:Ac s L a x)(k:Ac s a b d):Ac s L b (x.app d):=by
 have l:=h.len;obtain⟨n,rfl,m,f⟩:=h;obtain⟨g,rfl,j,e⟩:=k;refine⟨n++g,by rw[List.append_assoc],by rw[List.map_append,m,j,Fo.flat_app,l],fun c hz=>?_⟩;rcases List.mem_append.1 hz with hz|hz
 ·exact f c hz
 ·exact e c hz
theorem Ac.add{s:Nat}{L a:List Mb}{R:Fo}(h:Ac s L a R)(N:Nd){vn vk:Value}(fn:Fr s vn)(c:Fr s vk):Ac s L (a++[⟨{N with ks:=R.tops L.length},vn,vk⟩]) (one N R):=by
 obtain⟨e,rfl,d,f⟩:=h;refine⟨e++[⟨{N with ks:=R.tops L.length},vn,vk⟩],by rw[List.append_assoc],by rw[List.map_append,d];rfl,fun b hz=>?_⟩;rcases List.mem_append.1 hz with hz|hz
 ·exact f b hz
 ·obtain rfl:=List.mem_singleton.1 hz;exact⟨fn,c⟩
theorem Fr.nil(s n c:Nat):Fr s (.slice none n c):=fun b a=>by simp[Value.ownBlock]at a
theorem Fr.new{s b n c:Nat}(h:s<=b):Fr s (.slice (some ⟨b,0,none⟩) n c):=fun d a=>by
 obtain rfl:b=d:=by simpa [Value.ownBlock] using a
 exact h
theorem Fr.le{s t:Nat}{v:Value}(h:Fr s v)(a:t<=s):Fr t v:=fun c b=>Nat.le_trans a (h c b)
def Sv(v:Value)(L:List Mb):Prop:=∀b∈L,∀a,v.ownBlock=some a->b.vk.ownBlock≠some a
theorem Sv.next{v:Value}{s:Nat}{L b:List Mb}{R:Fo}(h:Sv v L)(a:Ac s L b R)(f:∀g,v.ownBlock=some g->g<s):Sv v b:=by
 obtain⟨k,rfl,_,e⟩:=a;intro d hx g c;rcases List.mem_append.1 hx with hx|hx
 ·exact h d hx g c
 ·intro j;have:=(e d hx).2 g j;have:=f g c;omega
structure xY (E:Pe) (W w':World) (L L':List Mb) (B:List (Nat×Array Value)) (R:Fo) (j:Nat):Prop where
 ac:Ac W.heap.size L L' R
 sp:Sp E w' j L' B
 kt:Kt W w'
 bl:Below E.base W w'
abbrev pV(E:Pe):Value:= .pointer (some ⟨E.pb,0,none⟩)
def CI(E:Pe)(f:FuncId)(args:Array Value)(i:Nat)(R:Fo)(j:Nat):Prop:=
 ∀(W:World)(L:List Mb)(B:List (Nat×Array Value)),Sp E W i L B->L.length+R.sz<=50000000->Calls Tryz.prog f args W fun b d=>∃a c,b= .returned (.int .i64 a)/\R.tops L.length=[a]/\xY E W d L c B R j
def CL(E:Pe)(f:FuncId)(args:Array Value)(i:Nat)(R:Fo)(j:Nat):Prop:=
 ∀(W:World)(L:List Mb)(B:List (Nat×Array Value)),Sp E W i L B->L.length+R.sz<=50000000->Calls Tryz.prog f args W fun d c=>∃a b,d= .returned a/\(Fr W.heap.size a/\Sv a b)/\c.ownsRow E.base 3 1 a R.len ((R.tops L.length).map (Value.int .i64))/\xY E W c L b B R j
end Go.Proofs.YtcbmoiabehpliaaGreatDoor
namespace Go.Proofs.YtcbmoiabehpliaaGreatDoor
def GM(P:Program)(d:Region.Mode)(b:Array Oper)(Q:Exit->Act->World->Prop)(S f:World->Prop)(C:Nat->Bool):Nat->Array Bool->Act->World->Prop
 |0,c,a,w=>Region.ready d b c=[]/\Q .normal a w
 |fuel+1,c,a,w=>
  (Region.ready d b c=[]->Q .normal a w)/\
  ∀i∈Region.ready d b c,wpOp P b Q i (fun g e=>(f e/\(C i=true->S e))/\GM P d b Q S f C fuel (c.setIfInBounds i true) g e) a w
theorem oA{P:Program}{c:Array Oper}{Q:Exit->Act->World->Prop}{b:Region.Mode}{S e:World->Prop}{C:Nat->Bool}:∀(fuel:Nat)(d:Array Bool)(a:Act)(w:World),GM P b c Q S e C fuel d a w->wpAnyH P b c Q e fuel d a w
 |0,_,_,_,h=>h
 |fuel+1,_,_,_,h=>⟨h.1,fun i j=>wpOp_mono (fun g k f=>⟨f.1.1,oA fuel _ g k f.2⟩) (h.2 i j)⟩
theorem gg{P:Program}{d:Array Oper}{Q:Exit->Act->World->Prop}{n:Region.Mode}{S z:World->Prop}{C:Nat->Bool}{i:Nat}{k:Oper}{v:Value}(I:d[i]?=some k)(K:∀(j:Nat) (o:Oper) cs b,d[j]?=some o->o.op≠ .select cs b)
  (Z:∀c a w,Q (.panic c) (a.put k.dst v) w->Q (.panic c) a w) (ao:∀(j:Nat) f,d[j]?=some f->C j=false->∃e∈f.after,Region.binds n e=true/\e.on=i):
  ∀(fuel:Nat)(g:Array Bool)(a:Act)(w:World),
   (∀j f,d[j]?=some f->j≠i->g.getD j true=false->(∀e∈f.after,Region.binds n e=true->e.on≠i)->k.apart d f=true)->
   i∈Region.ready n d g->YieldsIf P d S k v a->z w->S w->
   GM P n d Q S z C fuel (g.setIfInBounds i true) (a.put k.dst v) w->wpAnyH P n d Q z (fuel+1) g a w:=by
 intro fuel
 induction fuel with
 |zero=>
  intro g a w _ l u F hS s;refine⟨fun y=>(by rw[y]at l;cases l),fun j x=>?_⟩;by_cases h:j=i
  ·subst h;exact u.wpOp I hS ⟨F,oA _ _ _ _ s⟩
  ·have:=ready_mono x h;rw[s.1]at this;cases this
 |succ fuel ak=>
  intro g a w T l u F hS s;refine⟨fun y=>(by rw[y]at l;cases l),fun j x=>?_⟩;by_cases h:j=i
  ·subst h;exact u.wpOp I hS ⟨F,oA _ _ _ _ s⟩
  ·have m:=s.2 j (ready_mono x h);obtain⟨N,f,t,af⟩:=mem_ready.1 x;have M:∀e∈f.after,Region.binds n e=true->e.on≠i:=fun e H A G=>by
    have m:=af e H A;have O:=(mem_ready.1 l).1;rw[G]at m;rcases Nat.lt_or_ge i g.size with h'|h'
    ·simp[h']at O m;rw[O]at m;cases m
    ·simp[Array.getElem?_eq_none h']at m
   have X:C j=true:=by
    cases hc:C j with
    |true=>rfl
    |false=>
     obtain⟨e,H,A,G⟩:=ao j f t hc;exact absurd G (M e H A)
   have ap:=wpOp_putIf t (T j f t h N M) (fun cs b=>K i k cs b I) (fun cs b=>K j f cs b t) Z u m;have U:∀p r,d[p]?=some r->p≠i->(g.setIfInBounds j true).getD p true=false->
     (∀e∈r.after,Region.binds n e=true->e.on≠i)->k.apart d r=true:=fun p r an Y R am=>by
    refine T p r an Y ?_ am;by_cases J:j=p
    ·subst J;exact N
    ·rw[getD_set_ne true J]at R;exact R
   refine wpOp_mono (fun V al q=>⟨q.2.1.1,ak (g.setIfInBounds j true) V al U (ready_mono l (Ne.symm h)) q.1 q.2.1.1 (q.2.1.2 X) ?_⟩) ap;rw[Array.setIfInBounds_comm _ _ h];exact q.2.2
theorem aR{P:Program}{b:Array Oper}{Q:Exit->Act->World->Prop}{d:Region.Mode}{S c:World->Prop}{C:Nat->Bool}{i:Nat}{o:Oper}{fuel:Nat}{f:Array Bool}{a:Act}{w:World}(m:Region.ready d b f=[i])(r:b[i]?=some o)
  (h:∀l:Act->World->Prop,Shut (∀a w,c w->(C i=true->S w)->GM P d b Q S c C fuel (f.setIfInBounds i true) a w->l a w)->if Region.wanted o (yielded b a.tmps)=true then Oper.wp P o a w l Q else l (a.put o.dst undef) w):GM P d b Q S c C (fuel+1) f a w:=by
 refine⟨fun p=>(by rw[m]at p;cases p),fun j n=>?_⟩;rw[m]at n;obtain rfl:j=i:=by simpa using n
 have e:=h (fun q k=>(c k/\(C j=true->S k))/\GM P d b Q S c C fuel (f.setIfInBounds j true) q k) (fun a w t s u=>⟨⟨t,s⟩,u⟩);unfold wpOp;simp only[r];split
 ·rename_i g;rw[if_pos g]at e;exact .inl e
 ·rename_i g;rw[if_neg g]at e;exact e
theorem ix{P:Program}{c:Array Oper}{Q:Exit->Act->World->Prop}{b:Region.Mode}{S f:World->Prop}{C:Nat->Bool}{e:Array Bool}{a:Act}{w:World}(d:Region.ready b c e=[])(h:Q .normal a w):
  ∀fuel,GM P b c Q S f C fuel e a w
 |0=>⟨d,h⟩
 |_+1=>⟨fun _=>h,by rw[d];simp⟩
end Go.Proofs.YtcbmoiabehpliaaGreatDoor
namespace Go.Proofs.YtcbmoiabehpliaaGreatDoor
open Go.RowKit
def BI(B:Nat)(W:World)(Z X:World->Prop):Exit->Act->World->Prop
 | .normal,_,W'=>KeepsFrom B W W'/\Z W'
 | .ret,_,W'=>KeepsFrom B W W'/\X W'
 |_,_,_=>False
theorem iP{P:Program}{n:Nat}{g:Operand}{j:Array Tmp}{assign body:Go.Code}{Q:Exit->Act->World->Prop}{a:Act}{w:World}{gf:Nat}{lb:Array Value}
  (a7:a.eval g= .func (.func gf) #[] lb) (bb:∀args w,(callFunc gf args).run P w= .ok (.enter gf args) w) (enc:Nat->Array Value) (a1:∀x,(enc x).size=j.size) (k:Nat)
  (Z:Nat->World->Prop) (z:Nat->Act->World->Prop) (X:World->Prop)
  (T:∀m W r o,Z m W->W.heap[w.heap.size+1]?=some (.loop r)->Z m (W.putObj (w.heap.size+1) o))
  (a2:∀m c W r o,z m c W->W.heap[w.heap.size+1]?=some (.loop r)->z m c (W.putObj (w.heap.size+1) o)) (V:∀W r o,X W->W.heap[w.heap.size+1]?=some (.loop r)->X (W.putObj (w.heap.size+1) o))
  (a4:∀b,Below w.heap.size w b->b.heap.size=w.heap.size+2->Z k b)
  (ap:∀(l m:Nat) W (K:Act->World->Prop),m<k->Z (m+1) W->(∀c W',z m c W'->KeepsFrom w.heap.size W W'->K c W')->
   assign.wpIn (Fence.wide.inRound l) (n-1-1) P (Exit.then K (fun _ _ _=>False)) {tmps:=(j.zip (enc m)).foldl (fun t (p,v)=>t.setIfInBounds p v) a.tmps,defers:=[]} W)
  (ak:∀(l m:Nat) c W,m<k->z m c W->body.wpIn (Fence.wide.inRound l) (n-1-1) P (BI w.heap.size W (Z m) X) c W)
  (a0:∀(l:Nat)(q:Nat->World->Prop)(Y:World->Prop),(∀m W,q m W->Z m W)->
   (∀m W,m<k->q (m+1) W->YieldAt Fence.wide (n-1-1) P l (enc m) W fun e W'=>(e= .returned (.bool true)/\q m W')\/(e= .returned (.bool false)/\Y W'))->
   ∀W,q k W->CallsIn Fence.wide (n-1) P gf (#[.func (.yield l) #[] #[]]++lb) W fun e W'=>(∃v,e= .returned v)/\(q 0 W'\/Y W'))
  (av:∀W,Z 0 W->W.heap[w.heap.size]?=some (.deferred (some []))->Q .normal {a with defers:={target:= .collected w.heap.size,args:=#[]}::a.defers} W)
  (af:∀W,X W->W.heap[w.heap.size]?=some (.deferred (some []))->Q .ret {a with defers:={target:= .collected w.heap.size,args:=#[]}::a.defers} W):
  (Go.Code.rangeFunc g j assign body).wpIn Fence.wide n P Q a w:=by
 refine wpIn_rangeFunc ?_;intro fn a5;show ∃l br bs bA bw bl args bD,(Instr.enterLoop fn a.tmps j assign body none).run P w=_/\_;obtain⟨rc,d⟩:∃rc:LoopState->Option Go.Code->Loop,rc=fun bh bd=>{state:=bh,pending:=bd,fn,tmps:=a.tmps,params:=j,assign,body,defers:=w.heap.size}:=⟨_,rfl⟩;have I:=run_enterLoop_outer (P:=P) (w:=w) fn a.tmps j assign body;rw[show({state:= .ready,pending:=none,fn,tmps:=a.tmps,params:=j,assign,body,defers:=w.heap.size}:Loop)=rc .ready none by rw[d]]at I;obtain⟨b,y⟩:=ah ((w.alloc (.deferred (some []))).alloc (.loop (rc .ready none)));rw[y]at I;have ao:b.heap[w.heap.size+1]?=some (.loop (rc .ready none)):=by
  rw[<-y];have:=World.alloc_heap_new (w.alloc (.deferred (some []))) (.loop (rc .ready none));rwa [World.size_alloc]at this
 have a6:b.heap[w.heap.size]?=some (.deferred (some [])):=by
  rw[<-y];exact(Below.heap_alloc _ _ _ (by simp)).trans (World.alloc_heap_new w _)
 have a8:Below w.heap.size w b:=by rw[<-y];exact((Below.refl _ w).alloc (Nat.le_refl _) _).alloc (by simp) _
 have al:b.heap.size=w.heap.size+2:=by rw[<-y];simp
 refine⟨w.heap.size+1,[{target:= .collected w.heap.size,args:=#[]}],b,{target:= .fn (.func gf) lb,args:=#[.func (.yield (w.heap.size+1)) #[] #[]]},b,gf,
  #[.func (.yield (w.heap.size+1)) #[] #[]]++lb,b,I,?_,?_,?_,fun A=>by simp[Fence.wide]at A,?_⟩
 ·simp only[resolve,a7];simp[go_sem]
 ·intro bt bo;trivial
 ·simp[invoke,go_sem,bb]
 ·refine(a0 (w.heap.size+1) (fun m W=>Z m W/\W.heap[w.heap.size+1]?=some (.loop (rc .ready none))/\W.heap[w.heap.size]?=some (.deferred (some [])))
   (fun W=>X W/\W.heap[w.heap.size+1]?=some (.loop (rc .done (some .ret)))/\W.heap[w.heap.size]?=some (.deferred (some []))) (fun _ _ A=>A.1) ?_ b ⟨a4 b a8 al,ao,a6⟩).mono ?_
  ·rintro m W U ⟨H,f,s⟩;have S:=run_yield (P:=P) (args:=enc m) f (by rw[d];exact a1 m);rw[d]at S;refine⟨fn,_,assign,body,S,roundIn_of_wpIn a5 (ap _ m W _ U H fun c W' a9 N=>?_)⟩;have F:=N.same _ _ (by omega) f rfl;have ar:=N.same _ _ (Nat.le_refl _) s rfl;have am:w.heap.size+1<W'.heap.size:=(Array.getElem?_eq_some_iff.1 F).1;refine⟨_,run_beginRound F (by rw[d]),?_⟩;have O:(W'.putObj (w.heap.size+1) (.loop {rc .ready none with state:= .busy})).heap[w.heap.size+1]?=some (.loop {rc .ready none with state:= .busy}):=World.putObj_heap_same am;have R:(W'.putObj (w.heap.size+1) (.loop {rc .ready none with state:= .busy})).heap[w.heap.size]?=some (.deferred (some [])):=(World.putObj_heap_other (by omega)).trans ar;refine wpIn_mono (ak _ m c _ U (a2 _ _ _ _ _ a9 F)) ?_;rintro e bx bk G;cases e with
   |normal=>
    obtain⟨u,M⟩:=G;have h:=u.same _ _ (by omega) O rfl;have J:=u.same _ _ (Nat.le_refl _) R rfl;have C:=(Array.getElem?_eq_some_iff.1 h).1;refine⟨_,_,run_endRound (P:=P) none h,.inl ⟨rfl,T _ _ _ _ M h,?_,(World.putObj_heap_other (by omega)).trans J⟩⟩;rw[World.putObj_heap_same C];simp[d]
   |ret=>
    obtain⟨u,M⟩:=G;have h:=u.same _ _ (by omega) O rfl;have J:=u.same _ _ (Nat.le_refl _) R rfl;have C:=(Array.getElem?_eq_some_iff.1 h).1;refine⟨_,_,run_endRound (P:=P) (some .ret) h,.inr ⟨rfl,V _ _ _ M h,?_,(World.putObj_heap_other (by omega)).trans J⟩⟩;rw[World.putObj_heap_same C];simp[d]
   |_=>exact G.elim
  ·rintro e bn ⟨⟨v,rfl⟩,⟨H,f,s⟩|⟨an,f,s⟩⟩
   ·refine⟨none,_,by have:=run_endLoop (P:=P) f (by rw[d];simp);rw[d]at this;exact this,?_⟩;exact av _ (T _ _ _ _ H f) ((World.putObj_heap_other (by omega)).trans s)
   ·refine⟨some .ret,_,by have:=run_endLoop (P:=P) f (by rw[d];simp);rw[d]at this;exact this,?_⟩;exact wpIn_ret (af _ (V _ _ _ an f) ((World.putObj_heap_other (by omega)).trans s))
theorem wn{P:Program}{l n:Nat}{o:Oper}{a:Act}{K:Act->World->Prop}{Q:Exit->Act->World->Prop}(r:Result Next)(h:o.upon P a K Q r):o.uponIn (Fence.wide.inRound l) n P a K Q r:=by
 have d:(Fence.wide.inRound l).depth.isSome=true->1<=n:=fun h=>by simp[Fence.wide,Fence.inRound]at h
 cases r with
 |ok c k=>
  cases c with
  |value b=>exact h
  |skip=>exact h
  |defer p=>exact h
  |enter m args=>exact⟨d,CallsIn.inRound l (callsIn_wide.2 h)⟩
  |row row args=>exact⟨d,fun e j _=>let ⟨b,g,r,f⟩:=h e j;⟨b,g,r,stepsIn_wide.2 f⟩⟩
  |_=>exact h.elim
 |halt c k=>
  cases c with
  |panic b=>exact h
  |_=>exact h.elim
def ub(o:Oper):Bool:=match o.op with| .defer _=>false|_=>true
theorem BJ{o:Oper}(h:ub o=true):∀c,o.op≠ .defer c:=by
 intro c a;unfold ub at h;rw[a]at h;cases h
theorem wo{P:Program}{b:Array Oper}{Q:Exit->Act->World->Prop}{l n i:Nat}{K:Act->World->Prop}{a:Act}{w:World}(e:∀(j:Nat) (o:Oper),b[j]?=some o->ub o=true)(d:¬LetsOut Q)(h:wpOp P b Q i K a w):wpOpIn (Fence.wide.inRound l) n P b Q i K a w:=by
 unfold wpOp at h;unfold wpOpIn;cases ho:b[i]? with
 |none=>simpa [ho] using h
 |some o=>
  simp only[ho]at h⊢;split
  ·rename_i c;simp only[c,if_true]at h;rcases h with h|h
   ·refine⟨fun f _=>trivial,?_⟩;show o.uponIn _ _ _ _ _ _ ((o.semAt (some l) a.eval).run P w);rw[Oper.semAt_some l a.eval o (BJ (e i o ho))];exact wn _ h
   ·exact absurd h.2 d
  ·rename_i c;simp only[c]at h;exact⟨fun f _=>trivial,by simpa using h⟩
theorem jk{P:Program}{c:Region.Mode}{b:Array Oper}{Q:Exit->Act->World->Prop}{l n:Nat}(e:∀(j:Nat) (o:Oper),b[j]?=some o->ub o=true)(d:¬LetsOut Q):
  ∀(fuel:Nat)(f:Array Bool)(a:Act)(w:World),wpAny P c b Q fuel f a w->wpAnyIn (Fence.wide.inRound l) n P c b Q fuel f a w
 |0,_,_,_,h=>h
 |fuel+1,_,_,_,h=>⟨h.1,fun i p=>wo e d (wpOp_mono (fun g k m=>jk e d fuel _ g k m) (h.2 i p))⟩
theorem gH{P:Program}{b:Array Oper}{Q:Exit->Act->World->Prop}{l n id:Nat}{S:World->Prop}{a:Act}{w:World}(k:P.follows .mixedOrders=true)(e:b.all ub=true)(d:¬LetsOut Q)(hS:S w.drew)
  (h:S w.drew->wpAnyH P .any b Q S b.size (Array.replicate b.size false) a w.drew):(Go.Code.region id b true).wpIn (Fence.wide.inRound l) n P Q a w:=
 wpIn_region_any k (jk (fun j m c=>by
  obtain⟨g,f⟩:=Array.getElem?_eq_some_iff.1 c;rw[<-f];exact Array.all_eq_true.1 e j g) d _ _ _ _ (wpAny_of_held _ _ _ _ (h hS)))
theorem wv{P:Program}{d:Region.Mode}{b:Array Oper}{Q:Exit->Act->World->Prop}{S:World->Prop}(i:Nat)(g:Tmp)(v:Value){e:Oper}{fuel:Nat}{f:Array Bool}{a:Act}{w:World}(p:b[i]?=some e)(j:e.dst=some g)
  (o:Region.noSelect b=true) (q:Region.free d b f i=true) (l:(Region.ready d b f).contains i=true)
  (m:∀c a w,Q (.panic c) (a.put (some g) v) w->Q (.panic c) a w) (k:Region.wanted e (yielded b a.tmps)=true) (hS:S w) (n:∀w,S w->(execOp a.eval e).run P w= .ok (.value v) w)
  (h:wpAnyH P d b Q S fuel (f.setIfInBounds i true) (a.put (some g) v) w):wpAnyH P d b Q S (fuel+1) f a w:=
 wpAnyH_take p o q l (by rw[j];exact m) (Or.inl ⟨k,n⟩) hS (by rw[j];exact h)
def IP(b:Region.Mode)(a:Array Oper)(m:List Bool)(i:Nat)(l:List Value):Bool:=Region.noSelect a&&Region.free b a m.toArray i&&(Region.ready b a m.toArray).contains i&&(match a[i]? with|some c=>Region.wanted c (yielded a l.toArray)|none=>false)
theorem aA{P:Program}{f:Region.Mode}{d:Array Oper}{Q:Exit->Act->World->Prop}{S:World->Prop}(i:Nat)(v:Value){e:Tmp}{g:Oper}{fuel:Nat}{m:List Bool}{l:List Value}{j:List Deferred}{w:World}(k:d[i]?=some g)(n:g.dst=some e)(b:IP f d m i l=true)
  (o:∀c a w,Q (.panic c) (a.put (some e) v) w->Q (.panic c) a w) (hS:S w) (p:∀w,S w->(execOp (Act.mk l.toArray j).eval g).run P w= .ok (.value v) w)
  (h:wpAnyH P f d Q S fuel (m.set i true).toArray ⟨(l.set e v).toArray,j⟩ w):wpAnyH P f d Q S (fuel+1) m.toArray ⟨l.toArray,j⟩ w:=by
 unfold IP at b;rw[k]at b;simp only[Bool.and_eq_true]at b;refine wv i e v k n b.1.1.1 b.1.1.2 b.1.2 o b.2 hS p ?_;simp only[Act.put,List.setIfInBounds_toArray];exact h
end Go.Proofs.YtcbmoiabehpliaaGreatDoor
