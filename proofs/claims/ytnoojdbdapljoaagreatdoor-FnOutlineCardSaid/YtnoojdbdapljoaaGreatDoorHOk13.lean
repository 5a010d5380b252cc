import Derived.Test.YtnoojdbdapljoaaGreatDoorHOk11
set_option linter.all false
set_option maxRecDepth 100000
set_option maxHeartbeats 6400000
open Option renaming none->M,some->O
open Go.Value renaming slice->Q,int->X,int->A2,string->A5,string->A7,agg->A8,bool->A9
open Go.IntKind renaming i64->U
open Go renaming Value->V,World->A1,Calls->A4
open Go.Proofs.Tryz renaming prog->Y
open Go.Ending renaming returned->Z
open Go.RowKit renaming Hid->Ax,Below->A3
open Go.Obj renaming cells->A0
open Bool renaming false->A6
namespace Go.Proofs.YtnoojdbdapljoaaGreatDoor
open Go.RowKit
theorem ut{w w':A1}{c d e size n:Nat}{v:V}{k:List V}(q:w.ownsRow c e size v n k)(h:∀g,v.ownBlock=O g->c<=g->g<w.heap.size->w'.heap[g]?=w.heap[g]?/\d<=g):w'.ownsRow d e size v n k:=by
 obtain⟨o,a⟩:=q;refine⟨o,?_⟩;rcases a with a|⟨g,l,m,rfl,p,b,r⟩
 ·exact .inl a
 ·have f:=h g rfl p (ax b);exact .inr ⟨g,l,m,rfl,f.2,f.1.trans b,r⟩
structure Lw (w:A1) (lo:Nat) (lv:V) (L:List Mb):Prop where
 row:w.ownsRow lo 35 9 lv L.length (jn L)
 each:∀x∈L,w.ownsRow lo 9 1 x.vn x.N.nm.length (x.N.nm.map A5)/\w.ownsRow lo 3 1 x.vk x.N.ks.length (x.N.ks.map (A2 .i64))
theorem Lw.mono{w w':A1}{e:Nat}{v:V}{L:List Mb}(h:Lw w e v L)(d:∀k,e<=k->k<w.heap.size->w'.heap[k]?=w.heap[k]?):Lw w' e v L:=
 ⟨ut h.row fun b _ a c=>⟨d b a c,a⟩,fun g f=>⟨ut (h.each g f).1 fun b _ a c=>⟨d b a c,a⟩,ut (h.each g f).2 fun b _ a c=>⟨d b a c,a⟩⟩⟩
theorem Lw.nds{w:A1}{s:Nat}{v:V}{L:List Mb}(h:Lw w s v L):cg w v (L.map Mb.N):=by
 rcases bq h.row with⟨r,rfl⟩|⟨b,q,rfl⟩
 ·exact .inl ⟨by rw[iE r];rfl,_,_,rfl⟩
 ·refine .inr ⟨⟨b,0,M⟩,q,by rw[dv],fun i N a=>?_⟩;rw[cj]at a;cases hx:L[i]? with
  |none=>rw[hx]at a;cases a
  |some c=>
   rw[hx]at a;obtain rfl:=db a;rw[show(⟨b,0,M⟩:Addr).add (i*9)=⟨b,i*9,M⟩ by unfold Addr.add;split<;>simp_all];obtain⟨e,f,g,k,l,m,n,o,p⟩:=mD h.row hx;have d:=h.each c (bC hx);exact⟨c.vn,c.vk,e,f,g,k,l,m,n,o,p,vF d.1,pi d.2⟩
open Go.Maps Go.WideMaps
structure fL (E:Pe) (W w:A1) (i:Nat) (L:List Mb) (B:List (Nat×Array V)):Prop where
 sp:Sp E w i L B
 kt:Kt W w
 bl:A3 E.base W w
def TB(w:A1)(b:Nat)(T:Tk):Prop:=w.heap[b]?=O (A0 #[X U T.k,X U T.f,X U T.t,X U T.l,X U T.n,A7 T.x] 109 (0,0))
abbrev iK(k:Int)(T:Tk):Array V:=#[X U k,X U T.f,X U T.t,X U T.l,X U T.n,A7 T.x]
abbrev nN(k:Int)(T:Tk):Nd:=⟨k,T.f,0,T.l,0,0,⟨#[]⟩,[],[]⟩
abbrev s0:V:= Q M 0 0
section
variable {E : Pe} {W w w' : World} {i j : Nat} {L L1 L' : List Mb} {B B' : List (Nat × Array Value)}
theorem fL.start(h:Sp E W i L B):Ax (fL E W W i L B):=⟨h,Kt.refl _,aj _ _⟩
theorem nX(h:Ax (fL E W w i L B))(s:Sp E w' j L' B'/\Kt w w'/\A3 E.base w w'):Ax (fL E W w' j L' B'):=⟨s.1,h.out.kt.trans s.2.1,h.out.bl.trans s.2.2⟩
theorem nB(h:Ax (fL E W w i L B))(b:A3 w.heap.size w w'):Ax (fL E W w' i L B):=nX h ⟨h.out.sp.below b,Kt.of_below b,b.mono h.out.sp.lt.2⟩
theorem nA(h:Ax (fL E W w i L B))(cs:Array V):Ax (fL E W (w.alloc (A0 cs 35)) i L ((w.heap.size,cs)::B)):=nX h ⟨h.out.sp.alloc cs,Kt.of_below (bel1 w _),(bel1 w _).mono h.out.sp.lt.2⟩
theorem nP{R:Fo}(h:Ax (fL E W w i L B))(p:Jd E w w' L L' B R j):Ax (fL E W w' j L' B):=nX h ⟨p.sp,p.kt,p.bl⟩
theorem nS{b:Nat}{cs:Array V}(h:Ax (fL E W w i L ((b,cs)::B)))(a:E.base<=b)(q:Nat)(u:V):Ax (fL E W (w.setCell ⟨b,q,M⟩ u) i L ((b,cs.setIfInBounds q u)::B)):=nX h ⟨h.out.sp.set q u,h.out.sp.kset q u,(aj _ w).setCell a _⟩
theorem tN{q:Nat}{k:Int}(a:(E.tk q).k=k):Ax (TB (w.alloc (A0 (iK k (E.tk q)) 109)) w.heap.size (E.tk q)):=by
 show _=_;rw[a];exact aw w _
theorem tK{b:Nat}{T:Tk}(h:Ax (TB w b T))(k:Kt w w'):Ax (TB w' b T):=k.blk h.out (by decide) (by decide)
theorem tB{b:Nat}{T:Tk}(h:Ax (TB w b T))(k:A3 w.heap.size w w'):Ax (TB w' b T):=tK h (Kt.of_below k)
theorem tC{b:Nat}{T:Tk}{k:Int}(h:Ax (TB w b T))(a:T.k=k):w.cell? ⟨b,0,M⟩=O (X U k)/\w.cell? ⟨b,1,M⟩=O (X U T.f)/\w.cell? ⟨b,2,M⟩=O (X U T.t)/\w.cell? ⟨b,3,M⟩=O (X U T.l)/\w.cell? ⟨b,4,M⟩=O (X U T.n)/\w.cell? ⟨b,5,M⟩=O (A7 T.x):=by
 rw[<-a];exact sE h.out
theorem tA{b:Nat}{T:Tk}{k:Int}(h:Ax (TB w b T))(c:T.k=k)(a:Obj):(w.alloc a).cell? ⟨b,0,M⟩=O (X U k)/\(w.alloc a).cell? ⟨b,1,M⟩=O (X U T.f)/\(w.alloc a).cell? ⟨b,2,M⟩=O (X U T.t)/\(w.alloc a).cell? ⟨b,3,M⟩=O (X U T.l)/\(w.alloc a).cell? ⟨b,4,M⟩=O (X U T.n)/\(w.alloc a).cell? ⟨b,5,M⟩=O (A7 T.x):=tC (tB h (bel1 w a)) c
theorem ib{k:Int}(b:(E.tk i).k=k)(h:Ax (fL E W w i L B))(a:i<E.n):A4 Y 52 #[pV E] w fun e w'=>e= Z (X U k)/\A3 w.heap.size w w':=by
 rw[<-b];exact abA h.out.sp a
theorem gx{k:Int}(c:(E.tk i).k=k)(h:Ax (fL E W w i L B))(b:i<E.n)(a:k≠6):A4 Y 92 #[pV E] w fun e w'=>e= Z (A8 (iK k (E.tk i)))/\Sp E w' (i+1) L B/\Kt w w'/\A3 E.base w w':=by
 rw[<-c]at a⊢;exact ajw h.out.sp b a
theorem dm{k:Int}(c:(E.tk i).k=k)(h:Ax (fL E W w i L B))(b:i<E.n):A4 Y 52 #[pV E] w fun e w'=>e= Z (X U k)/\Ax (fL E W w' i L B):=(ib c h b).mono fun _ _ a=>⟨a.1,nB h a.2⟩
theorem iA{k:Int}(d:(E.tk i).k=k)(h:Ax (fL E W w i L B))(c:i<E.n)(b:k≠6):A4 Y 92 #[pV E] w fun e w'=>e= Z (A8 (iK k (E.tk i)))/\Ax (fL E W w' (i+1) L B):=(gx d h c b).mono fun _ _ a=>⟨a.1,nX h a.2⟩
theorem fw{k:Int}{q:Nat}(b:(E.tk q).k=k)(a:Int)(w:A1):A4 Y 93 #[X U a,A8 (iK k (E.tk q))] w fun e w'=>e= Z (A8 (dw (nN a (E.tk q)) s0 s0))/\A3 w.heap.size w w':=by
 rw[<-b];exact afm a (E.tk q) w
theorem lw(h:Ax (fL E W w i L1 B))(m:1<=i)(o:i<=E.n)(N:Nd)(an b:Option Addr)(mn cn mk ck:Nat)(on:w.ownsRow E.base 9 1 (Q an mn cn) N.nm.length (N.nm.map A5))(q:w.ownsRow E.base 3 1 (Q b mk ck) N.ks.length (N.ks.map (A2 U)))(k:L1.length<=50000000)(g:Fr W.heap.size (Q an mn cn))(f:Fr W.heap.size (Q b mk ck))(a:Nd){R:Fo}(ac:Ac W.heap.size L L1 R)(l:({N with t:=(E.tk (i-1)).t}:Nd)={a with ks:=R.tops L.length}):
  A4 Y 96 #[pV E,A8 (dw N (Q an mn cn) (Q b mk ck))] w fun e w'=>∃z L',e= Z (X U z)/\(one a R).tops L.length=[z]/\Ax (Jd E W w' L L' B (one a R) i):=by
 refine(addM h.out.sp m o N an b mn cn mk ck on q k).mono ?_;rintro e w' ⟨rfl,c,p,d⟩;rw[l]at c;exact⟨_,_,rfl,by rw[qy,ac.len],ac.add a g f,c,h.out.kt.trans p,h.out.bl.trans d⟩
theorem pT{R:Fo}{b:Nat×Array V}(h:Ax (Jd E W w L L' (b::B) R j)):Ax (Jd E W w L L' B R j):=⟨h.out.ac,h.out.sp.tail,h.out.kt,h.out.bl⟩
theorem nQ{R:Fo}(h:Ax (fL E W w i L B))(p:Jd E w w' L L' B R j):Ax (Jd E W w' L L' B R j):=⟨p.ac.le h.out.kt.size,p.sp,h.out.kt.trans p.kt,h.out.bl.trans p.bl⟩
theorem se{q:Nat}{k:Int}(b:(E.tk q).k=k)(h:Ax (fL E W w i L B)):∃a,w.alloc (A0 (iK k (E.tk q)) 109)=a/\Ax (fL E W a i L B)/\Ax (TB a w.heap.size (E.tk q)):=⟨_,rfl,nB h (bel1 _ _),tN b⟩
theorem abG{t:Int}{b:Bool}(h:lj t=b)(w:A1):A4 Y 143 #[X U t] w fun e w'=>e= Z (A9 b)/\w'=w:=by
 rw[<-h];exact pH w t
theorem ah5{t:Int}{b:Bool}(h:ja t=b)(w:A1):A4 Y 146 #[X U t] w fun e w'=>e= Z (A9 b)/\w'=w:=by
 rw[<-h];exact wE w t
theorem ajz{t:Int}{b:Bool}(h:dH t=b)(w:A1):A4 Y 87 #[X U t] w fun e w'=>e= Z (A9 b)/\w'=w:=by
 rw[<-h];exact pI w t
theorem nL{R:Fo}(h:Ax (fL E W w i L B))(p:Jd E w w' L L' B R j):Ax (Ac W.heap.size L L' R):=p.ac.le h.out.kt.size
end
section
variable {E : Pe} {i j : Nat}
theorem rG{k c:Int}(r:(k=24/\c=20)\/(k=29/\c=21)\/(k=17/\c=22)\/(k=49/\c=27))(a:(E.tk i).k=k)(A:i+1<E.n):CI E 147 #[pV E] i (one (im c (E.tk i) (E.tk i).t) .nil) (i+1):=by
 intro W L B d s;have f:=fL.start d;clear d;rcases r with⟨rfl,rfl⟩|⟨rfl,rfl⟩|⟨rfl,rfl⟩|⟨rfl,rfl⟩;all_goals
  go_in;go_wp2_with fail;refine cd (dm a f (by omega)) fun w1 g=>?_;go_wp2_with fail;refine cd (dm a g (by omega)) fun F h=>?_;go_wp2_with fail;refine cd (iA a h (by omega) (by omega)) fun x l=>?_;obtain⟨G,e,m,p⟩:=se (w:=x) a l;simp only[iK]at e;obtain⟨J,K,ad,af,ak,am⟩:=tC p a;go_wp2_with fail;refine cd (abG (b:=A6) (by decide) _) fun w' C=>?_;subst w';clear e;go_wp2_with fail;refine cd (fw a _ _) fun H q=>?_;have o:=nB m q;go_wp2_with fail;refine(lw o (by omega) (by omega) (nN _ (E.tk i)) M M 0 0 0 0 (bk _ _ _ _) (bk _ _ _ _) (by simp only[aJ]at s;omega) (Fr.nil _ _ _) (Fr.nil _ _ _) (im _ (E.tk i) (E.tk i).t) (Ac.nil _ L) rfl).mono ?_;rintro z I ⟨an,y,rfl,u,v⟩;go_wp2_with fail;go_ret;exact⟨_,_,rfl,u,v.out⟩
theorem vH{k d c:Int}{e:ByteArray}(z:(k=2/\d=23/\c=(E.tk i).n/\e=z0)\/(k=3/\d=24/\c=0/\e=(E.tk i).x)\/(k=4/\d=25/\c=0/\e=(E.tk i).x))(a:(E.tk i).k=k)(J:i+1<E.n):CI E 147 #[pV E] i (one (nd d (E.tk i) (E.tk i).t 0 c e []) .nil) (i+1):=by
 intro W L B p A;have r:=fL.start p;clear p;rcases z with⟨rfl,rfl,rfl,rfl⟩|⟨rfl,rfl,rfl,rfl⟩|⟨rfl,rfl,rfl,rfl⟩;all_goals
  go_in;go_wp2_with fail;refine cd (dm a r (by omega)) fun w1 s=>?_;go_wp2_with fail;refine cd (dm a s (by omega)) fun ad u=>?_;go_wp2_with fail;refine cd (iA a u (by omega) (by omega)) fun G v=>?_;obtain⟨af,q,y,m⟩:=se (w:=G) a v;simp only[iK]at q;obtain⟨an,ao,ap,ar,av,a0⟩:=tC m a;go_wp2_with fail;refine cd (abG (b:=A6) (by decide) _) fun w' K=>?_;subst w';clear q;go_wp2_with fail;refine cd (fw a _ _) fun ak o=>?_;have h:=tA (tB m o) a;have a1:=fun g=>(h g).2.2.2.2.1;have a2:=fun g=>(h g).2.2.2.2.2;clear h;go_wp2_with fail;refine(lw (nA (nB y o) _) (by omega) (by omega) ⟨_,(E.tk i).f,0,(E.tk i).l,0,_,_,[],[]⟩ M M 0 0 0 0 (bk _ _ _ _) (bk _ _ _ _) (by simp only[aJ]at A;omega) (Fr.nil _ _ _) (Fr.nil _ _ _) (nd _ (E.tk i) (E.tk i).t 0 _ _ []) (Ac.nil _ L) rfl).mono ?_;rintro I am ⟨a3,H,rfl,C,F⟩;go_wp2_with fail;go_ret;exact⟨_,_,rfl,C,(pT F).out⟩
theorem afs(a:(E.tk i).k=18)(z:i<E.n){R:Fo}(q:CI E 98 #[pV E,A8 (dw (nN 36 (E.tk i)) s0 s0)] (i+1) R j):CI E 147 #[pV E] i R j:=by
 intro W L B d r;have f:=fL.start d;clear d;go_in;go_wp2_with fail;refine cd (dm a f (by omega)) fun w1 g=>?_;go_wp2_with fail;refine cd (dm a g (by omega)) fun C h=>?_;go_wp2_with fail;refine cd (iA a h (by omega) (by omega)) fun v l=>?_;obtain⟨F,e,m,o⟩:=se (w:=v) a l;simp only[iK]at e;obtain⟨I,J,K,ad,af,ak⟩:=tC o a;go_wp2_with fail;refine cd (abG (b:=A6) (by decide) _) fun w' A=>?_;subst w';clear e;go_wp2_with fail;refine cd (fw a _ _) fun G p=>?_;have c:=nB m p;go_wp2_with fail;refine(q _ _ _ c.out.sp r).mono ?_;rintro y H ⟨am,x,rfl,s,t⟩;have u:=nQ c t;go_wp2_with fail;go_ret;exact⟨_,_,rfl,s,u.out⟩
theorem KF{k:Int}(q:k=1\/k=40)(b:(E.tk i).k=k)(t:i<E.n){R:Fo}(h:CI E 101 #[pV E] i R j):CI E 147 #[pV E] i R j:=by
 intro W L B g l;have f:=fL.start g;clear g;rcases q with rfl|rfl
 ·go_in;go_wp2_with fail;refine cd (dm b f (by omega)) fun w1 a=>?_;go_wp2_with fail;refine(h _ _ _ a.out.sp l).mono ?_;rintro p r ⟨s,m,rfl,c,d⟩;have e:=nQ a d;go_wp2_with fail;go_ret;exact⟨_,_,rfl,c,e.out⟩
 ·go_in;go_wp2_with fail;refine cd (dm b f (by omega)) fun w1 o=>?_;go_wp2_with fail;refine cd (dm b o (by omega)) fun u a=>?_;go_wp2_with fail;refine(h _ _ _ a.out.sp l).mono ?_;rintro p r ⟨s,m,rfl,c,d⟩;have e:=nQ a d;go_wp2_with fail;go_ret;exact⟨_,_,rfl,c,e.out⟩
end
section
variable {E : Pe} {W w w' : World} {i j : Nat} {L L1 L' : List Mb} {B B' : List (Nat × Array Value)}
theorem nC{b:Nat}{N:Nd}{vn vk:V}(h:Ax (fL E W w i L ((b,dw N vn vk)::B))):w.cell? ⟨b,0,M⟩=O (X U N.k)/\w.cell? ⟨b,1,M⟩=O (X U N.f)/\w.cell? ⟨b,2,M⟩=O (X U N.t)/\w.cell? ⟨b,3,M⟩=O (X U N.l)/\w.cell? ⟨b,4,M⟩=O (X U N.op)/\w.cell? ⟨b,5,M⟩=O (X U N.n)/\w.cell? ⟨b,6,M⟩=O (A7 N.x)/\w.cell? ⟨b,7,M⟩=O vn/\w.cell? ⟨b,8,M⟩=O vk/\∀j,w.frozen? ⟨b,j,M⟩=A6:=au (h.out.sp.box (cH ..))
theorem oK{e n:Nat}{v:V}{b:List V}(c:Ax (w.ownsRow E.base e 1 v n b))(k:Kt w w')(a:e=3\/e=9):Ax (w'.ownsRow E.base e 1 v n b):=k.row c.out (by rcases a with rfl|rfl<;>decide) (by rcases a with rfl|rfl<;>decide)
theorem nK{b:Nat}{N:Nd}{vn vk:V}(h:Ax (fL E W w i L ((b,dw N vn vk)::B)))(a:E.base<=b)(v:V):Ax (fL E W (w.setCell ⟨b,8,M⟩ v) i L ((b,dw N vn v)::B))/\Kt w (w.setCell ⟨b,8,M⟩ v):=⟨nS h a 8 v,h.out.sp.kset 8 v⟩
theorem ajA(a:List Int)(cs:Array V)(l:cs=(a.map (A2 U)).toArray)(r:a.length<=100)(h:Ax (fL E W w i L1 B))(o:1<=i)(p:i<=E.n)(N:Nd)(an:Option Addr)(mn cn:Nat)(on:w.ownsRow E.base 9 1 (Q an mn cn) N.nm.length (N.nm.map A5))(m:Nat)(s:a.length=m)(q:N.ks=a)(g:L1.length<=50000000)(f:Fr W.heap.size (Q an mn cn))(b:Nd){R:Fo}(ac:Ac W.heap.size L L1 R)(k:({N with t:=(E.tk (i-1)).t}:Nd)={b with ks:=R.tops L.length}):
  A4 Y 96 #[pV E,A8 (dw N (Q an mn cn) (Q (O ⟨w.heap.size+1,0,M⟩) m m))] ((w.alloc (A0 (dw N (Q an mn cn) (Q (O ⟨w.heap.size+1,0,M⟩) m m)) 35)).alloc (A0 cs 3)) fun e w'=>∃z L',e= Z (X U z)/\(one b R).tops L.length=[z]/\Ax (Jd E W w' L L' B (one b R) i):=by
 subst l s;have v:=nA h (dw N (Q an mn cn) (Q (O ⟨w.heap.size+1,0,M⟩) a.length a.length));have c:=bel1 (w.alloc (A0 (dw N (Q an mn cn) (Q (O ⟨w.heap.size+1,0,M⟩) a.length a.length)) 35)) (A0 (a.map (A2 U)).toArray 3);have x:=nB v c;have d:=pj (w.alloc (A0 (dw N (Q an mn cn) (Q (O ⟨w.heap.size+1,0,M⟩) a.length a.length)) 35)) a a.length rfl r;rw[ba]at d;refine(lw x o p N an _ mn cn _ _ (aG (aG on (bel1 _ _)) c) (by rw[q];exact jL d (by have:=h.out.sp.lt.2;omega)) g f (Fr.new (by have:=h.out.kt.size;omega)) b ac k).mono ?_;rintro e w' ⟨z,L',rfl,u,y⟩;exact⟨z,L',rfl,u,pT y⟩
theorem nCA{b:Nat}{N:Nd}{vn vk:V}(h:Ax (fL E W w i L ((b,dw N vn vk)::B)))(a:Obj):(w.alloc a).cell? ⟨b,8,M⟩=O vk/\∀j,(w.alloc a).frozen? ⟨b,j,M⟩=A6:=(nC (nB h (bel1 w a))).2.2.2.2.2.2.2.2
theorem nKI{b:Nat}{N:Nd}{vn vk:V}(a:List Int)(cs:Array V)(g:cs=(a.map (A2 U)).toArray)(m:Nat)(l:a.length=m)(h:Ax (fL E W w i L ((b,dw N vn vk)::B)))(f:E.base<=b)(k:m<=100):∃c,(w.alloc (A0 cs 3)).setCell ⟨b,8,M⟩ (Q (O ⟨w.heap.size,0,M⟩) m m)=c/\Ax (fL E W c i L ((b,dw N vn (Q (O ⟨w.heap.size,0,M⟩) m m))::B))/\Ax (c.ownsRow E.base 3 1 (Q (O ⟨w.heap.size,0,M⟩) m m) a.length (a.map (A2 U)))/\Kt w c:=by
 subst g l;have d:=bel1 w (A0 (a.map (A2 U)).toArray 3);have n:=nB h d;obtain⟨o,e⟩:=nK n f (Q (O ⟨w.heap.size,0,M⟩) a.length a.length);exact⟨_,rfl,o,oK (E:=E) (jL (pj w a a.length rfl k) h.out.sp.lt.2) e (.inl rfl),(Kt.of_below d).trans e⟩
theorem aft{k:Nat}(r:(E.tk i).k=42)(J:i<E.n){S:Fo}(hS:CL E 27 #[pV E,X U 43] (i+1) S k)(K:(E.tk k).k=43)(a6:k+1<E.n):CI E 90 #[pV E] i (one (im 1 (E.tk i) (E.tk k).t) S) (k+1):=by
 intro W L B q s;have x:=fL.start q;clear q;go_in;go_wp2_with fail;refine cd (iA r x J (by omega)) fun w1 y=>?_;go_wp2_with fail;refine cd (fw r _ _) fun a8 o=>?_;have e:=nB y o;have I:=aq e.out.sp.lt.2;have a:=nA e (dw (nN 1 (E.tk i)) s0 s0);go_wp2_with fail;refine(hS _ _ _ a.out.sp (by simp only[aJ]at s;omega)).mono ?_;rintro H a9 ⟨a7,a4,rfl,⟨p,_⟩,b,c⟩;have z:=aq b;obtain⟨F,G,rfl⟩:=bI b;have g:=nP a c;have ac:=nL a c;have v:Ax (Fr W.heap.size _):=p.le a.out.kt.size;clear p;obtain⟨am,an,ao,ap,ar,av,a0,a1,a2,a3⟩:=nC g;obtain⟨h,u⟩:=nK g I.out (Q F S.len G);have A:=oK z u (.inl rfl);clear b c o u;go_wp2_with fail;refine cd (gx K h (by omega) (by omega)) fun bb d=>?_;have m:=nX h d;have C:=oK A d.2.1 (.inl rfl);obtain⟨am,an,ao,ap,ar,av,a0,a1,a2,a3⟩:=nC m;clear d;go_wp2_with fail;refine(lw m (by omega) (by omega) ⟨1,(E.tk i).f,0,(E.tk i).l,0,0,⟨#[]⟩,[],S.tops L.length⟩ M _ 0 0 _ _ (bk _ _ _ _) (by rw[Fo.tops_len];exact C.out) (by rw[ac.out.len];simp only[aJ]at s;omega) (Fr.nil _ _ _) v.out (im 1 (E.tk i) (E.tk k).t) ac.out rfl).mono ?_;rintro H bd ⟨bf,a5,rfl,ad,af⟩;go_wp2_with fail;go_ret;exact⟨_,_,rfl,ad,(pT af).out⟩
theorem ah6(k:Int)(w:A1):A4 Y 175 #[X U k] w fun e w'=>e= Z (X U (KA k))/\w'=w:=by
 unfold KA;by_cases a:k=25
 ·subst a;go_in;go_wp2;go_ret;exact⟨rfl,rfl⟩
 by_cases b:k=50
 ·subst b;go_in;go_wp2;go_ret;exact⟨rfl,rfl⟩
 by_cases c:k=69
 ·subst c;go_in;go_wp2;go_ret;exact⟨rfl,rfl⟩
 ·rw[aa a,aa b,aa c];have d:(k==25)=A6:=by simp[a]
  have f:(k==50)=A6:=by simp[b]
  have g:(k==69)=A6:=by simp[c]
  go_in;go_wp2;go_ret;exact⟨rfl,rfl⟩
theorem abH{k:Int}(F:k=25\/k=50\/k=62\/k=69)(a:(E.tk i).k=k)(a2:i<E.n){x:Fo}(I:CI E 147 #[pV E] (i+1) x j)(a3:i+1<=j)(G:j<=E.n):CI E 147 #[pV E] i (one (nd 30 (E.tk i) (E.tk (j-1)).t (KA (E.tk i).k) 0 z0 []) x) j:=by
 intro W L B m o;have s:=fL.start m;clear m;rw[a];rcases F with rfl|rfl|rfl|rfl;all_goals
  go_in;go_wp2_with fail;refine cd (dm a s (by omega)) fun w1 u=>?_;go_wp2_with fail;refine cd (dm a u (by omega)) fun a4 v=>?_;go_wp2_with fail;refine cd (iA a v (by omega) (by omega)) fun ak y=>?_;obtain⟨a5,p,d,e⟩:=se (w:=ak) a y;simp only[iK]at p;obtain⟨am,an,ao,ap,ar,av⟩:=tC e a;go_wp2_with fail;refine cd (abG (b:=true) (by decide) _) fun w' H=>?_;subst w';clear p;go_wp2_with fail;refine(I _ _ _ d.out.sp (by simp only[aJ]at o;omega)).mono ?_;rintro C a6 ⟨r,a0,rfl,J,c⟩;have z:=nP d c;have ac:=nL d c;have g:=tK e c.kt;obtain⟨am,an,ao,ap,ar,av⟩:=tC g a;clear c;go_wp2_with fail;refine cd (fw a _ _) fun a7 h=>?_;have A:=nB z h;have q:=tA (tB g h) a;have a9:=fun ad=>(q ad).1;clear q;go_wp2_with fail;refine cd (ah6 _ _) fun w' H=>?_;subst w';go_wp2_with fail;refine(ajA [r] _ rfl (by simp) A (by omega) G ⟨30,(E.tk i).f,0,(E.tk i).l,_,0,⟨#[]⟩,[],[r]⟩ M 0 0 (bk _ _ _ _) 1 rfl rfl (by rw[ac.out.len];simp only[aJ]at o;omega) (Fr.nil _ _ _) (nd 30 (E.tk i) (E.tk (j-1)).t _ 0 z0 []) ac.out (by rw[J];rfl)).mono ?_;rintro C a8 ⟨bb,a1,rfl,K,af⟩;go_wp2_with fail;go_ret;exact⟨_,_,rfl,K,af.out⟩
theorem isY{k:Int}(b:(E.tk i).k=k)(h:Ax (fL E W w i L B))(a:i<E.n):A4 Y 53 #[pV E,X U k] w fun e w'=>e= Z (A9 true)/\Sp E w' (i+1) L B/\Kt w w'/\A3 E.base w w':=afn h.out.sp a k b
theorem isN{k:Int}(b:(E.tk i).k≠k)(h:Ax (fL E W w i L B))(a:i<E.n):A4 Y 53 #[pV E,X U k] w fun e w'=>e= Z (A9 A6)/\A3 w.heap.size w w':=ahJ h.out.sp a k b
theorem nM{b:Nat}{N:Nd}{vn vk:V}(h:Ax (fL E W w i L ((b,dw N vn vk)::B)))(a:E.base<=b)(v:V):Ax (fL E W (w.setCell ⟨b,7,M⟩ v) i L ((b,dw N v vk)::B))/\Kt w (w.setCell ⟨b,7,M⟩ v):=⟨nS h a 7 v,h.out.sp.kset 7 v⟩
def CM(E:Pe)(i:Nat)(b:List ByteArray)(j:Nat):Prop:=
 ∀(W:A1)(L:List Mb)(B:List (Nat×Array V)),Sp E W i L B->A4 Y 94 #[pV E] W fun c w'=>∃a,c= Z a/\Fr W.heap.size a/\w'.ownsRow E.base 9 1 a b.length (b.map A5)/\Sp E w' j L B/\Kt W w'/\A3 E.base W w'
end
theorem Sp.nds{E:Pe}{W:A1}{i:Nat}{L:List Mb}{B:List (Nat×Array V)}(h:Sp E W i L B){v:V}(d:W.ownsRow E.base 35 9 v L.length (jn L)):cg W v (L.map Mb.N):=by
 rcases bq d with⟨s,rfl⟩|⟨r,q,rfl⟩
 ·exact .inl ⟨by rw[iE s];rfl,_,_,rfl⟩
 ·refine .inr ⟨⟨r,0,M⟩,q,by rw[dv],fun i N a=>?_⟩;rw[cj]at a;cases hx:L[i]? with
  |none=>rw[hx]at a;cases a
  |some b=>
   rw[hx]at a;obtain rfl:=db a;rw[vD];obtain⟨e,f,g,k,l,m,n,o,p⟩:=mD d hx;have c:=h.each b (bC hx);exact⟨b.vn,b.vk,e,f,g,k,l,m,n,o,p,vF c.1,pi c.2⟩
theorem Sp.otherT{E:Pe}{W d:A1}{i:Nat}{L:List Mb}{B:List (Nat×Array V)}(h:Sp E W i L B){b:Nat}{cs:Array V}{fr:Nat×Nat}(n:W.heap[b]?=O (A0 cs 25 fr))(af:E.tb≠b)(t:W.grownBy d (O b)):Sp E d i L B:=by
 obtain⟨F,G,I,J⟩:=h.tks;obtain⟨e,l,H,m⟩:=h.row;have q:∀c g r k,W.heap[c]?=O (A0 g r k)->c≠b->d.heap[c]?=O (A0 g r k):=fun c g r k u ad=>(t.block c (ax u) (fun a=>ad (by cases a;rfl))).trans u;have p:∀{s a z x:Nat}{e:V}{C:List V},W.ownsRow s a z e x C->25≠a->d.ownsRow s a z e x C:=fun y K=>y.kept t (by
  cases hv:Value.ownBlock _ with
  |none=>exact .inl rfl
  |some ak=>exact .inr (fun a=>fl y n K (by rw[hv,a])))
 refine⟨h.lo,h.hn,⟨F,G,q _ _ _ _ I af,J⟩,⟨e,q _ _ _ _ l (fun a=>by rw[a,n]at l;cases l),p H (by decide),fun f o=>⟨q _ _ _ _ (m f o).1 (fun a=>?_),(m f o).2⟩⟩,fun A v=>⟨p (h.each A v).1 (by decide),p (h.each A v).2 (by decide)⟩,h.nb⟩;have:=(m f o).1;rw[a,n]at this;simp only[gg,jh]at this;exact absurd this.2.1 (by decide)
theorem Sp.new{W:A1}{a cap n:Nat}{tk:Nat->Tk}{c:Array V}{fr:Nat×Nat}(e:W.heap[a]?=O (A0 c 109 fr))(f:TkR c tk n)(h:n<=1048576)(b:Obj):Sp ⟨W.heap.size,W.heap.size+1,a,cap,n,tk⟩ ((W.alloc b).alloc (A0 #[Q (O ⟨a,0,M⟩) n cap,X U 0,Q M 0 0] 84)) 0 [] []:=by
 have d:=(bel1 W b).trans ((bel1 (W.alloc b) (A0 #[Q (O ⟨a,0,M⟩) n cap,X U 0,Q M 0 0] 84)).mono (by simp));refine⟨by show W.heap.size<=W.heap.size+1;omega,h,⟨c,fr,(d.block _ (ax e)).trans e,f⟩,⟨Q M 0 0,?_,bk _ _ _ _,fun d g=>by cases g⟩,fun l k=>(by cases k),List.nodup_nil⟩;have:=aw (W.alloc b) (A0 #[Q (O ⟨a,0,M⟩) n cap,X U 0,Q M 0 0] 84);rw[ba]at this;exact this
theorem afu(s:ByteArray)(W:A1)(o cap n j:Nat)(tk:Nat->Tk)(bx:Array V)(fr:Nat×Nat)(b7:W.heap[o]?=O (.cells bx 109 fr))(bF:TkR bx tk n)(cB:n<=1048576)(eg:s.size<=1048576){R:Fo}(hS:CL ⟨W.heap.size,W.heap.size+1,o,cap,n,tk⟩ 27 #[pV ⟨W.heap.size,W.heap.size+1,o,cap,n,tk⟩,.int .i64 6] 0 R j)(ea:R.sz<=40000000):
  A4 Y 11 #[.string s,.slice (O ⟨o,0,M⟩) n cap] W fun e w'=>∃v L,e= .returned (.agg #[v])/\Lw w' W.heap.size v L/\L.map Mb.N=(one ⟨1,0,(s.size:Nat),1,0,0,⟨#[]⟩,[],[]⟩ R).flat 0/\A3 W.heap.size W w':=by
 obtain⟨E,a7⟩:∃E:Pe,(⟨W.heap.size,W.heap.size+1,o,cap,n,tk⟩:Pe)=E:=⟨_,rfl⟩;have ad:=Sp.new (cap:=cap) b7 bF cB (.cells #[.slice M 0 0] 25);rw[a7]at ad hS;have bD:E.base=W.heap.size:=by rw[<-a7]
 have G:E.pb=W.heap.size+1:=by rw[<-a7]
 have a3:=(bel1 W (.cells #[.slice M 0 0] 25)).trans ((bel1 (W.alloc (.cells #[.slice M 0 0] 25)) (.cells #[.slice (O ⟨o,0,M⟩) n cap,.int .i64 0,.slice M 0 0] 84)).mono (by simp));have bf:((W.alloc (.cells #[.slice M 0 0] 25)).alloc (.cells #[.slice (O ⟨o,0,M⟩) n cap,.int .i64 0,.slice M 0 0] 84)).heap[W.heap.size]?=O (.cells #[.slice M 0 0] 25 (0,0)):=(dr _ _ _ (by simp)).trans (aw W _);obtain⟨af,b0⟩:=aA ((W.alloc (.cells #[.slice M 0 0] 25)).alloc (.cells #[.slice (O ⟨o,0,M⟩) n cap,.int .i64 0,.slice M 0 0] 84));rw[b0]at ad a3 bf;have cn:=fL.start ad;have ar:=nA cn (dw ⟨1,0,(s.size:Nat),1,0,0,⟨#[]⟩,[],[]⟩ s0 s0);have b6:pV E= .pointer (O ⟨W.heap.size+1,0,M⟩):=by show Value.pointer (O ⟨E.pb,0,M⟩)=_;rw[G]
 have c4:af.heap.size=W.heap.size+1+1:=by rw[<-b0];simp
 have bs:=dx bf a3;unfold CL at hS;rw[b6]at hS;clear ad b7 bF bf a3 b6;go_in;go_wp2_with fail;rw[c4]at ar;refine(hS _ _ _ ar.out.sp (by simp;omega)).mono ?_;rintro e d1 ⟨v,u,rfl,⟨cq,_⟩,bo,br⟩;have co:=aq bo;obtain⟨b,c,rfl⟩:=bI bo;have a0:=nP ar br;have ac:=aq br.ac;have c0:E.base<=W.heap.size+1+1:=by omega
 obtain⟨eo,ep,eq,es,et,ev,eF,e0,e1,e2⟩:=nC a0;obtain⟨bt,ca⟩:=nK a0 c0 (.slice b R.len c);have p:=aq bt;have bw:=oK co ca (.inl rfl);clear bo br ca cq bt a0;obtain⟨f,cx⟩:=aA (d1.setCell ⟨W.heap.size+1+1,8,M⟩ (.slice b R.len c));rw[cx]at p bw;obtain⟨v,F,a5,d9⟩:=p.out.sp.row;obtain⟨z,A,rfl⟩:=bI a5;rw[G]at F;have a4:f.cell? ⟨W.heap.size+1,2,M⟩=O (.slice z u.length A):=by rw[az _ _ _ _ _ _ F];rfl
 obtain⟨a,bd⟩:=aA u.length;rw[bd]at a4 F a5;have a9:f.heap[W.heap.size+1+1]?=O (.cells (dw ⟨1,0,(s.size:Nat),1,0,0,⟨#[]⟩,[],R.tops 0⟩ s0 (.slice b R.len c)) 35 (0,0)):=p.out.sp.box (cH ..);go_wp2_with fail;refine wp_region_held_drew (S:=fun a1=>a1.heap[W.heap.size+1+1]?=O (.cells (dw ⟨1,0,(s.size:Nat),1,0,0,⟨#[]⟩,[],R.tops 0⟩ s0 (.slice b R.len c)) 35 (0,0))) (by kernel_rfl) a9 (fun t=>?_);simp only[ip,di,fs,Nat.reduceAdd,jt,ju,jw,fd,fF];refine dg 0 (.pointer (O ⟨W.heap.size+1,0,M⟩)) rfl rfl (by kernel_rfl) (fun _ _ _=>id) t (fun w' x=>by go_simp) ?_;simp only[List.set];refine dg 1 (.pointer (O ⟨W.heap.size+1,0,M⟩)) rfl rfl (by kernel_rfl) (fun _ _ _=>id) t (fun w' x=>by go_simp) ?_;simp only[List.set];refine dg 2 (.pointer (O ⟨W.heap.size+1,0,M⟩)) rfl rfl (by kernel_rfl) (fun _ _ _=>id) t (fun w' x=>by go_simp) ?_;simp only[List.set];refine dg 3 (.pointer (O ⟨W.heap.size+1,2,M⟩)) rfl rfl (by kernel_rfl) (fun _ _ _=>id) t (fun w' x=>by go_simp) ?_;simp only[List.set];refine jz 5 21 (.agg #[.int .i64 1,.int .i64 0,.int .i64 (s.size:Nat),.int .i64 1,.int .i64 0,.int .i64 0,.string ⟨#[]⟩,.slice M 0 0,.slice b R.len c]) rfl rfl (by kernel_rfl) (by kernel_rfl) (by kernel_rfl) (fun _ _ _ a6=>a6) (by rfl) t (fun w' x=>by obtain⟨z0,e3,e4,e5,e6,e7,e8,ap,cl,e9⟩:=au (N:=⟨1,0,(s.size:Nat),1,0,0,⟨#[]⟩,[],R.tops 0⟩) (vn:=s0) (vk:= .slice b R.len c) x;go_simp) ?_;simp only[Act.put,bJ,bK,ci];have cu:=a4;refine rC (S:=fun a1=>a1.cell? ⟨W.heap.size+1,2,M⟩=O (.slice z a A)) (C:=fun j=>!(j==7||j==8||j==9||j==10)) (i:=4) (v:= .slice z a A) rfl (yi (by kernel_rfl)) (fun _ _ _ a6=>a6) ?hC _ _ _ _ (yj rfl (by kernel_rfl)) (List.contains_iff_mem.1 (by kernel_rfl)) (Or.inl ⟨by rfl,fun w' x=>by go_simp⟩) t cu ?_
 case hC=>
  intro j ei b4 k;simp only[Bool.not_eq_false',yo,gn]at k;rcases k with((rfl|rfl)|rfl)|rfl
  ·obtain rfl:=db b4;exact⟨{on:=4,ground:=Ground.data},by simp,rfl,rfl⟩
  all_goals
   obtain rfl:=db b4;exact⟨{on:=4,ground:=Ground.phase},by simp,rfl,rfl⟩
 simp only[Act.put,bJ,bK,ci];refine fi (i:=6) (by kernel_rfl) rfl (fun l d=>?_);go_simp;have a8:A3 f.heap.size f (f.drew.alloc (.cells (dw ⟨1,0,(s.size:Nat),1,0,0,⟨#[]⟩,[],R.tops 0⟩ s0 (.slice b R.len c)) 35)):=(aL (aj _ _)).alloc (by simp) _;refine d.out _ _ ((a8.block _ (ax a9)).trans a9) (fun _=>cell_kept a8 a4) ?_;clear d l;try simp only[bJ,bK,ci]
 obtain⟨am,H⟩:=aA ((f.alloc (.cells (dw ⟨1,0,(s.size:Nat),1,0,0,⟨#[]⟩,[],R.tops 0⟩ s0 (.slice b R.len c)) 35)).drew);have r:A3 f.heap.size f am:=by rw[<-H];exact aL (bel1 f _)
 have c5:am.heap[f.heap.size]?=O (.cells (dw ⟨1,0,(s.size:Nat),1,0,0,⟨#[]⟩,[],R.tops 0⟩ s0 (.slice b R.len c)) 35 (0,0)):=by rw[<-H];exact aw f _
 simp only[dw]at H;rw[H];clear H a8 t;have ds:=p.out.sp.below r;have dp:=(r.block _ (ax F)).trans F;have cr:=aG a5 r;have b5:=p.out.sp.lt;have cz:=ac.out.len;have ef:a<=50000000:=by rw[<-bd,cz];simp;omega
 obtain⟨c6,c9,dd,dk,dn⟩:=dC yE;refine fi (i:=7) (by kernel_rfl) rfl (fun l d=>?_);refine step_append_lies _ (by rfl) _ _ 23 (by rfl) E.base 35 c6 _ 9 112 Tryz.underlying23 c9 dd dk dn rfl (by decide) (.slice z a A) a _ (by rfl) cr ⟨f.heap.size,0,M⟩ 1 1 (dw ⟨1,0,(s.size:Nat),1,0,0,⟨#[]⟩,[],R.tops 0⟩ s0 (.slice b R.len c)).toList (by rfl) rfl (World.news_of_block c5) (by intro em b9;simp at b9;rcases b9 with rfl|rfl|rfl|rfl|rfl|rfl|rfl|rfl|rfl<;>rfl) (by decide) (by unfold maxLen;omega) (by omega) (bz b5.2 r.size) am.heap.size rfl ?_;intro h g m bp b3 b2 ec;have bA:jn u++(dw ⟨1,0,(s.size:Nat),1,0,0,⟨#[]⟩,[],R.tops 0⟩ s0 (.slice b R.len c)).toList=jn (u++[⟨⟨1,0,(s.size:Nat),1,0,0,⟨#[]⟩,[],R.tops 0⟩,s0,.slice b R.len c⟩]):=by rw[uq];show _=jn u++(cMb _++[]);rw[dA];rfl
 rw[bA]at bp;have cb:am.ownsRow E.base 3 1 (.slice b R.len c) (R.tops 0).length ((R.tops 0).map (A2 .i64)):=by rw[Fo.tops_len];exact aG bw.out r
 obtain⟨K,bn,a2,an⟩:=ds.push (by rw[G];exact dp) (by rw[bd]) ⟨⟨1,0,(s.size:Nat),1,0,0,⟨#[]⟩,[],R.tops 0⟩,s0,.slice b R.len c⟩ bp b3 b2 (bk _ _ _ _) cb;rw[G]at K bn a2 an;have ap:m.heap[W.heap.size+1+1]?=O (.cells (dw ⟨1,0,(s.size:Nat),1,0,0,⟨#[]⟩,[],R.tops 0⟩ s0 (.slice b R.len c)) 35 (0,0)):=by
  have J:=K.box (cH ..);rw[bh _ _ _ _ (by show W.heap.size+1+1≠W.heap.size+1;omega)]at J;exact J
 have cl:=K.box (cH ..);have d3:m.cell? ⟨W.heap.size+1,2,M⟩=O (.slice z a A):=by rw[az _ _ _ _ _ _ an];rfl
 have d7:m.frozen? ⟨W.heap.size+1,2,M⟩=A6:=du _ _ _ _ _ an;have ao:(m.setCell ⟨W.heap.size+1,2,M⟩ (.slice (O ⟨h,0,M⟩) (a+1) g)).heap[W.heap.size+1]?=O (.cells #[.slice (O ⟨E.tb,0,M⟩) E.n E.cap,.int .i64 j,.slice (O ⟨h,0,M⟩) (a+1) g] 84 (0,0)):=cD _ _ 2 _ _ _ an;have y:Ax (Sp E (m.setCell ⟨W.heap.size+1,2,M⟩ (.slice (O ⟨h,0,M⟩) (a+1) g)) j (u++[⟨⟨1,0,(s.size:Nat),1,0,0,⟨#[]⟩,[],R.tops 0⟩,s0,.slice b R.len c⟩]) ((W.heap.size+1+1,dw ⟨1,0,(s.size:Nat),1,0,0,⟨#[]⟩,[],R.tops 0⟩ s0 (.slice b R.len c))::[])/\Kt af (m.setCell ⟨W.heap.size+1,2,M⟩ (.slice (O ⟨h,0,M⟩) (a+1) g))/\A3 E.base af (m.setCell ⟨W.heap.size+1,2,M⟩ (.slice (O ⟨h,0,M⟩) (a+1) g))):=
  ⟨K,(p.out.kt.trans (Kt.of_below r)).trans bn,(p.out.bl.trans (r.mono b5.2)).trans a2⟩
 clear K bn a2 cb bA bp b3 b2;refine d.out _ _ ap (fun k=>by cases k) ?_;clear d l;simp only[Act.put,bJ,bK,ci];refine fi (i:=8) (by kernel_rfl) rfl (fun l d=>?_);go_simp;refine d.out _ _ ap (fun k=>by cases k) ?_;clear d l;try simp only[bJ,bK,ci]
 refine fi (i:=9) (by kernel_rfl) rfl (fun l d=>?_);go_simp;refine d.out _ _ ap (fun k=>by cases k) ?_;clear d l;try simp only[bJ,bK,ci]
 refine fi (i:=10) (by kernel_rfl) rfl (fun l d=>?_);go_simp;refine d.out _ _ cl (fun k=>by cases k) ?_;clear d l;refine uo (by kernel_rfl) ?_ _;have cp:(m.setCell ⟨W.heap.size+1,2,M⟩ (.slice (O ⟨h,0,M⟩) (a+1) g)).cell? ⟨W.heap.size+1,2,M⟩=O (.slice (O ⟨h,0,M⟩) (a+1) g):=by rw[az _ _ _ _ _ _ ao];rfl
 obtain⟨q,b1⟩:=aA (m.setCell ⟨W.heap.size+1,2,M⟩ (.slice (O ⟨h,0,M⟩) (a+1) g));rw[b1]at y cp ao⊢;have I:q.heap[W.heap.size]?=O (.cells #[.slice M 0 0] 25 (0,0)):=y.out.2.1.blk bs.out.1 (by decide) (by decide);have d5:q.cell? ⟨W.heap.size,0,M⟩=O (.slice M 0 0):=by rw[az _ _ _ _ _ _ I];rfl
 have d6:q.frozen? ⟨W.heap.size,0,M⟩=A6:=du _ _ _ _ _ I;have cm:=aq ao;clear b1 ao;go_wp2_with fail;have cy:q.grownBy (q.setCell ⟨W.heap.size,0,M⟩ (.slice (O ⟨h,0,M⟩) (a+1) g)) (O W.heap.size):=⟨rfl,rfl,rfl,by simp[World.setCell],fun eh eb c1=>bh _ _ _ _ (fun e=>c1 (by rw[e]))⟩;obtain⟨d4,d8,cf,_⟩:=y.out.1.tks;have c2:E.tb≠W.heap.size:=fun e=>by rw[e,I]at cf;cases cf
 have ce:=y.out.1.otherT I c2 cy;have c3:(q.setCell ⟨W.heap.size,0,M⟩ (.slice (O ⟨h,0,M⟩) (a+1) g)).heap[E.pb]?=O (.cells #[.slice (O ⟨E.tb,0,M⟩) E.n E.cap,.int .i64 j,.slice (O ⟨h,0,M⟩) (a+1) g] 84 (0,0)):=by rw[G,bh _ _ _ _ (by show W.heap.size+1≠W.heap.size;omega)];exact cm.out
 obtain⟨dz,J,dq,el⟩:=ce.row;obtain rfl:dz= .slice (O ⟨h,0,M⟩) (a+1) g:=by rw[c3]at J;cases J;rfl
 have cc:Lw _ E.base _ _:=⟨dq,ce.each⟩;rw[bD]at cc;obtain⟨d2,bE,cs,_⟩:=ac.out;rw[fd]at bE;exact bB (gi rfl _ _ W.heap.size _ _ _ _ rfl (cD _ _ 0 _ _ _ I) Tryz.underlying25 rfl (by kernel_rfl)) rfl ⟨_,_,rfl,cc,by rw[bE,en,cs];rfl,bs.out.2.trans ((by have:=y.out.2.2;rw[bD]at this;exact this:A3 W.heap.size af q).setCell (ah _) _)⟩
