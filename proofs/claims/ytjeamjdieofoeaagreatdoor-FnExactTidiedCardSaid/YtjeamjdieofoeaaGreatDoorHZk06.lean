import Derived.Test.YtjeamjdieofoeaaGreatDoorHZk03
import Derived.Test.YtjeamjdieofoeaaGreatDoorHZk02
set_option linter.all false
set_option maxRecDepth 100000
set_option maxHeartbeats 6400000
open Option renaming some->M,none->V
open Go renaming World->O,Value->X,Calls->Bs,Program->B1
open Go.Value renaming int->R,ownBlock->A5,string->Br,string->B0,int->B3,bool->B4,slice->B7,tuple->C2
open Go.IntKind renaming i64->U
open Bool renaming true->Y,false->A9
open Go.Proofs.Tryz renaming prog->Z
open Go.World renaming setCell->Ax
open Go.Ending renaming returned->A0
open Go.RowKit renaming Below->A2,Hid->B6,intOf->Cb
namespace Go.Proofs.YtjeamjdieofoeaaGreatDoor
open Go.RowKit
variable{C:Nat->Bool}{Q:Exit->Act->World->Prop}{S S2:World->Prop}{T:ByteArray}{W w w' w0:World}{b base e i lo n:Nat}{md:Region.Mode}{ops:Array Oper}{v vt:Value}{xs:List Value}
theorem nB{B:Nat}{a:O}(h:A2 B a w)(n:Nat):A2 B a (w.drewN n):=⟨h.os,h.tape,h.output,h.size,h.block⟩
theorem aw{B:Nat}{a:O}(h:A2 B a w):A2 B a w.drew:=⟨h.os,h.tape,h.output,h.size,h.block⟩
theorem bI{size:Nat}(h:W.ownsRow base e size v n xs):∃a b,v= B7 a n b:=by
 rcases h.2 with⟨rfl,c⟩|⟨f,b,d,rfl,_⟩
 ·exact⟨V,0,by rw[c]⟩
 ·exact⟨_,_,rfl⟩
theorem ub(w:O)(b:Option Nat):w.grownBy w b:=⟨rfl,rfl,rfl,ag _,fun _ _ _=>rfl⟩
theorem qi(h:w0.grownBy w (M b))(i:Nat)(v:X):w0.grownBy (w.setCell ⟨b,i,V⟩ v) (M b):=
 ⟨h.os,h.tape,h.output,by simpa [Ax] using h.size,fun e d a=>by rw[aB _ _ _ _ (fun c=>a (by rw[c]))];exact h.block e d a⟩
theorem bu{size:Nat}(h:W.ownsRow base e size v n xs):(n=0/\v= B7 V 0 0)\/∃g a,v= B7 (M ⟨g,0,V⟩) n a:=by
 rcases h.2 with⟨rfl,b⟩|⟨g,a,c,rfl,_⟩
 ·exact .inl ⟨b,rfl⟩
 ·exact .inr ⟨_,_,rfl⟩
structure Mb where
 N:Nd
 vn:X
 vk:X
def cMb(x:Mb):List X:=[R U x.N.k,R U x.N.f,R U x.N.t,R U x.N.l,R U x.N.op,R U x.N.n,B0 x.N.x,x.vn,x.vk]
def sv(l:List Mb):List X:=l.flatMap cMb
theorem Et(a:Mb)(r:List Mb):sv (a::r)=cMb a++sv r:=by simp[sv]
theorem Cc(a b:List Mb):sv (a++b)=sv a++sv b:=by simp[sv]
theorem aeG(l:List Mb):(sv l).length=l.length*9:=by
 induction l with
 |nil=>rfl
 |cons a d b=>
  have c:(cMb a).length=9:=rfl;rw[Et,aK,b,c,bB];omega
theorem ain(ts:List Mb)(i j:Nat)(T:Mb)(a:ts[i]?=M T)(e:j<9):(sv ts)[i*9+j]?=(cMb T)[j]?:=by
 induction ts generalizing i with
 |nil=>simp at a
 |cons b f c=>
  have d:(cMb b).length=9:=rfl;rw[Et];cases i with
  |zero=>simp at a;subst a;rw[iu (by omega)];congr 1;omega
  |succ i=>
   rw[fL (by omega),d,show(i+1)*9+j-9=i*9+j by omega];exact c i (by simpa using a)
def aeH(d:List X):Prop:=∀(i c:Nat)(a b:X),i≠c->d[i]?=M a->d[c]?=M b->a.ownBlock=V\/a.ownBlock≠b.ownBlock
structure Eu (W:O) (lo hi:Nat) (x:Mb):Prop where
 on:W.ownsRow lo 9 1 x.vn x.N.nm.length (x.N.nm.map Br)
 ok:W.ownsRow lo 3 1 x.vk x.N.ks.length (x.N.ks.map (B3 .i64))
 hn:∀g,x.vn.ownBlock=M g->g<hi
 hk:∀g,x.vk.ownBlock=M g->g<hi
structure mw (W:O) (lo hi:Nat) (v:X) (L:List Mb):Prop where
 row:W.ownsRow lo 45 9 v L.length (sv L)
 hh:∀g,v.ownBlock=M g->g<hi
 each:∀x∈L,Eu W lo hi x
 dn:aeH (L.map Mb.vn)
 dk:aeH (L.map Mb.vk)
theorem Ev{l:List ByteArray}(h:W.ownsRow base 9 1 v l.length (l.map Br)):cu W v l:=by
 rcases bu h with⟨a,rfl⟩|⟨c,b,rfl⟩
 ·exact .inl ⟨ia a,_,_,rfl⟩
 ·exact Iu h rfl
theorem uI{l:List Int}(h:W.ownsRow base 3 1 v l.length (l.map (B3 U))):dw W v l:=by
 rcases bu h with⟨a,rfl⟩|⟨c,b,rfl⟩
 ·exact .inl ⟨ia a,_,_,rfl⟩
 ·exact Iy h rfl
theorem uJ{g e:Nat}{b:List Mb}(h:W.ownsRow lo 45 9 (B7 (M ⟨g,0,V⟩) n e) n (sv b)){x:Mb}(d:b[i]?=M x):
  W.cell? ⟨g,i*9,V⟩=M (R U x.N.k)/\W.cell? ⟨g,i*9+1,V⟩=M (R U x.N.f)/\W.cell? ⟨g,i*9+2,V⟩=M (R U x.N.t)/\W.cell? ⟨g,i*9+3,V⟩=M (R U x.N.l)/\W.cell? ⟨g,i*9+4,V⟩=M (R U x.N.op)/\W.cell? ⟨g,i*9+5,V⟩=M (R U x.N.n)/\W.cell? ⟨g,i*9+6,V⟩=M (B0 x.N.x)/\W.cell? ⟨g,i*9+7,V⟩=M x.vn/\W.cell? ⟨g,i*9+8,V⟩=M x.vk:=by
 have o:n*9=b.length*9:=by have:=h.1;rw[aeG]at this;omega
 have m:i<b.length:=by rcases bj i b.length with g|g;exact g;rw[jG g]at d;cases d
 have a:∀c,c<9->W.cell? ⟨g,i*9+c,V⟩=(cMb x)[c]?:=fun c j=>by
  rw[h.cellAt (i*9+c) (by omega),ain b i c x d j]
 exact⟨a 0 (by omega),a 1 (by omega),a 2 (by omega),a 3 (by omega),a 4 (by omega),a 5 (by omega),a 6 (by omega),a 7 (by omega),a 8 (by omega)⟩
def nxt(K:Nat)(N:Nd):Nat:=K+7+N.nm.length+N.ks.length
def Kv:Nat->List Nd->Nat
 |K,[]=>K
 |K,N::r=>Kv (nxt K N) r
theorem aeI(a B:List Nd):∀K,Kv K (a++B)=Kv (Kv K a) B:=by
 induction a with
 |nil=>intro K;rfl
 |cons d c b=>intro K;simp[Kv,b]
def yH(x:ByteArray):Bool:=decide (x.toList=[])
def bC(N:Nd)(c b d a:Bool):Bool:=(c||N.op==0)&&(b||N.n==0)&&(d||yH N.x)&&(a||decide (N.nm.length=0))
theorem Ll(w:O)(N:Nd)(vn vk:X)(h:cu w vn N.nm)(g:dw w vk N.ks)(r:N.nm.length<=1048576)(a b c f:Bool):
  Bs Z 170 #[jf N vn vk,B4 a,B4 b,B4 c,B4 f] w fun e w'=>e= A0 (B4 (bC N a b c f))/\A2 w.heap.size w w':=by
 have j:=aq (cK w);obtain⟨n,p,rfl⟩:=h.form;obtain⟨o,q,rfl⟩:=g.form;clear h g;obtain⟨m,d⟩:=az (bC N a b c f);rw[d];unfold jf;generalize N.ks.length=l;unfold bC yH at d;by_cases k:N.x.toList=[];all_goals
  simp only[k,decide_true,decide_false]at d;have i:=aq d;clear d;cases t4:((N.nm.length:Int)==0);all_goals
   go_in;go_wp2;all_goals
    go_ret;exact⟨by rw[<-i.out];simp at t4;simp[*],j _⟩
def wpU(P:B1)(d:Region.Mode)(c:Array Oper)(Q:Exit->Act->O->Prop)(S e:O->Prop)(C:Nat->Bool):Nat->Array Bool->Act->O->Prop
 |0,b,a,w=>Region.ready d c b=[]/\Q .normal a w
 |fuel+1,b,a,w=>
  (Region.ready d c b=[]->Q .normal a w)/\
  ∀i∈Region.ready d c b,wpOp P c Q i (fun f w'=>(e w'/\(C i=Y->S w'))/\wpU P d c Q S e C fuel (b.setIfInBounds i Y) f w') a w
theorem Cd{P:B1}:∀(fuel:Nat)(c:Array Bool)(a:Act)(w:O),wpU P md ops Q S S2 C fuel c a w->wpAnyH P md ops Q S2 fuel c a w
 |0,_,_,_,h=>h
 |fuel+1,_,_,_,h=>⟨h.1,fun i e=>wpOp_mono (fun d w' b=>⟨b.1.1,Cd fuel _ d w' b.2⟩) (h.2 i e)⟩
theorem re{P:B1}{l:Oper}(B:ops[i]?=M l)(J:∀(j:Nat) (o:Oper) cs b,ops[j]?=M o->o.op≠ .select cs b)
  (al:∀c a w,Q (.panic c) (a.put l.dst v) w->Q (.panic c) a w) (af:∀(j:Nat) d,ops[j]?=M d->C j=A9->∃e∈d.after,Region.binds md e=Y/\e.on=i):
  ∀(fuel:Nat)(f:Array Bool)(a:Act)(w:O),
   (∀j d,ops[j]?=M d->j≠i->f.getD j Y=A9->(∀e∈d.after,Region.binds md e=Y->e.on≠i)->l.apart ops d=Y)->
   i∈Region.ready md ops f->YieldsIf P ops S l v a->S2 w->S w->
   wpU P md ops Q S S2 C fuel (f.setIfInBounds i Y) (a.put l.dst v) w->wpAnyH P md ops Q S2 (fuel+1) f a w:=by
 intro fuel
 induction fuel with
 |zero=>
  intro f a w _ k t x hS n;refine⟨fun u=>(by rw[u]at k;cases k),fun j r=>?_⟩;by_cases g:j=i
  ·subst g;exact t.wpOp B hS ⟨x,Cd _ _ _ _ n⟩
  ·have:=ready_mono r g;rw[n.1]at this;cases this
 |succ fuel av=>
  intro f a w F k t x hS n;refine⟨fun u=>(by rw[u]at k;cases k),fun j r=>?_⟩;by_cases g:j=i
  ·subst g;exact t.wpOp B hS ⟨x,Cd _ _ _ _ n⟩
  ·have h:=n.2 j (ready_mono r g);obtain⟨H,d,s,am⟩:=mem_ready.1 r;have I:∀e∈d.after,Region.binds md e=Y->e.on≠i:=fun e z y A=>by
    have h:=am e z y;have E:=(mem_ready.1 k).1;rw[A]at h;rcases bj i f.size with h'|h'
    ·simp[h']at E h;rw[E]at h;cases h
    ·simp[xk h']at h
   have ak:C j=Y:=by
    cases hc:C j with
    |true=>rfl
    |false=>
     obtain⟨e,z,y,A⟩:=af j d s hc;exact absurd A (I e z y)
   have ad:=wpOp_putIf s (F j d s g H I) (fun cs b=>J i l cs b B) (fun cs b=>J j d cs b s) al t h;have an:∀m q,ops[m]?=M q->m≠i->(f.setIfInBounds j Y).getD m Y=A9->
     (∀e∈q.after,Region.binds md e=Y->e.on≠i)->l.apart ops q=Y:=fun m q ao ap K ar=>by
    refine F m q ao ap ?_ ar;by_cases G:j=m
    ·subst G;exact H
    ·rw[getD_set_ne Y G]at K;exact K
   refine wpOp_mono (fun L a0 p=>⟨p.2.1.1,av (f.setIfInBounds j Y) L a0 an (ready_mono k (dv g)) p.1 p.2.1.1 (p.2.1.2 ak) ?_⟩) ad;rw[Array.setIfInBounds_comm _ _ g];exact p.2.2
theorem dC{P:B1}{o:Oper}{fuel:Nat}{c:Array Bool}{a:Act}(l:Region.ready md ops c=[i])(r:ops[i]?=M o)
  (h:∀d:Act->O->Prop,Shut (∀a w,S2 w->(C i=Y->S w)->wpU P md ops Q S S2 C fuel (c.setIfInBounds i Y) a w->d a w)->if Region.wanted o (yielded ops a.tmps)=Y then Oper.wp P o a w d Q else d (a.put o.dst undef) w):wpU P md ops Q S S2 C (fuel+1) c a w:=by
 refine⟨fun j=>(by rw[l]at j;cases j),fun f k=>?_⟩;rw[l]at k;obtain rfl:f=i:=by simpa using k
 have b:=h (fun m g=>(S2 g/\(C f=Y->S g))/\wpU P md ops Q S S2 C fuel (c.setIfInBounds f Y) m g) (fun a w n p q=>⟨⟨n,p⟩,q⟩);unfold wpOp;simp only[r];split
 ·rename_i e;rw[ab e]at b;exact .inl b
 ·rename_i e;rw[aa e]at b;exact b
theorem uc{P:B1}{c:Array Bool}{a:Act}(b:Region.ready md ops c=[])(h:Q .normal a w):
  ∀fuel,wpU P md ops Q S S2 C fuel c a w
 |0=>⟨b,h⟩
 |_+1=>⟨fun _=>h,by rw[b];simp⟩
theorem ju{c size:Nat}(o:w.ownsRow lo e size v n xs)(h:∀g,v.ownBlock=M g->lo<=g->g<w.heap.size->w'.heap[g]?=w.heap[g]?/\c<=g):w'.ownsRow c e size v n xs:=by
 obtain⟨j,a⟩:=o;refine⟨j,?_⟩;rcases a with a|⟨g,f,i,rfl,k,b,l⟩
 ·exact .inl a
 ·have d:=h g rfl k (ai b);exact .inr ⟨g,f,i,rfl,d.2,d.1.trans b,l⟩
structure Lw (w:O) (lo:Nat) (lv:X) (L:List Mb):Prop where
 row:w.ownsRow lo 45 9 lv L.length (sv L)
 each:∀x∈L,w.ownsRow lo 9 1 x.vn x.N.nm.length (x.N.nm.map Br)/\w.ownsRow lo 3 1 x.vk x.N.ks.length (x.N.ks.map (B3 .i64))
theorem Lw.mono{e:List Mb}(h:Lw w lo v e)(d:∀k,lo<=k->k<w.heap.size->w'.heap[k]?=w.heap[k]?):Lw w' lo v e:=
 ⟨ju h.row fun b _ a c=>⟨d b a c,a⟩,fun g f=>⟨ju (h.each g f).1 fun b _ a c=>⟨d b a c,a⟩,ju (h.each g f).2 fun b _ a c=>⟨d b a c,a⟩⟩⟩
theorem Lw.nds{b:List Mb}(h:Lw w lo v b):fs w v (b.map Mb.N):=by
 rcases bu h.row with⟨r,rfl⟩|⟨c,q,rfl⟩
 ·exact .inl ⟨by rw[ia r];rfl,_,_,rfl⟩
 ·refine .inr ⟨⟨c,0,V⟩,q,by rw[cj],fun d N a=>?_⟩;rw[ce]at a;cases hx:b[d]? with
  |none=>rw[hx]at a;cases a
  |some e=>
   rw[hx]at a;obtain rfl:=bp a;rw[show(⟨c,0,V⟩:Addr).add (d*9)=⟨c,d*9,V⟩ by unfold Addr.add;split<;>simp_all];obtain⟨g,i,j,k,l,m,n,o,p⟩:=uJ h.row hx;have f:=h.each e (cH hx);exact⟨e.vn,e.vk,g,i,j,k,l,m,n,o,p,Ev f.1,uI f.2⟩
open Go.Lib (strCells strCells_length wpList_append_own_string)
theorem aeJ:(Tryz.prog.info? 5).map (fun i=>(i.zero,i.size,i.bytes))=M (M (R .u8 0),1,1):=by kernel_rfl
theorem yd(a b:ByteArray):strCells (a++b)=strCells a++strCells b:=by
 unfold strCells;rw[show(a++b).data=a.data++b.data from oc];simp
structure Kq (b:Nat) (w w':O):Prop where
 os:w'.os=w.os
 tape:w'.tape=w.tape
 output:w'.output=w.output
 size:w.heap.size<=w'.heap.size
 block:∀k,k<w.heap.size->k≠b->(∀cs fr,w.heap[k]?≠M (.cells cs 5 fr))->w'.heap[k]?=w.heap[k]?
theorem Kq.refl(b:Nat)(w:O):Kq b w w:=⟨rfl,rfl,rfl,ag _,fun _ _ _ _=>rfl⟩
theorem Kq.trans{x f z:O}(h:Kq b x f)(k:Kq b f z):Kq b x z:=
 ⟨k.os.trans h.os,k.tape.trans h.tape,k.output.trans h.output,bL h.size k.size,fun e c d a=>
  (k.block e (fD c h.size) d (fun g i=>by rw[h.block e c d a];exact a g i)).trans (h.block e c d a)⟩
theorem Kq.of_below(h:A2 w.heap.size w w'):Kq b w w':=⟨h.os,h.tape,h.output,h.size,fun c a _ _=>h.block c a⟩
structure Pr (w0:O) (vt:X) (T:ByteArray) (tab:Int) (W:O):Prop where
 bel:A2 w0.heap.size w0 W
 row:∃o,W.heap[w0.heap.size]?=M (.cells #[vt,o,.int .i64 tab] 41 (0,0))/\W.ownsRow (w0.heap.size+1) 5 1 o T.size (strCells T)
theorem Pr.lt{tab:Int}(h:Pr w0 vt T tab W):w0.heap.size<W.heap.size:=by
 obtain⟨c,a,b⟩:=h.row;exact ai a
theorem Pr.below{tab:Int}{b:O}(h:Pr w0 vt T tab W)(a:A2 W.heap.size W b):Pr w0 vt T tab b:=by
 obtain⟨e,c,d⟩:=h.row;exact⟨h.bel.trans (a.mono h.bel.size),e,(a.block _ (ai c)).trans c,cJ d a⟩
theorem I1{p:Nat}{o:X}{cs:Array X}{t:TypeId}{fr:Nat×Nat}(c:W.heap[p]?=M (.cells cs t fr))(h:t≠5)(d:W.ownsRow base 5 1 o n xs)(g:Nat)(a:o.ownBlock=M g):g≠p/\base<=g:=by
 refine⟨?_,(d.lt g a).1⟩;rintro rfl;rcases d.2 with⟨b,_⟩|⟨e,i,j,b,_,f,_⟩
 ·rw[b]at a;simp[A5]at a
 ·rw[b]at a;obtain rfl:e=g:=by simpa [A5] using a
  rw[f]at c;cases c;exact h rfl
theorem Pr.put{g:X}{d:Int}(e:A2 w0.heap.size w0 W)(b:W.heap[w0.heap.size]?=M (.cells #[vt,g,R U d] 41 (0,0))){o:X}(c:W.ownsRow (w0.heap.size+1) 5 1 o T.size (strCells T)):Pr w0 vt T d (W.setCell ⟨w0.heap.size,1,V⟩ o):=
 ⟨e.setCell (ag _) _,o,bz _ _ 1 _ _ _ b,c.kept (row:=M w0.heap.size) ⟨rfl,rfl,rfl,by simp[Ax],fun j i f=>aB _ _ _ _ (fun a=>f (by rw[a]))⟩ (by
  cases hv:o.ownBlock with
  |none=>exact .inl rfl
  |some h=>exact .inr (fun a=>by cases a;exact(I1 b (by decide) c _ hv).1 rfl))⟩
theorem Pr.putTab{g:Int}(h:Pr w0 vt T g W)(e:Int):Pr w0 vt T e (W.setCell ⟨w0.heap.size,2,V⟩ (R U e)):=by
 obtain⟨d,b,c⟩:=h.row;exact⟨h.bel.setCell (ag _) _,d,bz _ _ 2 _ _ _ b,c.kept (row:=M w0.heap.size) ⟨rfl,rfl,rfl,by simp[Ax],fun k j f=>aB _ _ _ _ (fun a=>f (by rw[a]))⟩ (by
  cases hv:d.ownBlock with
  |none=>exact .inl rfl
  |some i=>exact .inr (fun a=>by cases a;exact(I1 b (by decide) c _ hv).1 rfl))⟩
theorem Kq.putP(b:Nat)(W:O)(i:Nat)(v:X):Kq b W (W.setCell ⟨b,i,V⟩ v):=
 ⟨rfl,rfl,rfl,by simp[Ax],fun d c a _=>aB _ _ _ _ a⟩
theorem Pr.cells{tab:Int}(h:Pr w0 vt T tab W):W.cell? ⟨w0.heap.size,0,V⟩=M vt/\W.cell? ⟨w0.heap.size,2,V⟩=M (R U tab)/\∀j,W.frozen? ⟨w0.heap.size,j,V⟩=A9:=by
 obtain⟨c,a,b⟩:=h.row;exact⟨by rw[au _ _ _ _ _ _ a];rfl,by rw[au _ _ _ _ _ _ a];rfl,fun j=>co _ _ _ _ _ a⟩
theorem eL(a:O)(r:X)(T s:ByteArray)(tab:Int)(w:O)(h:Pr a r T tab w)(F:T.size+s.size<=140737488355328):
  Bs Z 14 #[.pointer (M ⟨a.heap.size,0,V⟩),.string s] w fun e w'=>e= .returned (.tuple #[])/\Pr a r (T++s) tab w'/\Kq a.heap.size w w':=by
 obtain⟨ao,d,f⟩:=h.row;have v:=h.bel;obtain⟨i,q⟩:=az T.size;rw[q]at f F;obtain⟨l,m,rfl⟩:=bI f;obtain⟨I,J,K,L,ad⟩:=du aeJ;have G:=ai d;have af:w.cell? ⟨a.heap.size,1,V⟩=M (.slice l i m):=by rw[au _ _ _ _ _ _ d];rfl
 have x:=I1 d (by decide) f;have c:=Kz f d q v;clear f d q h v;go_in;go_wp2_with (at_builtin;refine wpList_append_own_string _ rfl _ _ 39 9 rfl (a.heap.size+1) 5 I Tryz.underlying39 Tryz.underlying9 J K L ad _ _ _ rfl c.1 s rfl (by unfold maxLen;omega) (by omega) (by omega) ?_;intro ap k y b an;obtain⟨t,u,rfl⟩:=bI y;have o:=(b.block _ G (fun e=>(x _ e.symm).1 rfl)).trans c.2.1;have ar:k.cell? ⟨a.heap.size,1,V⟩=M (.slice l i m):=(by rw[au _ _ _ _ _ _ o];rfl);have am:k.frozen? ⟨a.heap.size,1,V⟩=A9:=co _ _ _ _ _ o);have A:Pr a r (T++s) tab (k.setCell ⟨a.heap.size,1,V⟩ (.slice t (i+s.size) u)):=Pr.put (c.2.2.2.grown b (by omega) (fun g p=>by have:=(x g p).2;omega)) o (by rw[ay,c.out.2.2.1,yd];exact y);have z:Kq a.heap.size w (k.setCell ⟨a.heap.size,1,V⟩ (.slice t (i+s.size) u)):=by
  refine⟨b.os,b.tape,b.output,by simp[Ax];exact b.size,fun g p H E=>?_⟩;rw[aB _ _ _ _ H];refine b.block g p (fun e=>?_);have j:(Value.slice l i m).ownBlock=M g:=e.symm;rcases c.1.2 with⟨n,_⟩|⟨B,ak,al,n,_,C,_⟩
  ·rw[n]at j;simp[A5]at j
  ·rw[n]at j;obtain rfl:B=g:=by simpa [A5] using j
   exact E _ _ C
 go_end0
 exact⟨rfl,A,z⟩
end Go.Proofs.YtjeamjdieofoeaaGreatDoor
namespace Go.Proofs.YtjeamjdieofoeaaGreatDoor
open Go.RowKit
variable{C:Nat->Bool}{Q:Exit->Act->World->Prop}{S S2:World->Prop}{T:ByteArray}{W w w' w0:World}{b base e i lo n:Nat}{md:Region.Mode}{ops:Array Oper}{v vt:Value}{xs:List Value}
def eB:Nat->ByteArray
 |0=>ByteArray.empty
 |n+1=>eB n++⟨#[9]⟩
def gH(t:Nat):ByteArray:=⟨#[10]⟩++eB t
theorem rf:∀t,(eB t).size=t
 |0=>rfl
 |t+1=>by rw[eB,ay,rf t];rfl
theorem ld(t:Nat):(gH t).size=t+1:=by rw[gH,ay,rf];show 1+t=_;omega
def dL:ByteArray:=⟨#[44,32]⟩
def Gb(a:Bool×ByteArray)(x:ByteArray):Bool×ByteArray:=(Y,(if a.1=Y then a.2++dL else a.2)++x)
def Lm(l:List ByteArray):Bool×ByteArray:=l.foldl Gb (A9,ByteArray.empty)
def cC(l:List ByteArray):ByteArray:=(Lm l).2
theorem yI(l:List ByteArray)(x:ByteArray):Lm (l++[x])=Gb (Lm l) x:=by unfold Lm;rw[List.foldl_append];rfl
theorem I2:∀l:List ByteArray,(Lm l).1=!l.isEmpty:=by
 intro l;rcases List.eq_nil_or_concat l with rfl|⟨a,b,rfl⟩
 ·rfl
 ·rw[List.concat_eq_append,yI];unfold Gb;simp
theorem oE(l:List ByteArray)(k:Nat)(x:ByteArray)(f:l[k]?=M x):cC (l.take (k+1))=(if k=0 then cC (l.take k) else cC (l.take k)++dL)++x:=by
 obtain⟨b,e⟩:=List.getElem?_eq_some_iff.1 f;have d:l.take (k+1)=l.take k++[x]:=by rw[List.take_succ_eq_append_getElem b,e]
 unfold cC;rw[d,yI];unfold Gb;simp only;rw[I2];by_cases a:k=0
 ·subst a;simp
 ·rw[aa a,ab];cases l with
  |nil=>simp at b
  |cons g h=>obtain⟨c,rfl⟩:∃c,k=c+1:=⟨k-1,by omega⟩;simp
theorem aeK(l:List ByteArray)(k:Nat):(cC (l.take k)).size<=(cC (l.take (k+1))).size:=by
 by_cases a:k<l.length
 ·rw[oE l k _ (aJ a),ay];split
  ·omega
  ·rw[ay];omega
 ·rw[cA (by omega),cA (by omega)];exact ag _
theorem Bf(l:List ByteArray)(k:Nat):(cC (l.take k)).size<=(cC l).size:=by
 have b:∀a,(cC (l.take k)).size<=(cC (l.take (k+a))).size:=by
  intro a
  induction a with
  |zero=>exact ag _
  |succ a c=>exact bL c (aeK l (k+a))
 have:=b l.length
 rwa [cA (show l.length<=k+l.length by omega)]at this
theorem I3(b:O)(d:X)(T:ByteArray)(t:Nat)(w:O)(h:Pr b d T t w)(s:t<=1000000)(q:T.size+(t+1)<=140737488355328):
  Bs Z 98 #[.pointer (M ⟨b.heap.size,0,V⟩)] w fun e w'=>e= A0 (C2 #[])/\Pr b d (T++gH t) t w'/\Kq b.heap.size w w':=by
 have k:=aq h;clear h;go_in;go_wp2_with (go_at_call 14;refine(eL b d T _ _ _ k (by show T.size+1<=_;omega)).mono ?_;rintro e u ⟨rfl,i,g⟩);have j:=gI i g;clear i g;go_loopw [2] (fun f wr=>∃a:Nat,a<=t/\f= R U a/\B6 (Pr b d (T++(⟨#[10]⟩++eB a)) t wr/\Kq b.heap.size w wr)) (fun f _=>t-(Cb f).toNat)
 case atStart=>exact⟨0,by omega,rfl,by rw[show(⟨#[10]⟩:ByteArray)++eB 0=⟨#[10]⟩ from rfl];exact j⟩
 case round=>
  obtain⟨a,p,rfl,c⟩:=hrel;obtain⟨m,n,o⟩:=c.1.cells;by_cases r:a<t
  ·go_wp2_with (go_at_call 14;refine(eL b d _ _ _ _ c.1 (by rw[ay,ay,rf];show T.size+(1+a)+1<=_;omega)).mono ?_;rintro e v ⟨rfl,p2,l⟩);refine⟨⟨a+1,by omega,by go_num,?_⟩,by simp[Cb];omega⟩;refine⟨?_,c.2.trans l⟩;rw[show T++((⟨#[10]⟩:ByteArray)++eB (a+1))=T++(⟨#[10]⟩++eB a)++⟨#[9]⟩ by rw[eB,bq,bq]];exact p2
  ·obtain rfl:a=t:=by omega
   go_wp21
   go_end0
   exact⟨rfl,c.1,c.2⟩
theorem acJ(b:O)(f vn:X)(l:List ByteArray)(T:ByteArray)(t:Int)(w:O)(h:Pr b f T t w)(q:cu b vn l)(J:l.length<=1048576)(ak:T.size+(cC l).size<=140737488355328):
  Bs Z 31 #[.pointer (M ⟨b.heap.size,0,V⟩),vn] w fun e w'=>e= A0 (C2 #[])/\Pr b f (T++cC l) t w'/\Kq b.heap.size w w':=by
 have o:=gI h q;obtain⟨K,L,rfl⟩:=q.form;clear h q;obtain⟨m,p⟩:=az l.length;rw[p]at J o⊢;have y:=aq p;clear p;go_in;go_wp21
 go_loopw [8] (fun s wr=>∃a:Nat,a<=m/\s= R U a/\B6 (Pr b f (T++cC (l.take a)) t wr/\Kq b.heap.size w wr)) (fun s _=>m-(Cb s).toNat)
 case atStart=>exact⟨0,by omega,rfl,by rw[show T++cC (l.take 0)=T from ByteArray.append_empty];exact o.1,Kq.refl _ _⟩
 case round=>
  obtain⟨a,af,rfl,c⟩:=hrel;by_cases I:a<m
  ·obtain⟨n,r⟩:=cy y.out I;obtain⟨G,rfl,H⟩:=(o.2.below c.1.bel).get r;have B:=oE l a n r;have C:=Bf l (a+1);have g:=gI B C;clear B C r;by_cases A:a=0
   ·subst A;have d:cC (l.take (0+1))=cC (l.take 0)++n:=by rw[g.out.1,ab rfl]
    have j:=g.2;rw[d,ay]at j;have i:=aq d;clear d g;have ad:wr.cell? G=M (B0 n):=by simpa [Addr.add] using H
    go_wp2_with (go_at_call 14;refine(eL b f _ _ _ _ c.1 (by rw[ay];omega)).mono ?_;rintro e u ⟨rfl,p2,k⟩);refine⟨⟨1,by omega,by go_num,?_,c.2.trans k⟩,by simp[Cb];omega⟩;rw[show(1:Nat)=0+1 from rfl,i.out,<-bq];exact p2
   ·have d:cC (l.take (a+1))=cC (l.take a)++dL++n:=by rw[g.out.1,aa A]
    have j:=g.2;rw[d,ay,ay]at j;have z:dL.size=2:=rfl;have i:=lD d j z;clear d j z g;go_wp21
    refine(eL b f _ _ _ _ c.1 (by have:=i.2;rw[ay];show _+dL.size<=_;omega)).mono ?_;rintro e u ⟨rfl,p2,k⟩;have v:B6 (Pr b f (T++cC (l.take a)++dL) t u/\Kq b.heap.size wr u):=⟨p2,k⟩;clear p2 k;go_wp21
    refine(eL b f _ _ _ _ v.1 (by have:=i.2;rw[ay,ay];omega)).mono ?_;rintro e al ⟨rfl,F,E⟩;have x:=gI F E;clear F E;go_wp21
    refine⟨⟨a+1,by omega,by go_num,?_,(c.2.trans v.2).trans x.2⟩,by simp[Cb];omega⟩;rw[i.out.1,<-bq,<-bq];exact x.1
  ·obtain rfl:a=m:=by omega
   go_wp21
   go_end0
   refine⟨rfl,?_,c.2⟩;have:=c.1
   rwa [cA (by rw[y.out];exact ag _)]at this
def vL(a:Int):Int×Int:=
 if 13<=a/\a<=18 then(3,4) else if a=12 then(4,4) else if a=8 then(5,6) else if a=9 then(6,7) else if a=7 then(7,8) else if a=10\/a=11 then(8,9) else if a=1\/a=2 then(9,10) else(10,11)
theorem zG(a:Int)(c:1<=a)(d:a<=18)(w:O):
  Bs Z 176 #[R U (60+a)] w fun e w'=>e= A0 (C2 #[R U (vL a).1,R U (vL a).2])/\w'=w:=by
 have b:a=1\/a=2\/a=3\/a=4\/a=5\/a=6\/a=7\/a=8\/a=9\/a=10\/a=11\/a=12\/a=13\/a=14\/a=15\/a=16\/a=17\/a=18:=by omega
 clear c d;rcases b with rfl|rfl|rfl|rfl|rfl|rfl|rfl|rfl|rfl|rfl|rfl|rfl|rfl|rfl|rfl|rfl|rfl|rfl<;>
  (go_in
   go_wp2;exact aI (results_tmp2 rfl _ _ _) rfl ⟨rfl,rfl⟩)
def iD(k a:Int):Int:=if k=29 then 1 else if k=28 then 2 else if k=31 then(vL a).1 else if k=30 then 11 else 12
def tj(k a:Int):Int:=if k=29 then 2 else if k=28 then 3 else(vL a).2
def td(k:Int):Bool:=k==26||k==32||k==33||k==34||k==37
theorem zH(N:Nd)(vn vk:X)(h:N.k=31->1<=N.op/\N.op<=18)(w:O):
  Bs Z 99 #[jf N vn vk] w fun e w'=>e= A0 (R U (iD N.k N.op))/\A2 w.heap.size w w':=by
 have i:A2 w.heap.size w (w.alloc (.cells #[R U N.k,R U N.f,R U N.t,R U N.l,R U N.op,R U N.n,B0 N.x,vn,vk] 45)):=(ah _ w).alloc (ag _) _;unfold jf;by_cases a:N.k=29
 ·have o:(N.k==29)=Y:=by simpa using a
  have b:B6 (iD N.k N.op=1):=by show _=_;unfold iD;rw[ab a]
  clear a h;go_in;go_wp2;go_ret;exact⟨by rw[b.out];rfl,i⟩
 have o:(N.k==29)=A9:=by simpa using a
 by_cases c:N.k=28
 ·have p:(N.k==28)=Y:=by simpa using c
  have b:B6 (iD N.k N.op=2):=by show _=_;unfold iD;rw[aa a,ab c]
  clear a c h;go_in;go_wp2;go_ret;exact⟨by rw[b.out];rfl,i⟩
 have p:(N.k==28)=A9:=by simpa using c
 by_cases d:N.k=31
 ·have q:(N.k==31)=Y:=by simpa using d
  have b:B6 (iD N.k N.op=(vL N.op).1):=by show _=_;unfold iD;rw[aa a,aa c,ab d]
  obtain⟨s,u⟩:=h d;have j:=zG N.op s u;generalize vL N.op=m at j b;obtain⟨v,y⟩:=m;simp only at j b;clear a c d h;go_in;go_wp2_with (go_at_call 176;refine dB (j _) ?_);go_ret;exact⟨by rw[b.out];rfl,i⟩
 have q:(N.k==31)=A9:=by simpa using d
 by_cases g:N.k=30
 ·have r:(N.k==30)=Y:=by simpa using g
  have b:B6 (iD N.k N.op=11):=by show _=_;unfold iD;rw[aa a,aa c,aa d,ab g]
  clear a c d g h;go_in;go_wp2;go_ret;exact⟨by rw[b.out];rfl,i⟩
 have r:(N.k==30)=A9:=by simpa using g
 have b:B6 (iD N.k N.op=12):=by show _=_;unfold iD;rw[aa a,aa c,aa d,aa g]
 clear a c d g h;go_in;go_wp2;go_ret;exact⟨by rw[b.out];rfl,i⟩
theorem I4(N:Nd)(vn vk:X)(d:N.k≠29->N.k≠28->1<=N.op/\N.op<=18)(w:O):
  Bs Z 177 #[jf N vn vk] w fun e w'=>e= A0 (R U (tj N.k N.op))/\A2 w.heap.size w w':=by
 have g:A2 w.heap.size w (w.alloc (.cells #[R U N.k,R U N.f,R U N.t,R U N.l,R U N.op,R U N.n,B0 N.x,vn,vk] 45)):=(ah _ w).alloc (ag _) _;unfold jf;by_cases a:N.k=29
 ·have j:(N.k==29)=Y:=by simpa using a
  have b:B6 (tj N.k N.op=2):=by show _=_;unfold tj;rw[ab a]
  clear a d;go_in;go_wp2;go_ret;exact⟨by rw[b.out];rfl,g⟩
 have j:(N.k==29)=A9:=by simpa using a
 by_cases c:N.k=28
 ·have m:(N.k==28)=Y:=by simpa using c
  have b:B6 (tj N.k N.op=3):=by show _=_;unfold tj;rw[aa a,ab c]
  clear a c d;go_in;go_wp2;go_ret;exact⟨by rw[b.out];rfl,g⟩
 have m:(N.k==28)=A9:=by simpa using c
 have b:B6 (tj N.k N.op=(vL N.op).2):=by show _=_;unfold tj;rw[aa a,aa c]
 obtain⟨o,p⟩:=d a c;have h:=zG N.op o p;generalize vL N.op=i at h b;obtain⟨q,r⟩:=i;simp only at h b;clear a c d;go_in;go_wp2_with (go_at_call 176;refine dB (h _) ?_);go_ret;exact⟨by rw[b.out];rfl,g⟩
theorem Lo(k:Int)(w:O):Bs Z 179 #[R U k] w fun e w'=>e= A0 (B4 (td k))/\w'=w:=by
 unfold td;cases f1:(k==26)<;>cases f2:(k==32)<;>cases f3:(k==33)<;>cases f4:(k==34)<;>cases f5:(k==37)<;>
  (go_in
   go_wp2;go_ret;exact⟨rfl,rfl⟩)
