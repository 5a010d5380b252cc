import Derived.Test.YtnoojdbdapljoaaGreatDoorHOk04
import Derived.Test.YtnoojdbdapljoaaGreatDoorHOk02
import Derived.Laws.AppendOwnNone
set_option linter.all false
set_option maxRecDepth 100000
set_option maxHeartbeats 3200000
open Go renaming World->M,Value->U,Calls->A4,maxLen->B0
open Go.Proofs.Tryz renaming prog->O
open Go.Value renaming int->Q,string->Ax,string->A0,slice->A1,ownBlock->A3,bool->Br,tuple->B1
open Go.IntKind renaming i64->S
open Option renaming some->V,none->X
open Go.Ending renaming returned->Y
open Go.RowKit renaming Below->Z,intOf->A8,Hid->A9
open Go.Obj renaming cells->A2
open Bool renaming false->A5,true->A7
open Go.World renaming setCell->A6
namespace Go.Proofs.YtnoojdbdapljoaaGreatDoor
open Go.RowKit
theorem lu{b:Nat}{a w:M}(h:Z b a w)(n:Nat):Z b a (w.drewN n):=⟨h.os,h.tape,h.output,h.size,h.block⟩
theorem aL{b:Nat}{a w:M}(h:Z b a w):Z b a w.drew:=⟨h.os,h.tape,h.output,h.size,h.block⟩
def mkT:Nat->Nat->ByteArray->ByteArray
 |0,_,a=>a
 |f+1,c,a=>if c=0 then a else mkT f (c / 10) (ga [48+((c%10:Nat):Int)]++a)
def mtI(k:Nat):ByteArray:=⟨#[109]⟩++mkT k k ⟨#[]⟩
theorem bI{b:M}{base e size n:Nat}{v:U}{d:List U}(h:b.ownsRow base e size v n d):∃a cap,v= A1 a n cap:=by
 rcases h.2 with⟨rfl,c⟩|⟨g,cap,f,rfl,_⟩
 ·exact⟨X,0,by rw[c]⟩
 ·exact⟨_,_,rfl⟩
def mks(a n:Nat):List ByteArray:=(List.range n).map fun b=>mtI (a+b)
theorem bq{a:M}{base e size n:Nat}{v:U}{c:List U}(h:a.ownsRow base e size v n c):(n=0/\v= A1 X 0 0)\/∃g cap,v= A1 (V ⟨g,0,X⟩) n cap:=by
 rcases h.2 with⟨rfl,b⟩|⟨g,cap,d,rfl,_⟩
 ·exact .inl ⟨b,rfl⟩
 ·exact .inr ⟨_,_,rfl⟩
open Go.Maps Go.WideMaps
def vA(base:Nat)(b:M)(v:U)(a:List ByteArray):Prop:=b.ownsRow base 9 1 v a.length (a.map A0)
theorem vA.form{base:Nat}{d:M}{v:U}{b:List ByteArray}(h:vA base d v b):∃a c,v= A1 a b.length c:=bI h
theorem vA.below{base:Nat}{a b:M}{v:U}{c:List ByteArray}(h:vA base a v c)(d:Z a.heap.size a b):vA base b v c:=aG h d
theorem ul:(Tryz.prog.info? 9).map (fun i=>(i.zero,i.size,i.bytes))=V (V (Ax ⟨#[]⟩),1,16):=by kernel_rfl
theorem xj{w:M}{base:Nat}{v:U}{n:Nat}{f:List U}(e:TypeId)(c:Nat)(d:w.ownsRow base 9 1 v n f):
  (Builtin.append_ #[32,32] e #[v,.slice X 0 c]).run O w= .ok v w:=by
 obtain⟨m,a,j,k,l⟩:=dC ul;rcases d.2 with⟨rfl,rfl⟩|⟨i,g,h,rfl,_,_,b,_⟩
 ·simp[Builtin.append_,Cz Tryz.underlying32,sizeOf,typeInfo,a,Builtin.lenOf,Builtin.firstCells]
 ·simp[Builtin.append_,Cz Tryz.underlying32,sizeOf,typeInfo,a,Builtin.lenOf,Builtin.firstCells,b,storeCells]
theorem I7:∀(a:List ByteArray),∀u∈a.map A0,u.oneCell'=A7:=fun a u b=>by
 obtain⟨c,_,rfl⟩:=List.mem_map.1 b;rfl
theorem oJ{w:M}{p:Array Oper}{q:List Oper}{e:Oper}{a:Act}{n:Exit->Act->M->Prop}(C:e.guard=X)(s x:Operand)
  (E:e.op= .call {callee:= .builtin .append,args:=#[s,x],argTypes:=#[32,32]}) (base:Nat) (v:U) (i:List ByteArray) (G:a.eval s=v)
  (am:vA base w v i) (B:base<=w.heap.size) (I:U) (d:List ByteArray) (z:a.eval x=I) (ak:bu w I d) (a6:i.length<=4194304) (a5:d.length<=4194304) (r:Nat) (y:i.length+d.length=r)
  (h:∀f g w1,vA base w1 (.slice f r g) (i++d)->Z base w w1->wpList O p n q (a.put e.dst (.slice f r g)) w1):
  wpList O p n (e::q) a w:=by
 subst y;obtain⟨a0,L,ao,ap,ar⟩:=dC ul;have j:w.ownsRow base 9 1 v i.length (i.map A0):=am;have a3:∀b,a.eval x= .slice X 0 b->d=[]->wpList O p n (e::q) a w:=fun b A l=>by
  subst l;obtain⟨f,g,rfl⟩:=bI j;refine wpList_plain C fun a4 J=>?_;have y:=xj e.type b j;unfold Oper.wp execOp;simp only[E,resolve,invoke,builtin,Cp,Sem.run_pure,IG,List.map_toArray,lg,List.map_nil,G,A,y];exact J _ _ (h f g w (by rw[dA];exact j) (aj _ _))
 have H:∀c b,a.eval x= .slice (V c) d.length b->(∀m t,d[m]?=V t->w.cell? (c.add m)=V (.string t))->wpList O p n (e::q) a w:=fun c b A u=>by
  refine wpList_append_own_at _ C s x 32 E base 9 a0 _ 1 16 Tryz.underlying32 L ao ap ar rfl (by decide) v _ _ G j c d.length b (d.map A0) A (by simp) (fun m t k=>?_) (I7 d) (by unfold B0;omega) (by omega) B ?_
  ·rw[cj]at k;obtain⟨a2,an,rfl⟩:=Option.map_eq_some_iff.1 k;exact u m a2 an
  ·intro a7 w1 F K _ _;obtain⟨f,g,rfl⟩:=bI F;exact h f g w1 (by unfold vA;rw[aC,en];exact F) ((aj base w).grown K B (fun a1 af=>(j.lt a1 af).1))
 rcases ak with⟨l,c,b,o⟩|⟨c,b,o,u⟩
 ·cases c with
  |none=>exact a3 b (z.trans o) l
  |some c=>exact H c b (by rw[z,o,l];rfl) (fun m t k=>by rw[l]at k;simp at k)
 ·exact H c b (z.trans o) u
theorem I8{w:M}{ao:Array Oper}{e:Oper}{a:Act}{i:Act->M->Prop}{p:Exit->Act->M->Prop}{E:Prop}(t:e.guard=X)(s x:Operand)
  (C:e.op= .call {callee:= .builtin .append,args:=#[s,x],argTypes:=#[32,32]}) (base:Nat) (v:U) (b:List ByteArray) (I:a.eval s=v)
  (G:vA base w v b) (k:base<=w.heap.size) (f:Addr) (m c:Nat) (d:List ByteArray) (J:a.eval x= .slice (V f) m c) (l:d.length=m) (B:∀j u,d[j]?=V u->w.cell? (f.add j)=V (.string u)) (av:b.length<=4194304) (A:0<m) (ar:m<=4194304) (r:Nat) (H:b.length+m=r)
  (h:∀g cap w1,vA base w1 (.slice (V ⟨g,0,X⟩) r cap) (b++d)->Z base w w1->i (a.put e.dst (.slice (V ⟨g,0,X⟩) r cap)) w1):
  if Region.wanted e (yielded ao a.tmps)=A7 then Oper.wp O e a w i p else E:=by
 subst H;obtain⟨am,y,L,af,ak⟩:=dC ul;have n:w.ownsRow base 9 1 v b.length (b.map A0):=G;refine step_append_lies _ t s x 32 C base 9 am _ 1 16 Tryz.underlying32 y L af ak rfl (by decide) v _ _ I n f m c (d.map A0) J (by simp[l]) (fun j u o=>?_) (I7 d) A (by unfold B0;omega) (by omega) k w.heap.size rfl ?_
 ·rw[cj]at o;obtain⟨ap,K,rfl⟩:=Option.map_eq_some_iff.1 o;exact B j ap K
 ·intro g cap w1 F q _ _;subst l;exact h g cap w1 (by unfold vA;rw[aC,en];exact F) ((aj base w).grown q k (fun an z=>(n.lt an z).1))
theorem ED(w:M)(s t:ByteArray):∀(j:Nat) u,[s,t][j]?=V u->(w.alloc (A2 #[Ax s,Ax t] 9)).cell? ((⟨w.heap.size,0,X⟩:Addr).add j)=V (Ax u):=fun j u a=>by
 have b:=aw w (A2 #[Ax s,Ax t] 9)
 match j,a with
 |0,a=>
  simp at a;subst a;show(w.alloc _).cell? ⟨w.heap.size,0+0,X⟩=_;rw[az _ _ _ _ _ _ b];rfl
 |1,a=>
  simp at a;subst a;show(w.alloc _).cell? ⟨w.heap.size,0+1,X⟩=_;rw[az _ _ _ _ _ _ b];rfl
 |j+2,a=>simp at a
theorem um(w:M)(s:ByteArray):bu (w.alloc (A2 #[Ax s] 9)) (A1 (V ⟨w.heap.size,0,X⟩) 1 1) [s]:=
 .inr ⟨_,_,rfl,fun j c a=>by
  have b:=aw w (A2 #[Ax s] 9)
  match j,a with
  |0,a=>
   simp at a;subst a;show(w.alloc _).cell? ⟨w.heap.size,0+0,X⟩=_;rw[az _ _ _ _ _ _ b];rfl
  |j+1,a=>simp at a⟩
def eB(k:Int):Bool:=decide (20<=k/\k<=37)
def iw(k:Int):Bool:=decide (1<=k/\k<=16)
def wA(k:Int):Bool:=decide (k=26\/k=32\/k=33)
theorem G3(k:Int)(w:M):A4 O 149 #[Q S k] w fun e c=>e= Y (Br (eB k))/\c=w:=by
 unfold eB;rcases(show(20<=k/\k<=37)\/(20<=k/\¬k<=37)\/¬20<=k by omega) with⟨h1,b⟩|⟨h1,b⟩|h1
 ·rw[bG ⟨h1,b⟩];go_in;go_wp2;go_ret;exact⟨rfl,rfl⟩
 ·rw[aD (fun a=>b a.2)];go_in;go_wp2;go_ret;exact⟨rfl,rfl⟩
 ·rw[aD (fun a=>h1 a.1)];go_in;go_wp2;go_ret;exact⟨rfl,rfl⟩
theorem zm(k:Int)(w:M):A4 O 55 #[Q S k] w fun e c=>e= Y (Br (iw k))/\c=w:=by
 unfold iw;rcases(show(1<=k/\k<=16)\/(1<=k/\¬k<=16)\/¬1<=k by omega) with⟨h1,b⟩|⟨h1,b⟩|h1
 ·rw[bG ⟨h1,b⟩];go_in;go_wp2;go_ret;exact⟨rfl,rfl⟩
 ·rw[aD (fun a=>b a.2)];go_in;go_wp2;go_ret;exact⟨rfl,rfl⟩
 ·rw[aD (fun a=>h1 a.1)];go_in;go_wp2;go_ret;exact⟨rfl,rfl⟩
theorem C1(k:Int)(w:M):A4 O 106 #[Q S k] w fun e d=>e= Y (Br (wA k))/\d=w:=by
 unfold wA;by_cases a:k=26
 ·subst a;go_in;go_wp2;go_ret;exact⟨rfl,rfl⟩
 have f:(k==26)=A5:=by rw[bg];exact a
 by_cases b:k=32
 ·subst b;go_in;go_wp2;go_ret;exact⟨rfl,rfl⟩
 have g:(k==32)=A5:=by rw[bg];exact b
 by_cases c:k=33
 ·subst c;go_in;go_wp2;go_ret;exact⟨rfl,rfl⟩
 have h:(k==33)=A5:=by rw[bg];exact c
 rw[aD (by omega)];go_in;go_wp2;go_ret;exact⟨rfl,rfl⟩
theorem Ky(w:M)(p:U)(a:List Nd)(N d:Nd)(vn vk:U)(i:Nat)(z:Nat)(g:cg w p a)(o:bu w vn N.nm)(f:bi w vk N.ks)(c:N.ks[i]?=V (z:Int))(b:a[z]?=V d)(t:a.length<=1048576)(u:N.ks.length<=1048576):
  A4 O 102 #[.agg #[p],dj N vn vk,Q S i] w fun e A=>e= Y (Q S d.k)/\Z w.heap.size w A:=by
 have s:∀j l,Z w.heap.size w ((w.alloc j).alloc l):=fun j l=>((aj _ w).alloc (ah _) j).alloc (by simp) l;obtain⟨E,H,rfl⟩:=g.form;obtain⟨F,I,rfl⟩:=o.form;obtain⟨G,J,rfl⟩:=f.form;obtain⟨a7,rfl,bb,a9,n⟩:=g.get b;obtain⟨a8,rfl,r⟩:=f.get c;have x:z<a.length:=by rcases cA z a.length with h|h;exact h;rw[fG h]at b;cases b
 have v:i<N.ks.length:=by rcases cA i N.ks.length with h|h;exact h;rw[fG h]at c;cases c
 have m:=n.c0;have ak:=uh r;have am:=uh m;unfold dj;generalize a.length=y at t x;generalize N.ks.length=q at u v;generalize N.nm.length=B;generalize d.k=C at m;have af:(z:Int)<(y:Int):=by omega
 have L:(i:Int)<(q:Int):=by omega
 have ad:(0:Int)<=(z:Int):=by omega
 have K:(0:Int)<=(i:Int):=by omega
 clear g o f c b n;obtain⟨ao,an,a5,ar,a4,av,a6,a0,ap⟩:=N;simp only;go_in;go_wp2_with fail;go_quiet (fail)
 go_wp2_with fail;go_ret;exact⟨rfl,lu (s _ _) _⟩
def dF(a:List Nd)(N:Nd)(j:Nat):Int:=(a.getD ((N.ks.getD j 0).toNat) AB).k
def ik(a:List Nd)(N:Nd):Nat->Nat->Bool
 |0,_=>A7
 |f+1,j=>eB (dF a N j)&&ik a N f (j+1)
structure ahB (ns:List Nd) (N:Nd) (f j:Nat) (R:Bool):Prop where
 out:ik ns N f j=R
structure vB (ns:List Nd) (N:Nd):Prop where
 ok:∀z∈N.ks,0<=z/\z<(ns.length:Int)
theorem vB.get{a:List Nd}{N:Nd}(h:vB a N){j:Nat}(e:j<N.ks.length):∃(z:Nat) (c:Nd),N.ks[j]?=V (z:Int)/\a[z]?=V c/\dF a N j=c.k/\z<a.length:=by
 have d:N.ks[j]?=V N.ks[j]:=aI e;obtain⟨g,i⟩:=h.ok N.ks[j] (yv e);obtain⟨z,f⟩:∃z:Nat,N.ks[j]=(z:Int):=⟨N.ks[j].toNat,by omega⟩;have b:z<a.length:=by omega
 refine⟨z,a[z],by rw[d,f],aI b,?_,b⟩;unfold dF;rw[bm,bm,d,f];simp[b]
theorem dt(w:M)(av:U)(b:List Nd)(N:Nd)(vn vk:U)(i k:Nat)(E:cg w av b)(c:bu w vn N.nm)(C:bi w vk N.ks)(bb:vB b N)(bn:k<=N.ks.length)(bd:b.length<=1048576)(bf:N.ks.length<=1048576):
  A4 O 105 #[.agg #[av],dj N vn vk,Q S i,Q S k] w fun e bp=>e= Y (Br (ik b N (k-i) i))/\Z w.heap.size w bp:=by
 obtain⟨s,B⟩:=aA (ik b N (k-i) i);rw[B];have a4:ahB b N (k-i) i s:=⟨B⟩;clear B;have ar:∀F G,Z w.heap.size w ((w.alloc F).alloc G):=fun F G=>((aj _ w).alloc (ah _) F).alloc (by simp) G;have n:=dx E C;obtain⟨u,y,rfl⟩:=E.form;obtain⟨ad,af,rfl⟩:=c.form;obtain⟨v,z,rfl⟩:=C.form;clear E c C;unfold dj;obtain⟨r,c⟩:=aA b.length;obtain⟨o,A⟩:=aA N.ks.length;have J:=dx c A;rw[c]at n bd⊢;rw[A]at n bf bn⊢;clear c A;generalize N.nm.length=K;go_in;go_wp2_with fail;obtain⟨g,h⟩:=aA ((w.alloc (A2 #[A1 u r y] 25)).alloc (A2 #[Q S N.k,Q S N.f,Q S N.t,Q S N.l,Q S N.op,Q S N.n,Ax N.x,A1 ad K af,A1 v o z] 35));have a5:g.cell? ⟨w.heap.size,0,X⟩=V (A1 u r y):=by
  rw[<-h,az _ _ _ _ _ _ ((dr _ _ _ (by simp)).trans (aw w _))];rfl
 have a6:g.cell? ⟨w.heap.size+1,8,X⟩=V (A1 v o z):=by
  have:=aw (w.alloc (A2 #[A1 u r y] 25)) (A2 #[Q S N.k,Q S N.f,Q S N.t,Q S N.l,Q S N.op,Q S N.n,Ax N.x,A1 ad K af,A1 v o z] 35);rw[ba]at this;rw[<-h,az _ _ _ _ _ _ this];rfl
 have ap:Z w.heap.size w g:=by rw[<-h];exact ar _ _
 rw[h];clear h ar;go_loopw [9] (fun H wr=>∃(j:Nat),H= Q S j/\i<=j/\(i<=k->j<=k)/\ahB b N (k-j) j s/\Z g.heap.size g wr) (fun H _=>k-(A8 H).toNat)
 case atStart=>exact⟨i,rfl,ah _,fun a9=>a9,a4,aj _ _⟩
 case round=>
  obtain⟨j,rfl,bw,bA,I,p⟩:=hrel;have q:=ap.trans (p.mono ap.size);by_cases bE:j<k
  ·obtain⟨a0,L,ak,am,an,a7⟩:=bb.get (j:=j) (by rw[J.out.2];omega);rw[J.out.1]at a7;obtain⟨b1,rfl,b4,b3,ao⟩:=(n.out.1.below q).get am;obtain⟨b2,rfl,bt⟩:=(n.out.2.below q).get ak;have br:=cell_kept p a5;have bs:=cell_kept p a6;have a8:=ao.c0;have a:=I.out;rw[show k-j=(k-(j+1))+1 by omega,ik,an]at a;have bl:(j:Int)<(k:Int):=by omega
   have bD:(j:Int)<(o:Int):=by omega
   have b0:(a0:Int)<(r:Int):=by omega
   have bF:(0:Int)<=(a0:Int):=by omega
   have bx:(0:Int)<=(j:Int):=by omega
   have m:=fun w=>G3 L.k w;generalize L.k=bo at a8 a m;clear ak am an ao;cases hx:eB bo with
   |true=>
    rw[hx,eC]at a;rw[hx]at m;have d:ahB b N (k-(j+1)) (j+1) s:=⟨a⟩;clear a hx;go_wp2_with fail;go_quiet ((go_at_call 149;exact Calls.quiet_of_same (m _)))
    go_wp2_with fail;exact⟨⟨j+1,by go_num,by omega,fun _=>by omega,d,lu p _⟩,by simp[A8];omega⟩
   |false=>
    rw[hx,dK]at a;rw[hx]at m;have d:=aq a;clear a hx;go_wp2_with fail;go_quiet ((go_at_call 149;exact Calls.quiet_of_same (m _)))
    go_wp2_with fail;go_ret;exact⟨by rw[<-d.out];rfl,lu q _⟩
  ·have a:=I.out;rw[show k-j=0 by omega,ik]at a;have d:=aq a;have bl:¬(j:Int)<(k:Int):=by omega
   clear a;go_wp2_with fail;go_ret;exact⟨by rw[<-d.out];rfl,q⟩
open Go.Lib (strCells strCells_length wpList_append_own_string)
theorem ahC:(Tryz.prog.info? 5).map (fun i=>(i.zero,i.size,i.bytes))=V (V (Q .u8 0),1,1):=by kernel_rfl
theorem C3(a b:ByteArray):strCells (a++b)=strCells a++strCells b:=by
 unfold strCells;rw[show(a++b).data=a.data++b.data from jj];simp
structure Kq (b:Nat) (w w':M):Prop where
 os:w'.os=w.os
 tape:w'.tape=w.tape
 output:w'.output=w.output
 size:w.heap.size<=w'.heap.size
 block:∀k,k<w.heap.size->k≠b->(∀cs fr,w.heap[k]?≠V (.cells cs 5 fr))->w'.heap[k]?=w.heap[k]?
theorem Kq.refl(b:Nat)(w:M):Kq b w w:=⟨rfl,rfl,rfl,ah _,fun _ _ _ _=>rfl⟩
theorem Kq.trans{b:Nat}{x y z:M}(h:Kq b x y)(k:Kq b y z):Kq b x z:=
 ⟨k.os.trans h.os,k.tape.trans h.tape,k.output.trans h.output,bz h.size k.size,fun e c d a=>
  (k.block e (gh c h.size) d (fun f g=>by rw[h.block e c d a];exact a f g)).trans (h.block e c d a)⟩
theorem Kq.of_below{b:Nat}{w a:M}(h:Z w.heap.size w a):Kq b w a:=⟨h.os,h.tape,h.output,h.size,fun d c _ _=>h.block d c⟩
structure Pr (w0:M) (vt:U) (T:ByteArray) (tab:Int) (W:M):Prop where
 bel:Z w0.heap.size w0 W
 row:∃o,W.heap[w0.heap.size]?=V (.cells #[vt,o,.int .i64 tab] 126 (0,0))/\W.ownsRow (w0.heap.size+1) 5 1 o T.size (strCells T)
theorem Pr.lt{w0:M}{c:U}{T:ByteArray}{tab:Int}{a:M}(h:Pr w0 c T tab a):w0.heap.size<a.heap.size:=by
 obtain⟨e,b,d⟩:=h.row;exact ax b
theorem Pr.below{w0:M}{e:U}{T:ByteArray}{tab:Int}{a c:M}(h:Pr w0 e T tab a)(b:Z a.heap.size a c):Pr w0 e T tab c:=by
 obtain⟨g,d,f⟩:=h.row;exact⟨h.bel.trans (b.mono h.bel.size),g,(b.block _ (ax d)).trans d,aG f b⟩
theorem abf{c:M}{p:Nat}{f:U}{cs:Array U}{t:TypeId}{fr:Nat×Nat}{n:Nat}{k:List U}(d:c.heap[p]?=V (A2 cs t fr))(j:t≠5){base:Nat}(e:c.ownsRow base 5 1 f n k)(g:Nat)(a:f.ownBlock=V g):g≠p/\base<=g:=by
 refine⟨?_,(e.lt g a).1⟩;rintro rfl;rcases e.2 with⟨b,_⟩|⟨h,l,m,b,_,i,_⟩
 ·rw[b]at a;simp[A3]at a
 ·rw[b]at a;obtain rfl:h=g:=by simpa [A3] using a
  rw[i]at d;cases d;exact j rfl
theorem Pr.put{w0 a:M}{g j:U}{f:Int}(h:Z w0.heap.size w0 a)(d:a.heap[w0.heap.size]?=V (A2 #[g,j,Q S f] 126 (0,0))){b:U}{T:ByteArray}(e:a.ownsRow (w0.heap.size+1) 5 1 b T.size (strCells T)):Pr w0 g T f (a.setCell ⟨w0.heap.size,1,X⟩ b):=
 ⟨h.setCell (ah _) _,b,cD _ _ 1 _ _ _ d,e.kept (row:=V w0.heap.size) ⟨rfl,rfl,rfl,by simp[A6],fun m l i=>bh _ _ _ _ (fun c=>i (by rw[c]))⟩ (by
  cases hv:b.ownBlock with
  |none=>exact .inl rfl
  |some k=>exact .inr (fun c=>by cases c;exact(abf d (by decide) e _ hv).1 rfl))⟩
theorem Pr.putTab{w0 b:M}{g:U}{T:ByteArray}{j:Int}(h:Pr w0 g T j b)(f:Int):Pr w0 g T f (b.setCell ⟨w0.heap.size,2,X⟩ (Q S f)):=by
 obtain⟨e,c,d⟩:=h.row;exact⟨h.bel.setCell (ah _) _,e,cD _ _ 2 _ _ _ c,d.kept (row:=V w0.heap.size) ⟨rfl,rfl,rfl,by simp[A6],fun m l i=>bh _ _ _ _ (fun a=>i (by rw[a]))⟩ (by
  cases hv:e.ownBlock with
  |none=>exact .inl rfl
  |some k=>exact .inr (fun a=>by cases a;exact(abf c (by decide) d _ hv).1 rfl))⟩
theorem Kq.putP(b:Nat)(a:M)(i:Nat)(v:U):Kq b a (a.setCell ⟨b,i,X⟩ v):=
 ⟨rfl,rfl,rfl,by simp[A6],fun e d c _=>bh _ _ _ _ c⟩
theorem Pr.cells{w0:M}{c:U}{T:ByteArray}{tab:Int}{a:M}(h:Pr w0 c T tab a):a.cell? ⟨w0.heap.size,0,X⟩=V c/\a.cell? ⟨w0.heap.size,2,X⟩=V (Q S tab)/\∀j,a.frozen? ⟨w0.heap.size,j,X⟩=A5:=by
 obtain⟨e,b,d⟩:=h.row;exact⟨by rw[az _ _ _ _ _ _ b];rfl,by rw[az _ _ _ _ _ _ b];rfl,fun j=>du _ _ _ _ _ b⟩
theorem aE(w0:M)(m:U)(T s:ByteArray)(tab:Int)(w:M)(h:Pr w0 m T tab w)(F:T.size+s.size<=140737488355328):
  A4 O 63 #[.pointer (V ⟨w0.heap.size,0,X⟩),.string s] w fun e y=>e= .returned (.tuple #[])/\Pr w0 m (T++s) tab y/\Kq w0.heap.size w y:=by
 obtain⟨ap,d,f⟩:=h.row;have u:=h.bel;obtain⟨b,q⟩:=aA T.size;rw[q]at f F;obtain⟨j,k,rfl⟩:=bI f;obtain⟨I,J,K,L,ad⟩:=dC ahC;have G:=ax d;have af:w.cell? ⟨w0.heap.size,1,X⟩=V (.slice j b k):=by rw[az _ _ _ _ _ _ d];rfl
 have v:=abf d (by decide) f;have c:=tI f d q u;clear f d q h u;go_in;go_wp2_with (at_builtin;refine wpList_append_own_string _ rfl _ _ 22 9 rfl (w0.heap.size+1) 5 I Tryz.underlying22 Tryz.underlying9 J K L ad _ _ _ rfl c.out.1 s rfl (by unfold B0;omega) (by omega) (by omega) ?_;intro ar i x a ao;obtain⟨r,t,rfl⟩:=bI x;have o:i.heap[w0.heap.size]?=V (.cells #[m,.slice j b k,.int .i64 tab] 126 (0,0)):=(a.block _ G (fun e=>(v _ e.symm).1 rfl)).trans c.out.2.1;have a0:i.cell? ⟨w0.heap.size,1,X⟩=V (.slice j b k):=(by rw[az _ _ _ _ _ _ o];rfl);have an:i.frozen? ⟨w0.heap.size,1,X⟩=A5:=du _ _ _ _ _ o);have A:Pr w0 m (T++s) tab (i.setCell ⟨w0.heap.size,1,X⟩ (.slice r (b+s.size) t)):=Pr.put (c.out.2.2.2.grown a (by omega) (fun g p=>by have:=(v g p).2;omega)) o (by rw[ag,c.out.2.2.1,C3];exact x);have z:Kq w0.heap.size w (i.setCell ⟨w0.heap.size,1,X⟩ (.slice r (b+s.size) t)):=by
  refine⟨a.os,a.tape,a.output,by simp[A6];exact a.size,fun g p H E=>?_⟩;rw[bh _ _ _ _ H];refine a.block g p (fun e=>?_);have l:(Value.slice j b k).ownBlock=V g:=e.symm;rcases c.out.1.2 with⟨n,_⟩|⟨B,ak,am,n,_,C,_⟩
  ·rw[n]at l;simp[A3]at l
  ·rw[n]at l;obtain rfl:B=g:=by simpa [A3] using l
   exact E _ _ C
 go_end0
 exact⟨rfl,A,z⟩
end Go.Proofs.YtnoojdbdapljoaaGreatDoor
namespace Go.Proofs.YtnoojdbdapljoaaGreatDoor
open Go.RowKit
def C4:Nat->ByteArray
 |0=>ByteArray.empty
 |n+1=>C4 n++⟨#[9]⟩
def oL(t:Nat):ByteArray:=⟨#[10]⟩++C4 t
theorem vC:∀t,(C4 t).size=t
 |0=>rfl
 |t+1=>by rw[C4,ag,vC t];rfl
theorem kD(t:Nat):(oL t).size=t+1:=by rw[oL,ag,vC];show 1+t=_;omega
def ej:ByteArray:=⟨#[44,32]⟩
def ae0(a:Bool×ByteArray)(x:ByteArray):Bool×ByteArray:=(A7,(if a.1=A7 then a.2++ej else a.2)++x)
def abg(a:List ByteArray):Bool×ByteArray:=a.foldl ae0 (A5,ByteArray.empty)
def cE(a:List ByteArray):ByteArray:=(abg a).2
theorem BF(a:List ByteArray)(x:ByteArray):abg (a++[x])=ae0 (abg a) x:=by unfold abg;rw[List.foldl_append];rfl
theorem abh:∀a:List ByteArray,(abg a).1=!a.isEmpty:=by
 intro a;rcases List.eq_nil_or_concat a with rfl|⟨b,c,rfl⟩
 ·rfl
 ·rw[List.concat_eq_append,BF];unfold ae0;simp
theorem pc(a:List ByteArray)(k:Nat)(x:ByteArray)(g:a[k]?=V x):cE (a.take (k+1))=(if k=0 then cE (a.take k) else cE (a.take k)++ej)++x:=by
 obtain⟨c,f⟩:=List.getElem?_eq_some_iff.1 g;have e:a.take (k+1)=a.take k++[x]:=by rw[List.take_succ_eq_append_getElem c,f]
 unfold cE;rw[e,BF];unfold ae0;simp only;rw[abh];by_cases b:k=0
 ·subst b;simp
 ·rw[aa b,ab];cases a with
  |nil=>simp at c
  |cons h i=>obtain⟨d,rfl⟩:∃d,k=d+1:=⟨k-1,by omega⟩;simp
theorem abi(a:List ByteArray)(k:Nat):(cE (a.take k)).size<=(cE (a.take (k+1))).size:=by
 by_cases b:k<a.length
 ·rw[pc a k _ (aI b),ag];split
  ·omega
  ·rw[ag];omega
 ·rw[cw (by omega),cw (by omega)];exact ah _
theorem yC(a:List ByteArray)(k:Nat):(cE (a.take k)).size<=(cE a).size:=by
 have c:∀b,(cE (a.take k)).size<=(cE (a.take (k+b))).size:=by
  intro b
  induction b with
  |zero=>exact ah _
  |succ b d=>exact bz d (abi a (k+b))
 have:=c a.length
 rwa [cw (show a.length<=k+a.length by omega)]at this
theorem EE(w0:M)(c:U)(T:ByteArray)(t:Nat)(w:M)(h:Pr w0 c T t w)(u:t<=1000000)(r:T.size+(t+1)<=140737488355328):
  A4 O 154 #[.pointer (V ⟨w0.heap.size,0,X⟩)] w fun e i=>e= Y (B1 #[])/\Pr w0 c (T++oL t) t i/\Kq w0.heap.size w i:=by
 have k:=aq h;clear h;go_in;go_wp2_with (go_at_call 63;refine(aE w0 c T _ _ _ k.out (by show T.size+1<=_;omega)).mono ?_;rintro e w1 ⟨rfl,g,f⟩);have j:=dx g f;clear g f;go_loopw [2] (fun d wr=>∃a:Nat,a<=t/\d= Q S a/\A9 (Pr w0 c (T++(⟨#[10]⟩++C4 a)) t wr/\Kq w0.heap.size w wr)) (fun d _=>t-(A8 d).toNat)
 case atStart=>exact⟨0,by omega,rfl,by rw[show(⟨#[10]⟩:ByteArray)++C4 0=⟨#[10]⟩ from rfl];exact j.out⟩
 case round=>
  obtain⟨a,p,rfl,b⟩:=hrel;obtain⟨m,n,o⟩:=b.out.1.cells;by_cases s:a<t
  ·have q:(a:Int)<(t:Int):=by omega
   go_wp2_with (go_at_call 63;refine(aE w0 c _ _ _ _ b.out.1 (by rw[ag,ag,vC];show T.size+(1+a)+1<=_;omega)).mono ?_;rintro e v ⟨rfl,p2,l⟩);refine⟨⟨a+1,by omega,by go_num,?_⟩,by simp[A8];omega⟩;refine⟨?_,b.out.2.trans l⟩;rw[show T++((⟨#[10]⟩:ByteArray)++C4 (a+1))=T++(⟨#[10]⟩++C4 a)++⟨#[9]⟩ by rw[C4,aF,aF]];exact p2
  ·obtain rfl:a=t:=by omega
   go_wp2_with fail;go_end0
   exact⟨rfl,b.out.1,b.out.2⟩
theorem BG(w0:M)(f vn:U)(b:List ByteArray)(T:ByteArray)(t:Int)(w:M)(h:Pr w0 f T t w)(p:bu w0 vn b)(J:b.length<=1048576)(ao:T.size+(cE b).size<=140737488355328):
  A4 O 121 #[.pointer (V ⟨w0.heap.size,0,X⟩),vn] w fun e F=>e= Y (B1 #[])/\Pr w0 f (T++cE b) t F/\Kq w0.heap.size w F:=by
 have n:=dx h p;obtain⟨K,L,rfl⟩:=p.form;clear h p;obtain⟨k,o⟩:=aA b.length;rw[o]at J n⊢;have x:=aq o;clear o;go_in;go_wp2_with fail;go_loopw [8] (fun r wr=>∃a:Nat,a<=k/\r= Q S a/\A9 (Pr w0 f (T++cE (b.take a)) t wr/\Kq w0.heap.size w wr)) (fun r _=>k-(A8 r).toNat)
 case atStart=>exact⟨0,by omega,rfl,by rw[show T++cE (b.take 0)=T from ByteArray.append_empty];exact n.out.1,Kq.refl _ _⟩
 case round=>
  obtain⟨a,af,rfl,c⟩:=hrel;by_cases I:a<k
  ·obtain⟨m,q⟩:=bj x.out I;obtain⟨G,rfl,H⟩:=(n.out.2.below c.out.1.bel).get q;have am:(a:Int)<(k:Int):=by omega
   have ak:(0:Int)<=(a:Int):=by omega
   have A:=pc b a m q;have B:=yC b (a+1);have g:=dx A B;clear A B q;by_cases z:a=0
   ·subst z;have d:cE (b.take (0+1))=cE (b.take 0)++m:=by rw[g.out.1,ab rfl]
    have j:=g.out.2;rw[d,ag]at j;have i:=aq d;clear d g;have ad:wr.cell? G=V (Ax m):=by simpa [Addr.add] using H
    go_wp2_with (go_at_call 63;refine(aE w0 f _ _ _ _ c.out.1 (by rw[ag];omega)).mono ?_;rintro e s ⟨rfl,p2,l⟩);refine⟨⟨1,by omega,by go_num,?_,c.out.2.trans l⟩,by simp[A8];omega⟩;rw[show(1:Nat)=0+1 from rfl,i.out,<-aF];exact p2
   ·have d:cE (b.take (a+1))=cE (b.take a)++ej++m:=by rw[g.out.1,aa z]
    have j:=g.out.2;rw[d,ag,ag]at j;have y:ej.size=2:=rfl;have i:=gD d j y;clear d j y g;have an:(0:Int)<(a:Int):=by omega
    go_wp2_with fail;refine(aE w0 f _ _ _ _ c.out.1 (by have:=i.out.2;rw[ag];show _+ej.size<=_;omega)).mono ?_;rintro e s ⟨rfl,p2,l⟩;have u:A9 (Pr w0 f (T++cE (b.take a)++ej) t s/\Kq w0.heap.size wr s):=⟨p2,l⟩;clear p2 l;go_wp2_with fail;refine(aE w0 f _ _ _ _ u.out.1 (by have:=i.out.2;rw[ag,ag];omega)).mono ?_;rintro e ap ⟨rfl,E,C⟩;have v:=dx E C;clear E C;go_wp2_with fail;refine⟨⟨a+1,by omega,by go_num,?_,(c.out.2.trans u.out.2).trans v.out.2⟩,by simp[A8];omega⟩;rw[i.out.1,<-aF,<-aF];exact v.out.1
  ·obtain rfl:a=k:=by omega
   go_wp2_with fail;go_end0
   refine⟨rfl,?_,c.out.2⟩;have:=c.out.1
   rwa [cw (by rw[x.out];exact ah _)]at this
def I9(op:Int):Int×Int:=
 if 13<=op/\op<=18 then(3,4) else if op=12 then(4,4) else if op=8 then(5,6) else if op=9 then(6,7) else if op=7 then(7,8) else if op=10\/op=11 then(8,9) else if op=1\/op=2 then(9,10) else(10,11)
theorem wC(op:Int)(b:1<=op)(c:op<=18)(w:M):
  A4 O 148 #[Q S (60+op)] w fun e d=>e= Y (B1 #[Q S (I9 op).1,Q S (I9 op).2])/\d=w:=by
 have a:op=1\/op=2\/op=3\/op=4\/op=5\/op=6\/op=7\/op=8\/op=9\/op=10\/op=11\/op=12\/op=13\/op=14\/op=15\/op=16\/op=17\/op=18:=by omega
 clear b c;rcases a with rfl|rfl|rfl|rfl|rfl|rfl|rfl|rfl|rfl|rfl|rfl|rfl|rfl|rfl|rfl|rfl|rfl|rfl<;>
  (go_in
   go_wp2;exact bB (results_tmp2 rfl _ _ _) rfl ⟨rfl,rfl⟩)
def ew(k op:Int):Int:=if k=29 then 1 else if k=28 then 2 else if k=31 then(I9 op).1 else if k=30 then 11 else 12
def un(k op:Int):Int:=if k=29 then 2 else if k=28 then 3 else(I9 op).2
def Ja(k:Int):Bool:=k==26||k==32||k==33||k==34||k==37
theorem ey(N:Nd)(vn vk:U)(h:N.k=31->1<=N.op/\N.op<=18)(w:M):
  A4 O 155 #[dj N vn vk] w fun e v=>e= Y (Q S (ew N.k N.op))/\Z w.heap.size w v:=by
 have i:Z w.heap.size w (w.alloc (A2 #[Q S N.k,Q S N.f,Q S N.t,Q S N.l,Q S N.op,Q S N.n,Ax N.x,vn,vk] 35)):=(aj _ w).alloc (ah _) _;unfold dj;by_cases a:N.k=29
 ·have o:(N.k==29)=A7:=by simpa using a
  have b:A9 (ew N.k N.op=1):=by show _=_;unfold ew;rw[ab a]
  clear a h;go_in;go_wp2;go_ret;exact⟨by rw[b.out];rfl,i⟩
 have o:(N.k==29)=A5:=by simpa using a
 by_cases c:N.k=28
 ·have p:(N.k==28)=A7:=by simpa using c
  have b:A9 (ew N.k N.op=2):=by show _=_;unfold ew;rw[aa a,ab c]
  clear a c h;go_in;go_wp2;go_ret;exact⟨by rw[b.out];rfl,i⟩
 have p:(N.k==28)=A5:=by simpa using c
 by_cases d:N.k=31
 ·have q:(N.k==31)=A7:=by simpa using d
  have b:A9 (ew N.k N.op=(I9 N.op).1):=by show _=_;unfold ew;rw[aa a,aa c,ab d]
  obtain⟨s,u⟩:=h d;have j:=wC N.op s u;generalize I9 N.op=m at j b;obtain⟨y,z⟩:=m;simp only at j b;clear a c d h;go_in;go_wp2_with (go_at_call 148;refine ee (j _) ?_);go_ret;exact⟨by rw[b.out];rfl,i⟩
 have q:(N.k==31)=A5:=by simpa using d
 by_cases g:N.k=30
 ·have r:(N.k==30)=A7:=by simpa using g
  have b:A9 (ew N.k N.op=11):=by show _=_;unfold ew;rw[aa a,aa c,aa d,ab g]
  clear a c d g h;go_in;go_wp2;go_ret;exact⟨by rw[b.out];rfl,i⟩
 have r:(N.k==30)=A5:=by simpa using g
 have b:A9 (ew N.k N.op=12):=by show _=_;unfold ew;rw[aa a,aa c,aa d,aa g]
 clear a c d g h;go_in;go_wp2;go_ret;exact⟨by rw[b.out];rfl,i⟩
theorem EF(N:Nd)(vn vk:U)(d:N.k≠29->N.k≠28->1<=N.op/\N.op<=18)(w:M):
  A4 O 179 #[dj N vn vk] w fun e q=>e= Y (Q S (un N.k N.op))/\Z w.heap.size w q:=by
 have g:Z w.heap.size w (w.alloc (A2 #[Q S N.k,Q S N.f,Q S N.t,Q S N.l,Q S N.op,Q S N.n,Ax N.x,vn,vk] 35)):=(aj _ w).alloc (ah _) _;unfold dj;by_cases a:N.k=29
 ·have j:(N.k==29)=A7:=by simpa using a
  have b:A9 (un N.k N.op=2):=by show _=_;unfold un;rw[ab a]
  clear a d;go_in;go_wp2;go_ret;exact⟨by rw[b.out];rfl,g⟩
 have j:(N.k==29)=A5:=by simpa using a
 by_cases c:N.k=28
 ·have m:(N.k==28)=A7:=by simpa using c
  have b:A9 (un N.k N.op=3):=by show _=_;unfold un;rw[aa a,ab c]
  clear a c d;go_in;go_wp2;go_ret;exact⟨by rw[b.out];rfl,g⟩
 have m:(N.k==28)=A5:=by simpa using c
 have b:A9 (un N.k N.op=(I9 N.op).2):=by show _=_;unfold un;rw[aa a,aa c]
 obtain⟨o,p⟩:=d a c;have h:=wC N.op o p;generalize I9 N.op=i at h b;obtain⟨r,s⟩:=i;simp only at h b;clear a c d;go_in;go_wp2_with (go_at_call 148;refine ee (h _) ?_);go_ret;exact⟨by rw[b.out];rfl,g⟩
theorem G4(k:Int)(w:M):A4 O 180 #[Q S k] w fun e a=>e= Y (Br (Ja k))/\a=w:=by
 unfold Ja;cases f1:(k==26)<;>cases f2:(k==32)<;>cases f3:(k==33)<;>cases f4:(k==34)<;>cases f5:(k==37)<;>
  (go_in
   go_wp2;go_ret;exact⟨rfl,rfl⟩)
