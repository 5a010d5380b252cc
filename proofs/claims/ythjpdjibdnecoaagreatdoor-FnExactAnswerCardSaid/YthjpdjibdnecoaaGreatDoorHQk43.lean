import Derived.Test.YthjpdjibdnecoaaGreatDoorHQk42
import Derived.Test.YthjpdjibdnecoaaGreatDoorHQk32
set_option linter.all false
set_option maxRecDepth 100000
set_option maxHeartbeats 1600000
open Go renaming undef->M,World->V,wpAnyH_ready->A1,grownBy_putObj'->A3,Value->A5,KeepsFrom->A7
open Option renaming some->N,none->O
open Go.World renaming putObj_heap_other->T,setCell->A2
open Bool renaming true->U,false->X
open List renaming set->Y
open Go.AllReadyH renaming cons->Z,nil->A0
open Go.RowKit renaming Below->Ax
open Go.Proofs.Tryz renaming prog->A4
open Go.Obj renaming cells->A6
namespace Go.Proofs.YthjpdjibdnecoaaGreatDoor
open Go.RowKit Go.Maps Go.WideMaps
structure jD (s:ByteArray) (R:List Tk×List Int×Int) (st stk:List Int) (p:Nat) (l:Int) (out:List Tk) (f:Nat):Prop where
 sim:Da st stk
 wk:am1 s f stk (blk s (s.size+1) p) l out R
 fu:s.size<blk s (s.size+1) p+f
 len:st.length<=45*p+2
 l0:0<=l
 l1:l<=(p:Int)+1
 le:p<=s.size
 ol:out.length<=p
 n23:N23 stk
theorem jD.move{s:ByteArray}{R:List Tk×List Int×Int}{st stk:List Int}{p q:Nat}{l:Int}{out:List Tk}{f:Nat}(h:jD s R st stk p l out f)(a:blk s (s.size+1) p=blk s (s.size+1) q)(c:p<=q)(b:q<=s.size):jD s R st stk q l out f:=
 ⟨h.sim,by rw[<-a];exact h.wk,by rw[<-a];exact h.fu,by have:=h.len;omega,h.l0,by have:=h.l1;omega,b,by have:=h.ol;omega,h.n23⟩
theorem jD.step{s:ByteArray}{R:List Tk×List Int×Int}{st stk:List Int}{p:Nat}{l:Int}{out:List Tk}{f:Nat}(h:jD s R st stk p l out f)(b:pI s p):∃g,f=g+1/\s.size<p+1+g/\
  (if sj s p=7 then
   (if(feedL stk 5).2=U then uy s g (feedL stk 5).1 (blk s (s.size+1) (rdI s p).a) (l+1) (out++[⟨5,(p:Nat),((rdI s p).a:Nat),l,(rdI s p).n,(rdI s p).x⟩]) else uy s g stk (blk s (s.size+1) (rdI s p).a) (l+1) out)
  else if(Ai stk (sj s p)).2=U then
   (if(rdI s p).ok=U then uy s g (feedL stk (sj s p)).1 (blk s (s.size+1) (rdI s p).a) l (out++[⟨sj s p,(p:Nat),((rdI s p).a:Nat),l,(rdI s p).n,(rdI s p).x⟩]) else([],stk,((rdI s p).a:Nat)))
  else([],stk,(wrongF s p (wh stk):Nat)))=R:=by
 have d:=E9 s p b.nb b.nd;have e:=h.fu;have c:=h.wk.out;rw[d]at e c;have i:=b.lt;obtain⟨g,rfl⟩:∃g,f=g+1:=⟨f-1,by omega⟩;rw[uy,aa (by omega)]at c;exact⟨g,rfl,by omega,c⟩
theorem ae6{s:ByteArray}{p:Nat}(h:(rdI s p).ok=U):(rdI s p).d=if(rdI s p).k=7 then 1 else 0:=by
 unfold rdI at h⊢;split
 ·simp only;unfold JI;cases hf:uE ez (s.extract p (mo s (s.size+1) p)) 22 0 with
  |none=>simp
  |some k=>simp only;rw[aa (by omega)]
 split
 ·split
  ·simp only;unfold vI;split
   ·simp
   ·split<;>simp
  ·rename_i a b c;rw[aa a,ab b,aa c]at h;cases h
 split
 ·split
  ·simp
  ·rename_i a b c e;rw[aa a,aa b,ab c,aa e]at h;cases h
 split
 ·rename_i a b c e;rw[aa a,aa b,aa c,ab e]at h;cases h
 ·rfl
theorem F7{s:ByteArray}{p:Nat}(h:(rdI s p).ok=U):sj s p=(rdI s p).k:=by unfold sj;rw[ab h]
section
variable {s : ByteArray} {R : List Tk × List Int × Int} {st stk : List Int} {p : Nat} {l : Int} {out : List Tk} {f : Nat}
theorem jD.next(h:jD s R st stk p l out f)(n:pI s p)(k:(rdI s p).ok=U){e b:List Int}{c:List Tk}{g:Nat}(A:s.size<p+1+g)(m:Da e b)(B:e.length<=st.length+45)(C:c.length<=out.length+1)(j:N23 b)
  (o:uy s g b (blk s (s.size+1) (rdI s p).a) (l+(rdI s p).d) c=R):jD s R e b (rdI s p).a (l+(rdI s p).d) c g:=by
 obtain⟨q,i,t,u⟩:=mq s p n.lt k;have z:=mJ s (s.size+1) (rdI s p).a i;have v:=h.len;have w:=h.l0;have x:=h.l1;have y:=h.ol;exact⟨m,⟨o⟩,by omega,by omega,by omega,by omega,i,by omega,j⟩
theorem jD.sep(h:jD s R st stk p l out f)(i:pI s p)(b:(rdI s p).ok=U)(e:(rdI s p).k=7)(q:gH st 5=U){c:List Int}(t:Da c (feedL stk 5).1)(o:c.length<=st.length+45):
  ∃g,jD s R c (feedL stk 5).1 (rdI s p).a (l+(rdI s p).d) (out++[⟨5,(p:Nat),((rdI s p).a:Nat),l,(rdI s p).n,(rdI s p).x⟩]) g:=by
 obtain⟨g,rfl,m,j⟩:=h.step i;rw[F7 b,ab e,ab (by rw[<-h.sim.may (by decide) (by decide)];exact q)]at j;exact⟨g,h.next i b m t o (by simp) (Kd (by decide) (by decide) stk h.sim.o2 h.n23) (by rw[ae6 b,ab e];exact j)⟩
theorem jD.skip(h:jD s R st stk p l out f)(e:pI s p)(b:(rdI s p).ok=U)(c:(rdI s p).k=7)(m:gH st 5=X):∃g,jD s R st stk (rdI s p).a (l+(rdI s p).d) out g:=by
 obtain⟨g,rfl,j,i⟩:=h.step e;rw[F7 b,ab c,aa (by rw[<-h.sim.may (by decide) (by decide),m];simp)]at i;exact⟨g,h.next e b j h.sim (by omega) (by omega) h.n23 (by rw[ae6 b,ab c];exact i)⟩
theorem IJ{k:Int}(a:1<=k)(st:List Int):Ai st k=feedL st k:=by unfold Ai;rw[ab (by omega)]
theorem jD.tok(h:jD s R st stk p l out f)(j:pI s p)(b:(rdI s p).ok=U)(i:(rdI s p).k≠7)(u:gH st (rdI s p).k=U){e:List Int}(v:Da e (feedL stk (rdI s p).k).1)(t:e.length<=st.length+45):
  ∃g,jD s R e (feedL stk (rdI s p).k).1 (rdI s p).a (l+(rdI s p).d) (out++[⟨(rdI s p).k,(p:Nat),((rdI s p).a:Nat),l,(rdI s p).n,(rdI s p).x⟩]) g:=by
 obtain⟨g,rfl,q,m⟩:=h.step j;obtain⟨c,o⟩:=Ij s p b;rw[F7 b,aa i,IJ c,ab (by rw[<-h.sim.may c o];exact u),ab b]at m;exact⟨g,h.next j b q v t (by simp) (Kd c o stk h.sim.o2 h.n23) (by rw[ae6 b,aa i,Int.add_zero];exact m)⟩
theorem jD.stop(h:jD s R st stk p l out f)(g:pI s p)(a:(rdI s p).ok=U)(d:(rdI s p).k≠7)(e:gH st (rdI s p).k=X):R.2.2=(wrongF s p (wh stk):Nat):=by
 obtain⟨j,rfl,m,b⟩:=h.step g;obtain⟨c,i⟩:=Ij s p a;rw[F7 a,aa d,IJ c,aa (by rw[<-h.sim.may c i,e];simp)]at b;rw[<-b]
theorem jD.bad(h:jD s R st stk p l out f)(e:pI s p)(b:(rdI s p).ok=X):0<=R.2.2:=by
 obtain⟨g,rfl,i,a⟩:=h.step e;have d:¬sj s p=7:=fun c=>by have:=aeq s p c;rw[b]at this;cases this.1
 rw[aa d]at a;split at a
 ·rw[aa (by rw[b];simp)]at a;rw[<-a];simp
 ·rw[<-a];simp
theorem jD.fin(h:jD s R st stk s.size l out f):R=(out++[⟨6,(s.size:Nat),(s.size:Nat),l,0,⟨#[]⟩⟩],stk, -1):=by
 have c:=agv s s.size (ae _);have d:=h.fu;have a:=h.wk.out;rw[c]at d a;obtain⟨b,rfl⟩:∃b,f=b+1:=⟨f-1,by omega⟩;rw[uy,ab (ae _)]at a;exact a.symm
end
theorem jD.begin(s:ByteArray):jD s (jb s) [100,6] [100,6] 0 1 [] (s.size+1):=
 ⟨abz,⟨rfl⟩,by omega,by simp,by omega,by omega,aL _,by simp,by intro b a;simp at a;omega⟩
theorem jD.rng{s:ByteArray}{R:List Tk×List Int×Int}{st stk:List Int}{p:Nat}{l:Int}{out:List Tk}{f:Nat}(h:jD s R st stk p l out f):∀a∈st,0<=a/\a<=133:=fun a b=>by
 have:=aC (h.sim.o1 a b);omega
structure IK (s:ByteArray) (R:List Tk×List Int×Int) (z:Int):Prop where
 bad:0<=R.2.2
 ex:∃(p:Nat) (st stk:List Int) (l:Int) (out:List Tk) (f:Nat),pI s p/\jD s R st stk p l out f/\z=(p:Int)+(ww st (s.extract p (rdI s p).a):Nat)/\((rdI s p).ok=U->(rdI s p).k≠7/\gH st (rdI s p).k=X)
def okO(o:Obj):Prop:=(∃d b,o= .map d b)\/(∃c a e,o= A6 c a e/\a≠150)
def oJ(W c:V):Prop:=∀(b:Nat)(a:Obj),okO a->W.heap[b]?=N a->c.heap[b]?=N a
theorem oJ.cells{W a:V}(h:oJ W a){k:Nat}{cs:Array A5}{t:TypeId}{fr:Nat×Nat}(b:W.heap[k]?=N (A6 cs t fr))(c:t≠150):a.heap[k]?=N (A6 cs t fr):=h k _ (.inr ⟨_,_,_,rfl,c⟩) b
theorem oJ.row{W a:V}(h:oJ W a){base e size n:Nat}{v:A5}{c:List A5}(b:W.ownsRow base e size v n c)(k:e≠150):a.ownsRow base e size v n c:=by
 refine⟨b.1,?_⟩;rcases b.2 with j|⟨i,d,g,m,o,q,t⟩
 ·exact .inl j
 ·exact .inr ⟨i,d,g,m,o,h.cells q k,t⟩
theorem oJ.of_gr{W d:V}{b:Nat}(i:W.grownBy d (N b))(m:ScX b W):oJ W d:=by
 intro e w j a;obtain⟨o,u,h⟩:=m;refine(i.block e (aG a) ?_).trans a;intro g;obtain rfl:e=b:=by simpa using g
 rw[h]at a;obtain rfl:=bu a;rcases j with⟨t,n,c⟩|⟨q,x,v,c,k⟩
 ·cases c
 ·cases c;exact k rfl
theorem oJ.of_put{W:V}{l:Nat}{r:Loop}(c:W.heap[l]?=N (.loop r))(e:Obj):oJ W (W.putObj l e):=by
 intro m n d a;refine(T ?_).trans a;rintro rfl;rw[c]at a;obtain rfl:=bu a;rcases d with⟨i,g,b⟩|⟨h,o,j,b,k⟩<;>cases b
theorem oJ.of_putD{W:V}{l:Nat}{q:Option (List Deferred)}(c:W.heap[l]?=N (.deferred q))(e:Obj):oJ W (W.putObj l e):=by
 intro m n d a;refine(T ?_).trans a;rintro rfl;rw[c]at a;obtain rfl:=bu a;rcases d with⟨i,g,b⟩|⟨h,o,j,b,k⟩<;>cases b
theorem oJ.of_below{W a:V}(h:Ax W.heap.size W a):oJ W a:=fun c d _ b=>(h.block c (aG b)).trans b
theorem GQ.kept{W c:V}{base d e:Nat}{st:List Int}(h:GQ W base d e st)(a:oJ W c):GQ c base d e st:=by
 obtain⟨j,g,i⟩:=h.g.ex;exact⟨⟨⟨j,a.cells g (by decide),a.row i (by decide)⟩,h.g.lo⟩,h.r.same (fun n k b=>a _ _ (.inl ⟨_,_,rfl⟩) b) (fun q m o b=>a.cells b (by decide)),h.ok,h.len⟩
theorem GQ.same{W c:V}{base e i:Nat}{st:List Int}(h:GQ W base e i st)(b:∀(k:Nat) (o:Obj),W.heap[k]?=N o->(∀cs fr,o≠ A6 cs 96 fr)->(∀cs fr,o≠ A6 cs 42 fr)->c.heap[k]?=N o):GQ c base e i st:=by
 obtain⟨x,q,g⟩:=h.g.ex;refine⟨⟨⟨x,b _ _ q (by intro cs fr a;cases a) (by intro cs fr a;cases a),g.1,?_⟩,h.g.lo⟩,h.r.same (fun z y a=>b _ _ a (by intro cs fr a;cases a) (by intro cs fr a;cases a)) (fun d cs fr a=>b _ _ a (by intro cs fr a;cases a) (by intro cs fr a;cases a)),h.ok,h.len⟩;rcases g.2 with n|⟨d,j,m,t,u,v,w⟩
 ·exact .inl n
 ·exact .inr ⟨d,j,m,t,u,b _ _ v (by intro cs fr a;cases a) (by intro cs fr a;cases a),w⟩
structure tu (w:V) (base gb mg tv:Nat) (s:ByteArray) (st:List Int) (out:List Tk) (W:V):Prop where
 q:GQ W base gb mg st
 bl:Ax base w W
 b0:W.heap[w.heap.size]?=N (.cells #[.pointer (N ⟨gb,0,O⟩)] 92 (0,0))
 b1:W.heap[w.heap.size+1]?=N (.cells #[.string s] 9 (0,0))
 tk:∃v,W.heap[tv]?=N (.cells #[v] 42 (0,0))/\W.ownsRow w.heap.size 96 6 v out.length (Aa out)
theorem tu.kept{w W b:V}{base c d e:Nat}{s:ByteArray}{st:List Int}{out:List Tk}(h:tu w base c d e s st out W)(a:oJ W b)(g:Ax base W b):tu w base c d e s st out b:=by
 obtain⟨k,i,j⟩:=h.tk;exact⟨h.q.kept a,h.bl.trans g,a.cells h.b0 (by decide),a.cells h.b1 (by decide),⟨k,a.cells i (by decide),a.row j (by decide)⟩⟩
theorem tu.below{w W a:V}{base b d e:Nat}{s:ByteArray}{st:List Int}{out:List Tk}(h:tu w base b d e s st out W)(c:Ax W.heap.size W a)(g:base<=W.heap.size):tu w base b d e s st out a:=h.kept (.of_below c) (c.mono g)
theorem tu.turn{w W b:V}{base a d g:Nat}{s:ByteArray}{st i:List Int}{out:List Tk}(h:tu w base a d g s st out W)(v:GQ b base a d i)(c:Gp a W b)(t:Ax base W b)(C:a<w.heap.size)(E:w.heap.size<g):tu w base a d g s i out b:=by
 obtain⟨B,A,j⟩:=h.tk;obtain⟨F,u,_⟩:=h.q.g.ex;refine⟨v,h.bl.trans t,jc c h.b0 (by omega) (by decide),jc c h.b1 (by omega) (by decide),⟨B,jc c A (by omega) (by decide),j.1,?_⟩⟩;rcases j.2 with o|⟨n,k,m,x,y,e,z⟩
 ·exact .inl o
 ·refine .inr ⟨n,k,m,x,y,jc c e ?_ (by decide),z⟩;rintro rfl;rw[u]at e;cases e
theorem tu.setTok{w W:V}{base i j g d:Nat}{s:ByteArray}{st:List Int}{out:List Tk}{cs:Array A5}{fr:Nat×Nat}(h:tu w base i j g s st out W)(y:W.heap[d]?=N (A6 cs 96 fr))(t:∀v,W.heap[g]?=N (A6 #[v] 42 (0,0))->v.ownBlock≠N d)(o:base<=d)(u:A5):tu w base i j g s st out (W.setCell ⟨d,0,O⟩ u):=by
 have a:∀(e:Nat)(c:Obj),W.heap[e]?=N c->(∀cs fr,c≠ A6 cs 96 fr)->(W.setCell ⟨d,0,O⟩ u).heap[e]?=N c:=fun e c a x=>(aD _ _ _ _ (by rintro rfl;rw[y]at a;exact x _ _ (bu a).symm)).trans a;obtain⟨v,k,z⟩:=h.tk;refine⟨h.q.same (fun e c m n _=>a e c m n),h.bl.setCell o _,a _ _ h.b0 (by intro cs fr b;cases b),a _ _ h.b1 (by intro cs fr b;cases b),⟨v,a _ _ k (by intro cs fr b;cases b),?_⟩⟩;exact As z (row:=N d) ⟨rfl,rfl,rfl,by simp[A2],fun B A q=>aD _ _ _ _ (fun b=>q (by rw[b]))⟩ (.inr (t v k))
theorem Iw.turn{b mb B:Nat}{s:ByteArray}{I:Nat->Int->V->Prop}{W a:V}{p q n:Nat}{l m k:Int}{e base:Nat}{cs:Array A5}{fr:Nat×Nat}(h:Iw b mb B s I W q m p l)(d:W.heap[e]?=N (A6 cs 144 fr))(g:Gp e W a)(w:Ax base W a)(A:14<=base)(y:I n k a):Iw b mb B s I a q m n k:=by
 obtain⟨v,j⟩:=h.sc;have x:b≠e:=by rintro rfl;rw[show W.heap[b]?=_ from j]at d;cases d
 refine⟨⟨v,jc g j x (by decide)⟩,?_,h.ly.blocks (fun z C=>w.block z (by omega)),y,bF h.sz g.size⟩;obtain⟨u,o,c,t⟩:=h.mp;exact⟨u,o,(g.block _ (aG c) (by rintro rfl;rw[c]at d;cases d) (fun cs fr i=>by rw[c]at i;cases i)).trans c,t⟩
theorem Iw.below{b mb B:Nat}{s:ByteArray}{I:Nat->Int->V->Prop}{W c:V}{p q k:Nat}{l j i:Int}(h:Iw b mb B s I W q j p l)(a:Ax W.heap.size W c)(o:14<=B)(n:I k i c):Iw b mb B s I c q j k i:=by
 obtain⟨m,g⟩:=h.sc;have t:=h.sz;exact⟨⟨m,(a.block _ (aG g)).trans g⟩,h.mp.kept (row:=O) ⟨a.os,a.tape,a.output,a.size,fun d e _=>a.block d e⟩ (by simp),h.ly.blocks (fun d e=>a.block d (by omega)),n,bF h.sz a.size⟩
theorem Iw.put{b mb B a:Nat}{s:ByteArray}{I:Nat->Int->V->Prop}{W:V}{p q:Nat}{l g:Int}{r:Loop}(h:Iw b mb B s I W q g p l)(d:W.heap[a]?=N (.loop r))(o:Obj)(u:14<=a)(t:I p l (W.putObj a o)):Iw b mb B s I (W.putObj a o) q g p l:=by
 obtain⟨m,e⟩:=h.sc;have n:b≠a:=by rintro rfl;rw[show W.heap[b]?=_ from e]at d;cases d
 obtain⟨k,i,c,j⟩:=h.mp;exact⟨⟨m,(T n).trans e⟩,⟨k,i,(T (by rintro rfl;rw[d]at c;cases c)).trans c,j⟩,h.ly.blocks (fun w v=>T (by omega)),t,by simpa using h.sz⟩
theorem F8(s:ByteArray)(p:Nat)(d:p<s.size):p<=(rdI s p).a/\(rdI s p).a<=s.size:=by
 unfold rdI;split
 ·rename_i b;have:=E8 s p b;exact⟨by simp only;omega,(vD s _ p (by omega)).2⟩
 split
 ·have:=uh s p d;split<;>(simp only;omega)
 split
 ·have:=so s (s.size+1) (p+1) [] (by omega);split<;>(simp only;omega)
 split
 ·simp only;omega
 ·rename_i c;have e:=oE s p s.size (ae _);have:=LJ (s.extract p s.size) (by omega) c;simp only;omega
theorem ab9{n:Nat}{fn:Func}{P:Program}{R:Ending->V->Prop}{tmps:Array A5}{D:Nat}{a:List PanicEntry}{W:V}(b:W.heap[D]?=N (.deferred (N [])))(h:R (.panicked a) (W.putObj D (.deferred O))):LeavesInM Fence.wide n P fn tmps R [{target:= .collected D,args:=#[]}] (.panicking a) W:=
 ⟨by simp,.inl ⟨_,_,rfl,run_takeDeferred b,h⟩⟩
theorem ae7(a b:ByteArray):∀(f n:Nat),a.size<n+f->n<=a.size->n<=b.size->(∀i,i<n->az a i=az b i)->(Jk a b f n<=a.size/\Jk a b f n<=b.size)/\(∀i,i<Jk a b f n->az a i=az b i)/\¬(Jk a b f n<a.size/\Jk a b f n<b.size/\az a (Jk a b f n)=az b (Jk a b f n))
 |0,n,h,d,e,c=>by omega
 |f+1,n,h,d,e,c=>by
  rw[Jk];split
  ·rename_i g;refine ae7 a b f (n+1) (by omega) (by omega) (by omega) (fun i j=>?_);rcases co i n with q|q
   ·exact c i q
   ·obtain rfl:i=n:=by omega
    exact g.2.2
  ·rename_i g;exact⟨⟨d,e⟩,c,g⟩
theorem aaz{a b:ByteArray}{m:Nat}:m<=Ku a b↔m<=a.size/\m<=b.size/\∀i,i<m->az a i=az b i:=by
 obtain⟨⟨g,h⟩,j,k⟩:=ae7 a b (a.size+1) 0 (by omega) (aL _) (aL _) (fun i d=>by omega);unfold Ku;constructor
 ·intro c;exact⟨bF c g,bF c h,fun i d=>j i (eF d c)⟩
 ·rintro ⟨n,o,e⟩;rcases co (Jk a b (a.size+1) 0) m with q|q
  ·exact absurd ⟨by omega,by omega,e _ q⟩ k
  ·exact q
theorem ae8(x:ByteArray){m:Nat}:∀(b:List Int)(a:Nat),m<=rcF x b a↔m<=a\/∃k∈b,m<=Kv k x
 |[],a=>by simp[rcF]
 |k::b,a=>by
  show m<=rcF x b (max a (Kv k x))↔_;rw[ae8 x b];constructor
  ·rintro (h|⟨d,h1,c⟩)
   ·rcases(show m<=a\/m<=Kv k x by omega) with h|h
    ·exact .inl h
    ·exact .inr ⟨k,bK,h⟩
   ·exact .inr ⟨d,dC _ h1,c⟩
  ·rintro (h|⟨d,h1,c⟩)
   ·exact .inl (by omega)
   ·rcases List.mem_cons.1 h1 with rfl|h1
    ·exact .inl (by omega)
    ·exact .inr ⟨d,h1,c⟩
theorem aaA(x:ByteArray):∀(d:List Int),bgL x d=U↔∃k∈d,bgC (az x 0) k=U\/bgT x k=U
 |[]=>by simp[bgL]
 |k::r=>by
  rw[bgL];constructor
  ·intro h;split at h
   ·exact⟨k,bK,.inl ‹_›⟩
   split at h
   ·exact⟨k,bK,.inr ‹_›⟩
   ·obtain⟨c,a,b⟩:=(aaA x r).1 h;exact⟨c,dC _ a,b⟩
  ·rintro ⟨c,a,b⟩;split
   ·rfl
   split
   ·rfl
   ·rename_i e g;rcases List.mem_cons.1 a with rfl|a
    ·exact absurd b (by simp[e,g])
    ·exact(aaA x r).2 ⟨c,a,b⟩
theorem ajH{a b:ByteArray}(g:a.size=b.size)(h:∀i,i<a.size->az a i=az b i):a=b:=by
 apply re;refine Array.ext g (fun i d e=>?_);have c:=h i d;unfold az at c;rw[kJ (show i<a.size from d),kJ (show i<b.size from e)]at c;exact UInt8.toNat_inj.1 (Int.ofNat_inj.1 c)
theorem aaB{x:ByteArray}{k:Int}:bgT x k=U↔x.size<=(vC k).size/\∀i,i<x.size->az x i=az (vC k) i:=by
 unfold bgT;rw[be,jf,ix,fj,fj];refine and_congr_right (fun g=>?_);have d:((vC k).extract 0 x.size).size=x.size:=by rw[iu];omega
 have c:∀i,i<x.size->az ((vC k).extract 0 x.size) i=az (vC k) i:=fun i a=>by rw[iG _ 0 _ i g (by omega),pu]
 constructor
 ·intro b i a;have e:(vC k).extract 0 x.size=x:=re (Array.toList_inj.1 b);rw[<-c i a,e]
 ·intro b;rw[ajH d (fun i a=>by rw[d]at a;rw[c i a,b i a])]
theorem ae9(s:ByteArray):∀(f p i:Nat),p<=i->i<mo s f p->cd (az s i)=U\/cu (az s i)=U
 |0,p,i,b,a=>by rw[mo]at a;omega
 |f+1,p,i,b,a=>by
  rw[mo]at a;split at a
  ·rename_i g;rcases mi b with rfl|q
   ·exact g
   ·exact ae9 s f (p+1) i q a
  ·omega
theorem afa(s:ByteArray):∀(f p:Nat),s.size<p+f->¬(cd (az s (mo s f p))=U\/cu (az s (mo s f p))=U)
 |0,p,h=>by rw[mo];exact Bq (by omega)
 |f+1,p,h=>by
  rw[mo];split
  ·exact afa s f (p+1) (by omega)
  ·assumption
theorem KG(s:ByteArray):∀(f p m:Nat),m<=f->(∀i,i<m->cd (az s (p+i))=U)->p+m<=mo s f p
 |0,p,m,h,g=>by rw[mo];omega
 |f+1,p,0,h,g=>by
  rw[mo];split
  ·have:=KG s f (p+1) 0 (aL _) (fun i a=>by omega);omega
  ·omega
 |f+1,p,m+1,h,g=>by
  rw[mo,ab (.inl (g 0 (by omega)))];have:=KG s f (p+1) m (by omega) (fun i a=>by have:=g (i+1) (by omega);rwa [show p+(i+1)=p+1+i by omega]at this);omega
theorem fx1:∀k:Fin 79,cd (az (gc (k.val:Int)) 0)=U->∀i:Fin 6,i.val<(gc (k.val:Int)).size->cd (az (gc (k.val:Int)) i.val)=U:=by decide+kernel
theorem fx2:∀k:Fin 79,cu (az (gc (k.val:Int)) 0)=X/\az (gc (k.val:Int)) 0≠34/\(k.val<=4->(gc (k.val:Int)).size=0):=by decide+kernel
theorem fx4:∀k:Fin 79,k.val≠7->cd (az (gc (k.val:Int)) 0)=X->(gc (k.val:Int)).size<=3/\∀m:Fin 4,1<=m.val->m.val<=(gc (k.val:Int)).size->∃i:Fin 30,ci iz i.val=(gc (k.val:Int)).extract 0 m.val:=by decide+kernel
theorem ajI:∀i j:Fin 30,j.val<=i.val->az (ci iz j.val) 0=az (ci iz i.val) 0->(ci iz i.val).size<=(ci iz j.val).size:=by decide+kernel
theorem ajJ:∀i:Fin 30,(ci iz i.val).size≠0:=by decide+kernel
theorem afb(q:ByteArray->Bool):∀(f k i:Nat),k<=i->i<k+f->q (ci iz i)=U->∃j,ux q f k=N j/\j<=i/\q (ci iz j)=U
 |0,k,i,h1,a,h=>by omega
 |f+1,k,i,h1,a,h=>by
  rw[ux];split
  ·rename_i g;exact⟨k,rfl,h1,g⟩
  ·rename_i g;rcases mi h1 with rfl|h1
   ·exact absurd h g
   ·exact afb q f (k+1) i h1 (by omega) h
theorem ajK{s:ByteArray}{i:Nat}(h:0<=az s i):i<s.size:=by
 rcases co i s.size with g|g
 ·exact g
 ·rw[dE (by omega)]at h;omega
theorem ajL{s:ByteArray}{i:Nat}(h:i<s.size):0<=az s i:=by unfold az;rw[kJ h];omega
theorem ahE{s:ByteArray}{p:Nat}(F:az s p≠10){k:Int}(ak:1<=k/\k<=78)(af:k≠7){m:Nat}(J:1<=m)(y:m<=(gc k).size)(c:∀i,i<m->az s (p+i)=az (gc k) i):p+m<=(rdI s p).a:=by
 obtain⟨k,rfl⟩:∃q:Fin 79,k=(q.val:Int):=⟨⟨k.toNat,by omega⟩,by simp;omega⟩;have h:=c 0 (by omega);rw[ua]at h;have v:∀i,i<m->p+i<s.size:=fun i d=>ajK (by rw[c i d];exact ajL (by omega));have al:=v (m-1) (by omega);obtain⟨B,C,_⟩:=fx2 k;have am:=aez (k.val:Int);unfold rdI;by_cases j:cd (az s p)=U
 ·rw[ab j];have q:=fx1 k (by rw[<-h];exact j);exact KG s (s.size+1) p m (by omega) (fun i d=>by rw[c i d];exact q ⟨i,by omega⟩ (by show i<_;omega))
 rw[aa j,aa (by rw[h,B];simp),aa (by rw[h];exact C)];obtain⟨ad,E⟩:=fx4 k (by omega) (by rw[<-h];simpa using j);obtain⟨i,d⟩:=E ⟨m,by omega⟩ J y;have x:∀b,b<m->az (s.extract p s.size) b=az s (p+b):=fun b e=>iG s p s.size b (ae _) (v b e);have I:((gc (k.val:Int)).extract 0 m).size=m:=by rw[iu];omega
 have o:∀b,b<m->az (s.extract p s.size) b=az ((gc (k.val:Int)).extract 0 m) b:=fun b e=>by rw[x b e,c b e,iG _ 0 m b y (by omega),pu]
 have w:Lib.hasPrefix (s.extract p s.size).data.toList (ci iz i.val).data.toList=U:=by
  rw[d,Kh _ _ (by show((gc (k.val:Int)).extract 0 m).size<=3;omega)];unfold pB;rw[jf];show(((gc (k.val:Int)).extract 0 m).size=0\/_)/\(((gc (k.val:Int)).extract 0 m).size<=1\/_)/\(((gc (k.val:Int)).extract 0 m).size<=2\/_);rw[I];refine⟨.inr (o 0 (by omega)),?_,?_⟩
  ·rcases co 1 m with q|q
   ·exact .inr (o 1 q)
   ·exact .inl q
  ·rcases co 2 m with q|q
   ·exact .inr (o 2 q)
   ·exact .inl q
 have t:=Fy (s.extract p s.size) (by rw[x 0 (by omega)];exact F);obtain⟨b,e,G,H⟩:=afb (fun L=>Lib.hasPrefix (s.extract p s.size).data.toList L.data.toList) 30 0 i.val (aL _) (by omega) w;unfold Ce at t;rw[e]at t;obtain⟨_,z,A,_⟩:=t;rw[aa A];have u:∀(i:Fin 30),Lib.hasPrefix (s.extract p s.size).data.toList (ci iz i.val).data.toList=U->az (s.extract p s.size) 0=az (ci iz i.val) 0:=fun i n=>by
  have c:=ael i;unfold inB at c;rw[Kh _ _ (aC c).1]at n;unfold pB at n;rcases(aC n).1 with g|g
  ·exact absurd g (ajJ i)
  ·exact g
 have q:=ajI i ⟨b,by omega⟩ G ((u ⟨b,by omega⟩ H).symm.trans (u i w));rw[d]at q;show p+m<=p+(gc (se (s.extract p s.size))).size;have an:((gc (k.val:Int)).extract 0 m).size<=(ci iz b).size:=q;rw[z];omega
section
variable {s : ByteArray} {p r : Nat} {K : List Int}
theorem KH(g:∀m,1<=m->m<=r->p+m<=s.size/\th K (s.extract p (p+m))=U)(h:∀m,1<=m->m<r->wi s p m=X)(i:p+(r+1)<=s.size->th K (s.extract p (p+(r+1)))=U->1<=r/\wi s p r=U):∀(f n:Nat),n<=r->r<n+f->(n=r->1<=r->wi s p r=X)->wrL s p K f n=r
 |0,n,a,b,_=>by omega
 |f+1,n,a,b,c=>by
  rw[wrL];rcases co n r with q|q
  ·obtain⟨t,k⟩:=g (n+1) (by omega) q;rw[ab ⟨by omega,k⟩];rcases co (n+1) r with q2|q2
   ·rw[aa (by rw[h (n+1) (by omega) q2];simp)];exact KH g h i f (n+1) q (by omega) (fun d=>by omega)
   ·have d:n+1=r:=by omega
    split
    ·exact d
    ·rename_i e;exact KH g h i f (n+1) (by omega) (by omega) (fun _ _=>by rw[<-d];simpa using e)
  ·have d:n=r:=by omega
   rw[aa (fun e=>by
    obtain⟨o,j⟩:=i (by omega) (by rw[<-d];exact e.2);rw[c d o]at j;cases j)]
   exact d
theorem aj0(G:pI s p)(a6:∀k∈K,1<=k/\k<=78)(al:cu (az s p)=U->2 ∉ K/\3 ∉ K)(a5:az s p=34->4 ∉ K)(ak:az s p≠10):wrL s p K (s.size+1) 0=rcF (s.extract p (rdI s p).a) K (Ku (s.extract p (rdI s p).a) vv):=by
 obtain⟨ao,J⟩:=F8 s p G.lt;have bd:=G.lt;obtain⟨a,E⟩:=ay ((rdI s p).a);have z:=fun {k:Int} e j {m:Nat} I w d=>ahE (s:=s) (p:=p) ak (k:=k) e j (m:=m) I w d;rw[E]at ao J z⊢;have H:(s.extract p a).size=a-p:=by rw[iu];omega
 have d:∀b,b<a-p->az (s.extract p a) b=az s (p+b):=fun b c=>iG s p a b J (by omega);have a7:rcF (s.extract p a) K (Ku (s.extract p a) vv)<=a-p:=by rw[<-H];exact KE _ _ _ (Cs _ _ _ _ (aL _))
 have t:=fun m=>ae8 (s.extract p a) (m:=m) K (Ku (s.extract p a) vv);generalize rcF (s.extract p a) K (Ku (s.extract p a) vv)=R at a7 t;have bb:vv.size=2:=rfl;have af:∀m,p+m<=s.size->(s.extract p (p+m)).size=m/\∀b,b<m->az (s.extract p (p+m)) b=az s (p+b):=fun m a9=>⟨by rw[iu];omega,fun b c=>iG s p (p+m) b a9 (by omega)⟩;refine KH (fun m I w=>⟨by omega,?_⟩) (fun m I w=>?_) (fun a3 C=>?_) (s.size+1) 0 (aL _) (by omega) (fun _ _=>by omega)
 ·obtain⟨u,g⟩:=af m (by omega);unfold th;rcases(t m).1 w with h|⟨k,e,h⟩
  ·obtain⟨av,L,o⟩:=aaz.1 h;have B:=o 0 (by omega);rw[d 0 (by omega)]at B;rcases(show m=1\/m=2 by omega) with rfl|rfl
   ·rw[ab ⟨u,by rw[g 0 (by omega),B];rfl⟩]
   ·have ad:=o 1 (by omega);rw[d 1 (by omega)]at ad;exact absurd ⟨B,ad⟩ G.nd
  ·split
   ·rfl
   refine(aaA _ K).2 ⟨k,e,?_⟩;unfold Kv at h;rw[aa (by omega)]at h;have ap:az (s.extract p a) 0=az (s.extract p (p+m)) 0:=by rw[d 0 (by omega),g 0 (by omega)]
   split at h
   ·rename_i F;split at h
    ·rename_i n;left;rw[ap]at n;unfold bgC;rw[jf];unfold bnC at n;rcases F with rfl|rfl|rfl|rfl
     ·exact .inl ⟨rfl,n⟩
     ·exact .inr (.inl ⟨.inl rfl,n⟩)
     ·exact .inr (.inl ⟨.inr rfl,n⟩)
     ·exact .inr (.inr ⟨rfl,aC n⟩)
    ·omega
   ·obtain⟨av,L,o⟩:=aaz.1 h;have j:k≠7:=fun i=>by
     subst i;have:=o 0 (by omega);rw[d 0 (by omega)]at this;exact ak this
    right;rw[aaB,LF k j,u];exact⟨L,fun b c=>by rw[g b c,<-o b c,d b (by omega)]⟩
 ·unfold wi;by_cases am:cd (az s p)=U
  ·have i:a=mo s (s.size+1) p:=by rw[<-E];unfold rdI;rw[ab am]
   have q:=ae9 s (s.size+1) p (p+m) (by omega) (by omega);have a0:lk s (p+m)=az s (p+m):=by unfold lk;rw[ab (by omega)]
   rw[a0];rcases q with q|q<;>simp[q]
  ·simp[am]
 ·obtain⟨u,g⟩:=af (R+1) a3;unfold th at C;split at C
  ·rename_i ar;have A:=ar.2;rw[g 0 (by omega)]at A;have q:=z (k:=62) (by decide) (by decide) (m:=1) (by omega) (by decide) (fun b c=>by obtain rfl:b=0:=(by omega);exact A);have:=(t 1).2 (.inl (aaz.2 ⟨by omega,by omega,fun b c=>by obtain rfl:b=0:=(by omega);rw[d 0 (by omega)];exact A⟩));omega
  ·obtain⟨k,e,h⟩:=(aaA _ K).1 C;rw[g 0 (by omega),ua]at h;rcases h with h|h
   ·unfold bgC at h;rw[jf]at h;rcases h with⟨rfl,h⟩|⟨a4,h⟩|⟨rfl,h⟩
    ·have i:a=mo s (s.size+1) p:=by rw[<-E];unfold rdI;rw[ab h]
     have bh:=E8 s p h;have q:=(t (a-p)).2 (.inr ⟨1,e,by unfold Kv;rw[aa (by omega),ab (.inl rfl),ab (by rw[d 0 (by omega)];exact h),H];exact ae _⟩);have v:=afa s (s.size+1) p (by omega);rw[<-i]at v;obtain rfl:R=a-p:=by omega
     refine⟨by omega,?_⟩;unfold wi lk;rw[show p+(a-p)=a by omega];by_cases an:a<s.size
     ·rw[ab an];simp only[not_or,Em]at v;simp[h,v.1,v.2]
     ·rw[aa an,h];decide
    ·exact absurd e (by rcases a4 with rfl|rfl;exact(al h).1;exact(al h).2)
    ·exact absurd e (a5 h)
   ·obtain⟨x,y⟩:=aaB.1 h;rw[u]at x y;have j:k≠7:=fun i=>by
     subst i;have:(vC 7).size=0:=by decide+kernel
     omega
    rw[LF k j]at x y;have a8:=a6 k e;have q:=z a8 j (m:=R+1) (by omega) x (fun b c=>by rw[<-y b c,g b c]);have F:¬(k=1\/k=2\/k=3\/k=4):=fun i=>by
     have:=(fx2 ⟨k.toNat,by omega⟩).2.2 (by show k.toNat<=4;omega);rw[show(((⟨k.toNat,by omega⟩:Fin 79).val:Nat):Int)=k by simp;omega]at this;omega
    have:=(t (R+1)).2 (.inr ⟨k,e,by unfold Kv;rw[aa (by omega),aa F,aaz,H];exact⟨by omega,x,fun b c=>by rw[d b (by omega),<-g b c,y b c]⟩⟩);omega
end
theorem wy(st:List Int):∀(j:Nat)(k:Int),k∈lm st j↔1<=k/\k<=(j:Int)/\gH st k=U
 |0,k=>by simp[lm];omega
 |j+1,k=>by
  rw[lm];split
  ·rename_i g;rw[AB,wy st j,List.mem_singleton];constructor
   ·rintro (h|rfl)
    ·exact⟨h.1,by omega,h.2.2⟩
    ·exact⟨by omega,by omega,g⟩
   ·rintro ⟨b,c,a⟩;by_cases e:k=(j:Int)+1
    ·exact .inr e
    ·exact .inl ⟨b,by omega,a⟩
  ·rename_i g;rw[wy st j];constructor
   ·exact fun h=>⟨h.1,by omega,h.2.2⟩
   ·rintro ⟨b,c,a⟩;have e:k≠(j:Int)+1:=fun e=>g (e ▸ a);exact⟨b,by omega,a⟩
theorem KI(s:ByteArray)(p:Nat):(cu (az s p)=U/\(si s p=2\/si s p=3))\/(az s p=34/\si s p=4)\/(si s p=0/\cu (az s p)=X/\az s p≠34):=by
 unfold si;by_cases a:cu (az s p)=U
 ·rw[ab a];exact .inl ⟨a,by split;exact .inl rfl;exact .inr rfl⟩
 ·rw[aa a];by_cases b:az s p=34
  ·rw[ab b];exact .inr (.inl ⟨b,rfl⟩)
  ·rw[aa b];exact .inr (.inr ⟨rfl,by simpa using a,b⟩)
theorem IK.at_{s:ByteArray}{R:List Tk×List Int×Int}{z:Int}(h:IK s R z):z=R.2.2:=by
 obtain⟨p,st,stk,l,out,f,m,n,w,H⟩:=h.ex;have u:lm st 78=wh stk:=n.sim.nm 78 (ae _);have k:∀i,1<=i->i<=78->gH st i=(feedL stk i).2:=fun i v B=>n.sim.may v B;have y:gH st 2=gH st 3:=by rw[k 2 (by omega) (by omega),k 3 (by omega) (by omega)];exact ah9 stk n.sim.o2 n.n23
 have x:(cu (az s p)=U->gH st 2=X\/gH st 3=X)->(az s p=34->gH st 4=X)->az s p≠10->z=(wrongF s p (wh stk):Nat):=fun J L ad=>by
  have af:=aj0 (K:=wh stk) m (fun i c=>by rw[<-u]at c;have:=(wy st 78 i).1 c;omega) (fun b=>by
   rw[<-u,wy,wy];have:=J b;rw[y]at this;simp[y,this.elim id id]) (fun b=>by rw[<-u,wy];simp[L b]) ad
  rw[w];unfold wrongF ww;rw[af,u];omega
 cases c:(rdI s p).ok with
 |true=>
  obtain⟨o,g⟩:=H c;rw[n.stop m c o g];unfold rdI at o g c;refine x (fun b=>?_) (fun b=>?_) (fun b=>?_)
  ·have G:¬cd (az s p)=U:=fun j=>by simp[cd]at j;simp[cu]at b;omega
   rw[aa G,ab b]at g c;split at c
   ·rename_i j;rw[ab j]at g;unfold vI at g;split at g
    ·exact .inl g
    ·split at g
     ·exact .inl g
     ·exact .inr g
   ·cases c
  ·rw[b]at g c;rw[aa (by decide),aa (by decide),ab rfl]at g c;split at c
   ·rename_i j;rw[ab j]at g;exact g
   ·cases c
  ·refine o ?_;have e:az (s.extract p s.size) 0=10:=by rw[iG s p s.size 0 (ae _) (by have:=m.lt;omega)];exact b
   have t:se (s.extract p s.size)=7:=by unfold se;rw[aa (by rw[e];decide),ab e]
   rw[b,aa (by decide),aa (by decide),aa (by decide),aa (by rw[t];decide)];exact t
 |false=>
  obtain⟨j,rfl,am,q⟩:=n.step m;have o:¬sj s p=7:=fun e=>by have:=aeq s p e;rw[c]at this;cases this.1
  have E:sj s p=si s p:=by unfold sj;rw[aa (by rw[c];simp)]
  rw[aa o,E]at q;have C:az s p≠10:=fun b=>by
   have e:az (s.extract p s.size) 0=10:=by rw[iG s p s.size 0 (ae _) (by have:=m.lt;omega)];exact b
   have t:se (s.extract p s.size)=7:=by unfold se;rw[aa (by rw[e];decide),ab e]
   unfold rdI at c;rw[b,aa (by decide),aa (by decide),aa (by decide),aa (by rw[t];decide)]at c;cases c
  split at q
  ·rename_i d;rw[aa (by rw[c];simp)]at q;rw[<-q,w];show(p:Int)+_=(((rdI s p).a:Nat):Int);obtain⟨ak,A⟩:=F8 s p m.lt;have I:(s.extract p (rdI s p).a).size=(rdI s p).a-p:=by rw[iu];omega
   have ao:=Bh st (s.extract p (rdI s p).a);have an:(rdI s p).a-p<=ww st (s.extract p (rdI s p).a):=by
    by_cases v:(rdI s p).a-p=0
    ·omega
    unfold ww;refine(ae8 _ _ _).2 (.inr ⟨si s p,?_,?_⟩)
    ·rw[wy];have al:=Fz s p;unfold Ai at d;split at d
     ·exact⟨by omega,by omega,by rw[k _ (by omega) (by omega)];exact d⟩
     ·cases d
    ·have F:az (s.extract p (rdI s p).a) 0=az s p:=iG s p _ 0 A (by omega);unfold Kv;rw[aa (by omega),I,F];rcases KI s p with⟨b,e|e⟩|⟨b,e⟩|⟨e,_⟩
     ·rw[e,ab (.inr (.inl rfl)),ab (show bnC 2 (az s p)=U from b)];exact ae _
     ·rw[e,ab (.inr (.inr (.inl rfl))),ab (show bnC 3 (az s p)=U from b)];exact ae _
     ·rw[e,ab (.inr (.inr (.inr rfl))),ab (show bnC 4 (az s p)=U by rw[b];decide)];exact ae _
     ·rw[e]at d;cases d
   omega
  ·rename_i d;rw[<-q];unfold Ai at d;refine x (fun b=>?_) (fun b=>?_) C
   ·rcases KI s p with⟨_,e|e⟩|⟨h,e⟩|⟨_,h,_⟩
    ·rw[e,ab (by decide),<-k 2 (by omega) (by omega)]at d;exact .inl (by simpa using d)
    ·rw[e,ab (by decide),<-k 3 (by omega) (by omega)]at d;exact .inr (by simpa using d)
    ·rw[h]at b;exact absurd b (by decide)
    ·rw[h]at b;cases b
   ·rcases KI s p with⟨h,_⟩|⟨h,e⟩|⟨_,_,h⟩
    ·rw[b]at h;exact absurd h (by decide)
    ·rw[e,ab (by decide),<-k 4 (by omega) (by omega)]at d;simpa using d
    ·exact absurd b h
attribute [local go_sem] kF
theorem aj1(W:V)(b:Nat)(a c d e g h:A5):W.grownBy (uG W b a c d e g h) (N b):=by
 unfold uG;refine lF ?_ (oa _ b 5 _);refine lF ?_ (oa _ b 4 _);refine lF ?_ (oa _ b 3 _);refine lF ?_ (oa _ b 2 _);refine lF ?_ (oa _ b 1 _);exact oa _ b 0 _
theorem aaC:(Tryz.prog.info? 96).map (fun i=>(i.zero,i.size,i.bytes))=N (N (.agg #[.int .i64 0,.int .i64 0,.int .i64 0,.int .i64 0,.int .i64 0,.string ⟨#[]⟩]),6,56):=by kernel_rfl
structure Ad1 (w:V) (gb:Nat) (s:ByteArray) (b mb:Nat) (W:V):Prop where
 bl:Ax w.heap.size w W
 b0:W.heap[w.heap.size]?=N (.cells #[.pointer (N ⟨gb,0,O⟩)] 92 (0,0))
 b1:W.heap[w.heap.size+1]?=N (.cells #[.string s] 9 (0,0))
 sc:fH b W s (.map (N mb)) 0 0 1 X
 mp:W.ownsMap A4 9 (plainElem (H:=Unit) A4 3) mb 22 (yl 22)
 lo:w.heap.size+2<=b
 ne:mb≠b
structure aj2 (w:V) (base gb mb:Nat) (s:ByteArray) (R:List Tk×List Int×Int) (e:Ending) (w':V):Prop where
 out:(∃st stk toks l v,R=(toks++[⟨6,(s.size:Nat),(s.size:Nat),l,0,⟨#[]⟩⟩],stk, -1)/\Da st stk/\e= .returned v/\w'.ownsRow w.heap.size 96 6 v toks.length (Aa toks)/\GQ w' base gb mb st/\st.length<=45*s.size+2/\toks.length<=s.size/\Ax base w w')\/(∃z,IK s R z/\e= .panicked (KF z)/\Ax base w w')
theorem F9(w:V)(base u b9:Nat)(s:ByteArray)(h:GQ w base u b9 [100,6])(i8:Hg w)(nt:s.size<=65536)(kD:14<=base):
  Calls A4 37 #[.pointer (N ⟨u,0,O⟩),.string s] w fun e C=>aj2 w base u b9 s (jb s) e C:=by
 obtain⟨ki,fr,ev⟩:=i8.tabs.word;have k8:u<w.heap.size:=by obtain⟨an,af,_⟩:=h.g.ex;exact aG af
 have lc:=h.g.lo;refine F6 (n:=5) Tryz.func37 rfl ?_;simp only[Tryz.ntmps37,gi,bv,dd,Nat.reduceAdd,Nat.reduceSub,gh,gC,gD,na,de,ej];refine qF (fun mf nf=>qE ?_);go_wp2_with fail;have ep:=((ag w.heap.size w).alloc (ae _) (.cells #[.pointer (N ⟨u,0,O⟩)] 92 (0,0))).alloc (by simp) (.cells #[.string s] 9 (0,0));have g6:((w.alloc (.cells #[.pointer (N ⟨u,0,O⟩)] 92 (0,0))).alloc (.cells #[.string s] 9 (0,0))).heap[w.heap.size]?=N (.cells #[.pointer (N ⟨u,0,O⟩)] 92 (0,0)):=(bm _ _ _ (by simp)).trans (aj w _);have c9:((w.alloc (.cells #[.pointer (N ⟨u,0,O⟩)] 92 (0,0))).alloc (.cells #[.string s] 9 (0,0))).heap[w.heap.size+1]?=N (.cells #[.string s] 9 (0,0)):=by
  have:=aj (w.alloc (.cells #[.pointer (N ⟨u,0,O⟩)] 92 (0,0))) (.cells #[.string s] 9 (0,0))
  rwa [aF]at this
 have hf:((w.alloc (.cells #[.pointer (N ⟨u,0,O⟩)] 92 (0,0))).alloc (.cells #[.string s] 9 (0,0))).heap.size=w.heap.size+2:=by simp
 generalize (w.alloc (.cells #[.pointer (N ⟨u,0,O⟩)] 92 (0,0))).alloc (.cells #[.string s] 9 (0,0))=bk at ep g6 c9 hf⊢;refine qF (fun h7 gr=>?_);have gs:∀(b x:Nat)(ao:V),Ad1 w u s b x ao->h7 {tmps:=#[.pointer (N ⟨u,0,O⟩),.string s,.pointer (N ⟨w.heap.size,0,O⟩),.pointer (N ⟨w.heap.size+1,0,O⟩),.slice O 0 0,.pointer (N ⟨b,0,O⟩),M,M,.string s,.map (N x),.agg #[.string s,.map (N x),.int .i64 0,.int .i64 0,.int .i64 1,.bool X],M,M,M,M,M,M,M,M,M,M,M,M,M,M,M,M,M,M,M,M,M,M,M,M,M,M,M,M,M,M,M,M,M],defers:=[]} ao:=by
  intro b x ao J;refine gr _ _ ?_;clear gr;obtain⟨d,hh⟩:=ay ao.heap.size;have j0:=aG J.sc;have nj:=J.lo;have no:∀(i1:Fn)(first cap:Array A5)(w:V),(Instr.makeFunc i1 first cap).run A4 w= .ok (.func i1 first cap) w:=fun _ _ _ _=>rfl;refine qF (fun mk gs=>qE ?_);go_wp2_with fail;refine qF (fun a2 E=>?_);refine qF (fun ml ni=>qE ?_);go_wp2_with fail;refine II ?_;have er:=(ag ao.heap.size ao).alloc (ae _) (.cells #[.slice O 0 0] 42 (0,0));have et:Ax w.heap.size w (ao.alloc (.cells #[.slice O 0 0] 42 (0,0))):=J.bl.alloc J.bl.size _;have fl:vJ b (ao.alloc (.cells #[.slice O 0 0] 42 (0,0))) s (.map (N x)) 0 1 X:=⟨0,(er.block _ j0).trans J.sc⟩;have fg:=J.mp.alloc (.cells #[.slice O 0 0] 42 (0,0));have e9:tu w base u b9 d s [100,6] [] (ao.alloc (.cells #[.slice O 0 0] 42 (0,0))):=
   ⟨h.below et,et.mono (by omega),(er.block _ (aG J.b0)).trans J.b0,(er.block _ (aG J.b1)).trans J.b1,⟨.slice O 0 0,by rw[<-hh];exact aj ao _,bc _ _ _ _⟩⟩
  have e7:Hg (ao.alloc (.cells #[.slice O 0 0] 42 (0,0))):=i8.below et (ae _);have a4:(ao.alloc (.cells #[.slice O 0 0] 42 (0,0))).heap.size=d+1:=by simp;omega
  rw[hh]at j0;generalize ao.alloc (.cells #[.slice O 0 0] 42 (0,0))=kp at fl fg e9 e7 a4⊢;have fk:=J.ne;clear er et J hh;obtain⟨R,g0⟩:=ay (jb s);have fb:=jD.begin s;rw[g0]at fb;obtain⟨I,al⟩:∃I:Nat->Int->V->Prop,I=fun p l c=>∃st stk out f,jD s R st stk p l out f/\tu w base u b9 d s st out c:=⟨_,rfl⟩;have e6:Iw b x (d+1) s I kp 0 1 0 1:=⟨fl,fg,e7,by rw[al];exact⟨_,_,_,_,fb,e9⟩,by omega⟩;have g3:∀p l c L,I p l c->ScX b c->c.grownBy L (N b)->I p l L:=by
   intro p l c L h lD af;rw[al]at h⊢;obtain⟨st,stk,out,f,j,g⟩:=h;exact⟨st,stk,out,f,j,g.kept (.of_gr af lD) ⟨af.os,af.tape,af.output,by have:=g.bl.size;have:=af.size;have:=aG g.b0;omega,fun b8 ar=>af.block b8 (by have:=aG g.b0;omega) (by simp;omega)⟩⟩
  have gz:∀p k l c,blk s (s.size+1) p=blk s (s.size+1) k->p<=k->k<=s.size->I p l c->I k l c:=by
   intro p k l c fa ls z h;rw[al]at h⊢;obtain⟨st,stk,out,f,j,g⟩:=h;exact⟨st,stk,out,f,j.move fa ls z,g⟩
  have gv:∀p l c,I p l c->0<=l/\l<=(p:Int)+1/\p<=s.size:=by
   intro p l c h;rw[al]at h;obtain⟨st,stk,out,f,j,g⟩:=h;exact⟨j.l0,j.l1,j.le⟩
  have ed:∀{c:V}{k p:Nat}{hB l:Int}{r:Loop}(A:Obj),Iw b x (d+1) s I c k hB p l->c.heap[d+1+1]?=N (.loop r)->Iw b x (d+1) s I (c.putObj (d+1+1) A) k hB p l:=by
   intro c k p hB l r A h av;refine h.put av A (by omega) ?_;have F:=h.ii;rw[al]at F⊢;obtain⟨st,stk,out,f,j,g⟩:=F;refine⟨st,stk,out,f,j,g.kept (.of_put av A) ?_⟩;exact(ag base c).grown (A3 c (d+1+1) A) (by have:=h.sz;omega) (fun fq e=>by cases e;omega)
  refine ahC (P:=A4) (α:=Nat×Int) (n:=5) Tryz.func37 (gf:=71) (bd:=#[.pointer (N ⟨b,0,O⟩)]) rfl (enters_of Tryz.func71 (by kernel_rfl) rfl) (fun i=>#[Jj ⟨(rdI s i.1).k,(i.1:Int),((rdI s i.1).a:Int),i.2,(rdI s i.1).n,(rdI s i.1).x⟩]) (fun _=>rfl)
   (fun i c=>pI s i.1/\(rdI s i.1).ok=U/\Iw b x (d+1) s I c (rdI s i.1).a (i.2+(rdI s i.1).d) i.1 i.2)
   (fun i c=>Iw b x (d+1) s I c (rdI s i.1).a (i.2+(rdI s i.1).d) (rdI s i.1).a (i.2+(rdI s i.1).d))
   (fun i fB c=>(pI s i.1/\(rdI s i.1).ok=U/\Iw b x (d+1) s I c (rdI s i.1).a (i.2+(rdI s i.1).d) i.1 i.2)/\∃B,d+1<=B/\(∀an,c.heap[d]?=N (.cells #[an] 42 (0,0))->an.ownBlock≠N B)/\dj B c (rdI s i.1).k (i.1:Int) ((rdI s i.1).a:Int) i.2 (rdI s i.1).n (rdI s i.1).x/\
    fB={tmps:=#[.pointer (N ⟨u,0,O⟩),.string s,.pointer (N ⟨w.heap.size,0,O⟩),.pointer (N ⟨w.heap.size+1,0,O⟩),.slice O 0 0,.pointer (N ⟨b,0,O⟩),.pointer (N ⟨d,0,O⟩),.pointer (N ⟨B,0,O⟩),.string s,.map (N x),.agg #[.string s,.map (N x),.int .i64 0,.int .i64 0,.int .i64 1,.bool X],.func (.func 71) #[.pointer (N ⟨b,0,O⟩)] #[],Jj ⟨(rdI s i.1).k,(i.1:Int),((rdI s i.1).a:Int),i.2,(rdI s i.1).n,(rdI s i.1).x⟩,M,M,M,M,M,M,M,M,M,M,M,M,M,M,M,M,M,M,M,M,M,M,M,M,M,M,M,M,M,M,M],defers:=[]})
   (fun c=>aay b x (d+1) s I c)
   (fun b3 c=>∃ad,IK s R ad/\b3=KF ad/\Ax base w c)
   ?pZ ?pAx ?pD ?assign ?body ?seq ?done ?pan
  case pZ=>
   rintro i c r A h av;rw[a4]at av⊢;exact ed A h av
  case pAx=>
   rintro i fB c r A ⟨⟨j,g,b4⟩,B,gm,fc,i3,kA⟩ av;rw[a4]at av⊢;exact⟨⟨j,g,ed A b4 av⟩,B,gm,fun an df=>fc an ((T (by omega)).symm.trans df),(T (by rintro rfl;have:=(show c.heap[d+1+1]?=_ from i3).symm.trans av;cases this)).trans i3,kA⟩
  case pD=>
   rintro c r A h av;rw[a4]at av⊢;cases h with
   |fin l h=>exact .fin l (ed A h av)
   |bad p l ea ef hS fo ei F=>
    refine .bad p l ea ef ((T (by omega)).trans hS) (fo.blocks (fun b8 ar=>T (by omega))) (by simpa using ei) ?_;rw[al]at F⊢;obtain⟨st,stk,out,f,j,g⟩:=F;refine⟨st,stk,out,f,j,g.kept (.of_put av A) ?_⟩;exact(ag base c).grown (A3 c (d+1+1) A) (by omega) (fun fq e=>by cases e;omega)
  case assign=>
   rintro l ⟨p,o⟩ c K ⟨j,g,b4⟩ gp;unfold Jj at gp⊢;simp only at j g b4 gp⊢;have m:=iD j g b4;clear j g b4
   gi_wp2
   have i7:=(ag c.heap.size c).alloc (ae _) (.cells #[.int .i64 (rdI s p).k,.int .i64 (p:Int),.int .i64 ((rdI s p).a:Int),.int .i64 o,.int .i64 (rdI s p).n,.string (rdI s p).x] 96 (0,0));refine gp _ _ ⟨⟨m.out.1,m.out.2.1,Iw.below m.out.2.2 i7 (by omega) ?_⟩,c.heap.size,m.out.2.2.sz,fun an df=>?_,aj c _,rfl⟩ ((KeepsOthers.alloc c _).from _);all_goals
    have F:=m.out.2.2.ii;have ei:=m.out.2.2.sz;rw[al]at F;obtain⟨st,stk,out,f,j,g⟩:=F
   ·rw[al];exact⟨st,stk,out,f,j,g.below i7 (by omega)⟩
   ·obtain⟨n2,cn,cq⟩:=g.tk;rw[bm c _ d (by omega),cn]at df;cases df;intro e;have:=(cq.lt _ e).2;omega
  case body=>
   rintro l ⟨p,o⟩ fB c ⟨⟨b7,cm,a3⟩,B,nw,fc,bo,rfl⟩;rw[a4];unfold Jj;simp only at b7 cm a3 bo⊢;have F:=a3.ii;rw[al]at F;obtain⟨st,stk,out,f,bs,c8⟩:=F;obtain⟨kd,kf⟩:=Ij s p cm;obtain⟨l7,l8,l9,md⟩:=mq s p b7.lt cm;have kb:=a3.sz;have b6:=fun (ar:(rdI s p).k=7) (y:gH st 5=U) ca (j:Da ca (feedL stk 5).1) (g:ca.length<=st.length+45)=>bs.sep b7 cm ar y j g;have c5:=fun (ar:(rdI s p).k=7) (y:gH st 5=X)=>bs.skip b7 cm ar y;have a5:=fun (ar:(rdI s p).k≠7) (y:gH st (rdI s p).k=U) ca (j:Da ca (feedL stk (rdI s p).k).1) (g:ca.length<=st.length+45)=>bs.tok b7 cm ar y j g;have ck:(rdI s p).k≠7->gH st (rdI s p).k=X->IK s R ((p:Int)+(ww st (s.extract p (rdI s p).a):Nat)):=fun ar y=>⟨by rw[bs.stop b7 cm ar y];omega,p,st,stk,o,out,f,b7,bs,rfl,fun _=>⟨ar,y⟩⟩;have nm:=bs.len;have ns:=bs.le;have lq:=bs.ol;have lz:=bs.sim;have nn:=b7.lt;generalize (rdI s p).k=b8 at bo kd kf b6 c5 a5 ck⊢;generalize (rdI s p).a=q at bo l7 l8 a3 b6 c5 a5 ck⊢;generalize (rdI s p).d=cr at l9 md a3 b6 c5 a5⊢;generalize (rdI s p).n=a0 at bo b6 a5⊢;generalize (rdI s p).x=a1 at bo b6 a5⊢;clear bs cm b7;refine wpIn_block ?_;refine wpIn_seq_k (fun fA gt=>?_);have ek:∀(G:Int)(L:V)(bt bw bx bA bD bE b2:A5),1<=G->G<=78->A7 (d+1) c L->Iw b x (d+1) s (fun _ _ _=>True) L q (o+cr) p o->tu w base u b9 d s st out L->d+1<=L.heap.size->dj B L G (p:Int) (q:Int) o a0 a1->
     (gH st G=U->∀ca,Da ca (feedL stk G).1->ca.length<=st.length+45->∃ge,jD s R ca (feedL stk G).1 q (o+cr) (out++[⟨G,(p:Nat),(q:Nat),o,a0,a1⟩]) ge)->
     (gH st G=X->IK s R ((p:Int)+(ww st (s.extract p q):Nat)))->
     fA {tmps:=#[.pointer (N ⟨u,0,O⟩),.string s,.pointer (N ⟨w.heap.size,0,O⟩),.pointer (N ⟨w.heap.size+1,0,O⟩),.slice O 0 0,.pointer (N ⟨b,0,O⟩),.pointer (N ⟨d,0,O⟩),.pointer (N ⟨B,0,O⟩),.string s,.map (N x),.agg #[.string s,.map (N x),.int .i64 0,.int .i64 0,.int .i64 1,.bool X],.func (.func 71) #[.pointer (N ⟨b,0,O⟩)] #[],.agg #[.int .i64 b8,.int .i64 (p:Int),.int .i64 (q:Int),.int .i64 o,.int .i64 a0,.string a1],bt,bw,bx,bA,bD,bE,b2,M,M,M,M,M,M,M,M,M,M,M,M,M,M,M,M,M,M,M,M,M,M,M,M],defers:=[]} L:=by
    intro G L bt bw bx bA bD bE b2 ke kg g5 c6 cy nk cz a5 ck;refine gt _ _ ?_;clear gt;have ds:=dg cy.b0;have em:=dg cy.b1;obtain⟨hC,cn,cq,hE,hH,hJ,h0⟩:=bf cz;obtain⟨stF,f9,d7⟩:∃stF f9,gH st G=U->passOk (st.length+45) f9 st G stF/\stF.length<=st.length+45/\Da stF (feedL stk G).1:=by
     by_cases y:gH st G=U
     ·obtain⟨A,cl,lw⟩:=lz.passOk ke kg y;exact⟨A,_,fun _=>⟨cl,wo cl,lw⟩⟩
     ·exact⟨[],0,fun e=>absurd e y⟩
    have fu:=CallsIn.inRound l (kH (n:=2).2 (D8 L base u b9 st stF ⟨G,(p:Int),(q:Int),o,a0,a1⟩ s f9 cy.q c6.ly.tabs (by omega) ke kg (by simp only;omega) (by simp only;omega) (by simp only;omega) (fun e=>⟨(d7 e).1,by have:=(d7 e).2.1;omega,fun a c7=>by have:=aC ((d7 e).2.2.o1 a c7);omega⟩)));unfold Jj at fu;simp only[tJ]at fu
    gi_wp2_with (refine⟨trivial,?_⟩;gi_at_call 38;fail)
    refine⟨trivial,fu.mono ?_⟩;rintro e v ⟨(⟨y,rfl,j6,eb,ak⟩|⟨y,rfl,ak⟩)⟩
    ·obtain⟨_,lb,lx⟩:=d7 y;obtain⟨ge,j9⟩:=a5 y stF lx lb;obtain⟨n3,j4,_⟩:=cy.q.g.ex;have ce:=cy.turn j6 eb ak k8 (by omega);have bn:dj B v G (p:Int) (q:Int) o a0 a1:=jc eb cz (by omega) (by decide);have br:Iw b x (d+1) s (fun _ _ _=>True) v q (o+cr) p o:=Iw.turn (I:=fun _ _ _=>True) (p:=p) (l:=o) ⟨c6.sc,c6.mp,c6.ly,trivial,c6.sz⟩ j4 eb ak kD trivial;have cB:A7 (d+1) c v:=g5.trans (aig j4 eb);obtain⟨an,eg,eh⟩:=ce.tk;obtain⟨kj,kk,rfl⟩:=bz eh;have kw:=dg eg;have m8:v.frozen? ⟨d,0,O⟩=X:=cC _ _ _ _ _ eg;obtain⟨n5,n6,n7,n8,n9,ob,oi⟩:=bf bn;obtain⟨l6,la,l3,l4,l5⟩:=dt aaC;obtain⟨on,hc⟩:=ay out.length;rw[hc]at eg eh kw lq;have nx:d+1<=v.heap.size:=br.sz;have hj:∀k,(Value.slice kj on kk).ownBlock=N k->w.heap.size<=k/\∃cs fr,v.heap[k]?=N (.cells cs 96 fr):=fun k z=>by
      refine⟨(eh.lt k z).1,?_⟩;rcases eh.2 with⟨cb,_⟩|⟨i2,ku,kv,cb,_,dz,_⟩
      ·rw[cb]at z;cases z
      ·rw[cb]at z;obtain rfl:i2=k:=by simpa [Value.ownBlock] using z
       exact⟨_,_,dz⟩
     have m:=acl j9 ce br cB eg hc;clear j9 ce br cB eg hc fu d7 j6 eb ak cy c6 g5 cz a5 ck ds em hC cn cq hE hH hJ h0 bn
     gi_wp2_with (gi_at_builtin;refine wpListIn_append_own _ rfl _ _ 42 rfl w.heap.size 96 l6 _ 6 56 Tryz.underlying42 la l3 l4 l5 rfl (by decide) _ _ _ rfl (eh.alloc _) ⟨v.heap.size,0,O⟩ 1 1 [.int .i64 G,.int .i64 (p:Int),.int .i64 (q:Int),.int .i64 o,.int .i64 a0,.string a1] rfl rfl (World.news_of_block (cs:=#[.int .i64 G,.int .i64 (p:Int),.int .i64 (q:Int),.int .i64 o,.int .i64 a0,.string a1]) (fr:=(0,0)) (aj v _)) (by intro n0 j7;simp at j7;rcases j7 with rfl|rfl|rfl|rfl|rfl|rfl<;>rfl) (by unfold maxLen;omega) (by omega) (by simp;omega) ?_;intro n1 dk g9 fd _;obtain⟨en,f5,rfl⟩:=ownsRow_succ g9;have fm:dk.heap[d]?=N (.cells #[.slice kj on kk] 42 (0,0)):=(fd.block d (by simp;omega) (fun e=>by obtain⟨_,cs,fr,cc⟩:=hj d e.symm;rw[m.out.2.2.2.2.1]at cc;cases cc)).trans ((bm _ _ _ (by omega)).trans m.out.2.2.2.2.1);have mt:=dg fm;have m9:dk.frozen? ⟨d,0,O⟩=X:=cC _ _ _ _ _ fm)
     have cf:∀(k:Nat)(A:Obj),v.heap[k]?=N A->(∀cs fr,A≠ .cells cs 96 fr)->k≠d->(dk.setCell ⟨d,0,O⟩ (.slice (N ⟨en,0,O⟩) (on+1) f5)).heap[k]?=N A:=fun k A z cl fk=>by
      refine(aD _ _ _ _ fk).trans ((fd.block k (by simp;have:=aG z;omega) (fun e=>?_)).trans ((bm _ _ _ (aG z)).trans z));obtain⟨_,cs,fr,cc⟩:=hj k e.symm;rw[z]at cc;exact cl cs fr (bu cc)
     have nv:v.heap.size<=dk.heap.size:=by have:=fd.size;simp at this;omega
     have j1:Ax base v (dk.setCell ⟨d,0,O⟩ (.slice (N ⟨en,0,O⟩) (on+1) f5)):=by
      have kq:Ax base v (v.alloc (.cells #[.int .i64 G,.int .i64 (p:Int),.int .i64 (q:Int),.int .i64 o,.int .i64 a0,.string a1] 96)):=(ag _ v).alloc (by omega) _;exact(kq.grown fd (by simp;omega) (fun k z=>by have:=(hj k z).1;omega)).setCell (by show base<=d;omega) _
     have k7:tu w base u b9 d s stF (out++[⟨G,(p:Nat),(q:Nat),o,a0,a1⟩]) (dk.setCell ⟨d,0,O⟩ (.slice (N ⟨en,0,O⟩) (on+1) f5)):=by
      have c7:=m.out.2.1;refine⟨c7.q.same (fun k A z j g=>cf k A z j (by rintro rfl;rw[m.out.2.2.2.2.1]at z;exact g _ _ (bu z).symm)),c7.bl.trans j1,cf _ _ c7.b0 (by intro cs fr e;cases e) (by omega),cf _ _ c7.b1 (by intro cs fr e;cases e) (by omega),⟨_,bi _ _ 0 _ _ _ fm,?_⟩⟩;rw[aH,m.out.2.2.2.2.2,sx];refine As g9 (row:=N d) ⟨rfl,rfl,rfl,by simp[A2],fun k z fk=>aD _ _ _ _ (fun e=>fk (by rw[e]))⟩ (.inr ?_);intro e;have cc:en=d:=by simpa [Value.ownBlock] using e
      subst cc;rcases g9.2 with⟨cb,_⟩|⟨i2,ku,kv,cb,_,dz,_⟩
      ·cases cb
      ·cases cb;rw[fm]at dz;cases dz
     refine⟨m.out.2.2.2.1.trans ?_,?_⟩
     ·exact⟨by simp[A2];omega,fun k A _ z cl=>cf k A z (fun cs fr e=>by rw[e]at cl;cases cl) (by rintro rfl;rw[m.out.2.2.2.2.1]at z;obtain rfl:=bu z;cases cl)⟩
     ·obtain⟨gd,he⟩:=m.out.2.2.1.sc;obtain⟨f8,f6,cw,f7⟩:=m.out.2.2.1.mp;refine⟨⟨gd,cf _ _ he (by intro cs fr e;cases e) (by omega)⟩,⟨f8,f6,cf _ _ cw (by intro cs fr e;cases e) (by rintro rfl;rw[m.out.2.2.2.2.1]at cw;cases cw),f7⟩,m.out.2.2.1.ly.blocks (fun k z=>j1.block k (by omega)),?_,by simp[A2];omega⟩;rw[al];exact⟨_,_,_,_,m.out.1,k7⟩
    ·refine⟨rfl,g5.trans (ya ak),_,ck y,rfl,cy.bl.trans (ak.mono (by omega))⟩
   clear gt;obtain⟨hC,cn,cq,hE,hH,hJ,h0⟩:=bf bo;by_cases ff:b8=7
   ·subst ff;obtain⟨ko,g1⟩:=ay (gH st 5);have kh:=CallsIn.inRound l (kH (n:=2).2 (c8.q.may (t:=5) (by decide) (by decide) g1));have ds:=dg c8.b0;have m:=Gu c8 a3 g1 bo;clear c8 a3 g1 bo a5 ck
    gi_wp2_with (refine⟨trivial,?_⟩;gi_at_call 72;fail)
    refine⟨trivial,kh.mono ?_⟩;rintro e v ⟨rfl,ak⟩;have ce:=m.out.1.below ak (by omega);have bn:dj B v 7 (p:Int) (q:Int) o a0 a1:=(ak.block _ (aG m.out.2.2.2)).trans m.out.2.2.2;have z0:v.cell? ⟨B,0,O⟩=N (.int .i64 7):=(bf bn).1;have oj:v.frozen? ⟨B,0,O⟩=X:=(bf bn).2.2.2.2.2.2 0;have cB:A7 (d+1) c v:=ya ak;clear kh ds hC cn cq hE hH hJ h0;cases ko with
    |false=>
     obtain⟨ge,af⟩:=c5 trivial m.out.2.2.1;have bh:Hid (A7 (d+1) c v/\Iw b x (d+1) s I v q (o+cr) q (o+cr)):=⟨cB,Iw.below m.out.2.1 ak (by omega) (by rw[al];exact⟨_,_,_,_,af,ce⟩)⟩;clear ek b6 c5 af ce bn cB m ak
     gi_wp2
     exact bh.out
    |true=>
     have j3:∀an,v.heap[d]?=N (.cells #[an] 42 (0,0))->an.ownBlock≠N B:=fun an df=>fc an ((ak.block _ (by omega)).symm.trans df);have d8:tu w base u b9 d s st out (v.setCell ⟨B,0,O⟩ (.int .i64 5)):=ce.setTok bn j3 (by omega) _;have i9:dj B (v.setCell ⟨B,0,O⟩ (.int .i64 5)) 5 (p:Int) (q:Int) o a0 a1:=bi _ _ 0 _ _ _ bn;have br:Iw b x (d+1) s (fun _ _ _=>True) v q (o+cr) p o:=Iw.below (I:=fun _ _ _=>True) (p:=p) (l:=o) ⟨m.out.2.1.sc,m.out.2.1.mp,m.out.2.1.ly,trivial,m.out.2.1.sz⟩ ak (by omega) trivial;have j5:Iw b x (d+1) s (fun _ _ _=>True) (v.setCell ⟨B,0,O⟩ (.int .i64 5)) q (o+cr) p o:=by
      obtain⟨gd,he⟩:=br.sc;obtain⟨f8,f6,cw,f7⟩:=br.mp;exact⟨⟨gd,(aD _ _ _ _ (by show b≠B;omega)).trans he⟩,⟨f8,f6,(aD _ _ _ _ (by rintro rfl;rw[show v.heap[_]?=_ from bn]at cw;cases cw)).trans cw,f7⟩,br.ly.blocks (fun k z=>aD _ _ _ _ (by show k≠B;omega)),trivial,by simp[A2];exact br.sz⟩
     have fz:Hid (∀(bt bw bx bA bD bE b2:A5),fA {tmps:=#[.pointer (N ⟨u,0,O⟩),.string s,.pointer (N ⟨w.heap.size,0,O⟩),.pointer (N ⟨w.heap.size+1,0,O⟩),.slice O 0 0,.pointer (N ⟨b,0,O⟩),.pointer (N ⟨d,0,O⟩),.pointer (N ⟨B,0,O⟩),.string s,.map (N x),.agg #[.string s,.map (N x),.int .i64 0,.int .i64 0,.int .i64 1,.bool X],.func (.func 71) #[.pointer (N ⟨b,0,O⟩)] #[],.agg #[.int .i64 7,.int .i64 (p:Int),.int .i64 (q:Int),.int .i64 o,.int .i64 a0,.string a1],bt,bw,bx,bA,bD,bE,b2,M,M,M,M,M,M,M,M,M,M,M,M,M,M,M,M,M,M,M,M,M,M,M,M],defers:=[]} (v.setCell ⟨B,0,O⟩ (.int .i64 5))):=fun bt bw bx bA bD bE b2=>ek 5 _ bt bw bx bA bD bE b2 (by decide) (by decide) (cB.trans ((KeepsOthers.setCell _ _ _).from _)) j5 d8 (by simp[A2];exact br.sz) i9 (fun y=>b6 trivial y) (fun y=>by rw[m.out.2.2.1]at y;cases y);clear ek b6 c5 ce bn cB m ak j3 d8 i9 br j5 fc
     gi_wp2
     exact fz.out _ _ _ _ _ _ _
   ·have nl:(b8==7)=X:=by rw[aK];exact ff
    have fz:Hid (∀(bt bw bx bA bD bE b2:A5),fA {tmps:=#[.pointer (N ⟨u,0,O⟩),.string s,.pointer (N ⟨w.heap.size,0,O⟩),.pointer (N ⟨w.heap.size+1,0,O⟩),.slice O 0 0,.pointer (N ⟨b,0,O⟩),.pointer (N ⟨d,0,O⟩),.pointer (N ⟨B,0,O⟩),.string s,.map (N x),.agg #[.string s,.map (N x),.int .i64 0,.int .i64 0,.int .i64 1,.bool X],.func (.func 71) #[.pointer (N ⟨b,0,O⟩)] #[],.agg #[.int .i64 b8,.int .i64 (p:Int),.int .i64 (q:Int),.int .i64 o,.int .i64 a0,.string a1],bt,bw,bx,bA,bD,bE,b2,M,M,M,M,M,M,M,M,M,M,M,M,M,M,M,M,M,M,M,M,M,M,M,M],defers:=[]} c):=fun bt bw bx bA bD bE b2=>ek b8 c bt bw bx bA bD bE b2 kd kf (KeepsFrom.refl _ _) ⟨a3.sc,a3.mp,a3.ly,trivial,a3.sz⟩ c8 (by omega) bo (fun y=>a5 ff y) (fun y=>ck ff y);clear ek a5 ck b6 c5 c8 a3 bo
    gi_wp2
    exact fz.out _ _ _ _ _ _ _
  case seq=>
   rintro l kl i6 d8 c cf g7 kb;rw[a4]at i6 g7 kb d8⊢;refine(ab8 4 l b x (d+1) s (by omega) (by omega) (by omega) (by omega) I g3 gz gv kl i6 (fun b3 c=>(∃ad,IK s R ad/\b3=KF ad/\Ax base w c)/\c.heap[d+1]?=N (.deferred (N []))) (fun p o c j g b4 gm=>(d8 (p,o) c ⟨j,g,b4⟩ gm)) c 0 1 ?_ cf).mono ?_
   ·refine Iw.below e6 (by rw[a4];exact g7) (by omega) ?_;have F:=e6.ii;rw[al]at F⊢;obtain⟨st,stk,out,f,j,g⟩:=F;exact⟨st,stk,out,f,j,g.below (by rw[a4];exact g7) (by omega)⟩
   ·rintro e mn (h|⟨b3,j,g,b4⟩)
    ·exact .inl h
    ·exact .inr ⟨b3,j,g,b4⟩
  case done=>
   rintro c h b5;rw[a4]at b5⊢;refine E _ _ (qE ?_);clear E;rw[g0];cases h with
   |fin l h=>
    have F:=h.ii;rw[al]at F;obtain⟨st,stk,out,f,j,g⟩:=F;obtain⟨an,cn,cq⟩:=g.tk;obtain⟨ds,f1,el,ks,kt,kx,ky,kz⟩:=vJ.cells h.sc;have mr:=dg cn;have bh:=iD j g cq;clear j g cn cq h g3 gz gv ed e6 fb e9 fl fg e7;go_wp2_with fail;refine⟨by simp,.inl ⟨_,_,rfl,run_takeDeferred b5,?_⟩⟩;have ar:=oJ.of_putD b5 (.deferred O);refine⟨_,results_tmp rfl _ _ _,⟨.inl ⟨st,stk,out,l,an,bh.out.1.fin,bh.out.1.sim,rfl,ar.row bh.out.2.2 (by decide),bh.out.2.1.q.kept ar,bh.out.1.len,bh.out.1.ol,?_⟩⟩⟩;exact bh.out.2.1.bl.grown (A3 c (d+1) (.deferred O)) (by have:=bh.out.2.1.bl.size;have:=aG b5;omega) (fun fq e=>by cases e;omega)
   |bad p l ea ef hS fo ei F=>
    rw[al]at F;obtain⟨st,stk,out,f,j,g⟩:=F;obtain⟨ds,f1,el,ks,kt,kx,ky,kz⟩:=eI hS;obtain⟨ih,m7⟩:=ED hS;have iy:=dg g.b0;have em:=dg g.b1;clear g3 gz gv ed e6 fb e9 fl fg e7;obtain⟨k3,k5⟩:=F8 s p ea.lt;have k9:base<=c.heap.size:=by have:=g.bl.size;omega
    have g4:Ax c.heap.size c c.drew:=(ag _ c).drew;have ji:qo c.drew:=(fo.tabs.below g4 (ae _));have ka:(s.extract p (rdI s p).a).size<=1100000:=by have:=iu (a:=s) (b:=p) (e:=(rdI s p).a);omega
    have hw:=D7 c.drew base u b9 st (s.extract p (rdI s p).a) (g.q.below g4) ji ka;have lv:(ww st (s.extract p (rdI s p).a):Nat)<=s.size:=by
     have:=Bh st (s.extract p (rdI s p).a);have:=iu (a:=s) (b:=p) (e:=(rdI s p).a);omega
    obtain⟨ad,hn⟩:∃ad:Nat,ww st (s.extract p (rdI s p).a)=ad:=⟨_,rfl⟩;have kn:Hid (IK s R ((p:Int)+(ad:Nat))):=⟨j.bad ea ef,p,st,stk,l,out,f,ea,j,by rw[hn],fun e=>by rw[ef]at e;cases e⟩;have dn:=iD g.bl b5 k9;rw[hn]at hw lv;obtain⟨q,i4⟩:∃q:Nat,(rdI s p).a=q:=⟨_,rfl⟩;rw[i4]at el hw k3 k5;have nr:(p:Int)<=(q:Int):=by omega
    have nc:(q:Int)<=(s.size:Int):=by omega
    have np:(0:Int)<=(p:Int):=by omega
    have nb:(0:Int)<=(q:Int):=by omega
    have nz:IntKind.i64.wrap ((p:Int)+(ad:Int))=(p:Int)+(ad:Int):=by rw[di];omega
    clear hn i4 j g hS fo ka ji ef;go_wp2_with fail;refine Code.wp_mono (Q:=ajF [{target:= .collected (d+1),args:=#[]}] (fun b3 L=>b3=KF ((p:Int)+(ad:Nat))/\Ax c.heap.size c L)) (fun e a L h=>?_) ?_
    ·cases e with
     |panic b3=>
      obtain⟨k6,rfl,cz⟩:=h;show LeavesInM _ _ _ _ _ _ a.defers (.panicking _) L;rw[k6];have kI:=(cz.block _ (aG dn.out.2.1)).trans dn.out.2.1;refine ab9 kI ⟨.inr ⟨_,kn.out,rfl,?_⟩⟩;have k4:=dn.out.1.trans (cz.mono dn.out.2.2);exact k4.grown (A3 L (d+1) (.deferred O)) (by have:=cz.size;have:=dn.out.2.2;have:=lc;omega) (fun fq e=>by cases e;omega)
     |_=>exact h.elim
    refine rF (S:=fun C=>C.cell? ⟨b,2,O⟩=N (.int .i64 (p:Int))/\C.cell? ⟨b,3,O⟩=N (.int .i64 (q:Int))/\C.cell? ⟨w.heap.size,0,O⟩=N (.pointer (N ⟨u,0,O⟩))/\C.cell? ⟨w.heap.size+1,0,O⟩=N (.string s)) (by kernel_rfl) ⟨ih,el,iy,em⟩ (fun ap=>?_);refine bq 0 (.pointer (N ⟨b,2,O⟩)) rfl rfl (by kernel_rfl) (fun _ _ _=>id) ap (fun C ⟨a6,a7,a8,a9⟩=>by go_simp) ?_;simp only[Y];refine bq 1 (.int .i64 (p:Int)) rfl rfl (by kernel_rfl) (fun _ _ _=>id) ap (fun C ⟨a6,a7,a8,a9⟩=>by go_simp) ?_;simp only[Y];refine bq 2 (.pointer (N ⟨u,0,O⟩)) rfl rfl (by kernel_rfl) (fun _ _ _=>id) ap (fun C ⟨a6,a7,a8,a9⟩=>by go_simp) ?_;simp only[Y];refine bq 3 (.string s) rfl rfl (by kernel_rfl) (fun _ _ _=>id) ap (fun C ⟨a6,a7,a8,a9⟩=>by go_simp) ?_;simp only[Y];refine bq 4 (.pointer (N ⟨b,2,O⟩)) rfl rfl (by kernel_rfl) (fun _ _ _=>id) ap (fun C ⟨a6,a7,a8,a9⟩=>by go_simp) ?_;simp only[Y];refine bq 5 (.int .i64 (p:Int)) rfl rfl (by kernel_rfl) (fun _ _ _=>id) ap (fun C ⟨a6,a7,a8,a9⟩=>by go_simp) ?_;simp only[Y];refine bq 6 (.pointer (N ⟨b,3,O⟩)) rfl rfl (by kernel_rfl) (fun _ _ _=>id) ap (fun C ⟨a6,a7,a8,a9⟩=>by go_simp) ?_;simp only[Y];refine bq 7 (.int .i64 (q:Int)) rfl rfl (by kernel_rfl) (fun _ _ _=>id) ap (fun C ⟨a6,a7,a8,a9⟩=>by go_simp) ?_;simp only[Y];refine bq 8 (.string (s.extract p q)) rfl rfl (by kernel_rfl) (fun _ _ _=>id) ap (fun C ⟨a6,a7,a8,a9⟩=>by go_simp) ?_;simp only[Y];refine A1 (rs:=[9]) (by kernel_rfl) (by simp) (Z rfl (fun h8 gu=>?_) A0);go_simp;refine hw.mono ?_;rintro e n4 ⟨rfl,d9⟩;refine gu.out _ _ ⟨ai d9 ih,ai d9 el,ai d9 iy,ai d9 em⟩ (fun ap=>?_);clear gu h8;try simp only[Act.put,bG,bH,bI]
    refine bq 10 (.int .i64 ((p:Int)+(ad:Int))) rfl rfl (by kernel_rfl) (fun _ _ _=>id) ap (fun C ⟨a6,a7,a8,a9⟩=>by go_simp) ?_;simp only[Y];refine bq 11 (.agg #[.int .i64 ((p:Int)+(ad:Int))]) rfl rfl (by kernel_rfl) (fun _ _ _=>id) ap (fun C ⟨a6,a7,a8,a9⟩=>by go_simp) ?_;simp only[Y];refine bq 12 (.iface 90 (.agg #[.int .i64 ((p:Int)+(ad:Int))])) rfl rfl (by kernel_rfl) (fun _ _ _=>id) ap (fun C ⟨a6,a7,a8,a9⟩=>by go_simp) ?_;simp only[Y];refine A1 (rs:=[13]) (by kernel_rfl) (by simp) (Z rfl (fun h8 gu=>?_) A0);go_simp;exact⟨rfl,rfl,(g4.trans d9)⟩
  case pan=>
   rintro b3 c ⟨ad,ei,rfl,fa⟩ b5;rw[a4]at b5⊢;show LeavesInM _ _ _ _ _ _ [_] (.panicking _) c;refine⟨by simp,.inl ⟨_,_,rfl,run_takeDeferred b5,?_⟩⟩;rw[g0];exact⟨.inr ⟨ad,ei,rfl,fa.grown (A3 c (d+1) (.deferred O)) (by have:=fa.size;have:=aG b5;omega) (fun fq e=>by cases e;omega)⟩⟩
 clear gr;refine qE (Code.wp_mono (Q:=Exit.then h7 (fun _ _ _=>False)) (fun e a w h=>by cases e<;>first|exact h|exact h.elim) ?_);have f1:bk.drew.cell? ⟨w.heap.size+1,0,O⟩=N (.string s):=dg c9;refine rF (S:=fun C=>C.cell? ⟨w.heap.size+1,0,O⟩=N (.string s)) (by kernel_rfl) f1 (fun hS=>?_);refine bq 0 (.string s) rfl rfl (by kernel_rfl) (fun _ _ _=>id) hS (fun C j8=>by go_simp) ?_;simp only[Y];refine A1 (rs:=[1,3]) (by kernel_rfl) (by simp) (Z rfl (fun a2 E=>?_) (Z rfl (fun a2 E=>?_) A0))
 ·go_simp;have gn:Ax w.heap.size w bk.drew:=ep.drew;refine(pL (H:=Unit) bk.drew fr ki ((gn.block _ (aG ev)).trans ev)).mono ?_;rintro e bb ⟨rfl,cI,am⟩;have j2:bk.drew.heap.size=w.heap.size+2:=hf;rw[j2]at cI am;have d6:Ax w.heap.size w bb:=gn.trans (am.mono (by omega));have a4:w.heap.size+2<=bb.heap.size:=by have:=am.size;omega
  have lf:=cI.lt;refine E.out _ _ (dg ((am.block _ (by omega)).trans c9)) (fun hS=>?_);clear E a2;try simp only[Act.put,bG,bH,bI]
  simp only[j2];refine bq 2 (.agg #[.string s,.map (N (w.heap.size+2)),.int .i64 0,.int .i64 0,.int .i64 1,.bool X]) rfl rfl (by kernel_rfl) (fun _ _ _=>id) hS (fun C j8=>by go_simp) ?_;simp only[Y];refine A1 (rs:=[3]) (by kernel_rfl) (by simp) (Z rfl (fun a2 E=>?_) A0);go_simp;refine E.out _ _ ((ai ((ag bb.heap.size bb).alloc (ae _) _) hS)) (fun hS=>?_);clear E a2;refine A1 (rs:=[4]) (by kernel_rfl) (by simp) (Z rfl (fun a2 E=>?_) A0);go_simp;have J:Ad1 w u s bb.heap.size (w.heap.size+2) (bb.alloc (.cells #[.string s,.map (N (w.heap.size+2)),.int .i64 0,.int .i64 0,.int .i64 1,.bool X] 150)):=
   ⟨d6.alloc d6.size _,(bm _ _ _ (by omega)).trans ((am.block _ (by omega)).trans g6),(bm _ _ _ (by omega)).trans ((am.block _ (by omega)).trans c9),aj bb _,cI.alloc _,by omega,by omega⟩
  refine E.out _ _ (dg J.b1) (fun hS=>?_);clear E a2;refine wpAnyH_done (by kernel_rfl) ?_ _;exact gs _ _ _ J
 ·go_simp;have gn:Ax w.heap.size w bk.drew:=ep.drew;obtain⟨dq,e8⟩:=ay ((bk.alloc (.cells #[.string ⟨#[]⟩,.map O,.int .i64 0,.int .i64 0,.int .i64 0,.bool X] 150)).drew);have eq:Ax (w.heap.size+2) bk dq:=by rw[<-e8];exact((ag _ bk).alloc (by omega) _).drew
  have kc:dq.heap.size=w.heap.size+3:=by rw[<-e8];show(bk.alloc _).heap.size=_;simp;omega
  have k2:dq.heap[w.heap.size+2]?=N (.cells #[.string ⟨#[]⟩,.map O,.int .i64 0,.int .i64 0,.int .i64 0,.bool X] 150 (0,0)):=by rw[<-e8,<-hf];exact aj bk _
  rw[e8];refine E.out _ _ (ai (eq.mono (by omega)) (dg c9)) (fun hS=>?_);clear E a2;refine A1 (rs:=[1]) (by kernel_rfl) (by simp) (Z rfl (fun a2 E=>?_) A0);go_simp;have i5:Ax w.heap.size w dq:=ep.trans (eq.mono (by omega));refine(pL (H:=Unit) dq fr ki ((i5.block _ (aG ev)).trans ev)).mono ?_;rintro e bb ⟨rfl,cI,am⟩;rw[kc]at cI am;have d6:Ax w.heap.size w bb:=i5.trans (am.mono (by omega));have lf:=cI.lt;refine E.out _ _ (ai (am.mono (by omega)) hS) (fun hS=>?_);clear E a2;try simp only[Act.put,bG,bH,bI]
  simp only[kc];refine bq 2 (.agg #[.string s,.map (N (w.heap.size+3)),.int .i64 0,.int .i64 0,.int .i64 1,.bool X]) rfl rfl (by kernel_rfl) (fun _ _ _=>id) hS (fun C j8=>by go_simp) ?_;simp only[Y];have g8:=(am.block _ (by omega)).trans k2;refine A1 (rs:=[4]) (by kernel_rfl) (by simp) (Z rfl (fun a2 E=>?_) A0);obtain⟨mv,mx,m0,m1,m2,m3⟩:=eJ g8;obtain⟨m4,cb,cc,dz,m5,m6⟩:=mu g8;go_simp;have af:=aj1 bb (w.heap.size+2) (.string s) (.map (N (w.heap.size+3))) (.int .i64 0) (.int .i64 0) (.int .i64 1) (.bool X);have J:Ad1 w u s (w.heap.size+2) (w.heap.size+3) (uG bb (w.heap.size+2) (.string s) (.map (N (w.heap.size+3))) (.int .i64 0) (.int .i64 0) (.int .i64 1) (.bool X)):=by
   have a4:=am.size;refine⟨d6.grown af d6.size (fun b8 e=>by cases e;omega),?_,?_,yn g8 _ _ _ _ _ _,cI.kept af (by simp),by omega,by omega⟩
   ·exact(af.block _ (by omega) (by simp)).trans ((am.block _ (by omega)).trans ((eq.block _ (by omega)).trans g6))
   ·exact(af.block _ (by omega) (by simp)).trans ((am.block _ (by omega)).trans ((eq.block _ (by omega)).trans c9))
  refine E.out _ _ (dg J.b1) (fun hS=>?_);clear E a2;refine wpAnyH_done (by kernel_rfl) ?_ _;exact gs _ _ _ J
theorem aj3(z:Int)(w:V):(Instr.typeAssert (.iface 90 (.agg #[.int .i64 z])) 20 90 U).run A4 w= .ok (.tuple #[.agg #[.int .i64 z],.bool U]) w:=by kernel_rfl
theorem aj4(w:V):(Instr.typeAssert .nilIface 20 90 U).run A4 w= .ok (.tuple #[.agg #[.int .i64 0],.bool X]) w:=by kernel_rfl
