import Derived.Test.YtjeamjdieofoeaaGreatDoorHZk24
import Derived.Test.YtjeamjdieofoeaaGreatDoorHZk23
import Derived.Test.YtjeamjdieofoeaaGreatDoorHZk28
set_option linter.all false
set_option maxRecDepth 100000
set_option maxHeartbeats 25600000
open Option renaming some->M,none->U
open Go renaming undef->O,wpAnyH_ready->Bs,World->B1,grownBy_putObj'->Er,wp_region_held_drew->E0,Value->Fs,KeepsFrom->F0,Calls->G0
open Go.Value renaming int->V,bool->B4,string->B6,pointer->B7,iface->E1,agg->E2,tuple->F1,slice->F2,ownBlock->Ga
open Go.IntKind renaming i64->Y
open Bool renaming true->Z,false->Ax
open Go.World renaming putObj_heap_other->A0,setCell->Cb
open Go.RowKit renaming Below->A2,Hid->C2
open Go.AllReadyH renaming cons->A5,nil->Br
open Go.Obj renaming cells->A9
open List renaming set->B0
open Go.Proofs.Tryz renaming prog->B3
namespace Go.Proofs.YtjeamjdieofoeaaGreatDoor
open Go.RowKit Go.Maps Go.WideMaps
variable{B b base gb i m mg p q tv:Nat}{I:Nat->Int->World->Prop}{R:List Tk×List Int×Int}{W W' w w0:World}{cs:Array Value}{fr:Nat×Nat}{l:Int}{out:List Tk}{s:ByteArray}{st:List Int}
structure ll (s:ByteArray) (R:List Tk×List Int×Int) (st stk:List Int) (p:Nat) (l:Int) (out:List Tk) (f:Nat):Prop where
 sim:DL st stk
 wk:aoE s f stk (blk s (s.size+1) p) l out R
 fu:s.size<blk s (s.size+1) p+f
 len:st.length<=45*p+2
 l0:0<=l
 l1:l<=(p:Int)+1
 le:p<=s.size
 ol:out.length<=p
 n23:N23 stk
theorem ll.move{b:List Int}{f:Nat}(h:ll s R st b p l out f)(a:blk s (s.size+1) p=blk s (s.size+1) q)(d:p<=q)(c:q<=s.size):ll s R st b q l out f:=
 ⟨h.sim,by rw[<-a];exact h.wk,by rw[<-a];exact h.fu,by have:=h.len;omega,h.l0,by have:=h.l1;omega,c,by have:=h.ol;omega,h.n23⟩
theorem ll.step{b:List Int}{f:Nat}(h:ll s R st b p l out f)(c:qo s p):∃g,f=g+1/\s.size<p+1+g/\
  (if tw s p=7 then
   (if(feedL b 5).2=Z then wH s g (feedL b 5).1 (blk s (s.size+1) (rdI s p).a) (l+1) (out++[⟨5,(p:Nat),((rdI s p).a:Nat),l,(rdI s p).n,(rdI s p).x⟩]) else wH s g b (blk s (s.size+1) (rdI s p).a) (l+1) out)
  else if(AC b (tw s p)).2=Z then
   (if(rdI s p).ok=Z then wH s g (feedL b (tw s p)).1 (blk s (s.size+1) (rdI s p).a) l (out++[⟨tw s p,(p:Nat),((rdI s p).a:Nat),l,(rdI s p).n,(rdI s p).x⟩]) else([],b,((rdI s p).a:Nat)))
  else([],b,(wrongF s p (zh b):Nat)))=R:=by
 have e:=G1 s p c.nb c.nd;have i:=h.fu;have d:=h.wk.out;rw[e]at i d;have j:=c.lt;obtain⟨g,rfl⟩:∃g,f=g+1:=⟨f-1,by omega⟩;rw[wH,aa (by omega)]at d;exact⟨g,rfl,by omega,d⟩
theorem ahm(h:(rdI s p).ok=Z):(rdI s p).d=if(rdI s p).k=7 then 1 else 0:=by
 unfold rdI at h⊢;split
 ·simp only;unfold Ic;cases hf:vH ez (s.extract p (mi s (s.size+1) p)) 22 0 with
  |none=>simp
  |some k=>simp only;rw[aa (by omega)]
 split
 ·split
  ·simp only;unfold vC;split
   ·simp
   ·split<;>simp
  ·rename_i a b c;rw[aa a,ab b,aa c]at h;cases h
 split
 ·split
  ·simp
  ·rename_i a b c e;rw[aa a,aa b,ab c,aa e]at h;cases h
 split
 ·rename_i a b c e;rw[aa a,aa b,aa c,ab e]at h;cases h
 ·rfl
theorem Hu(h:(rdI s p).ok=Z):tw s p=(rdI s p).k:=by unfold tw;rw[ab h]
section
variable {s : ByteArray} {R : List Tk × List Int × Int} {st stk : List Int} {p : Nat} {l : Int} {out : List Tk} {f : Nat}
theorem ll.next(h:ll s R st stk p l out f)(n:qo s p)(k:(rdI s p).ok=Z){e b:List Int}{c:List Tk}{g:Nat}(z:s.size<p+1+g)(m:DL e b)(A:e.length<=st.length+45)(B:c.length<=out.length+1)(j:N23 b)
  (o:wH s g b (blk s (s.size+1) (rdI s p).a) (l+(rdI s p).d) c=R):ll s R e b (rdI s p).a (l+(rdI s p).d) c g:=by
 obtain⟨q,i,r,t⟩:=mL s p n.lt k;have y:=qD s (s.size+1) (rdI s p).a i;have u:=h.len;have v:=h.l0;have w:=h.l1;have x:=h.ol;exact⟨m,⟨o⟩,by omega,by omega,by omega,by omega,i,by omega,j⟩
theorem ll.sep(h:ll s R st stk p l out f)(i:qo s p)(b:(rdI s p).ok=Z)(e:(rdI s p).k=7)(q:ij st 5=Z){c:List Int}(r:DL c (feedL stk 5).1)(o:c.length<=st.length+45):
  ∃g,ll s R c (feedL stk 5).1 (rdI s p).a (l+(rdI s p).d) (out++[⟨5,(p:Nat),((rdI s p).a:Nat),l,(rdI s p).n,(rdI s p).x⟩]) g:=by
 obtain⟨g,rfl,m,j⟩:=h.step i;rw[Hu b,ab e,ab (by rw[<-h.sim.may (by decide) (by decide)];exact q)]at j;exact⟨g,h.next i b m r o (by simp) (aab (by decide) (by decide) stk h.sim.o2 h.n23) (by rw[ahm b,ab e];exact j)⟩
theorem ll.skip(h:ll s R st stk p l out f)(e:qo s p)(b:(rdI s p).ok=Z)(c:(rdI s p).k=7)(m:ij st 5=Ax):∃g,ll s R st stk (rdI s p).a (l+(rdI s p).d) out g:=by
 obtain⟨g,rfl,j,i⟩:=h.step e;rw[Hu b,ab c,aa (by rw[<-h.sim.may (by decide) (by decide),m];simp)]at i;exact⟨g,h.next e b j h.sim (by omega) (by omega) h.n23 (by rw[ahm b,ab c];exact i)⟩
theorem Ki{k:Int}(a:1<=k)(st:List Int):AC st k=feedL st k:=by unfold AC;rw[ab (by omega)]
theorem ll.tok(h:ll s R st stk p l out f)(j:qo s p)(b:(rdI s p).ok=Z)(i:(rdI s p).k≠7)(t:ij st (rdI s p).k=Z){e:List Int}(u:DL e (feedL stk (rdI s p).k).1)(r:e.length<=st.length+45):
  ∃g,ll s R e (feedL stk (rdI s p).k).1 (rdI s p).a (l+(rdI s p).d) (out++[⟨(rdI s p).k,(p:Nat),((rdI s p).a:Nat),l,(rdI s p).n,(rdI s p).x⟩]) g:=by
 obtain⟨g,rfl,q,m⟩:=h.step j;obtain⟨c,o⟩:=JF s p b;rw[Hu b,aa i,Ki c,ab (by rw[<-h.sim.may c o];exact t),ab b]at m;exact⟨g,h.next j b q u r (by simp) (aab c o stk h.sim.o2 h.n23) (by rw[ahm b,aa i,Int.add_zero];exact m)⟩
theorem ll.stop(h:ll s R st stk p l out f)(g:qo s p)(a:(rdI s p).ok=Z)(d:(rdI s p).k≠7)(e:ij st (rdI s p).k=Ax):R.2.2=(wrongF s p (zh stk):Nat):=by
 obtain⟨j,rfl,m,b⟩:=h.step g;obtain⟨c,i⟩:=JF s p a;rw[Hu a,aa d,Ki c,aa (by rw[<-h.sim.may c i,e];simp)]at b;rw[<-b]
theorem ll.bad(h:ll s R st stk p l out f)(e:qo s p)(b:(rdI s p).ok=Ax):0<=R.2.2:=by
 obtain⟨g,rfl,i,a⟩:=h.step e;have d:¬tw s p=7:=fun c=>by have:=af3 s p c;rw[b]at this;cases this.1
 rw[aa d]at a;split at a
 ·rw[aa (by rw[b];simp)]at a;rw[<-a];simp
 ·rw[<-a];simp
theorem ll.fin(h:ll s R st stk s.size l out f):R=(out++[⟨6,(s.size:Nat),(s.size:Nat),l,0,⟨#[]⟩⟩],stk, -1):=by
 have c:=ai7 s s.size (ag _);have d:=h.fu;have a:=h.wk.out;rw[c]at d a;obtain⟨b,rfl⟩:∃b,f=b+1:=⟨f-1,by omega⟩;rw[wH,ab (ag _)]at a;exact a.symm
end
theorem ll.begin(s:ByteArray):ll s (jz s) [100,6] [100,6] 0 1 [] (s.size+1):=
 ⟨ac0,⟨rfl⟩,by omega,by simp,by omega,by omega,aL _,by simp,by intro b a;simp at a;omega⟩
structure Kj (s:ByteArray) (R:List Tk×List Int×Int) (z:Int):Prop where
 bad:0<=R.2.2
 ex:∃(p:Nat) (st stk:List Int) (l:Int) (out:List Tk) (f:Nat),qo s p/\ll s R st stk p l out f/\z=(p:Int)+(xb st (s.extract p (rdI s p).a):Nat)/\((rdI s p).ok=Z->(rdI s p).k≠7/\ij st (rdI s p).k=Ax)
def okO(o:Obj):Prop:=(∃b a,o= .map b a)\/(∃cs t fr,o= A9 cs t fr/\t≠117)
def pF(W c:B1):Prop:=∀(b:Nat)(a:Obj),okO a->W.heap[b]?=M a->c.heap[b]?=M a
theorem pF.cells(h:pF W W'){k:Nat}{t:TypeId}(a:W.heap[k]?=M (A9 cs t fr))(b:t≠117):W'.heap[k]?=M (A9 cs t fr):=h k _ (.inr ⟨_,_,_,rfl,b⟩) a
theorem pF.row(h:pF W W'){e size n:Nat}{v:Fs}{xs:List Fs}(a:W.ownsRow base e size v n xs)(g:e≠117):W'.ownsRow base e size v n xs:=by
 refine⟨a.1,?_⟩;rcases a.2 with f|⟨d,b,c,i,j,k,l⟩
 ·exact .inl f
 ·exact .inr ⟨d,b,c,i,j,h.cells k g,l⟩
theorem pF.of_gr(g:W.grownBy W' (M b))(j:ScX b W):pF W W':=by
 intro d q h a;obtain⟨l,o,f⟩:=j;refine(g.block d (aG a) ?_).trans a;intro e;obtain rfl:d=b:=by simpa using e
 rw[f]at a;obtain rfl:=bp a;rcases h with⟨n,k,c⟩|⟨m,r,p,c,i⟩
 ·cases c
 ·cases c;exact i rfl
theorem pF.of_put{l:Nat}{r:Loop}(c:W.heap[l]?=M (.loop r))(e:Obj):pF W (W.putObj l e):=by
 intro k m d a;refine(A0 ?_).trans a;rintro rfl;rw[c]at a;obtain rfl:=bp a;rcases d with⟨h,f,b⟩|⟨g,n,i,b,j⟩<;>cases b
theorem pF.of_putD{l:Nat}{q:Option (List Deferred)}(c:W.heap[l]?=M (.deferred q))(e:Obj):pF W (W.putObj l e):=by
 intro k m d a;refine(A0 ?_).trans a;rintro rfl;rw[c]at a;obtain rfl:=bp a;rcases d with⟨h,f,b⟩|⟨g,n,i,b,j⟩<;>cases b
theorem pF.of_below(h:A2 W.heap.size W W'):pF W W':=fun b c _ a=>(h.block b (aG a)).trans a
theorem GQ.kept(h:GQ W base gb mg st)(a:pF W W'):GQ W' base gb mg st:=by
 obtain⟨e,c,d⟩:=h.g.ex;exact⟨⟨⟨e,a.cells c (by decide),a.row d (by decide)⟩,h.g.lo⟩,h.r.same (fun i f b=>a _ _ (.inl ⟨_,_,rfl⟩) b) (fun k g j b=>a.cells b (by decide)),h.ok,h.len⟩
theorem GQ.same(h:GQ W base gb mg st)(b:∀(k:Nat) (o:Obj),W.heap[k]?=M o->(∀cs fr,o≠ A9 cs 67 fr)->(∀cs fr,o≠ A9 cs 31 fr)->W'.heap[k]?=M o):GQ W' base gb mg st:=by
 obtain⟨p,i,d⟩:=h.g.ex;refine⟨⟨⟨p,b _ _ i (by intro cs fr a;cases a) (by intro cs fr a;cases a),d.1,?_⟩,h.g.lo⟩,h.r.same (fun s q a=>b _ _ a (by intro cs fr a;cases a) (by intro cs fr a;cases a)) (fun c cs fr a=>b _ _ a (by intro cs fr a;cases a) (by intro cs fr a;cases a)),h.ok,h.len⟩;rcases d.2 with g|⟨c,e,f,j,l,m,n⟩
 ·exact .inl g
 ·exact .inr ⟨c,e,f,j,l,b _ _ m (by intro cs fr a;cases a) (by intro cs fr a;cases a),n⟩
structure uv (w:B1) (base gb mg tv:Nat) (s:ByteArray) (st:List Int) (out:List Tk) (W:B1):Prop where
 q:GQ W base gb mg st
 bl:A2 base w W
 b0:W.heap[w.heap.size]?=M (.cells #[.pointer (M ⟨gb,0,U⟩)] 63 (0,0))
 b1:W.heap[w.heap.size+1]?=M (.cells #[.string s] 9 (0,0))
 tk:∃v,W.heap[tv]?=M (.cells #[v] 31 (0,0))/\W.ownsRow w.heap.size 67 6 v out.length (As out)
theorem uv.kept(h:uv w base gb mg tv s st out W)(a:pF W W')(b:A2 base W W'):uv w base gb mg tv s st out W':=by
 obtain⟨e,c,d⟩:=h.tk;exact⟨h.q.kept a,h.bl.trans b,a.cells h.b0 (by decide),a.cells h.b1 (by decide),⟨e,a.cells c (by decide),a.row d (by decide)⟩⟩
theorem uv.below(h:uv w base gb mg tv s st out W)(a:A2 W.heap.size W W')(b:base<=W.heap.size):uv w base gb mg tv s st out W':=h.kept (.of_below a) (a.mono b)
theorem uv.turn{c:List Int}(h:uv w base gb mg tv s st out W)(l:GQ W' base gb mg c)(a:Gp gb W W')(j:A2 base W W')(t:gb<w.heap.size)(u:w.heap.size<tv):uv w base gb mg tv s c out W':=by
 obtain⟨r,p,d⟩:=h.tk;obtain⟨v,k,_⟩:=h.q.g.ex;refine⟨l,h.bl.trans j,jx a h.b0 (by omega),jx a h.b1 (by omega),⟨r,jx a p (by omega),d.1,?_⟩⟩;rcases d.2 with i|⟨g,e,f,m,n,b,o⟩
 ·exact .inl i
 ·refine .inr ⟨g,e,f,m,n,jx a b ?_,o⟩;rintro rfl;rw[k]at b;cases b
theorem uv.setTok{d:Nat}(h:uv w base gb mg tv s st out W)(n:W.heap[d]?=M (A9 cs 67 fr))(l:∀v,W.heap[tv]?=M (A9 #[v] 31 (0,0))->v.ownBlock≠M d)(j:base<=d)(u:Fs):uv w base gb mg tv s st out (W.setCell ⟨d,0,U⟩ u):=by
 have a:∀(e:Nat)(c:Obj),W.heap[e]?=M c->(∀cs fr,c≠ A9 cs 67 fr)->(W.setCell ⟨d,0,U⟩ u).heap[e]?=M c:=fun e c a m=>(aB _ _ _ _ (by rintro rfl;rw[n]at a;exact m _ _ (bp a).symm)).trans a;obtain⟨v,f,o⟩:=h.tk;refine⟨h.q.same (fun e c g i _=>a e c g i),h.bl.setCell j _,a _ _ h.b0 (by intro cs fr b;cases b),a _ _ h.b1 (by intro cs fr b;cases b),⟨v,a _ _ f (by intro cs fr b;cases b),?_⟩⟩;exact AK o (row:=M d) ⟨rfl,rfl,rfl,by simp[Cb],fun q p k=>aB _ _ _ _ (fun b=>k (by rw[b]))⟩ (.inr (l v f))
theorem Iw.turn{mb:Nat}{j:Nat}{i g:Int}(h:Iw b mb B s I W q i p l)(c:W.heap[gb]?=M (A9 cs 113 fr))(d:Gp gb W W')(r:A2 base W W')(w:12<=base)(u:I j g W'):Iw b mb B s I W' q i j g:=by
 obtain⟨o,f⟩:=h.sc;have t:b≠gb:=by rintro rfl;rw[show W.heap[b]?=_ from f]at c;cases c
 refine⟨⟨o,jx d f t⟩,?_,h.ly.blocks (fun v x=>r.block v (by omega)),u,bL h.sz d.size⟩;obtain⟨n,k,a,m⟩:=h.mp;exact⟨n,k,(d.block _ (aG a) (by rintro rfl;rw[a]at c;cases c) (fun cs fr e=>by rw[a]at e;cases e)).trans a,m⟩
theorem Iw.below{mb:Nat}{i:Nat}{g f:Int}(h:Iw b mb B s I W q g p l)(a:A2 W.heap.size W W')(m:12<=B)(k:I i f W'):Iw b mb B s I W' q g i f:=by
 obtain⟨j,e⟩:=h.sc;have n:=h.sz;exact⟨⟨j,(a.block _ (aG e)).trans e⟩,h.mp.kept (row:=U) ⟨a.os,a.tape,a.output,a.size,fun c d _=>a.block c d⟩ (by simp),h.ly.blocks (fun c d=>a.block c (by omega)),k,bL h.sz a.size⟩
theorem Iw.put{mb a:Nat}{f:Int}{r:Loop}(h:Iw b mb B s I W q f p l)(d:W.heap[a]?=M (.loop r))(o:Obj)(t:12<=a)(n:I p l (W.putObj a o)):Iw b mb B s I (W.putObj a o) q f p l:=by
 obtain⟨k,e⟩:=h.sc;have m:b≠a:=by rintro rfl;rw[show W.heap[b]?=_ from e]at d;cases d
 obtain⟨j,g,c,i⟩:=h.mp;exact⟨⟨k,(A0 m).trans e⟩,⟨j,g,(A0 (by rintro rfl;rw[d]at c;cases c)).trans c,i⟩,h.ly.blocks (fun v u=>A0 (by omega)),n,by simpa using h.sz⟩
theorem aaD(s:ByteArray)(p:Nat)(d:p<s.size):p<=(rdI s p).a/\(rdI s p).a<=s.size:=by
 unfold rdI;split
 ·rename_i b;have:=GK s p b;exact⟨by simp only;omega,(tH s _ p (by omega)).2⟩
 split
 ·have:=ss s p d;split<;>(simp only;omega)
 split
 ·have:=tE s (s.size+1) (p+1) [] (by omega);split<;>(simp only;omega)
 split
 ·simp only;omega
 ·rename_i c;have e:=nD s p s.size (ag _);have:=abE (s.extract p s.size) (by omega) c;simp only;omega
theorem ad7{n:Nat}{fn:Func}{P:Program}{R:Ending->B1->Prop}{tmps:Array Fs}{D:Nat}{a:List PanicEntry}(b:W.heap[D]?=M (.deferred (M [])))(h:R (.panicked a) (W.putObj D (.deferred U))):LeavesInM Fence.wide n P fn tmps R [{target:= .collected D,args:=#[]}] (.panicking a) W:=
 ⟨by simp,.inl ⟨_,_,rfl,run_takeDeferred b,h⟩⟩
theorem ahn(a b:ByteArray):∀(f n:Nat),a.size<n+f->n<=a.size->n<=b.size->(∀i,i<n->ax a i=ax b i)->(Kx a b f n<=a.size/\Kx a b f n<=b.size)/\(∀i,i<Kx a b f n->ax a i=ax b i)/\¬(Kx a b f n<a.size/\Kx a b f n<b.size/\ax a (Kx a b f n)=ax b (Kx a b f n))
 |0,n,h,d,e,c=>by omega
 |f+1,n,h,d,e,c=>by
  rw[Kx];split
  ·rename_i g;refine ahn a b f (n+1) (by omega) (by omega) (by omega) (fun i j=>?_);rcases bj i n with q|q
   ·exact c i q
   ·obtain rfl:i=n:=by omega
    exact g.2.2
  ·rename_i g;exact⟨⟨d,e⟩,c,g⟩
theorem acq{a b:ByteArray}:m<=ew a b↔m<=a.size/\m<=b.size/\∀i,i<m->ax a i=ax b i:=by
 obtain⟨⟨f,g⟩,h,j⟩:=ahn a b (a.size+1) 0 (by omega) (aL _) (aL _) (fun i d=>by omega);unfold ew;constructor
 ·intro c;exact⟨bL c f,bL c g,fun i d=>h i (fD d c)⟩
 ·rintro ⟨k,l,e⟩;rcases bj (Kx a b (a.size+1) 0) m with q|q
  ·exact absurd ⟨by omega,by omega,e _ q⟩ j
  ·exact q
theorem aho(x:ByteArray):∀(L:List Int)(a:Nat),m<=rcF x L a↔m<=a\/∃k∈L,m<=nu k x
 |[],a=>by simp[rcF]
 |k::L,a=>by
  show m<=rcF x L (max a (nu k x))↔_;rw[aho x L];constructor
  ·rintro (h|⟨c,h1,b⟩)
   ·rcases(show m<=a\/m<=nu k x by omega) with h|h
    ·exact .inl h
    ·exact .inr ⟨k,cE,h⟩
   ·exact .inr ⟨c,dI _ h1,b⟩
  ·rintro (h|⟨c,h1,b⟩)
   ·exact .inl (by omega)
   ·rcases List.mem_cons.1 h1 with rfl|h1
    ·exact .inl (by omega)
    ·exact .inr ⟨c,h1,b⟩
theorem ahp(s:ByteArray):∀(f p i:Nat),p<=i->i<mi s f p->bJ (ax s i)=Z\/cp (ax s i)=Z
 |0,p,i,b,a=>by rw[mi]at a;omega
 |f+1,p,i,b,a=>by
  rw[mi]at a;split at a
  ·rename_i g;rcases iL b with rfl|q
   ·exact g
   ·exact ahp s f (p+1) i q a
  ·omega
theorem ahq(s:ByteArray):∀(f p:Nat),s.size<p+f->¬(bJ (ax s (mi s f p))=Z\/cp (ax s (mi s f p))=Z)
 |0,p,h=>by rw[mi];exact BD (by omega)
 |f+1,p,h=>by
  rw[mi];split
  ·exact ahq s f (p+1) (by omega)
  ·assumption
theorem aaE(s:ByteArray):∀(f p m:Nat),m<=f->(∀i,i<m->bJ (ax s (p+i))=Z)->p+m<=mi s f p
 |0,p,m,h,g=>by rw[mi];omega
 |f+1,p,0,h,g=>by
  rw[mi];split
  ·have:=aaE s f (p+1) 0 (aL _) (fun i a=>by omega);omega
  ·omega
 |f+1,p,m+1,h,g=>by
  rw[mi,ab (.inl (g 0 (by omega)))];have:=aaE s f (p+1) m (by omega) (fun i a=>by have:=g (i+1) (by omega);rwa [show p+(i+1)=p+1+i by omega]at this);omega
theorem fx1:∀k:Fin 79,bJ (ax (fy (k.val:Int)) 0)=Z->∀i:Fin 6,i.val<(fy (k.val:Int)).size->bJ (ax (fy (k.val:Int)) i.val)=Z:=by decide+kernel
theorem fx2:∀k:Fin 79,cp (ax (fy (k.val:Int)) 0)=Ax/\ax (fy (k.val:Int)) 0≠34/\(k.val<=4->(fy (k.val:Int)).size=0):=by decide+kernel
theorem fx4:∀k:Fin 79,k.val≠7->bJ (ax (fy (k.val:Int)) 0)=Ax->(fy (k.val:Int)).size<=3/\∀m:Fin 4,1<=m.val->m.val<=(fy (k.val:Int)).size->∃i:Fin 30,bK jd i.val=(fy (k.val:Int)).extract 0 m.val:=by decide+kernel
theorem amw:∀i j:Fin 30,j.val<=i.val->ax (bK jd j.val) 0=ax (bK jd i.val) 0->(bK jd i.val).size<=(bK jd j.val).size:=by decide+kernel
theorem amx:∀i:Fin 30,(bK jd i.val).size≠0:=by decide+kernel
theorem ahr(q:ByteArray->Bool):∀(f k i:Nat),k<=i->i<k+f->q (bK jd i)=Z->∃j,vD q f k=M j/\j<=i/\q (bK jd j)=Z
 |0,k,i,h1,a,h=>by omega
 |f+1,k,i,h1,a,h=>by
  rw[vD];split
  ·rename_i g;exact⟨k,rfl,h1,g⟩
  ·rename_i g;rcases iL h1 with rfl|h1
   ·exact absurd h g
   ·exact ahr q f (k+1) i h1 (by omega) h
theorem amy(h:0<=ax s i):i<s.size:=by
 rcases bj i s.size with g|g
 ·exact g
 ·rw[dj]at h;omega
theorem amz(h:i<s.size):0<=ax s i:=by unfold ax;rw[mJ h];omega
theorem aj0(B:ax s p≠10){k:Int}(K:1<=k/\k<=78)(J:k≠7)(G:1<=m)(v:m<=(fy k).size)(c:∀i,i<m->ax s (p+i)=ax (fy k) i):p+m<=(rdI s p).a:=by
 obtain⟨k,rfl⟩:∃q:Fin 79,k=(q.val:Int):=⟨⟨k.toNat,by omega⟩,by simp;omega⟩;have f:=c 0 (by omega);rw[lH]at f;have r:∀i,i<m->p+i<s.size:=fun i d=>amy (by rw[c i d];exact amz (by omega));have L:=r (m-1) (by omega);obtain⟨y,z,_⟩:=fx2 k;have ad:=af4 (k.val:Int);unfold rdI;by_cases h:bJ (ax s p)=Z
 ·rw[ab h];have q:=fx1 k (by rw[<-f];exact h);exact aaE s (s.size+1) p m (by omega) (fun i d=>by rw[c i d];exact q ⟨i,by omega⟩ (by show i<_;omega))
 rw[aa h,aa (by rw[f,y];simp),aa (by rw[f];exact z)];obtain⟨I,A⟩:=fx4 k (by omega) (by rw[<-f];simpa using h);obtain⟨i,d⟩:=A ⟨m,by omega⟩ G v;have u:∀b,b<m->ax (s.extract p s.size) b=ax s (p+b):=fun b e=>ga s p s.size b (ag _) (r b e);have F:((fy (k.val:Int)).extract 0 m).size=m:=by rw[iJ];omega
 have l:∀b,b<m->ax (s.extract p s.size) b=ax ((fy (k.val:Int)).extract 0 m) b:=fun b e=>by rw[u b e,c b e,ga _ 0 m b v,qa]
 have t:Lib.hasPrefix (s.extract p s.size).data.toList (bK jd i.val).data.toList=Z:=by
  rw[d,LL _ _ (by show((fy (k.val:Int)).extract 0 m).size<=3;omega)];unfold pB;rw[jF];show(((fy (k.val:Int)).extract 0 m).size=0\/_)/\(((fy (k.val:Int)).extract 0 m).size<=1\/_)/\(((fy (k.val:Int)).extract 0 m).size<=2\/_);rw[F];refine⟨.inr (l 0 (by omega)),?_,?_⟩
  ·rcases bj 1 m with q|q
   ·exact .inr (l 1 q)
   ·exact .inl q
  ·rcases bj 2 m with q|q
   ·exact .inr (l 2 q)
   ·exact .inl q
 have n:=G6 (s.extract p s.size) (by rw[u 0 (by omega)];exact B);obtain⟨b,e,C,E⟩:=ahr (fun H=>Lib.hasPrefix (s.extract p s.size).data.toList H.data.toList) 30 0 i.val (aL _) (by omega) t;unfold C1 at n;rw[e]at n;obtain⟨_,w,x,_⟩:=n;rw[aa x];have o:∀(i:Fin 30),Lib.hasPrefix (s.extract p s.size).data.toList (bK jd i.val).data.toList=Z->ax (s.extract p s.size) 0=ax (bK jd i.val) 0:=fun i j=>by
  have c:=afK i;unfold inB at c;rw[LL _ _ (aH c).1]at j;unfold pB at j;rcases(aH j).1 with g|g
  ·exact absurd g (amx i)
  ·exact g
 have q:=amw i ⟨b,by omega⟩ C ((o ⟨b,by omega⟩ E).symm.trans (o i t));rw[d]at q;show p+m<=p+(fy (rz (s.extract p s.size))).size;have af:((fy (k.val:Int)).extract 0 m).size<=(bK jd b).size:=q;rw[w];omega
section
variable {s : ByteArray} {p r : Nat} {K : List Int}
theorem aaF(g:∀m,1<=m->m<=r->p+m<=s.size/\uo K (s.extract p (p+m))=Z)(h:∀m,1<=m->m<r->wE s p m=Ax)(i:p+(r+1)<=s.size->uo K (s.extract p (p+(r+1)))=Z->1<=r/\wE s p r=Z):∀(f n:Nat),n<=r->r<n+f->(n=r->1<=r->wE s p r=Ax)->wrL s p K f n=r
 |0,n,a,b,_=>by omega
 |f+1,n,a,b,c=>by
  rw[wrL];rcases bj n r with q|q
  ·obtain⟨o,k⟩:=g (n+1) (by omega) q;rw[ab ⟨by omega,k⟩];rcases bj (n+1) r with q2|q2
   ·rw[aa (by rw[h (n+1) (by omega) q2];simp)];exact aaF g h i f (n+1) q (by omega) (fun d=>by omega)
   ·have d:n+1=r:=by omega
    split
    ·exact d
    ·rename_i e;exact aaF g h i f (n+1) (by omega) (by omega) (fun _ _=>by rw[<-d];simpa using e)
  ·have d:n=r:=by omega
   rw[aa (fun e=>by
    obtain⟨l,j⟩:=i (by omega) (by rw[<-d];exact e.2);rw[c d l]at j;cases j)]
   exact d
theorem amA(E:qo s p)(a4:∀k∈K,1<=k/\k<=78)(af:cp (ax s p)=Z->2 ∉ K/\3 ∉ K)(a3:ax s p=34->4 ∉ K)(ad:ax s p≠10):wrL s p K (s.size+1) 0=rcF (s.extract p (rdI s p).a) K (ew (s.extract p (rdI s p).a) wi):=by
 obtain⟨am,H⟩:=aaD s p E.lt;have a9:=E.lt;obtain⟨a,B⟩:=az ((rdI s p).a);have x:=fun {k:Int} e i {m:Nat} G u d=>aj0 (s:=s) (p:=p) ad (k:=k) e i (m:=m) G u d;rw[B]at am H x⊢;have F:(s.extract p a).size=a-p:=by rw[iJ];omega
 have d:∀b,b<a-p->ax (s.extract p a) b=ax s (p+b):=fun b c=>ga s p a b H;have a5:rcF (s.extract p a) K (ew (s.extract p a) wi)<=a-p:=by rw[<-F];exact aat _ _ _ (Do _ _ _ _ (aL _))
 have n:=fun m=>aho (s.extract p a) (m:=m) K (ew (s.extract p a) wi);generalize rcF (s.extract p a) K (ew (s.extract p a) wi)=o at a5 n;have a8:wi.size=2:=rfl;have L:∀m,p+m<=s.size->(s.extract p (p+m)).size=m/\∀b,b<m->ax (s.extract p (p+m)) b=ax s (p+b):=fun m a7=>⟨by rw[iJ];omega,fun b c=>ga s p (p+m) b a7⟩;refine aaF (fun m G u=>⟨by omega,?_⟩) (fun m G u=>?_) (fun av A=>?_) (s.size+1) 0 (aL _) (by omega) (fun _ _=>by omega)
 ·obtain⟨r,f⟩:=L m (by omega);unfold uo;rcases(n m).1 u with h|⟨k,e,h⟩
  ·obtain⟨ap,I,l⟩:=acq.1 h;have z:=l 0 (by omega);rw[d 0 (by omega)]at z;rcases(show m=1\/m=2 by omega) with rfl|rfl
   ·rw[ab ⟨r,by rw[f 0 (by omega),z];rfl⟩]
   ·have J:=l 1 (by omega);rw[d 1 (by omega)]at J;exact absurd ⟨z,J⟩ E.nd
  ·split
   ·rfl
   refine(acf _ K).2 ⟨k,e,?_⟩;unfold nu at h;rw[aa (by omega)]at h;have an:ax (s.extract p a) 0=ax (s.extract p (p+m)) 0:=by rw[d 0 (by omega),f 0 (by omega)]
   split at h
   ·rename_i C;split at h
    ·rename_i j;left;rw[an]at j;unfold bgC;rw[jF];unfold bnC at j;rcases C with rfl|rfl|rfl|rfl
     ·exact .inl ⟨rfl,j⟩
     ·exact .inr (.inl ⟨.inl rfl,j⟩)
     ·exact .inr (.inl ⟨.inr rfl,j⟩)
     ·exact .inr (.inr ⟨rfl,aH j⟩)
    ·omega
   ·obtain⟨ap,I,l⟩:=acq.1 h;have i:k≠7:=fun g=>by
     subst g;have:=l 0 (by omega);rw[d 0 (by omega)]at this;exact ad this
    right;rw[acg,aby k i,r];exact⟨I,fun b c=>by rw[f b c,<-l b c,d b (by omega)]⟩
 ·unfold wE;by_cases ak:bJ (ax s p)=Z
  ·have g:a=mi s (s.size+1) p:=by rw[<-B];unfold rdI;rw[ab ak]
   have q:=ahp s (s.size+1) p (p+m) (by omega) (by omega);have ar:lk s (p+m)=ax s (p+m):=by unfold lk;rw[ab (by omega)]
   rw[ar];rcases q with q|q<;>simp[q]
  ·simp[ak]
 ·obtain⟨r,f⟩:=L (o+1) av;unfold uo at A;split at A
  ·rename_i ao;have y:=ao.2;rw[f 0 (by omega)]at y;have q:=x (k:=62) (by decide) (by decide) (m:=1) (by omega) (by decide) (fun b c=>by obtain rfl:b=0:=(by omega);exact y);have:=(n 1).2 (.inl (acq.2 ⟨by omega,by omega,fun b c=>by obtain rfl:b=0:=(by omega);rw[d 0 (by omega)];exact y⟩));omega
  ·obtain⟨k,e,h⟩:=(acf _ K).1 A;rw[f 0 (by omega),lH]at h;rcases h with h|h
   ·unfold bgC at h;rw[jF]at h;rcases h with⟨rfl,h⟩|⟨a0,h⟩|⟨rfl,h⟩
    ·have g:a=mi s (s.size+1) p:=by rw[<-B];unfold rdI;rw[ab h]
     have ba:=GK s p h;have q:=(n (a-p)).2 (.inr ⟨1,e,by unfold nu;rw[aa (by omega),ab (.inl rfl),ab (by rw[d 0 (by omega)];exact h),F];exact ag _⟩);have t:=ahq s (s.size+1) p (by omega);rw[<-g]at t;obtain rfl:o=a-p:=by omega
     refine⟨by omega,?_⟩;unfold wE lk;rw[show p+(a-p)=a by omega];by_cases al:a<s.size
     ·rw[ab al];simp only[not_or,FA]at t;simp[h,t.1,t.2]
     ·rw[aa al,h];decide
    ·exact absurd e (by rcases a0 with rfl|rfl;exact(af h).1;exact(af h).2)
    ·exact absurd e (a3 h)
   ·obtain⟨v,w⟩:=acg.1 h;rw[r]at v w;have i:k≠7:=fun g=>by
     subst g;have:(pG 7).size=0:=by decide+kernel
     omega
    rw[aby k i]at v w;have a6:=a4 k e;have q:=x a6 i (m:=o+1) (by omega) v (fun b c=>by rw[<-w b c,f b c]);have C:¬(k=1\/k=2\/k=3\/k=4):=fun g=>by
     have:=(fx2 ⟨k.toNat,by omega⟩).2.2 (by show k.toNat<=4;omega);rw[show(((⟨k.toNat,by omega⟩:Fin 79).val:Nat):Int)=k by simp;omega]at this;omega
    have:=(n (o+1)).2 (.inr ⟨k,e,by unfold nu;rw[aa (by omega),aa C,acq,F];exact⟨by omega,v,fun b c=>by rw[d b (by omega),<-f b c,w b c]⟩⟩);omega
end
theorem xg(st:List Int):∀(j:Nat)(k:Int),k∈me st j↔1<=k/\k<=(j:Int)/\ij st k=Z
 |0,k=>by simp[me];omega
 |j+1,k=>by
  rw[me];split
  ·rename_i g;rw[Ba,xg st j,List.mem_singleton];constructor
   ·rintro (h|rfl)
    ·exact⟨h.1,by omega,h.2.2⟩
    ·exact⟨by omega,by omega,g⟩
   ·rintro ⟨b,c,a⟩;by_cases e:k=(j:Int)+1
    ·exact .inr e
    ·exact .inl ⟨b,by omega,a⟩
  ·rename_i g;rw[xg st j];constructor
   ·exact fun h=>⟨h.1,by omega,h.2.2⟩
   ·rintro ⟨b,c,a⟩;have e:k≠(j:Int)+1:=fun e=>g (e ▸ a);exact⟨b,by omega,a⟩
theorem aaG(s:ByteArray)(p:Nat):(cp (ax s p)=Z/\(tu s p=2\/tu s p=3))\/(ax s p=34/\tu s p=4)\/(tu s p=0/\cp (ax s p)=Ax/\ax s p≠34):=by
 unfold tu;by_cases a:cp (ax s p)=Z
 ·rw[ab a];exact .inl ⟨a,by split;exact .inl rfl;exact .inr rfl⟩
 ·rw[aa a];by_cases b:ax s p=34
  ·rw[ab b];exact .inr (.inl ⟨b,rfl⟩)
  ·rw[aa b];exact .inr (.inr ⟨rfl,by simpa using a,b⟩)
theorem Kj.at_{z:Int}(h:Kj s R z):z=R.2.2:=by
 obtain⟨b,i,q,ap,ar,ak,m,n,v,G⟩:=h.ex;have t:me i 78=zh q:=n.sim.nm 78 (ag _);have l:∀j,1<=j->j<=78->ij i j=(feedL q j).2:=fun j u A=>n.sim.may u A;have x:ij i 2=ij i 3:=by rw[l 2 (by omega) (by omega),l 3 (by omega) (by omega)];exact akm q n.sim.o2 n.n23
 have w:(cp (ax s b)=Z->ij i 2=Ax\/ij i 3=Ax)->(ax s b=34->ij i 4=Ax)->ax s b≠10->z=(wrongF s b (zh q):Nat):=fun I J L=>by
  have ad:=amA (K:=zh q) m (fun j d=>by rw[<-t]at d;have:=(xg i 78 j).1 d;omega) (fun c=>by
   rw[<-t,xg,xg];have:=I c;rw[x]at this;simp[x,this.elim id id]) (fun c=>by rw[<-t,xg];simp[J c]) L
  rw[v];unfold wrongF xb;rw[ad,t];omega
 cases d:(rdI s b).ok with
 |true=>
  obtain⟨o,g⟩:=G d;rw[n.stop m d o g];unfold rdI at o g d;refine w (fun c=>?_) (fun c=>?_) (fun c=>?_)
  ·have F:¬bJ (ax s b)=Z:=fun k=>by simp[bJ]at k;simp[cp]at c;omega
   rw[aa F,ab c]at g d;split at d
   ·rename_i k;rw[ab k]at g;unfold vC at g;split at g
    ·exact .inl g
    ·split at g
     ·exact .inl g
     ·exact .inr g
   ·cases d
  ·rw[c]at g d;rw[aa (by decide),aa (by decide),ab rfl]at g d;split at d
   ·rename_i k;rw[ab k]at g;exact g
   ·cases d
  ·refine o ?_;have e:ax (s.extract b s.size) 0=10:=by rw[ga s b s.size 0 (ag _) (by have:=m.lt;omega)];exact c
   have r:rz (s.extract b s.size)=7:=by unfold rz;rw[aa (by rw[e];decide),ab e]
   rw[c,aa (by decide),aa (by decide),aa (by decide),aa (by rw[r];decide)];exact r
 |false=>
  obtain⟨k,rfl,am,p⟩:=n.step m;have o:¬tw s b=7:=fun e=>by have:=af3 s b e;rw[d]at this;cases this.1
  have C:tw s b=tu s b:=by unfold tw;rw[aa (by rw[d];simp)]
  rw[aa o,C]at p;have B:ax s b≠10:=fun c=>by
   have e:ax (s.extract b s.size) 0=10:=by rw[ga s b s.size 0 (ag _) (by have:=m.lt;omega)];exact c
   have r:rz (s.extract b s.size)=7:=by unfold rz;rw[aa (by rw[e];decide),ab e]
   unfold rdI at d;rw[c,aa (by decide),aa (by decide),aa (by decide),aa (by rw[r];decide)]at d;cases d
  split at p
  ·rename_i f;rw[aa (by rw[d];simp)]at p;rw[<-p,v];show(b:Int)+_=(((rdI s b).a:Nat):Int);obtain⟨af,y⟩:=aaD s b m.lt;have H:(s.extract b (rdI s b).a).size=(rdI s b).a-b:=by rw[iJ];omega
   have ao:=Bq i (s.extract b (rdI s b).a);have an:(rdI s b).a-b<=xb i (s.extract b (rdI s b).a):=by
    by_cases u:(rdI s b).a-b=0
    ·omega
    unfold xb;refine(aho _ _ _).2 (.inr ⟨tu s b,?_,?_⟩)
    ·rw[xg];have al:=G7 s b;unfold AC at f;split at f
     ·exact⟨by omega,by omega,by rw[l _ (by omega) (by omega)];exact f⟩
     ·cases f
    ·have E:ax (s.extract b (rdI s b).a) 0=ax s b:=ga s b _ 0 y;unfold nu;rw[aa (by omega),H,E];rcases aaG s b with⟨c,e|e⟩|⟨c,e⟩|⟨e,_⟩
     ·rw[e,ab (.inr (.inl rfl)),ab (show bnC 2 (ax s b)=Z from c)];exact ag _
     ·rw[e,ab (.inr (.inr (.inl rfl))),ab (show bnC 3 (ax s b)=Z from c)];exact ag _
     ·rw[e,ab (.inr (.inr (.inr rfl))),ab (show bnC 4 (ax s b)=Z by rw[c];decide)];exact ag _
     ·rw[e]at f;cases f
   omega
  ·rename_i f;rw[<-p];unfold AC at f;refine w (fun c=>?_) (fun c=>?_) B
   ·rcases aaG s b with⟨_,e|e⟩|⟨h,e⟩|⟨_,h,_⟩
    ·rw[e,ab (by decide),<-l 2 (by omega) (by omega)]at f;exact .inl (by simpa using f)
    ·rw[e,ab (by decide),<-l 3 (by omega) (by omega)]at f;exact .inr (by simpa using f)
    ·rw[h]at c;exact absurd c (by decide)
    ·rw[h]at c;cases c
   ·rcases aaG s b with⟨h,_⟩|⟨h,e⟩|⟨_,_,h⟩
    ·rw[c]at h;exact absurd h (by decide)
    ·rw[e,ab (by decide),<-l 4 (by omega) (by omega)]at f;simpa using f
    ·exact absurd c h
attribute [local go_sem] lE
theorem amB(W:B1)(b:Nat)(a c d e f g:Fs):W.grownBy (six W b a c d e f g) (M b):=by
 unfold six;refine mC ?_ (oB _ b 5 _);refine mC ?_ (oB _ b 4 _);refine mC ?_ (oB _ b 3 _);refine mC ?_ (oB _ b 2 _);refine mC ?_ (oB _ b 1 _);exact oB _ b 0 _
theorem acr:(Tryz.prog.info? 67).map (fun i=>(i.zero,i.size,i.bytes))=M (M (E2 #[V Y 0,V Y 0,V Y 0,V Y 0,V Y 0,B6 ⟨#[]⟩]),6,56):=by kernel_rfl
structure Ad1 (w:B1) (gb:Nat) (s:ByteArray) (b mb:Nat) (W:B1):Prop where
 bl:A2 w.heap.size w W
 b0:W.heap[w.heap.size]?=M (.cells #[.pointer (M ⟨gb,0,U⟩)] 63 (0,0))
 b1:W.heap[w.heap.size+1]?=M (.cells #[.string s] 9 (0,0))
 sc:gc b W s (.map (M mb)) 0 0 1 Ax
 mp:W.ownsMap B3 9 (plainElem (H:=Unit) B3 3) mb 22 (xF 22)
 lo:w.heap.size+2<=b
 ne:mb≠b
structure amC (w:B1) (base gb mb:Nat) (s:ByteArray) (R:List Tk×List Int×Int) (e:Ending) (w':B1):Prop where
 out:(∃st stk toks l v,R=(toks++[⟨6,(s.size:Nat),(s.size:Nat),l,0,⟨#[]⟩⟩],stk, -1)/\DL st stk/\e= .returned v/\w'.ownsRow w.heap.size 67 6 v toks.length (As toks)/\GQ w' base gb mb st/\st.length<=45*s.size+2/\toks.length<=s.size/\A2 base w w')\/(∃z,Kj s R z/\e= .panicked (aau z)/\A2 base w w')
theorem Hv(w:B1)(base C b4:Nat)(s:ByteArray)(h:GQ w base C b4 [100,6])(i4:Cw w)(nr:s.size<=65536)(kz:12<=base):
  G0 B3 20 #[.pointer (M ⟨C,0,U⟩),.string s] w fun e w'=>amC w base C b4 s (jz s) e w':=by
 obtain⟨kg,fr,e7⟩:=i4.tabs.word;have k7:C<w.heap.size:=by obtain⟨an,af,_⟩:=h.g.ex;exact aG af
 have lb:=h.g.lo;refine Gy (n:=5) Tryz.func20 rfl ?_;simp only[Tryz.ntmps20,gj,bB,dl,Nat.reduceAdd,Nat.reduceSub,gD,iw,ix,od,dt,ej];refine rq (fun mk ni=>rp ?_);go_wp2_with fail;generalize i8:(w.alloc _).alloc _=bc;obtain⟨i9,d6,gp,j4⟩:=DB i8;clear i8;refine rq (fun h7 gt=>?_);have gu:∀(b u:Nat)(ao:B1),Ad1 w C s b u ao->h7 {tmps:=#[.pointer (M ⟨C,0,U⟩),.string s,.pointer (M ⟨w.heap.size,0,U⟩),.pointer (M ⟨w.heap.size+1,0,U⟩),.slice U 0 0,.pointer (M ⟨b,0,U⟩),O,O,.string s,.map (M u),.agg #[.string s,.map (M u),.int .i64 0,.int .i64 0,.int .i64 1,.bool Ax],O,O,O,O,O,O,O,O,O,O,O,O,O,O,O,O,O,O,O,O,O,O,O,O,O,O,O,O,O,O,O,O,O],defers:=[]} ao:=by
  intro b u ao K;refine gt _ _ ?_;clear gt;obtain⟨d,hh⟩:=az ao.heap.size;have i7:=aG K.sc;have nk:=K.lo;refine rq (fun ml gu=>rp ?_);go_wp2_with fail;refine rq (fun a2 E=>?_);refine rq (fun mn nj=>rp ?_);go_wp2_with fail;refine Jt ?_;have ev:=(ah ao.heap.size ao).alloc (ag _) (.cells #[.slice U 0 0] 31 (0,0));have e6:A2 w.heap.size w (ao.alloc (.cells #[.slice U 0 0] 31 (0,0))):=K.bl.alloc K.bl.size _;have fo:wF b (ao.alloc (.cells #[.slice U 0 0] 31 (0,0))) s (.map (M u)) 0 1 Ax:=⟨0,(ev.block _ i7).trans K.sc⟩;have fm:=K.mp.alloc (.cells #[.slice U 0 0] 31 (0,0));have fb:uv w base C b4 d s [100,6] [] (ao.alloc (.cells #[.slice U 0 0] 31 (0,0))):=
   ⟨h.below e6,e6.mono (by omega),(ev.block _ (aG K.b0)).trans K.b0,(ev.block _ (aG K.b1)).trans K.b1,⟨.slice U 0 0,by rw[<-hh];exact aA ao _,dr _ _ _ _⟩⟩
  have e9:Cw (ao.alloc (.cells #[.slice U 0 0] 31 (0,0))):=i4.below e6 (ag _);have a4:(ao.alloc (.cells #[.slice U 0 0] 31 (0,0))).heap.size=d+1:=by simp;omega
  rw[hh]at i7;generalize ao.alloc (.cells #[.slice U 0 0] 31 (0,0))=kn at fo fm fb e9 a4⊢;have fn:=K.ne;clear ev e6 K hh;obtain⟨cm,g3⟩:=az (jz s);have fd:=ll.begin s;rw[g3]at fd;obtain⟨I,al⟩:∃I:Nat->Int->B1->Prop,I=fun p l c=>∃f z v G,ll s cm f z p l v G/\uv w base C b4 d s f v c:=⟨_,rfl⟩;have e8:Iw b u (d+1) s I kn 0 1 0 1:=⟨fo,fm,e9,by rw[al];exact⟨_,_,_,_,fd,fb⟩,by omega⟩;have g5:∀p l c L,I p l c->ScX b c->c.grownBy L (M b)->I p l L:=by
   intro p l c L h lz af;rw[al]at h⊢;obtain⟨f,z,v,G,j,g⟩:=h;exact⟨f,z,v,G,j,g.kept (.of_gr af lz) ⟨af.os,af.tape,af.output,by have:=g.bl.size;have:=af.size;have:=aG g.b0;omega,fun b3 ar=>af.block b3 (by have:=aG g.b0;omega) (by simp;omega)⟩⟩
  have g1:∀p k l c,blk s (s.size+1) p=blk s (s.size+1) k->p<=k->k<=s.size->I p l c->I k l c:=by
   intro p k l c fc lq y h;rw[al]at h⊢;obtain⟨f,z,v,G,j,g⟩:=h;exact⟨f,z,v,G,j.move fc lq y,g⟩
  have g0:∀p l c,I p l c->0<=l/\l<=(p:Int)+1/\p<=s.size:=by
   intro p l c h;rw[al]at h;obtain⟨f,z,v,G,j,g⟩:=h;exact⟨j.l0,j.l1,j.le⟩
  have ea:∀{c:B1}{k p:Nat}{hB l:Int}{ei:Loop}(A:Obj),Iw b u (d+1) s I c k hB p l->c.heap[d+1+1]?=M (.loop ei)->Iw b u (d+1) s I (c.putObj (d+1+1) A) k hB p l:=by
   intro c k p hB l ei A h av;refine h.put av A (by omega) ?_;have F:=h.ii;rw[al]at F⊢;obtain⟨f,z,v,G,j,g⟩:=F;refine⟨f,z,v,G,j,g.kept (.of_put av A) ?_⟩;exact(ah base c).grown (Er c (d+1+1) A) (by have:=h.sz;omega) (fun fx e=>by cases e;omega)
  refine aiJ (P:=B3) (α:=Nat×Int) (n:=5) Tryz.func20 (gf:=78) (bd:=#[.pointer (M ⟨b,0,U⟩)]) rfl (enters_of Tryz.func78 (by kernel_rfl) rfl) (fun i=>#[vTk ⟨(rdI s i.1).k,(i.1:Int),((rdI s i.1).a:Int),i.2,(rdI s i.1).n,(rdI s i.1).x⟩]) (fun _=>rfl)
   (fun i c=>qo s i.1/\(rdI s i.1).ok=Z/\Iw b u (d+1) s I c (rdI s i.1).a (i.2+(rdI s i.1).d) i.1 i.2)
   (fun i c=>Iw b u (d+1) s I c (rdI s i.1).a (i.2+(rdI s i.1).d) (rdI s i.1).a (i.2+(rdI s i.1).d))
   (fun i f1 c=>(qo s i.1/\(rdI s i.1).ok=Z/\Iw b u (d+1) s I c (rdI s i.1).a (i.2+(rdI s i.1).d) i.1 i.2)/\∃B,d+1<=B/\(∀an,c.heap[d]?=M (.cells #[an] 31 (0,0))->an.ownBlock≠M B)/\dD B c (rdI s i.1).k (i.1:Int) ((rdI s i.1).a:Int) i.2 (rdI s i.1).n (rdI s i.1).x/\
    f1={tmps:=#[.pointer (M ⟨C,0,U⟩),.string s,.pointer (M ⟨w.heap.size,0,U⟩),.pointer (M ⟨w.heap.size+1,0,U⟩),.slice U 0 0,.pointer (M ⟨b,0,U⟩),.pointer (M ⟨d,0,U⟩),.pointer (M ⟨B,0,U⟩),.string s,.map (M u),.agg #[.string s,.map (M u),.int .i64 0,.int .i64 0,.int .i64 1,.bool Ax],.func (.func 78) #[.pointer (M ⟨b,0,U⟩)] #[],vTk ⟨(rdI s i.1).k,(i.1:Int),((rdI s i.1).a:Int),i.2,(rdI s i.1).n,(rdI s i.1).x⟩,O,O,O,O,O,O,O,O,O,O,O,O,O,O,O,O,O,O,O,O,O,O,O,O,O,O,O,O,O,O,O],defers:=[]})
   (fun c=>aci b u (d+1) s I c)
   (fun bA c=>∃ad,Kj s cm ad/\bA=aau ad/\A2 base w c)
   ?pZ ?pAx ?pD ?assign ?body ?seq ?done ?pan
  case pZ=>
   rintro i c ei A h av;rw[a4]at av⊢;exact ea A h av
  case pAx=>
   rintro i f1 c ei A ⟨⟨j,g,bD⟩,B,gn,ff,ir,ky⟩ av;rw[a4]at av⊢;exact⟨⟨j,g,ea A bD av⟩,B,gn,fun an c8=>ff an ((A0 (by omega)).symm.trans c8),(A0 (by rintro rfl;have:=(show c.heap[d+1+1]?=_ from ir).symm.trans av;cases this)).trans ir,ky⟩
  case pD=>
   rintro c ei A h av;rw[a4]at av⊢;cases h with
   |fin l h=>exact .fin l (ea A h av)
   |bad p l d8 eb hS fu eh F=>
    refine .bad p l d8 eb ((A0 (by omega)).trans hS) (fu.blocks (fun b3 ar=>A0 (by omega))) (by simpa using eh) ?_;rw[al]at F⊢;obtain⟨f,z,v,G,j,g⟩:=F;refine⟨f,z,v,G,j,g.kept (.of_put av A) ?_⟩;exact(ah base c).grown (Er c (d+1+1) A) (by omega) (fun fx e=>by cases e;omega)
  case assign=>
   rintro l ⟨p,o⟩ c mf ⟨j,g,bD⟩ gs;unfold vTk at gs⊢;simp only at j g bD gs⊢;have m:=lD j g bD;clear j g bD
   gi_wp2
   have i3:=(ah c.heap.size c).alloc (ag _) (.cells #[.int .i64 (rdI s p).k,.int .i64 (p:Int),.int .i64 ((rdI s p).a:Int),.int .i64 o,.int .i64 (rdI s p).n,.string (rdI s p).x] 67 (0,0));refine gs _ _ ⟨⟨m.1,m.2.1,Iw.below m.2.2 i3 (by omega) ?_⟩,c.heap.size,m.2.2.sz,fun an c8=>?_,aA c _,rfl⟩ ((KeepsOthers.alloc c _).from _);all_goals
    have F:=m.2.2.ii;have eh:=m.2.2.sz;rw[al]at F;obtain⟨f,z,v,G,j,g⟩:=F
   ·rw[al];exact⟨f,z,v,G,j,g.below i3 (by omega)⟩
   ·obtain⟨nL,ck,cl⟩:=g.tk;rw[dg c _ d (by omega),ck]at c8;cases c8;intro e;have:=(cl.lt _ e).2;omega
  case body=>
   rintro l ⟨p,o⟩ f1 c ⟨⟨cf,cc,a3⟩,B,nt,ff,bh,rfl⟩;rw[a4];unfold vTk;simp only at cf cc a3 bh⊢;have F:=a3.ii;rw[al]at F;obtain⟨f,z,v,G,b2,c7⟩:=F;obtain⟨kb,kd⟩:=JF s p cc;obtain⟨l7,l8,l9,md⟩:=mL s p cf.lt cc;have j9:=a3.sz;have bF:=fun (ar:(rdI s p).k=7) (x:ij f 5=Z) b5 (j:DL b5 (feedL z 5).1) (g:b5.length<=f.length+45)=>b2.sep cf cc ar x j g;have cI:=fun (ar:(rdI s p).k=7) (x:ij f 5=Ax)=>b2.skip cf cc ar x;have a5:=fun (ar:(rdI s p).k≠7) (x:ij f (rdI s p).k=Z) b5 (j:DL b5 (feedL z (rdI s p).k).1) (g:b5.length<=f.length+45)=>b2.tok cf cc ar x j g;have ca:(rdI s p).k≠7->ij f (rdI s p).k=Ax->Kj s cm ((p:Int)+(xb f (s.extract p (rdI s p).a):Nat)):=fun ar x=>⟨by rw[b2.stop cf cc ar x];omega,p,f,z,o,v,G,cf,b2,rfl,fun _=>⟨ar,x⟩⟩;have nn:=b2.len;have lf:=b2.ol;have lx:=b2.sim;generalize (rdI s p).k=b3 at bh kb kd bF cI a5 ca⊢;generalize (rdI s p).a=q at bh l7 l8 a3 bF cI a5 ca⊢;generalize (rdI s p).d=cn at l9 md a3 bF cI a5⊢;generalize (rdI s p).n=a0 at bh bF a5⊢;generalize (rdI s p).x=a1 at bh bF a5⊢;clear b2 cc cf;refine wpIn_block ?_;refine wpIn_seq_k (fun fB gv=>?_);have ek:∀(J:Int)(L:B1)(bn bo br bs bt bw bx:Fs),1<=J->J<=78->F0 (d+1) c L->Iw b u (d+1) s (fun _ _ _=>True) L q (o+cn) p o->uv w base C b4 d s f v L->d+1<=L.heap.size->dD B L J (p:Int) (q:Int) o a0 a1->
     (ij f J=Z->∀b5,DL b5 (feedL z J).1->b5.length<=f.length+45->∃gm,ll s cm b5 (feedL z J).1 q (o+cn) (v++[⟨J,(p:Nat),(q:Nat),o,a0,a1⟩]) gm)->
     (ij f J=Ax->Kj s cm ((p:Int)+(xb f (s.extract p q):Nat)))->
     fB {tmps:=#[.pointer (M ⟨C,0,U⟩),.string s,.pointer (M ⟨w.heap.size,0,U⟩),.pointer (M ⟨w.heap.size+1,0,U⟩),.slice U 0 0,.pointer (M ⟨b,0,U⟩),.pointer (M ⟨d,0,U⟩),.pointer (M ⟨B,0,U⟩),.string s,.map (M u),.agg #[.string s,.map (M u),.int .i64 0,.int .i64 0,.int .i64 1,.bool Ax],.func (.func 78) #[.pointer (M ⟨b,0,U⟩)] #[],.agg #[.int .i64 b3,.int .i64 (p:Int),.int .i64 (q:Int),.int .i64 o,.int .i64 a0,.string a1],bn,bo,br,bs,bt,bw,bx,O,O,O,O,O,O,O,O,O,O,O,O,O,O,O,O,O,O,O,O,O,O,O,O],defers:=[]} L:=by
    intro J L bn bo br bs bt bw bx kc ke g7 c5 cr nl cw a5 ca;refine gv _ _ ?_;clear gv;have dk:=dm cr.b0;have em:=dm cr.b1;obtain⟨hC,ck,cl,hE,hH,hJ,h0⟩:=bg cw;obtain⟨stF,gd,ds⟩:∃stF gd,ij f J=Z->passOk (f.length+45) gd f J stF/\stF.length<=f.length+45/\DL stF (feedL z J).1:=by
     by_cases x:ij f J=Z
     ·obtain⟨A,cb,lv⟩:=lx.passOk kc ke x;exact⟨A,_,fun _=>⟨cb,wC cb,lv⟩⟩
     ·exact⟨[],0,fun e=>absurd e x⟩
    have fz:=CallsIn.inRound l (lF (n:=2).2 (Fc L base C b4 f stF ⟨J,(p:Int),(q:Int),o,a0,a1⟩ s gd cr.q c5.ly.tabs (by omega) kc ke (by simp only;omega) (by simp only;omega) (by simp only;omega) (fun e=>⟨(ds e).1,by have:=(ds e).2.1;omega,fun a c6=>by have:=aH ((ds e).2.2.o1 a c6);omega⟩)));unfold vTk at fz;simp only[lG]at fz
    gi_wp2_with (refine⟨trivial,?_⟩;gi_at_call 21;fail)
    refine⟨trivial,fz.mono ?_⟩;rintro e r ⟨(⟨x,rfl,j3,d9,ak⟩|⟨x,rfl,ak⟩)⟩
    ·obtain⟨_,la,lw⟩:=ds x;obtain⟨gm,j7⟩:=a5 x stF lw la;obtain⟨n0,j1,_⟩:=cr.q.g.ex;have b8:=cr.turn j3 d9 ak k7 (by omega);have bf:dD B r J (p:Int) (q:Int) o a0 a1:=jx d9 cw (by omega);have bk:Iw b u (d+1) s (fun _ _ _=>True) r q (o+cn) p o:=Iw.turn (I:=fun _ _ _=>True) (p:=p) (l:=o) ⟨c5.sc,c5.mp,c5.ly,trivial,c5.sz⟩ j1 d9 ak kz trivial;have cz:F0 (d+1) c r:=g7.trans (akg j1 d9);obtain⟨an,ef,eg⟩:=b8.tk;obtain⟨kh,ki,rfl⟩:=bI eg;have ku:=dm ef;have nb:r.frozen? ⟨d,0,U⟩=Ax:=co _ _ _ _ _ ef;obtain⟨n2,n3,n4,n5,n6,n7,n8⟩:=bg bf;obtain⟨l6,k9,l3,l4,l5⟩:=du acr;obtain⟨on,he⟩:=az v.length;rw[he]at ef eg ku lf;have nv:d+1<=r.heap.size:=bk.sz;have hj:∀k,(Value.slice kh on ki).ownBlock=M k->w.heap.size<=k/\∃cs fr,r.heap[k]?=M (.cells cs 67 fr):=fun k y=>by
      refine⟨(eg.lt k y).1,?_⟩;rcases eg.2 with⟨b6,_⟩|⟨il,ks,kt,b6,_,dn,_⟩
      ·rw[b6]at y;cases y
      ·rw[b6]at y;obtain rfl:il=k:=by simpa [Ga] using y
       exact⟨_,_,dn⟩
     have m:=akv j7 b8 bk cz ef he;clear j7 b8 bk cz ef he fz ds j3 d9 ak cr c5 g7 cw a5 ca dk em hC ck cl hE hH hJ h0 bf
     gi_wp2_with (gi_at_builtin;refine wpListIn_append_own _ rfl _ _ 31 rfl w.heap.size 67 l6 _ 6 56 Tryz.underlying31 k9 l3 l4 l5 rfl (by decide) _ _ _ rfl (eg.alloc _) ⟨r.heap.size,0,U⟩ 1 1 [.int .i64 J,.int .i64 (p:Int),.int .i64 (q:Int),.int .i64 o,.int .i64 a0,.string a1] rfl rfl (World.news_of_block (cs:=#[.int .i64 J,.int .i64 (p:Int),.int .i64 (q:Int),.int .i64 o,.int .i64 a0,.string a1]) (fr:=(0,0)) (aA r _)) (by intro nx j5;simp at j5;rcases j5 with rfl|rfl|rfl|rfl|rfl|rfl<;>rfl) (by unfold maxLen;omega) (by omega) (by simp;omega) ?_;intro nz c9 hc fg _;obtain⟨eq,f6,rfl⟩:=ownsRow_succ hc;have fq:c9.heap[d]?=M (.cells #[.slice kh on ki] 31 (0,0)):=(fg.block d (by simp;omega) (fun e=>by obtain⟨_,cs,fr,b7⟩:=hj d e.symm;rw[m.out.2.2.2.2.1]at b7;cases b7)).trans ((dg _ _ _ (by omega)).trans m.2.2.2.2.1);have mx:=dm fq;have nc:c9.frozen? ⟨d,0,U⟩=Ax:=co _ _ _ _ _ fq)
     have b9:∀(k:Nat)(A:Obj),r.heap[k]?=M A->(∀cs fr,A≠ .cells cs 67 fr)->k≠d->(c9.setCell ⟨d,0,U⟩ (.slice (M ⟨eq,0,U⟩) (on+1) f6)).heap[k]?=M A:=fun k A y cb fn=>by
      refine(aB _ _ _ _ fn).trans ((fg.block k (by simp;have:=aG y;omega) (fun e=>?_)).trans ((dg _ _ _ (aG y)).trans y));obtain⟨_,cs,fr,b7⟩:=hj k e.symm;rw[y]at b7;exact cb cs fr (bp b7)
     have ns:r.heap.size<=c9.heap.size:=by have:=fg.size;simp at this;omega
     have ji:A2 base r (c9.setCell ⟨d,0,U⟩ (.slice (M ⟨eq,0,U⟩) (on+1) f6)):=by
      have ko:A2 base r (r.alloc (.cells #[.int .i64 J,.int .i64 (p:Int),.int .i64 (q:Int),.int .i64 o,.int .i64 a0,.string a1] 67)):=(ah _ r).alloc (by omega) _;exact(ko.grown fg (by simp;omega) (fun k y=>by have:=(hj k y).1;omega)).setCell (by show base<=d;omega) _
     have k6:uv w base C b4 d s stF (v++[⟨J,(p:Nat),(q:Nat),o,a0,a1⟩]) (c9.setCell ⟨d,0,U⟩ (.slice (M ⟨eq,0,U⟩) (on+1) f6)):=by
      have c6:=m.2.1;refine⟨c6.q.same (fun k A y j g=>b9 k A y j (by rintro rfl;rw[m.out.2.2.2.2.1]at y;exact g _ _ (bp y).symm)),c6.bl.trans ji,b9 _ _ c6.b0 (by intro cs fr e;cases e) (by omega),b9 _ _ c6.b1 (by intro cs fr e;cases e) (by omega),⟨_,bz _ _ 0 _ _ _ fq,?_⟩⟩;rw[aK,m.out.2.2.2.2.2,tK];refine AK hc (row:=M d) ⟨rfl,rfl,rfl,by simp[Cb],fun k y fn=>aB _ _ _ _ (fun e=>fn (by rw[e]))⟩ (.inr ?_);intro e;have b7:eq=d:=by simpa [Ga] using e
      subst b7;rcases hc.2 with⟨b6,_⟩|⟨il,ks,kt,b6,_,dn,_⟩
      ·cases b6
      ·cases b6;rw[fq]at dn;cases dn
     refine⟨m.2.2.2.1.trans ?_,?_⟩
     ·exact⟨by simp[Cb];omega,fun k A _ y cb=>b9 k A y (fun cs fr e=>by rw[e]at cb;cases cb) (by rintro rfl;rw[m.out.2.2.2.2.1]at y;obtain rfl:=bp y;cases cb)⟩
     ·obtain⟨ge,hf⟩:=m.2.2.1.sc;obtain⟨f9,f7,cq,f8⟩:=m.2.2.1.mp;refine⟨⟨ge,b9 _ _ hf (by intro cs fr e;cases e) (by omega)⟩,⟨f9,f7,b9 _ _ cq (by intro cs fr e;cases e) (by rintro rfl;rw[m.out.2.2.2.2.1]at cq;cases cq),f8⟩,m.2.2.1.ly.blocks (fun k y=>ji.block k (by omega)),?_,by simp[Cb];omega⟩;rw[al];exact⟨_,_,_,_,m.1,k6⟩
    ·refine⟨rfl,g7.trans (yi ak),_,ca x,rfl,cr.bl.trans (ak.mono (by omega))⟩
   clear gv;obtain⟨hC,ck,cl,hE,hH,hJ,h0⟩:=bg bh;by_cases fk:b3=7
   ·subst fk;obtain⟨kl,g4⟩:=az (ij f 5);have kf:=CallsIn.inRound l (lF (n:=2).2 (c7.q.may (t:=5) (by decide) (by decide) g4));have dk:=dm c7.b0;have m:=Kz c7 a3 g4 bh;clear c7 a3 g4 bh a5 ca
    gi_wp2_with (refine⟨trivial,?_⟩;gi_at_call 79;fail)
    refine⟨trivial,kf.mono ?_⟩;rintro e r ⟨rfl,ak⟩;have b8:=m.1.below ak (by omega);have bf:dD B r 7 (p:Int) (q:Int) o a0 a1:=(ak.block _ (aG m.2.2.2)).trans m.2.2.2;have z0:r.cell? ⟨B,0,U⟩=M (.int .i64 7):=(bg bf).1;have n9:r.frozen? ⟨B,0,U⟩=Ax:=(bg bf).2.2.2.2.2.2 0;have cz:F0 (d+1) c r:=yi ak;clear kf dk hC ck cl hE hH hJ h0;cases kl with
    |false=>
     obtain⟨gm,af⟩:=cI trivial m.2.2.1;have bb:C2 (F0 (d+1) c r/\Iw b u (d+1) s I r q (o+cn) q (o+cn)):=⟨cz,Iw.below m.2.1 ak (by omega) (by rw[al];exact⟨_,_,_,_,af,b8⟩)⟩;clear ek bF cI af b8 bf cz m ak
     gi_wp2
     exact bb
    |true=>
     have j0:∀an,r.heap[d]?=M (.cells #[an] 31 (0,0))->an.ownBlock≠M B:=fun an c8=>ff an ((ak.block _ (by omega)).symm.trans c8);have dz:uv w base C b4 d s f v (r.setCell ⟨B,0,U⟩ (.int .i64 5)):=b8.setTok bf j0 (by omega) _;have i5:dD B (r.setCell ⟨B,0,U⟩ (.int .i64 5)) 5 (p:Int) (q:Int) o a0 a1:=bz _ _ 0 _ _ _ bf;have bk:Iw b u (d+1) s (fun _ _ _=>True) r q (o+cn) p o:=Iw.below (I:=fun _ _ _=>True) (p:=p) (l:=o) ⟨m.2.1.sc,m.2.1.mp,m.2.1.ly,trivial,m.2.1.sz⟩ ak (by omega) trivial;have j2:Iw b u (d+1) s (fun _ _ _=>True) (r.setCell ⟨B,0,U⟩ (.int .i64 5)) q (o+cn) p o:=by
      obtain⟨ge,hf⟩:=bk.sc;obtain⟨f9,f7,cq,f8⟩:=bk.mp;exact⟨⟨ge,(aB _ _ _ _ (by show b≠B;omega)).trans hf⟩,⟨f9,f7,(aB _ _ _ _ (by rintro rfl;rw[show r.heap[_]?=_ from bf]at cq;cases cq)).trans cq,f8⟩,bk.ly.blocks (fun k y=>aB _ _ _ _ (by show k≠B;omega)),trivial,by simp[Cb];exact bk.sz⟩
     have fA:C2 (∀(bn bo br bs bt bw bx:Fs),fB {tmps:=#[.pointer (M ⟨C,0,U⟩),.string s,.pointer (M ⟨w.heap.size,0,U⟩),.pointer (M ⟨w.heap.size+1,0,U⟩),.slice U 0 0,.pointer (M ⟨b,0,U⟩),.pointer (M ⟨d,0,U⟩),.pointer (M ⟨B,0,U⟩),.string s,.map (M u),.agg #[.string s,.map (M u),.int .i64 0,.int .i64 0,.int .i64 1,.bool Ax],.func (.func 78) #[.pointer (M ⟨b,0,U⟩)] #[],.agg #[.int .i64 7,.int .i64 (p:Int),.int .i64 (q:Int),.int .i64 o,.int .i64 a0,.string a1],bn,bo,br,bs,bt,bw,bx,O,O,O,O,O,O,O,O,O,O,O,O,O,O,O,O,O,O,O,O,O,O,O,O],defers:=[]} (r.setCell ⟨B,0,U⟩ (.int .i64 5))):=fun bn bo br bs bt bw bx=>ek 5 _ bn bo br bs bt bw bx (by decide) (by decide) (cz.trans ((KeepsOthers.setCell _ _ _).from _)) j2 dz (by simp[Cb];exact bk.sz) i5 (fun x=>bF trivial x) (fun x=>by rw[m.out.2.2.1]at x;cases x);clear ek bF cI b8 bf cz m ak j0 dz i5 bk j2 ff
     gi_wp2
     exact fA _ _ _ _ _ _ _
   ·have nm:(b3==7)=Ax:=by rw[cG];exact fk
    have fA:C2 (∀(bn bo br bs bt bw bx:Fs),fB {tmps:=#[.pointer (M ⟨C,0,U⟩),.string s,.pointer (M ⟨w.heap.size,0,U⟩),.pointer (M ⟨w.heap.size+1,0,U⟩),.slice U 0 0,.pointer (M ⟨b,0,U⟩),.pointer (M ⟨d,0,U⟩),.pointer (M ⟨B,0,U⟩),.string s,.map (M u),.agg #[.string s,.map (M u),.int .i64 0,.int .i64 0,.int .i64 1,.bool Ax],.func (.func 78) #[.pointer (M ⟨b,0,U⟩)] #[],.agg #[.int .i64 b3,.int .i64 (p:Int),.int .i64 (q:Int),.int .i64 o,.int .i64 a0,.string a1],bn,bo,br,bs,bt,bw,bx,O,O,O,O,O,O,O,O,O,O,O,O,O,O,O,O,O,O,O,O,O,O,O,O],defers:=[]} c):=fun bn bo br bs bt bw bx=>ek b3 c bn bo br bs bt bw bx kb kd (KeepsFrom.refl _ _) ⟨a3.sc,a3.mp,a3.ly,trivial,a3.sz⟩ c7 (by omega) bh (fun x=>a5 fk x) (fun x=>ca fk x);clear ek a5 ca bF cI c7 a3 bh
    gi_wp2
    exact fA _ _ _ _ _ _ _
  case seq=>
   rintro l kj i2 dz c b9 g8 j9;rw[a4]at i2 g8 j9 dz⊢;refine(adL 4 l b u (d+1) s (by omega) (by omega) (by omega) (by omega) I g5 g1 g0 kj i2 (fun bA c=>(∃ad,Kj s cm ad/\bA=aau ad/\A2 base w c)/\c.heap[d+1]?=M (.deferred (M []))) (fun p o c j g bD gn=>(dz (p,o) c ⟨j,g,bD⟩ gn)) c 0 1 ?_ b9).mono ?_
   ·refine Iw.below e8 (by rw[a4];exact g8) (by omega) ?_;have F:=e8.ii;rw[al]at F⊢;obtain⟨f,z,v,G,j,g⟩:=F;exact⟨f,z,v,G,j,g.below (by rw[a4];exact g8) (by omega)⟩
   ·rintro e mr (h|⟨bA,j,g,bD⟩)
    ·exact .inl h
    ·exact .inr ⟨bA,j,g,bD⟩
  case done=>
   rintro c h bE;rw[a4]at bE⊢;refine E _ _ (rp ?_);clear E;rw[g3];cases h with
   |fin l h=>
    have F:=h.ii;rw[al]at F;obtain⟨f,z,v,G,j,g⟩:=F;obtain⟨an,ck,cl⟩:=g.tk;obtain⟨dk,f5,el,kp,kq,kv,kw,kx⟩:=wF.cells h.sc;have mt:=dm ck;have bb:=lD j g cl;clear j g ck cl h g5 g1 g0 ea e8 fd fb fo fm e9;go_wp2_with fail;refine⟨by simp,.inl ⟨_,_,rfl,run_takeDeferred bE,?_⟩⟩;have ar:=pF.of_putD bE (.deferred U);refine⟨_,results_tmp rfl _ _ _,⟨.inl ⟨f,z,v,l,an,bb.1.fin,bb.1.sim,rfl,ar.row bb.2.2 (by decide),bb.2.1.q.kept ar,bb.1.len,bb.1.ol,?_⟩⟩⟩;exact bb.2.1.bl.grown (Er c (d+1) (.deferred U)) (by have:=bb.2.1.bl.size;have:=aG bE;omega) (fun fx e=>by cases e;omega)
   |bad p l d8 eb hS fu eh F=>
    rw[al]at F;obtain⟨f,z,v,G,j,g⟩:=F;obtain⟨dk,f5,el,kp,kq,kv,kw,kx⟩:=eK hS;obtain⟨ih,m9⟩:=F3 hS;have ik:=dm g.b0;have em:=dm g.b1;clear g5 g1 g0 ea e8 fd fb fo fm e9;obtain⟨k2,k4⟩:=aaD s p d8.lt;have k8:base<=c.heap.size:=by have:=g.bl.size;omega
    have g6:A2 c.heap.size c c.drew:=(ah _ c).drew;have i6:qv c.drew:=(fu.tabs.below g6 (ag _));have j8:(s.extract p (rdI s p).a).size<=1100000:=by have:=iJ (a:=s) (b:=p) (e:=(rdI s p).a);omega
    have hw:=Fb c.drew base C b4 f (s.extract p (rdI s p).a) (g.q.below g6) i6 j8;have ls:(xb f (s.extract p (rdI s p).a):Nat)<=s.size:=by
     have:=Bq f (s.extract p (rdI s p).a);have:=iJ (a:=s) (b:=p) (e:=(rdI s p).a);omega
    obtain⟨ad,hn⟩:∃ad:Nat,xb f (s.extract p (rdI s p).a)=ad:=⟨_,rfl⟩;have kk:C2 (Kj s cm ((p:Int)+(ad:Nat))):=⟨j.bad d8 eb,p,f,z,l,v,G,d8,j,by rw[hn],fun e=>by rw[eb]at e;cases e⟩;have df:=lD g.bl bE k8;rw[hn]at hw ls;obtain⟨q,iy⟩:∃q:Nat,(rdI s p).a=q:=⟨_,rfl⟩;rw[iy]at el hw k2 k4;have np:(p:Int)<=(q:Int):=by omega
    have nf:(q:Int)<=(s.size:Int):=by omega
    have no:(0:Int)<=(p:Int):=by omega
    have nw:IntKind.i64.wrap ((p:Int)+(ad:Int))=(p:Int)+(ad:Int):=by rw[ed];omega
    clear hn iy j g hS fu j8 i6 eb;go_wp2_with fail;refine Code.wp_mono (Q:=alf [{target:= .collected (d+1),args:=#[]}] (fun bA L=>bA=aau ((p:Int)+(ad:Nat))/\A2 c.heap.size c L)) (fun e a L h=>?_) ?_
    ·cases e with
     |panic bA=>
      obtain⟨k5,rfl,cw⟩:=h;show LeavesInM _ _ _ _ _ _ a.defers (.panicking _) L;rw[k5];have kA:=(cw.block _ (aG df.2.1)).trans df.2.1;refine ad7 kA ⟨.inr ⟨_,kk,rfl,?_⟩⟩;have k3:=df.1.trans (cw.mono df.2.2);exact k3.grown (Er L (d+1) (.deferred U)) (by have:=cw.size;have:=df.2.2;have:=lb;omega) (fun fx e=>by cases e;omega)
     |_=>exact h.elim
    refine sI (S:=fun w'=>w'.cell? ⟨b,2,U⟩=M (.int .i64 (p:Int))/\w'.cell? ⟨b,3,U⟩=M (.int .i64 (q:Int))/\w'.cell? ⟨w.heap.size,0,U⟩=M (.pointer (M ⟨C,0,U⟩))/\w'.cell? ⟨w.heap.size+1,0,U⟩=M (.string s)) (by kernel_rfl) ⟨ih,el,ik,em⟩ (fun ap=>?_);refine bG 0 (.pointer (M ⟨b,2,U⟩)) rfl rfl (by kernel_rfl) (fun _ _ _=>id) ap (fun w' ⟨a6,a7,a8,a9⟩=>by go_simp) ?_;simp only[B0];refine bG 1 (.int .i64 (p:Int)) rfl rfl (by kernel_rfl) (fun _ _ _=>id) ap (fun w' ⟨a6,a7,a8,a9⟩=>by go_simp) ?_;simp only[B0];refine bG 2 (.pointer (M ⟨C,0,U⟩)) rfl rfl (by kernel_rfl) (fun _ _ _=>id) ap (fun w' ⟨a6,a7,a8,a9⟩=>by go_simp) ?_;simp only[B0];refine bG 3 (.string s) rfl rfl (by kernel_rfl) (fun _ _ _=>id) ap (fun w' ⟨a6,a7,a8,a9⟩=>by go_simp) ?_;simp only[B0];refine bG 4 (.pointer (M ⟨b,2,U⟩)) rfl rfl (by kernel_rfl) (fun _ _ _=>id) ap (fun w' ⟨a6,a7,a8,a9⟩=>by go_simp) ?_;simp only[B0];refine bG 5 (.int .i64 (p:Int)) rfl rfl (by kernel_rfl) (fun _ _ _=>id) ap (fun w' ⟨a6,a7,a8,a9⟩=>by go_simp) ?_;simp only[B0];refine bG 6 (.pointer (M ⟨b,3,U⟩)) rfl rfl (by kernel_rfl) (fun _ _ _=>id) ap (fun w' ⟨a6,a7,a8,a9⟩=>by go_simp) ?_;simp only[B0];refine bG 7 (.int .i64 (q:Int)) rfl rfl (by kernel_rfl) (fun _ _ _=>id) ap (fun w' ⟨a6,a7,a8,a9⟩=>by go_simp) ?_;simp only[B0];refine bG 8 (.string (s.extract p q)) rfl rfl (by kernel_rfl) (fun _ _ _=>id) ap (fun w' ⟨a6,a7,a8,a9⟩=>by go_simp) ?_;simp only[B0];refine Bs (rs:=[9]) (by kernel_rfl) (by simp) (A5 rfl (fun h8 gz=>?_) Br);go_simp;refine hw.mono ?_;rintro e n1 ⟨rfl,d7⟩;refine gz _ _ ⟨aj d7 ih,aj d7 el,aj d7 ik,aj d7 em⟩ (fun ap=>?_);clear gz h8;try simp only[Act.put,aD,aE,aF]
    refine bG 10 (.int .i64 ((p:Int)+(ad:Int))) rfl rfl (by kernel_rfl) (fun _ _ _=>id) ap (fun w' ⟨a6,a7,a8,a9⟩=>by go_simp) ?_;simp only[B0];refine bG 11 (.agg #[.int .i64 ((p:Int)+(ad:Int))]) rfl rfl (by kernel_rfl) (fun _ _ _=>id) ap (fun w' ⟨a6,a7,a8,a9⟩=>by go_simp) ?_;simp only[B0];refine bG 12 (.iface 61 (.agg #[.int .i64 ((p:Int)+(ad:Int))])) rfl rfl (by kernel_rfl) (fun _ _ _=>id) ap (fun w' ⟨a6,a7,a8,a9⟩=>by go_simp) ?_;simp only[B0];refine Bs (rs:=[13]) (by kernel_rfl) (by simp) (A5 rfl (fun h8 gz=>?_) Br);go_simp;exact⟨rfl,rfl,(g6.trans d7)⟩
  case pan=>
   rintro bA c ⟨ad,eh,rfl,fc⟩ bE;rw[a4]at bE⊢;show LeavesInM _ _ _ _ _ _ [_] (.panicking _) c;refine⟨by simp,.inl ⟨_,_,rfl,run_takeDeferred bE,?_⟩⟩;rw[g3];exact⟨.inr ⟨ad,eh,rfl,fc.grown (Er c (d+1) (.deferred U)) (by have:=fc.size;have:=aG bE;omega) (fun fx e=>by cases e;omega)⟩⟩
 clear gt;refine rp (Code.wp_mono (Q:=Exit.then h7 (fun _ _ _=>False)) (fun e a w h=>by cases e<;>first|exact h|exact h.elim) ?_);have f5:bc.drew.cell? ⟨w.heap.size+1,0,U⟩=M (.string s):=dm d6;refine sI (S:=fun w'=>w'.cell? ⟨w.heap.size+1,0,U⟩=M (.string s)) (by kernel_rfl) f5 (fun hS=>?_);refine bG 0 (.string s) rfl rfl (by kernel_rfl) (fun _ _ _=>id) hS (fun w' j6=>by go_simp) ?_;simp only[B0];refine Bs (rs:=[1,3]) (by kernel_rfl) (by simp) (A5 rfl (fun a2 E=>?_) (A5 rfl (fun a2 E=>?_) Br))
 ·go_simp;have gr:A2 w.heap.size w bc.drew:=gp.drew;refine(qu (H:=Unit) bc.drew fr kg ((gr.block _ (aG e7)).trans e7)).mono ?_;rintro e ba ⟨rfl,cB,am⟩;have jn:bc.drew.heap.size=w.heap.size+2:=j4;rw[jn]at cB am;have dq:A2 w.heap.size w ba:=gr.trans (am.mono (by omega));have a4:w.heap.size+2<=ba.heap.size:=by have:=am.size;omega
  have lc:=cB.lt;refine E _ _ (dm ((am.block _ (by omega)).trans d6)) (fun hS=>?_);clear E a2;try simp only[Act.put,aD,aE,aF]
  simp only[jn];refine bG 2 (.agg #[.string s,.map (M (w.heap.size+2)),.int .i64 0,.int .i64 0,.int .i64 1,.bool Ax]) rfl rfl (by kernel_rfl) (fun _ _ _=>id) hS (fun w' j6=>by go_simp) ?_;simp only[B0];refine Bs (rs:=[3]) (by kernel_rfl) (by simp) (A5 rfl (fun a2 E=>?_) Br);go_simp;refine E _ _ ((aj ((ah ba.heap.size ba).alloc (ag _) _) hS)) (fun hS=>?_);clear E a2;refine Bs (rs:=[4]) (by kernel_rfl) (by simp) (A5 rfl (fun a2 E=>?_) Br);go_simp;have K:Ad1 w C s ba.heap.size (w.heap.size+2) (ba.alloc (.cells #[.string s,.map (M (w.heap.size+2)),.int .i64 0,.int .i64 0,.int .i64 1,.bool Ax] 117)):=
   ⟨dq.alloc dq.size _,(dg _ _ _ (by omega)).trans ((am.block _ (by omega)).trans i9),(dg _ _ _ (by omega)).trans ((am.block _ (by omega)).trans d6),aA ba _,cB.alloc _,by omega,by omega⟩
  refine E _ _ (dm K.b1) (fun hS=>?_);clear E a2;refine wpAnyH_done (by kernel_rfl) ?_ _;exact gu _ _ _ K
 ·go_simp;have gr:A2 w.heap.size w bc.drew:=gp.drew;obtain⟨WA,fa⟩:=az ((bc.alloc (.cells #[.string ⟨#[]⟩,.map U,.int .i64 0,.int .i64 0,.int .i64 0,.bool Ax] 117)).drew);have et:A2 (w.heap.size+2) bc WA:=by rw[<-fa];exact((ah _ bc).alloc (by omega) _).drew
  have ka:WA.heap.size=w.heap.size+3:=by rw[<-fa];show(bc.alloc _).heap.size=_;simp;omega
  have kE:WA.heap[w.heap.size+2]?=M (.cells #[.string ⟨#[]⟩,.map U,.int .i64 0,.int .i64 0,.int .i64 0,.bool Ax] 117 (0,0)):=by rw[<-fa,<-j4];exact aA bc _
  rw[fa];refine E _ _ (aj (et.mono (by omega)) (dm d6)) (fun hS=>?_);clear E a2;refine Bs (rs:=[1]) (by kernel_rfl) (by simp) (A5 rfl (fun a2 E=>?_) Br);go_simp;have i1:A2 w.heap.size w WA:=gp.trans (et.mono (by omega));refine(qu (H:=Unit) WA fr kg ((i1.block _ (aG e7)).trans e7)).mono ?_;rintro e ba ⟨rfl,cB,am⟩;rw[ka]at cB am;have dq:A2 w.heap.size w ba:=i1.trans (am.mono (by omega));have lc:=cB.lt;refine E _ _ (aj (am.mono (by omega)) hS) (fun hS=>?_);clear E a2;try simp only[Act.put,aD,aE,aF]
  simp only[ka];refine bG 2 (.agg #[.string s,.map (M (w.heap.size+3)),.int .i64 0,.int .i64 0,.int .i64 1,.bool Ax]) rfl rfl (by kernel_rfl) (fun _ _ _=>id) hS (fun w' j6=>by go_simp) ?_;simp only[B0];have g9:=(am.block _ (by omega)).trans kE;refine Bs (rs:=[4]) (by kernel_rfl) (by simp) (A5 rfl (fun a2 E=>?_) Br);obtain⟨m0,m1,m2,m3,m4,m5⟩:=gg g9;obtain⟨m6,b6,b7,dn,m7,m8⟩:=pc g9;go_simp;have af:=amB ba (w.heap.size+2) (.string s) (.map (M (w.heap.size+3))) (.int .i64 0) (.int .i64 0) (.int .i64 1) (.bool Ax);have K:Ad1 w C s (w.heap.size+2) (w.heap.size+3) (six ba (w.heap.size+2) (.string s) (.map (M (w.heap.size+3))) (.int .i64 0) (.int .i64 0) (.int .i64 1) (.bool Ax)):=by
   have a4:=am.size;refine⟨dq.grown af dq.size (fun b3 e=>by cases e;omega),?_,?_,F5 g9 _ _ _ _ _ _,cB.kept af (by simp),by omega,by omega⟩
   ·exact(af.block _ (by omega) (by simp)).trans ((am.block _ (by omega)).trans ((et.block _ (by omega)).trans i9))
   ·exact(af.block _ (by omega) (by simp)).trans ((am.block _ (by omega)).trans ((et.block _ (by omega)).trans d6))
  refine E _ _ (dm K.b1) (fun hS=>?_);clear E a2;refine wpAnyH_done (by kernel_rfl) ?_ _;exact gu _ _ _ K
theorem amD(z:Int)(w:B1):(Instr.typeAssert (E1 61 (E2 #[V Y z])) 20 61 Z).run B3 w= .ok (F1 #[E2 #[V Y z],B4 Z]) w:=by kernel_rfl
theorem amE(w:B1):(Instr.typeAssert .nilIface 20 61 Z).run B3 w= .ok (F1 #[E2 #[V Y 0],B4 Ax]) w:=by kernel_rfl
def acs(N a:Nd):Bool:=gy a.k&&decide (jm a<=mj N)
def Hw(N a:Nd):Bool:=gy a.k&&decide (mj a<jm N)
def zz(N:Nd):ByteArray:=⟨#[32]⟩++fy (kC N)++⟨#[32]⟩
theorem lm{P:Program}{e:Region.Mode}{b:Array Oper}{Q:Exit->Act->B1->Prop}{S:B1->Prop}(i:Nat)(f:Tmp){g:Oper}{fuel:Nat}{d:Array Bool}{a:Act}(m:b[i]?=M g)(j:g.dst=M f)
  (o:Region.noSelect b=Z) (l:Region.free e b d i=Z) (n:(Region.ready e b d).contains i=Z)
  (k:∀c a w,Q (.panic c) (a.put (M f) O) w->Q (.panic c) a w) (p:Region.wanted g (yielded b a.tmps)=Ax) (hS:S w)
  (h:wpAnyH P e b Q S fuel (d.setIfInBounds i Z) (a.put (M f) O) w):wpAnyH P e b Q S (fuel+1) d a w:=
 wpAnyH_take m o l n (by rw[j];exact k) (Or.inr ⟨p,rfl⟩) hS (by rw[j];exact h)
structure Ix (w0:B1) (vb:Nat) (w:B1) (p q r:Nat) (ik il ir ak al ar bk bl br:Int) (T:ByteArray) (W:B1):Prop where
 ps:Ps w0 vb T W
 kq:Kq w0.heap.size w W
 ba:eA p W ik il ir
 bb:eA q W ak al ar
 bc:eA r W bk bl br
theorem eA.kq{k:Nat}{x c z:Int}(h:eA k W x c z)(q:Kq b W W')(d:k≠b):eA k W' x c z:=
 (q.block k (ai h) d (fun e f a=>by unfold eA at h;rw[h]at a;cases a)).trans h
theorem Ix.below{l:Nat}{r:Nat}{i j k b c d e f g:Int}{T:ByteArray}(h:Ix w0 l w p q r i j k b c d e f g T W)(a:A2 W.heap.size W W'):Ix w0 l w p q r i j k b c d e f g T W':=
 ⟨h.ps.below a,h.kq.trans (Kq.of_below a),(a.block _ (ai h.ba)).trans h.ba,(a.block _ (ai h.bb)).trans h.bb,(a.block _ (ai h.bc)).trans h.bc⟩
theorem Ix.next{b:Nat}{r:Nat}{l m n d e f g i j:Int}{T c:ByteArray}(h:Ix w0 b w p q r l m n d e f g i j T W)(a:p≠w0.heap.size/\q≠w0.heap.size/\r≠w0.heap.size)(ps:Ps w0 b c W')(k:Kq w0.heap.size W W'):Ix w0 b w p q r l m n d e f g i j c W':=
 ⟨ps,h.kq.trans k,h.ba.kq k a.1,h.bb.kq k a.2.1,h.bc.kq k a.2.2⟩
theorem aj1(b:B1)(h:Nat)(e:List Nd)(a0:List Im)(base:Nat)(cv:Fs)(cg:Tp b e a0 base cv)(ck:th b)(ec:qv b)(t:Nat)(i:Nat)(c7:i<e.length)(eh:gy (ae e i).k=Z)(cs:∀j:Nat,j<e.length->(ae e j).k=31->1<=(ae e j).op/\(ae e j).op<=18)
  (af:Nat) (c8:(ae e i).ks[0]?=M (af:Int)) (em:af<e.length) (v:ByteArray) (ef:DF b h a0 t (af:Int) v) (am:Nat) (cr:(ae e i).ks[1]?=M (am:Int)) (eq:am<e.length) (y:ByteArray) (eg:DF b h a0 t (am:Int) y)
  (fa:kC (ae e i)<=100/\0<=kC (ae e i)) (fb:(fy (kC (ae e i))).size<=100):
  Pw b h 64 #[vP h,gG b t,nV (lj a0 i)] ((if acs (ae e i) (ae e af)=Z then gi v else v)++zz (ae e i)++(if Hw (ae e i) (ae e am)=Z then gi y else y)):=by
 intro a6 A a;have cI:C2 (∀n,A2 b.heap.size b n->G0 B3 119 #[nV (lj a0 i)] n fun z c=>z= .returned (F1 #[E2 #[V Y (kC (ae e i)),V Y (mj (ae e i)),V Y (jm (ae e i))],B4 (gy (ae e i).k)])/\A2 n.heap.size n c):=fun n a8=>qp b e a0 base cv cg ck i c7 (cs i c7) n a8;have cB:C2 (∀n,A2 b.heap.size b n->G0 B3 119 #[nV (lj a0 (af:Int))] n fun z c=>z= .returned (F1 #[E2 #[V Y (kC (ae e af)),V Y (mj (ae e af)),V Y (jm (ae e af))],B4 (gy (ae e af).k)])/\A2 n.heap.size n c):=fun n a8=>qp b e a0 base cv cg ck af em (cs af em) n a8;have cF:C2 (∀n,A2 b.heap.size b n->G0 B3 119 #[nV (lj a0 (am:Int))] n fun z c=>z= .returned (F1 #[E2 #[V Y (kC (ae e am)),V Y (mj (ae e am)),V Y (jm (ae e am))],B4 (gy (ae e am).k)])/\A2 n.heap.size n c):=fun n a8=>qp b e a0 base cv cg ck am eq (cs am eq) n a8;have d4:C2 (∀n,A2 b.heap.size b n->G0 B3 121 #[V Y (kC (ae e i))] n fun z c=>z= .returned (B6 (fy (kC (ae e i))))/\A2 n.heap.size n c):=fun n a8=>(qw (kC (ae e i)) (by omega) (by omega) n (ec.below a8 (ag _))).mono fun z c ⟨ev,ex⟩=>⟨ev,by rw[ex];exact ah _ _⟩;have c0:C2 (∀bo,Pw b h 120 #[vP h,gG b t,nV (lj a0 (af:Int)),B4 bo] (if bo=Z then gi v else v)):=fun bo=>ql b h t _ v bo ef;have b9:C2 (∀bo,Pw b h 120 #[vP h,gG b t,nV (lj a0 (am:Int)),B4 bo] (if bo=Z then gi y else y)):=fun bo=>ql b h t _ y bo eg;have c1:C2 (Pw b h 335 #[na b t,B6 (zz (ae e i))] (zz (ae e i))):=jB b h t _ (by unfold zz;simp only[ay];show 1+_+1<=_;omega);obtain⟨c3,fz,ff,b4,ch,et,b3⟩:=vF cg c7;have fc:=fun A=>da c3 A;have fq:=fun A=>pq b.heap.size (eB t) A;have fu:=fun A=>xa b.heap.size (eB t) A;have fr:=fun A=>py (de (ae e i).k) c3 A;obtain⟨l,rfl,e7,_⟩:=b3.ks.get cr;have fm:(0:Int)<(b4:Int):=by have:=qC c8;have:=b3.hn;omega
 have fn:0<b4:=by omega
 have fo:(1:Int)<(b4:Int):=by have:=qC cr;have:=b3.hn;omega
 obtain⟨a5,df⟩:∃dn,nV (lj a0 (af:Int))=dn:=⟨_,rfl⟩;obtain⟨ao,dk⟩:∃dn,nV (lj a0 (am:Int))=dn:=⟨_,rfl⟩;have ca:C2 (∀n,A2 b.heap.size b n->n.cell? ⟨c3,5,U⟩=M (F2 (M l) b4 ch)/\n.cell? l=M a5/\n.cell? ⟨l.block,l.off+1,U⟩=M ao):=fun n a8=>⟨(b3.cells a8).2.1,by rw[<-df];obtain⟨_,z,_,a9⟩:=(b3.ks.below a8).get c8;cases z;simpa [Addr.add] using a9,by rw[<-dk];obtain⟨_,z,_,a9⟩:=(b3.ks.below a8).get cr;cases z;exact CD a9 (by decide)⟩;rw[df]at cB c0;rw[dk]at cF b9;rw[et]at cI⊢;have b7:C2 (Ps b h a6 A/\Kq b.heap.size A A):=⟨a,Kq.refl _ _⟩;obtain⟨dq,ds,dz⟩:=ca.out _ a.pg.bel;rw[eh]at cI;obtain⟨cx,ea⟩:∃cw,gy (ae e af).k=cw:=⟨_,rfl⟩;obtain⟨cc,eb⟩:∃cw,gy (ae e am).k=cw:=⟨_,rfl⟩;unfold acs Hw zz;unfold zz at c1;rw[ea]at cB⊢;rw[eb]at cF⊢;generalize mj (ae e i)=q at *;generalize jm (ae e i)=r at *;generalize kC (ae e i)=p at *;generalize kC (ae e af)=K at *;generalize mj (ae e af)=L at *;generalize jm (ae e af)=o at *;generalize kC (ae e am)=a1 at *;generalize mj (ae e am)=B at *;generalize jm (ae e am)=a2 at *;generalize fy p=bd at *;obtain⟨a3,e8⟩:∃c4,decide (o<=q)=c4:=⟨_,rfl⟩;obtain⟨a4,e9⟩:∃c4,decide (B<r)=c4:=⟨_,rfl⟩;rw[e8,e9];obtain⟨c2,c5⟩:∃c2,(if(cx&&a3)=Z then gi v else v)++((⟨#[32]⟩:ByteArray)++bd++⟨#[32]⟩)++(if(cc&&a4)=Z then gi y else y)=c2:=⟨_,rfl⟩;rw[c5];have cf:C2 ((if(cx&&a3)=Z then gi v else v)++((⟨#[32]⟩:ByteArray)++bd++⟨#[32]⟩)++(if(cc&&a4)=Z then gi y else y)=c2):=c5;clear c5;have fg:¬9223372036854775807<1+bd.size:=by omega
 have fk:¬9223372036854775807<1+bd.size+1:=by omega
 generalize jy (de (ae e i).k)=fv at *;unfold gG na at *;generalize eB t=bs at *;clear a b3 et eh cs c8 cr ef eg fa fb ea eb df dk e7 ck ec;go_enter Tryz.func64,Tryz.ntmps64;go_wp2_with (first|(go_at_call 336;refine(fc _).mono ?_;rintro z c ⟨rfl,g⟩;subst c)|(go_at_call 119;fail));refine(cI.out _ b7.out.1.pg.bel).mono ?_;rintro z d ⟨rfl,cl⟩;have c6:A2 A.heap.size A (d.alloc (A9 #[V Y p,V Y q,V Y r] 168)):=cl.trans (((ah _ d).alloc (ag _) _).mono cl.size);have d6:eA d.heap.size (d.alloc (A9 #[V Y p,V Y q,V Y r] 168)) p q r:=aA d _;have bt:C2 (Ps b h a6 (d.alloc (A9 #[V Y p,V Y q,V Y r] 168))/\Kq b.heap.size A (d.alloc (A9 #[V Y p,V Y q,V Y r] 168))/\eA d.heap.size (d.alloc (A9 #[V Y p,V Y q,V Y r] 168)) p q r):=⟨b7.out.1.below c6,Kq.of_below c6,d6⟩;obtain⟨dq,ds,dz⟩:=ca.out _ bt.out.1.pg.bel;have ct:=cl.size;clear c6 d6 cl;go_wp2_with (go_at_call 119;fail);refine(cB.out _ bt.out.1.pg.bel).mono ?_;rintro z m ⟨rfl,cm⟩;have cq:A2 (d.alloc (A9 #[V Y p,V Y q,V Y r] 168)).heap.size (d.alloc (A9 #[V Y p,V Y q,V Y r] 168)) (m.alloc (A9 #[V Y K,V Y L,V Y o] 168)):=cm.trans (((ah _ m).alloc (ag _) _).mono cm.size);have d8:eA m.heap.size (m.alloc (A9 #[V Y K,V Y L,V Y o] 168)) K L o:=aA m _;have d7:eA d.heap.size (m.alloc (A9 #[V Y K,V Y L,V Y o] 168)) p q r:=(cq.block _ (ai bt.out.2.2)).trans bt.out.2.2;have bf:C2 (Ps b h a6 (m.alloc (A9 #[V Y K,V Y L,V Y o] 168))/\Kq b.heap.size A (m.alloc (A9 #[V Y K,V Y L,V Y o] 168))/\eA d.heap.size (m.alloc (A9 #[V Y K,V Y L,V Y o] 168)) p q r/\eA m.heap.size (m.alloc (A9 #[V Y K,V Y L,V Y o] 168)) K L o):=⟨bt.out.1.below cq,bt.out.2.1.trans (Kq.of_below cq),d7,d8⟩;obtain⟨dq,ds,dz⟩:=ca.out _ bf.out.1.pg.bel;have c9:d.heap.size<m.heap.size:=by have:=cm.size;rw[cD]at this;omega
 clear cq d8 d7 cm;go_wp2_with (go_at_call 119;fail);refine(cF.out _ bf.out.1.pg.bel).mono ?_;rintro z w ⟨rfl,cn⟩;have cb:A2 (m.alloc (A9 #[V Y K,V Y L,V Y o] 168)).heap.size (m.alloc (A9 #[V Y K,V Y L,V Y o] 168)) (w.alloc (A9 #[V Y a1,V Y B,V Y a2] 168)):=cn.trans (((ah _ w).alloc (ag _) _).mono cn.size);have d9:eA w.heap.size (w.alloc (A9 #[V Y a1,V Y B,V Y a2] 168)) a1 B a2:=aA w _;have es:m.heap.size<w.heap.size:=by have:=cn.size;rw[cD]at this;omega
 have bh:C2 (Ix b h A d.heap.size m.heap.size w.heap.size p q r K L o a1 B a2 a6 (w.alloc (A9 #[V Y a1,V Y B,V Y a2] 168))):=⟨bf.out.1.below cb,bf.out.2.1.trans (Kq.of_below cb),(cb.block _ (ai bf.out.2.2.1)).trans bf.out.2.2.1,(cb.block _ (ai bf.out.2.2.2)).trans bf.out.2.2.2,d9⟩;have ei:d.heap.size≠b.heap.size:=by have:=b7.out.1.pg.lt;have:=ct;omega
 have ek:m.heap.size≠b.heap.size:=by have:=b7.out.1.pg.lt;have:=ai bt.out.2.2;have:=ct;have:=c9;omega
 have el:w.heap.size≠b.heap.size:=by have:=b7.out.1.pg.lt;have:=ct;have:=c9;have:=es;omega
 have x:C2 (∀d5 f,Ix b h A d.heap.size m.heap.size w.heap.size p q r K L o a1 B a2 d5 f->f.cell? l=M a5/\f.cell? ⟨l.block,l.off+1,U⟩=M ao/\f.cell? ⟨d.heap.size,0,U⟩=M (V Y p)/\f.cell? ⟨d.heap.size,1,U⟩=M (V Y q)/\f.cell? ⟨d.heap.size,2,U⟩=M (V Y r)/\f.cell? ⟨m.heap.size,2,U⟩=M (V Y o)/\f.cell? ⟨w.heap.size,1,U⟩=M (V Y B)):=fun d5 f a9=>⟨(ca.out _ a9.ps.pg.bel).2.1,(ca.out _ a9.ps.pg.bel).2.2,a9.ba.cells.1,a9.ba.cells.2.1,a9.ba.cells.2.2.1,a9.bb.cells.2.2.1,a9.bc.cells.2.1⟩;obtain⟨bw,bx,bA,bD,bE,bF,b0⟩:=x.out _ _ bh.out;have an:C2 (d.heap.size≠b.heap.size/\m.heap.size≠b.heap.size/\w.heap.size≠b.heap.size):=⟨ei,ek,el⟩;clear cb d9 cn dq ds dz ei ek el ct c9 es bt bf;cases cx
 ·skip
  have b8:=c0.out (Ax);have cz:C2 (Pw b h 120 #[vP h,E1 59 (E2 #[B7 (M ⟨b.heap.size,0,U⟩),B6 bs]),a5,B4 Ax] (if(Ax&&a3)=Z then gi v else v)):=b8;clear b8;go_wp2_with fail;refine E0 (S:=fun c=>c.cell? l=M a5/\c.cell? ⟨l.block,l.off+1,U⟩=M ao/\c.cell? ⟨d.heap.size,0,U⟩=M (V Y p)/\c.cell? ⟨d.heap.size,1,U⟩=M (V Y q)/\c.cell? ⟨d.heap.size,2,U⟩=M (V Y r)/\c.cell? ⟨m.heap.size,2,U⟩=M (V Y o)/\c.cell? ⟨w.heap.size,1,U⟩=M (V Y B)) (by kernel_rfl) (x.out _ _ (bh.out.below (aw (ah _ _)))) (fun hS=>?_);refine fC 0 37 (vP h) rfl rfl (by kernel_rfl) (by kernel_rfl) (by kernel_rfl) (fun _ _ _ a=>a) (by rfl) hS (fun c g=>by obtain⟨C,E,F,G,H,I,J⟩:=g;go_simp) ?_;try simp only[Act.put,aD,aE,aF]
  refine fC 1 38 (E1 59 (E2 #[B7 (M ⟨b.heap.size,0,U⟩),B6 bs])) rfl rfl (by kernel_rfl) (by kernel_rfl) (by kernel_rfl) (fun _ _ _ a=>a) (by rfl) hS (fun c g=>by obtain⟨C,E,F,G,H,I,J⟩:=g;go_simp) ?_;try simp only[Act.put,aD,aE,aF]
  refine fC 2 39 (F2 (M l) b4 ch) rfl rfl (by kernel_rfl) (by kernel_rfl) (by kernel_rfl) (fun _ _ _ a=>a) (by rfl) hS (fun c g=>by obtain⟨C,E,F,G,H,I,J⟩:=g;go_simp) ?_;try simp only[Act.put,aD,aE,aF]
  refine fC 3 40 (B7 (M l)) rfl rfl (by kernel_rfl) (by kernel_rfl) (by kernel_rfl) (fun _ _ _ a=>a) (by rfl) hS (fun c g=>by obtain⟨C,E,F,G,H,I,J⟩:=g;go_simp) ?_;try simp only[Act.put,aD,aE,aF]
  refine fC 4 41 a5 rfl rfl (by kernel_rfl) (by kernel_rfl) (by kernel_rfl) (fun _ _ _ a=>a) (by rfl) hS (fun c g=>by obtain⟨C,E,F,G,H,I,J⟩:=g;go_simp) ?_;try simp only[Act.put,aD,aE,aF]
  refine fC 5 42 (B4 Ax) rfl rfl (by kernel_rfl) (by kernel_rfl) (by kernel_rfl) (fun _ _ _ a=>a) (by rfl) hS (fun c g=>by obtain⟨C,E,F,G,H,I,J⟩:=g;go_simp) ?_;try simp only[Act.put,aD,aE,aF]
  refine fC 6 43 (B4 Ax) rfl rfl (by kernel_rfl) (by kernel_rfl) (by kernel_rfl) (fun _ _ _ a=>a) (by rfl) hS (fun c g=>by obtain⟨C,E,F,G,H,I,J⟩:=g;go_simp) ?_;try simp only[Act.put,aD,aE,aF]
  refine lm 7 44 rfl rfl (by kernel_rfl) (by kernel_rfl) (by kernel_rfl) (fun _ _ _ a=>a) (by rfl) hS ?_;try simp only[Act.put,aD,aE,aF]
  refine lm 8 45 rfl rfl (by kernel_rfl) (by kernel_rfl) (by kernel_rfl) (fun _ _ _ a=>a) (by rfl) hS ?_;try simp only[Act.put,aD,aE,aF]
  refine lm 9 46 rfl rfl (by kernel_rfl) (by kernel_rfl) (by kernel_rfl) (fun _ _ _ a=>a) (by rfl) hS ?_;try simp only[Act.put,aD,aE,aF]
  refine lm 10 47 rfl rfl (by kernel_rfl) (by kernel_rfl) (by kernel_rfl) (fun _ _ _ a=>a) (by rfl) hS ?_;try simp only[Act.put,aD,aE,aF]
  refine lm 11 48 rfl rfl (by kernel_rfl) (by kernel_rfl) (by kernel_rfl) (fun _ _ _ a=>a) (by rfl) hS ?_;try simp only[Act.put,aD,aE,aF]
  refine fC 12 49 (B4 Ax) rfl rfl (by kernel_rfl) (by kernel_rfl) (by kernel_rfl) (fun _ _ _ a=>a) (by rfl) hS (fun c g=>by obtain⟨C,E,F,G,H,I,J⟩:=g;go_simp) ?_;try simp only[Act.put,aD,aE,aF]
  refine Bs (rs:=[13]) (by kernel_rfl) (by simp) (A5 rfl (fun b6 b1=>?_) Br);go_simp;refine(cz.out _ _ (bh.out.below (aw (ah _ _))).ps).mono ?_;rintro z d2 ⟨rfl,u,s⟩;refine b1.out _ _ (x.out _ _ ((bh.out.below (aw (ah _ _))).next an.out u s)) (fun hS=>?_);clear b1 b6;refine wpAnyH_done (by kernel_rfl) ?_ _;all_goals
   have ap:C2 (Ix b h A d.heap.size m.heap.size w.heap.size p q r K L o a1 B a2 (a6++(if(Ax&&a3)=Z then gi v else v)) d2):=((bh.out.below (aw (ah _ _))).next an.out u s);obtain⟨bw,bx,bA,bD,bE,bF,b0⟩:=x.out _ _ ap.out;clear u s;go_wp2_with fail;go_region_held3 (fun f=>f.cell? l=M a5/\f.cell? ⟨l.block,l.off+1,U⟩=M ao/\f.cell? ⟨d.heap.size,0,U⟩=M (V Y p)/\f.cell? ⟨d.heap.size,1,U⟩=M (V Y q)/\f.cell? ⟨d.heap.size,2,U⟩=M (V Y r)/\f.cell? ⟨m.heap.size,2,U⟩=M (V Y o)/\f.cell? ⟨w.heap.size,1,U⟩=M (V Y B)) (first|exact x.out _ _ (ap.out.below (aw (ah _ _)))|exact x.out _ _ ((ap.out.below (aw (ah _ _))).below bn)|exact x.out _ _ (((ap.out.below (aw (ah _ _))).below bn).next an.out u s)|go_keep) (first|(go_at_call 121;refine(d4.out _ (ap.out.below (aw (ah _ _))).ps.pg.bel).mono ?_;rintro z fd ⟨rfl,bn⟩)|(go_at_call 335;refine(c1.out _ _ ((ap.out.below (aw (ah _ _))).below bn).ps).mono ?_;rintro z d3 ⟨rfl,u,s⟩))
   all_goals
    have ad:C2 (Ix b h A d.heap.size m.heap.size w.heap.size p q r K L o a1 B a2 (a6++(if(Ax&&a3)=Z then gi v else v)++(⟨#[32]⟩++bd++⟨#[32]⟩)) d3):=(((ap.out.below (aw (ah _ _))).below bn).next an.out u s);obtain⟨bw,bx,bA,bD,bE,bF,b0⟩:=x.out _ _ ad.out;clear u s;cases cc
    ·skip
     have a7:=b9.out (Ax);have b2:C2 (Pw b h 120 #[vP h,E1 59 (E2 #[B7 (M ⟨b.heap.size,0,U⟩),B6 bs]),ao,B4 Ax] (if(Ax&&a4)=Z then gi y else y)):=a7;clear a7;go_wp2_with fail;refine E0 (S:=fun c=>c.cell? l=M a5/\c.cell? ⟨l.block,l.off+1,U⟩=M ao/\c.cell? ⟨d.heap.size,0,U⟩=M (V Y p)/\c.cell? ⟨d.heap.size,1,U⟩=M (V Y q)/\c.cell? ⟨d.heap.size,2,U⟩=M (V Y r)/\c.cell? ⟨m.heap.size,2,U⟩=M (V Y o)/\c.cell? ⟨w.heap.size,1,U⟩=M (V Y B)) (by kernel_rfl) (x.out _ _ (ad.out.below (aw (ah _ _)))) (fun hS=>?_);refine fC 0 61 (vP h) rfl rfl (by kernel_rfl) (by kernel_rfl) (by kernel_rfl) (fun _ _ _ a=>a) (by rfl) hS (fun c g=>by obtain⟨C,E,F,G,H,I,J⟩:=g;go_simp) ?_;try simp only[Act.put,aD,aE,aF]
     refine fC 1 62 (E1 59 (E2 #[B7 (M ⟨b.heap.size,0,U⟩),B6 bs])) rfl rfl (by kernel_rfl) (by kernel_rfl) (by kernel_rfl) (fun _ _ _ a=>a) (by rfl) hS (fun c g=>by obtain⟨C,E,F,G,H,I,J⟩:=g;go_simp) ?_;try simp only[Act.put,aD,aE,aF]
     refine fC 2 63 (F2 (M l) b4 ch) rfl rfl (by kernel_rfl) (by kernel_rfl) (by kernel_rfl) (fun _ _ _ a=>a) (by rfl) hS (fun c g=>by obtain⟨C,E,F,G,H,I,J⟩:=g;go_simp) ?_;try simp only[Act.put,aD,aE,aF]
     refine fC 3 64 (B7 (M ⟨l.block,l.off+1,U⟩)) rfl rfl (by kernel_rfl) (by kernel_rfl) (by kernel_rfl) (fun _ _ _ a=>a) (by rfl) hS (fun c g=>by obtain⟨C,E,F,G,H,I,J⟩:=g;go_simp) ?_;try simp only[Act.put,aD,aE,aF]
     refine fC 4 65 ao rfl rfl (by kernel_rfl) (by kernel_rfl) (by kernel_rfl) (fun _ _ _ a=>a) (by rfl) hS (fun c g=>by obtain⟨C,E,F,G,H,I,J⟩:=g;go_simp) ?_;try simp only[Act.put,aD,aE,aF]
     refine fC 5 66 (B4 Ax) rfl rfl (by kernel_rfl) (by kernel_rfl) (by kernel_rfl) (fun _ _ _ a=>a) (by rfl) hS (fun c g=>by obtain⟨C,E,F,G,H,I,J⟩:=g;go_simp) ?_;try simp only[Act.put,aD,aE,aF]
     refine fC 6 67 (B4 Ax) rfl rfl (by kernel_rfl) (by kernel_rfl) (by kernel_rfl) (fun _ _ _ a=>a) (by rfl) hS (fun c g=>by obtain⟨C,E,F,G,H,I,J⟩:=g;go_simp) ?_;try simp only[Act.put,aD,aE,aF]
     refine lm 7 68 rfl rfl (by kernel_rfl) (by kernel_rfl) (by kernel_rfl) (fun _ _ _ a=>a) (by rfl) hS ?_;try simp only[Act.put,aD,aE,aF]
     refine lm 8 69 rfl rfl (by kernel_rfl) (by kernel_rfl) (by kernel_rfl) (fun _ _ _ a=>a) (by rfl) hS ?_;try simp only[Act.put,aD,aE,aF]
     refine lm 9 70 rfl rfl (by kernel_rfl) (by kernel_rfl) (by kernel_rfl) (fun _ _ _ a=>a) (by rfl) hS ?_;try simp only[Act.put,aD,aE,aF]
     refine lm 10 71 rfl rfl (by kernel_rfl) (by kernel_rfl) (by kernel_rfl) (fun _ _ _ a=>a) (by rfl) hS ?_;try simp only[Act.put,aD,aE,aF]
     refine lm 11 72 rfl rfl (by kernel_rfl) (by kernel_rfl) (by kernel_rfl) (fun _ _ _ a=>a) (by rfl) hS ?_;try simp only[Act.put,aD,aE,aF]
     refine fC 12 73 (B4 Ax) rfl rfl (by kernel_rfl) (by kernel_rfl) (by kernel_rfl) (fun _ _ _ a=>a) (by rfl) hS (fun c g=>by obtain⟨C,E,F,G,H,I,J⟩:=g;go_simp) ?_;try simp only[Act.put,aD,aE,aF]
     refine Bs (rs:=[13]) (by kernel_rfl) (by simp) (A5 rfl (fun b6 b1=>?_) Br);go_simp;refine(b2.out _ _ (ad.out.below (aw (ah _ _))).ps).mono ?_;rintro z b5 ⟨rfl,u,s⟩;refine b1.out _ _ (x.out _ _ ((ad.out.below (aw (ah _ _))).next an.out u s)) (fun hS=>?_);clear b1 b6;refine wpAnyH_done (by kernel_rfl) ?_ _;all_goals
      have av:C2 (Ix b h A d.heap.size m.heap.size w.heap.size p q r K L o a1 B a2 (a6++(if(Ax&&a3)=Z then gi v else v)++(⟨#[32]⟩++bd++⟨#[32]⟩)++(if(Ax&&a4)=Z then gi y else y)) b5):=((ad.out.below (aw (ah _ _))).next an.out u s);obtain⟨bw,bx,bA,bD,bE,bF,b0⟩:=x.out _ _ av.out;clear u s;go_wp2_with fail;go_end0
      refine⟨rfl,?_,av.out.kq⟩;have:=av.out.ps;rw[<-cf.out];simpa only[bq] using this
    ·skip
     have a7:=b9.out (a4);have b2:C2 (Pw b h 120 #[vP h,E1 59 (E2 #[B7 (M ⟨b.heap.size,0,U⟩),B6 bs]),ao,B4 a4] (if(Z&&a4)=Z then gi y else y)):=a7;clear a7;go_wp2_with fail;go_region_held3 (fun f=>f.cell? l=M a5/\f.cell? ⟨l.block,l.off+1,U⟩=M ao/\f.cell? ⟨d.heap.size,0,U⟩=M (V Y p)/\f.cell? ⟨d.heap.size,1,U⟩=M (V Y q)/\f.cell? ⟨d.heap.size,2,U⟩=M (V Y r)/\f.cell? ⟨m.heap.size,2,U⟩=M (V Y o)/\f.cell? ⟨w.heap.size,1,U⟩=M (V Y B)) (first|exact x.out _ _ (ad.out.below (aw (ah _ _)))|exact x.out _ _ ((ad.out.below (aw (ah _ _))).next an.out u s)|go_keep) (first|(go_at_call 120;refine(b2.out _ _ (ad.out.below (aw (ah _ _))).ps).mono ?_;rintro z b5 ⟨rfl,u,s⟩))
     all_goals
      have av:C2 (Ix b h A d.heap.size m.heap.size w.heap.size p q r K L o a1 B a2 (a6++(if(Ax&&a3)=Z then gi v else v)++(⟨#[32]⟩++bd++⟨#[32]⟩)++(if(Z&&a4)=Z then gi y else y)) b5):=((ad.out.below (aw (ah _ _))).next an.out u s);obtain⟨bw,bx,bA,bD,bE,bF,b0⟩:=x.out _ _ av.out;clear u s;go_wp2_with fail;go_end0
      refine⟨rfl,?_,av.out.kq⟩;have:=av.out.ps;rw[<-cf.out];simpa only[bq] using this
 ·skip
  have b8:=c0.out (a3);have cz:C2 (Pw b h 120 #[vP h,E1 59 (E2 #[B7 (M ⟨b.heap.size,0,U⟩),B6 bs]),a5,B4 a3] (if(Z&&a3)=Z then gi v else v)):=b8;clear b8;go_wp2_with fail;go_region_held3 (fun f=>f.cell? l=M a5/\f.cell? ⟨l.block,l.off+1,U⟩=M ao/\f.cell? ⟨d.heap.size,0,U⟩=M (V Y p)/\f.cell? ⟨d.heap.size,1,U⟩=M (V Y q)/\f.cell? ⟨d.heap.size,2,U⟩=M (V Y r)/\f.cell? ⟨m.heap.size,2,U⟩=M (V Y o)/\f.cell? ⟨w.heap.size,1,U⟩=M (V Y B)) (first|exact x.out _ _ (bh.out.below (aw (ah _ _)))|exact x.out _ _ ((bh.out.below (aw (ah _ _))).next an.out u s)|go_keep) (first|(go_at_call 120;refine(cz.out _ _ (bh.out.below (aw (ah _ _))).ps).mono ?_;rintro z d2 ⟨rfl,u,s⟩))
  all_goals
   have ap:C2 (Ix b h A d.heap.size m.heap.size w.heap.size p q r K L o a1 B a2 (a6++(if(Z&&a3)=Z then gi v else v)) d2):=((bh.out.below (aw (ah _ _))).next an.out u s);obtain⟨bw,bx,bA,bD,bE,bF,b0⟩:=x.out _ _ ap.out;clear u s;go_wp2_with fail;go_region_held3 (fun f=>f.cell? l=M a5/\f.cell? ⟨l.block,l.off+1,U⟩=M ao/\f.cell? ⟨d.heap.size,0,U⟩=M (V Y p)/\f.cell? ⟨d.heap.size,1,U⟩=M (V Y q)/\f.cell? ⟨d.heap.size,2,U⟩=M (V Y r)/\f.cell? ⟨m.heap.size,2,U⟩=M (V Y o)/\f.cell? ⟨w.heap.size,1,U⟩=M (V Y B)) (first|exact x.out _ _ (ap.out.below (aw (ah _ _)))|exact x.out _ _ ((ap.out.below (aw (ah _ _))).below bn)|exact x.out _ _ (((ap.out.below (aw (ah _ _))).below bn).next an.out u s)|go_keep) (first|(go_at_call 121;refine(d4.out _ (ap.out.below (aw (ah _ _))).ps.pg.bel).mono ?_;rintro z fd ⟨rfl,bn⟩)|(go_at_call 335;refine(c1.out _ _ ((ap.out.below (aw (ah _ _))).below bn).ps).mono ?_;rintro z d3 ⟨rfl,u,s⟩))
   all_goals
    have ad:C2 (Ix b h A d.heap.size m.heap.size w.heap.size p q r K L o a1 B a2 (a6++(if(Z&&a3)=Z then gi v else v)++(⟨#[32]⟩++bd++⟨#[32]⟩)) d3):=(((ap.out.below (aw (ah _ _))).below bn).next an.out u s);obtain⟨bw,bx,bA,bD,bE,bF,b0⟩:=x.out _ _ ad.out;clear u s;cases cc
    ·skip
     have a7:=b9.out (Ax);have b2:C2 (Pw b h 120 #[vP h,E1 59 (E2 #[B7 (M ⟨b.heap.size,0,U⟩),B6 bs]),ao,B4 Ax] (if(Ax&&a4)=Z then gi y else y)):=a7;clear a7;go_wp2_with fail;refine E0 (S:=fun c=>c.cell? l=M a5/\c.cell? ⟨l.block,l.off+1,U⟩=M ao/\c.cell? ⟨d.heap.size,0,U⟩=M (V Y p)/\c.cell? ⟨d.heap.size,1,U⟩=M (V Y q)/\c.cell? ⟨d.heap.size,2,U⟩=M (V Y r)/\c.cell? ⟨m.heap.size,2,U⟩=M (V Y o)/\c.cell? ⟨w.heap.size,1,U⟩=M (V Y B)) (by kernel_rfl) (x.out _ _ (ad.out.below (aw (ah _ _)))) (fun hS=>?_);refine fC 0 61 (vP h) rfl rfl (by kernel_rfl) (by kernel_rfl) (by kernel_rfl) (fun _ _ _ a=>a) (by rfl) hS (fun c g=>by obtain⟨C,E,F,G,H,I,J⟩:=g;go_simp) ?_;try simp only[Act.put,aD,aE,aF]
     refine fC 1 62 (E1 59 (E2 #[B7 (M ⟨b.heap.size,0,U⟩),B6 bs])) rfl rfl (by kernel_rfl) (by kernel_rfl) (by kernel_rfl) (fun _ _ _ a=>a) (by rfl) hS (fun c g=>by obtain⟨C,E,F,G,H,I,J⟩:=g;go_simp) ?_;try simp only[Act.put,aD,aE,aF]
     refine fC 2 63 (F2 (M l) b4 ch) rfl rfl (by kernel_rfl) (by kernel_rfl) (by kernel_rfl) (fun _ _ _ a=>a) (by rfl) hS (fun c g=>by obtain⟨C,E,F,G,H,I,J⟩:=g;go_simp) ?_;try simp only[Act.put,aD,aE,aF]
     refine fC 3 64 (B7 (M ⟨l.block,l.off+1,U⟩)) rfl rfl (by kernel_rfl) (by kernel_rfl) (by kernel_rfl) (fun _ _ _ a=>a) (by rfl) hS (fun c g=>by obtain⟨C,E,F,G,H,I,J⟩:=g;go_simp) ?_;try simp only[Act.put,aD,aE,aF]
     refine fC 4 65 ao rfl rfl (by kernel_rfl) (by kernel_rfl) (by kernel_rfl) (fun _ _ _ a=>a) (by rfl) hS (fun c g=>by obtain⟨C,E,F,G,H,I,J⟩:=g;go_simp) ?_;try simp only[Act.put,aD,aE,aF]
     refine fC 5 66 (B4 Ax) rfl rfl (by kernel_rfl) (by kernel_rfl) (by kernel_rfl) (fun _ _ _ a=>a) (by rfl) hS (fun c g=>by obtain⟨C,E,F,G,H,I,J⟩:=g;go_simp) ?_;try simp only[Act.put,aD,aE,aF]
     refine fC 6 67 (B4 Ax) rfl rfl (by kernel_rfl) (by kernel_rfl) (by kernel_rfl) (fun _ _ _ a=>a) (by rfl) hS (fun c g=>by obtain⟨C,E,F,G,H,I,J⟩:=g;go_simp) ?_;try simp only[Act.put,aD,aE,aF]
     refine lm 7 68 rfl rfl (by kernel_rfl) (by kernel_rfl) (by kernel_rfl) (fun _ _ _ a=>a) (by rfl) hS ?_;try simp only[Act.put,aD,aE,aF]
     refine lm 8 69 rfl rfl (by kernel_rfl) (by kernel_rfl) (by kernel_rfl) (fun _ _ _ a=>a) (by rfl) hS ?_;try simp only[Act.put,aD,aE,aF]
     refine lm 9 70 rfl rfl (by kernel_rfl) (by kernel_rfl) (by kernel_rfl) (fun _ _ _ a=>a) (by rfl) hS ?_;try simp only[Act.put,aD,aE,aF]
     refine lm 10 71 rfl rfl (by kernel_rfl) (by kernel_rfl) (by kernel_rfl) (fun _ _ _ a=>a) (by rfl) hS ?_;try simp only[Act.put,aD,aE,aF]
     refine lm 11 72 rfl rfl (by kernel_rfl) (by kernel_rfl) (by kernel_rfl) (fun _ _ _ a=>a) (by rfl) hS ?_;try simp only[Act.put,aD,aE,aF]
     refine fC 12 73 (B4 Ax) rfl rfl (by kernel_rfl) (by kernel_rfl) (by kernel_rfl) (fun _ _ _ a=>a) (by rfl) hS (fun c g=>by obtain⟨C,E,F,G,H,I,J⟩:=g;go_simp) ?_;try simp only[Act.put,aD,aE,aF]
     refine Bs (rs:=[13]) (by kernel_rfl) (by simp) (A5 rfl (fun b6 b1=>?_) Br);go_simp;refine(b2.out _ _ (ad.out.below (aw (ah _ _))).ps).mono ?_;rintro z b5 ⟨rfl,u,s⟩;refine b1.out _ _ (x.out _ _ ((ad.out.below (aw (ah _ _))).next an.out u s)) (fun hS=>?_);clear b1 b6;refine wpAnyH_done (by kernel_rfl) ?_ _;all_goals
      have av:C2 (Ix b h A d.heap.size m.heap.size w.heap.size p q r K L o a1 B a2 (a6++(if(Z&&a3)=Z then gi v else v)++(⟨#[32]⟩++bd++⟨#[32]⟩)++(if(Ax&&a4)=Z then gi y else y)) b5):=((ad.out.below (aw (ah _ _))).next an.out u s);obtain⟨bw,bx,bA,bD,bE,bF,b0⟩:=x.out _ _ av.out;clear u s;go_wp2_with fail;go_end0
      refine⟨rfl,?_,av.out.kq⟩;have:=av.out.ps;rw[<-cf.out];simpa only[bq] using this
    ·skip
     have a7:=b9.out (a4);have b2:C2 (Pw b h 120 #[vP h,E1 59 (E2 #[B7 (M ⟨b.heap.size,0,U⟩),B6 bs]),ao,B4 a4] (if(Z&&a4)=Z then gi y else y)):=a7;clear a7;go_wp2_with fail;go_region_held3 (fun f=>f.cell? l=M a5/\f.cell? ⟨l.block,l.off+1,U⟩=M ao/\f.cell? ⟨d.heap.size,0,U⟩=M (V Y p)/\f.cell? ⟨d.heap.size,1,U⟩=M (V Y q)/\f.cell? ⟨d.heap.size,2,U⟩=M (V Y r)/\f.cell? ⟨m.heap.size,2,U⟩=M (V Y o)/\f.cell? ⟨w.heap.size,1,U⟩=M (V Y B)) (first|exact x.out _ _ (ad.out.below (aw (ah _ _)))|exact x.out _ _ ((ad.out.below (aw (ah _ _))).next an.out u s)|go_keep) (first|(go_at_call 120;refine(b2.out _ _ (ad.out.below (aw (ah _ _))).ps).mono ?_;rintro z b5 ⟨rfl,u,s⟩))
     all_goals
      have av:C2 (Ix b h A d.heap.size m.heap.size w.heap.size p q r K L o a1 B a2 (a6++(if(Z&&a3)=Z then gi v else v)++(⟨#[32]⟩++bd++⟨#[32]⟩)++(if(Z&&a4)=Z then gi y else y)) b5):=((ad.out.below (aw (ah _ _))).next an.out u s);obtain⟨bw,bx,bA,bD,bE,bF,b0⟩:=x.out _ _ av.out;clear u s;go_wp2_with fail;go_end0
      refine⟨rfl,?_,av.out.kq⟩;have:=av.out.ps;rw[<-cf.out];simpa only[bq] using this
section
variable (w0 : World) (vb : Nat) (L : List Im) (t : Nat)
inductive MD (N:Nd) (i:Nat):FuncId->UInt8->ByteArray->Prop
 |tab {X:ByteArray}:LX w0 vb L t N.ks X->MD N i 69 125 (⟨#[123]⟩++X)
 |call {q:Nat}{E X:ByteArray}:N.ks[0]?=some (q:Int)->Hid (VX w0 vb L t 124 q E)->LX w0 vb L t (N.ks.drop 1) X->MD N i 68 41 (E++⟨#[40]⟩++X)
end
theorem m_d{c:Nat}{p:List Nd}{m:List Im}{ak:Fs}(s:Tp w0 p m base ak){t:Nat}(a2:t<=100000)(L:i<p.length){N:Nd}(H:ae p i=N)(ap:N.ks.length<=1048576){f:FuncId}{z:UInt8}{u:ByteArray}(I:MD w0 c m t N i f z u):
  Pw w0 c f #[vP c,gG w0 t,nV (lj m i)] (u++⟨#[z]⟩):=by
 intro e a d;obtain⟨v,a7,al,g,w,o,b⟩:=vF s L;rw[H]at o b;have y:=fun a=>da v a;have ar:=fun a=>pq w0.heap.size (eB t) a;have a1:=fun a=>xa w0.heap.size (eB t) a;have a0:=b.hn;have av:=fun a=>py (de N.k) v a;have F:C2 (∀h:ByteArray,h.size<=100000000->Pw w0 c 335 #[na w0 t,B6 h] h):=fun h d=>jB w0 c t h d;have E:C2 (∀e a,Ps w0 c e a->∀l,CallsD B3 335 #[na w0 t,B6 ⟨#[z]⟩] l a fun x A B=>A=l/\(x= .returned (F1 #[])/\Ps w0 c (e++⟨#[z]⟩) B/\Kq w0.heap.size a B)):=fun e a d l=>mh w0 c t _ e (by show(1:Nat)<=100000000;decide) l a d;have a3:=fun j (n:A2 w0.heap.size w0 j)=>(b.cells n).1;have a4:=fun j (n:A2 w0.heap.size w0 j)=>(b.cells n).2.1;have G:=d.pg.bel;have P:C2 (Pq w0 c a e a):=⟨d,Kq.refl _ _⟩;have C:=aq b;cases I
 case' tab hX=>have r:=aq (hX _ b.ks)
 case' call hq _ hX=>
  obtain⟨q,rfl,am, -⟩:=b.ks.get hq;have an:=qC hq;have ao:(0:Int)<(g:Int):=by omega
  have J:(1:Int)<=(g:Int)/\1<=g:=by omega
  obtain⟨_,_⟩:=J;have a9:=C.kid0 hq;by_cases K:w=1
  case' pos=>
   obtain rfl:g=1:=by omega
   subst K;have r:=aq (hX (F2 (M q) 0 0) (.inl ⟨by rw[List.drop_eq_nil_iff];omega,_,_,rfl⟩))
  case' neg=>have r:=aq (hX (F2 (M ⟨q.block,q.off+1,U⟩) (g-1) (w-1)) (b.ks.drop 1 (g-1) (by omega) (by omega)))
 all_goals
  rw[o];generalize jy (de N.k)=a6 at *;try unfold VX at *
  unfold gG na at *;generalize eB t=a5 at *;clear d b o s;first|go_enter_defers Tryz.func69,Tryz.ntmps69|go_enter_defers Tryz.func68,Tryz.ntmps68
  repeat (go_wp2_with (go_at_call 336;refine dB (y _) ?_);refine Pq.stp P (ah _ _) (by with_reducible first|assumption|exact aq (F.out _ (by decide))) ?_;intro j P G)
  go_wp2_with (go_at_call 336;refine dB (y _) ?_);refine lI (f:=335) (by simp) (sG _ _ _ _) ?_;refine(E.out _ _ P.ps .returning).mono ?_;rintro x A a8 ⟨rfl,rfl,af,ad⟩;refine⟨_,dJ rfl _ _ _,rfl,?_,P.kq.trans ad⟩;simpa only[bq] using af
