import Derived.Test.YthkcmkmkapijkaaGreatDoorh09
import Derived.Test.YthkcmkmkapijkaaGreatDoorh07
set_option linter.all false
set_option maxRecDepth 100000
set_option maxHeartbeats 6400000
open List renaming length->M,replicate->Q
open Option renaming some->T,none->A1
open Go.RowKit renaming Below->V,intOf->Y,Hid->A0
open Go.Value renaming slice->X,string->Ax
namespace Go.Proofs.YthkcmkmkapijkaaGreatDoor
variable{B j k m n:Nat}{W W':World}{c:zLN}{r:Bool}{tk:Nat->Tk}
def Kd.pos{a}(h:Kd tk n k a j):k<=j/\j<n:=by
 induction h with
 |stop _ h=>omega|go _ _ _ _ b=>omega
def Prm.pos{a}(h:Prm tk n k a r j):k+1<=j/\j<n:=by
 induction h with
 |close _ h=>omega|rest _ _ h=>omega|last _ _ h=>omega|go _ _ _ _ b=>omega
def dL:Tsk->Nat| .more _ _ _=>0| .post _ _=>0| .moreE=>0| .moreB=>0| .stats=>0| .entries=>0|_=>1
def slk:Tsk->Nat| .more _ _ _=>0| .post _ _=>0| .moreE=>0| .moreB=>0| .stats=>0| .entries=>0| .entry=>1| .stat=>1| .branch=>1|_=>2
def bas:Tsk->Nat| .more _ _ x=>x.sz| .post _ x=>x.sz|_=>0
theorem aqG(N ks s e):(lI N ks s e).sz<=(one N ks).sz+1:=by
 grind [lI,dh]
theorem P.pos{i t R1}(h:P tk n t i R1 j):i+dL t<=j/\j<n/\R1.sz+slk t+3*i<=bas t+3*j:=by
 induction h
 case bopen i k j N ks R1 h1 h2 h3 h4 h5 h6 ih1 ih2=>
  grind [aqG,dL,slk,bas,dh,Fo.sz_app,Fo.sz]
 case body h1 h2 h3 h4 ih=>
  have:=h3.pos;grind [dL,slk,bas,dh,Fo.sz_app,Fo.sz]
 case tlet0 h1 h2 h3 h4 h5=>have:=h4.pos;grind [dL,slk,bas,dh,Fo.sz_app,Fo.sz]
 case tlet h1 h2 h3 h4 h5 h6 ih=>have:=h4.pos;grind [dL,slk,bas,dh,Fo.sz_app,Fo.sz]
 case tfor h1 h2 h3 h4 h5 h6 h7 ih1 ih2=>have:=h4.pos;grind [dL,slk,bas,dh,Fo.sz_app,Fo.sz]
 case teach h1 h2 h3 h4 h5 h6 h7 h8 h9 ih1 ih2=>have:=h4.pos;grind [dL,slk,bas,dh,Fo.sz_app,Fo.sz]
 case ttry h1 h2 h3 h4 h5 h6 h7 h8 ih1 ih2=>have:=h7.pos;grind [dL,slk,bas,dh,Fo.sz_app,Fo.sz]
 all_goals
  simp only[dL,slk,bas,dh,Fo.sz_app,Fo.sz]at *;omega
open Go.RowKit
def Af(S:zLI):zLI->Int->Option Int|[],a=>T a|k::r,a=>ite (k=a-1/\S.getD k.toNat 0≠0) (Af S r<|a-S.getD k.toNat 0) A1
def sx(S:zLI)(i:Nat)(ks:zLI):Int:=match Af S ks.reverse i with|some a=>(i:Int)-a+1|none=>0
def jh(c:zLD):zLI:=c.foldl (λa b=>a++[sx a (M a) b.ks]) []
theorem wK(a N):jh (a++[N])=jh a++[sx (jh a) (M<|jh a) N.ks]:=by simp[jh]
theorem C1{α:Type}{p:List α->Prop}(h0:p [])(h1:∀a x,p a->p (a++[x]))(l):p l:=by
 rw[<-List.reverse_reverse l]
 induction l.reverse with
 |nil=>exact h0|cons x r ih=>grind
theorem mJ:∀a,M (jh a)=M a:=by
 intro a;refine C1 (p:=λa=>M (jh a)=M a) R (λ_ _ _=>?_) a;rw[wK];grind
structure auz (S:zLI) (l:zLI) (a:Int) (R1:Option Int):Prop where
 out:Af S l a=R1
def JA(S:zLI):Prop:=∀(j:Nat) z,S[j]?=T z->0<=z/\z<=(j:Int)+1
theorem afk{S}(hS:JA S):∀(l)(a b),(∀k∈l,0<=k)->0<=a->Af S l a=T b->0<=b/\b<=a
 |[],a,b,_,e,h=>by simp[Af]at h;omega|k::r,a,b,d,e,h=>by
  rw[Af]at h;split at h
  .rename_i g;have i:=d k I;have f:0<=S.getD k.toNat 0/\S.getD k.toNat 0<=k+1:=by
    rw[ed];cases hs:S[k.toNat]? with
    |none=>grind|some c=>have:=hS _ c hs;grind
   have:=afk hS r _ b (λc f=>d c U) O h;omega
  grind
theorem aqH{S}(hS:JA S)(i ks)(b:∀k∈ks,0<=k):0<=sx S i ks/\sx S i ks<=(i:Int)+1:=by
 unfold sx;cases h:Af S ks.reverse i with
 |none=>grind|some a=>
  have:=afk hS _ i a (λk _=>b k U) O h;grind
theorem Be(b):(∀N∈b,∀k∈N.ks,0<=k)->JA (jh b):=by
 refine C1 (p:=λb=>(∀N∈b,∀k∈N.ks,0<=k)->JA (jh b)) (λ_ c i a=>by simp[jh]at a) (λd N n f=>?_) b;have h:=n (λj _=>f j U);intro c i a;rw[wK]at a;obtain g|g:=cG c<|M<|jh d
 .rw[nH g]at a;exact h c i a
 .rw[jI g]at a;have⟨l,e⟩:=dr.1 a;simp at l e;subst e;obtain rfl:c=M (jh d):=O;exact aqH h _ _ (λk m=>f N I k m)
theorem Ku(a:zLI)(n k z)(c:M a=k)(d:k<n):(a.map zI++Q (n-k) (zI 0)).set k (zI z)=(a++[z]).map zI++Q (n-(k+1)) (zI 0):=by
 have b:M (a.map zI)=k:=U;rw[List.set_append_right _ _ O,b,iI,(O:n-k=(n-(k+1))+1),List.replicate_succ,cH];simp
theorem adk(w v b)(h:dE w v b)(bE:M b<=3000)(H:∀N∈b,M N.ks<=1048576)(s:∀(i:Nat) N,b[i]?=T N->∀k∈N.ks,0<=k/\k<(i:Int)):
  Calls Tryz.prog 45 #[.agg #[v]] w λe a=>∃g,e= .returned (bI g (M b)<|M b)/\a.ownsRow w.heap.size 3 1 (bI g (M b)<|M b) (M b) ((jh b).map zI)/\V w.heap.size w a:=by
 obtain⟨u,x,rfl⟩:=h.form;have⟨a,bc⟩:=aw<|M b;have ar:=ah bc;have bj:A0 (dE w (X u a x) b):=U;have F:A0 ((∀N∈b,M N.ks<=1048576)/\(∀(i:Nat) N,b[i]?=T N->∀k∈N.ks,0<=k/\k<(i:Int))/\∀k,JA<|jh<|b.take k):=⟨H,s,λk=>Be _ (λN H ap m=>by
  have⟨i,ba,e⟩:=iD<|Ce H;exact(s i N U ap m).1)⟩
 rw[bc]at bE⊢;have⟨b5,ba,b2,b4,_⟩:=dw tD;go_in;go_wp2_with (at_make;apply FK _ R _ _ _ R w.heap.size 3 b5 _ 1 Tryz.underlying35 ba b2 b4 _ _ _ _ a R R R R U byM I;intro bh bf r;have a8:V (w.alloc<|.cells #[X u a x] 26).heap.size (w.alloc<|.cells #[X u a x] 26) bh:=⟨r.os,r.tape,r.output,r.size,λk s=>r.block k s I⟩;have cg:bh.cell? ⟨w.heap.size,0,A1⟩=T (X u a x):=by {rw[oe<|(a8.block _ I).trans<|au w _];rfl});rw[dC,show(madeCells (zI 0).cells<|a*1).toList=Q a (zI 0) by rw[zm];exact FG _ a]at bf;go_loopw [17] (λan wr=>∃k:Nat,k<=a/\an=zI k/\A0 (wr.ownsRow w.heap.size 3 1 (bI (w.heap.size+1) a a) a<|(jh<|b.take k).map zI++Q (a-k) (zI 0))/\V w.heap.size w wr) (λan _=>a-(Y an).toNat)
 .exact⟨0,O,R,bf,((ay _ w).alloc O _).trans<|a8.mono I⟩
 .
  obtain⟨k,s,rfl,B,y⟩:=hrel;by_cases bb:k<a
  .have⟨N,z⟩:=bg ar.out bb;have bA:=F.1 N<|db z;have bD:=F.2.1 k N z;have bd:=F.2.2 k;obtain⟨_,rfl,_,_,bs⟩:=(bj.below y).get z;obtain⟨_,_,_,_,_,_,_,bn,bo,bF,bx⟩:=bs;obtain⟨_,_,rfl⟩:=bF.form;obtain⟨a1,a2,rfl⟩:=bx.form;have⟨c,K⟩:=aw<|jh<|b.take k;have a7:M c=k:=by rw[<-K,mJ,mA,ar.out];omega
   have b0:jh (b.take<|k+1)=c++[sx c k N.ks]:=by
    rw[gD,z];show jh (b.take k++[N])=_;rw[wK,K,a7]
   rw[K]at B bd;have⟨o,a5⟩:=aw<|M N.ks;rw[a5]at bo bA;have bz:dt wr (X a1 o a2) N.ks:=U;have n:=aku a5 bz bD bd a7 b0;have bl:auz c (N.ks.take o).reverse k (Af c N.ks.reverse k):=⟨U⟩;have⟨a0,a6⟩:=aw<|Af c N.ks.reverse k;rw[a6]at bl;generalize M N.nm=b8 at bn;go_wp2_with fail;generalize bt:wr.alloc _=t;obtain⟨a3,L, -⟩:=al1 bt;replace a3:t.cell? (aj wr.heap.size 8)=T (X a1 o a2):=crV a3;have am:=cj B.out L;have bk:=n.2.1.below L;have C:=ah am;have ad:=y.trans<|L.mono y.size;have cc:=am.frozenAt k;have ca:t.cell? (aj (w.heap.size+1) k)=T (zI 0):=by
    rw[am.cellAt k O,jI U,dm,n.out.2.2.2.2.1,iI,agl,ifp]
   go_loop [6,7,8] (λb6 b7 ao=>∃(f:Nat) (d:_),b6=zI d/\b7= .bool true/\ao=zI (f-1)/\f<=o/\0<=d/\d<=k/\auz c (N.ks.take f).reverse d a0) (λ_ _ ao=>(Y ao+1).toNat)
   .grind
   .
    obtain⟨f,d,rfl,rfl,rfl,_,_,_,G⟩:=hrel;have j:=G.out;cases f with
    |zero=>
     have m:sx c k N.ks=(k:Int)-d+1:=by
      rw[sx,(ah a6).out];rw[vK,List.reverse_nil,Af]at j;grind
     have ax:=ah m;have l:=(C.stored k<|zI<|k-d+1).1;rw[Ku c a k _ O bb]at l;have E:=ah l;go_wp2_with fail;refine⟨⟨k+1,O,by go_num,?_,ad.setCell I _⟩,by simp[Y];omega⟩
     simp_all|succ f=>
     have⟨ap,m⟩:=bg n.1 (O:f<o);have⟨_,bw,_⟩:=bk.get m;subst bw;have⟨b3,_⟩:=n.2.2.1 ap<|db m;rw[gD,m]at j;simp[zj]at j;rw[Af]at j;obtain⟨l,rfl⟩:=iJ b3;have b1:l<k:=O;obtain⟨q,A⟩:=bg O b1;have b9:=n.2.2.2.1 l q A;have cb:t.cell? (aj (w.heap.size+1) l)=T (zI q):=by
      rw[C.out.cellAt l O,nH U,cJ,A];rfl
     have al:c.getD l 0=q:=U;simp only[rj,al]at j;have br:(((f+1:Nat)):Int)-1=(f:Int):=O;rw[br];have cd:(0:Int)<=(f:Int):=O;have ce:(f:Int)<(o:Int):=O;have cf:(l:Int)<(a:Int):=O;by_cases p:(l:Int)=d-1/\q≠0
     .rw[ae p]at j;have a4:auz c (N.ks.take f).reverse (d-q) a0:=⟨j⟩;have a9:=p.2;have af:=p.1;clear j G m A al p;obtain rfl:d=l+1:=O;clear af;go_wp2;go_round
      .grind
      simp[Y]
     .rw[aa p]at j;have ax:A0 (sx c k N.ks=0):=by
       show sx c k N.ks=0;unfold sx;grind
      have E:A0 (t.ownsRow w.heap.size 3 1 (bI (w.heap.size+1) a a) a<|(jh<|b.take<|k+1).map zI++Q (a-(k+1)) (zI 0)):=by
       have a4:=C.out;show World.ownsRow _ _ _ _ _ _ _;rw[n.out.2.2.2.2.2,ax.out,ej];rw[(O:a-k=(a-(k+1))+1),List.replicate_succ]at a4;grind
      by_cases af:(l:Int)=d-1
      .have a9:q=0:=by
        omega
       subst a9;obtain rfl:d=l+1:=O;clear af;go_wp2;exact⟨⟨_,O,by go_num,E,ad⟩,by simp[Y];omega⟩
      .clear j G m A al p;go_wp2;exact⟨⟨_,O,by go_num,E,ad⟩,by simp[Y];omega⟩
  .obtain rfl:k=a:=O;go_wp2;go_ret;refine⟨_,R,?_,y⟩;have a4:=B.out;grind
def Ea(b:Nat):Deferred:={target:= .collected b,args:=#[]}
structure xn (B:Nat) (c:zLN) (W:World):Prop where
 nd:c.Nodup
 lo:∀b∈c,B<=b
 at_:∀b∈c,W.heap[b]?=T (.deferred<|T [])
structure aaz (c:zLN) (W W':World):Prop where
 os:W'.os=W.os
 tape:W'.tape=W.tape
 output:W'.output=W.output
 size:W'.heap.size=W.heap.size
 same:∀k,k ∉ c->W'.heap[k]?=W.heap[k]?
theorem rz{g P fn}{tmps:zAV}{R1}(B):∀(c)(W),xn B c W->(∀W',aaz c W W'->LeavesInM g n P fn tmps R1 [] .returning W')->LeavesInM g n P fn tmps R1 (c.map Ea) .returning W
 |[],W,_,h=>h W ⟨R,R,R,R,λ_ _=>rfl⟩|b::c,W,f,h=>by
  have i:=f.at_ b I;have j:=List.nodup_cons.1 f.nd;refine⟨I,.inl ⟨b,_,R,run_takeDeferred i,?_⟩⟩;refine rz B c _ ⟨j.2,λe a=>f.lo e U,λe a=>?_⟩ (λW' d=>?_)
  .exact(World.putObj_heap_other U).trans (f.at_ e U)
  .refine h W' ⟨d.os,d.tape,d.output,d.size.trans I,λe a=>?_⟩;simp at a;exact(d.same e a.2).trans<|World.putObj_heap_other a.1
theorem aaz.below{w}(h:aaz c W W')(a:V B w W)(g:∀b∈c,B<=b)(f:B<=w.heap.size):V B w W':=
 ⟨h.os.trans a.os,h.tape.trans a.tape,h.output.trans a.output,by rw[h.size];exact a.size,λd e=>(h.same d (λ_=>U)).trans<|a.block d e⟩
def xn.below(h:xn B c W)(d:V W.heap.size W W'):xn B c W':=
 ⟨h.nd,h.lo,λa b=>(d.block a (mE.1<|h.at_ a b).1).trans<|h.at_ a b⟩
def xn.keeps(h:xn B c W)(b:KeepsOthers W W'):xn B c W':=
 ⟨h.nd,h.lo,λa d=>b.same a _ (h.at_ a d) R⟩
open Go.Maps Go.WideMaps
inductive Pt (E:Pe):Nat->Nat->zLB->Bool->Nat->Prop where|stop {k:Nat}:(E.tk k).k=41->k<E.n->Pt E 0 k [] false k|name {m k j:Nat}{ns:zLB}{r:Bool}:(E.tk k).k=1->k<E.n->Pt E m (k+1) ns r j->Pt E (m+1) k ((E.tk k).x::ns) r j|rest {m k j:Nat}{ns:zLB}{r:Bool}:(E.tk k).k=49->k<E.n->Pt E m (k+1) ns r j->Pt E (m+1) k ns true j|com {m k j:Nat}{ns:zLB}{r:Bool}:(E.tk k).k=46->k<E.n->Pt E m (k+1) ns r j->Pt E (m+1) k ns r j
def Pt.of{E d}(h:Prm E.tk E.n k d r j):∃m,Pt E m k d r (j-1)/\(E.tk<|j-1).k=41/\k+1<=j/\j<E.n:=by
 induction h with
 |close b a=>exact⟨0,.stop b O,b,O,a⟩|rest b a c=>exact⟨1,.rest b O<|.stop a O,a,O,c⟩|last b a c=>exact⟨1,.name b O<|.stop a O,a,O,c⟩|go b a c l e=>
  obtain⟨m,f,g,_,i⟩:=e;exact⟨_,.name b O<|.com a O f,g,O,i⟩
def opR(b:Bool):Int:=ite (b=true) 1 0
section
variable {E : Pe} {i j : Nat}
theorem auA{w f x}(ak:(E.tk i).k=40)(ar:i<E.n)(am:Pt E m (i+1) f r k)(G:(E.tk k).k=41)(a0:k+1<E.n)(ao:CK E (k+1) x j)(av:k+1<=j)(ax:j<=E.n):CBd E w i (one (nd 36 w (E.tk<|j-1).t (opR r) 0 z0 f) x) j:=by
 intro F H C ad al;have a:=ah ad;have K:=ah am;have a1:=a.lo.2.2.2;rw[dh]at al;go_in;go_wp2_with fail;refine dd (Sq.take (Sq.nil (t:=9)<|Sq.box a) ak) λb a=>?_;go_wp2;go_loopg [5] m (λgk _ wr=>∃o D q u s g n h,A0<|Pt E gk o q s k/\Sq E F H C wr o C .nil [] [(F.heap.size,37,ndA 36 u 0 zE0 w (X g n h) s0)] [(9,X g n h,D.map Value.string)]/\D++q=f/\(∃rr,u=opR rr/\(rr||s)=r)/\n<=o)
 .exact⟨_,[],f,0,r,A1,0,0,K,a,R,⟨false,R,I⟩,O⟩
 .
  obtain⟨o,D,q,u,s,g,n,h,B⟩:=hrel;have⟨af,a,z,v,_⟩:=B.out;have d:=fs z v;clear z v B;cases af with
  |stop c y=>
   go_wp2_with fail;refine dd (Sq.kind a G) λb a=>?_;go_wp2_with fail;refine dd (Sq.take a G) λb a=>?_;go_wp2_with fail;apply Sq.cq a ao O;rintro b _ e _ _ ⟨p,rfl,rfl,rfl⟩ a;have A:=Sq.rd a;have l:=Sq.ln a;rw[show(Fo.nil.app x)=x from rfl]at l;go_wp2_with fail;apply(Sq.add (Sq.lit2<|Sq.set a) (.inr<|.tail _<|.head _) (.inr<|.head _) O).mono;rintro _ b ⟨p,rfl,e,a⟩;go_wp2;go_ret;have⟨z,rr,v,_⟩:=d.out;obtain rfl:D=f:=U;obtain rfl:rr=r:=U;subst v;exact⟨_,_,_,_,R,⟨_,R,R,R⟩,Sq.fin a⟩
  |@name p _ _ ap _ c y l=>
   have e:=ah l;go_wp2_with fail;refine dd (Sq.kind a c) λb a=>?_;go_wp2_with fail;refine dd (Sq.take a c) λb a=>?_;have A:=Sq.rd a;go_wp2_with (at_builtin;refine Sq.apG tS (Sq.box a) O R R _ _ R R R I ?_;intro _ L b a;have a:=Sq.tail a;have A:=Sq.rd a);go_roundg p
   case measure=>omega
   exact⟨_,D++[(E.tk o).x],ap,u,s,_,_,L,e,by rw[ej];exact Sq.set a,by rw[fL];exact d.1,d.2,O⟩
  |@rest p _ _ _ L c y l=>
   have e:=ah l;go_wp2_with fail;refine dd (Sq.kind a c) λb a=>?_;go_wp2_with fail;refine dd (Sq.take a c) λb a=>?_;have A:=Sq.rd a;go_wp2;go_roundg p
   case measure=>omega
   exact⟨_,D,q,1,L,g,n,h,e,Sq.below (Sq.set a)<|dj _ _,d.1,⟨true,R,by obtain⟨rr,_,_⟩:=d.2;grind⟩,O⟩
  |@com p _ _ _ _ c y l=>
   have e:=ah l;go_wp2_with fail;refine dd (Sq.kind a c) λb a=>?_;go_wp2_with fail;refine dd (Sq.take a c) λb a=>?_;go_wp2;go_roundg p
   case measure=>omega
   exact⟨_,D,q,u,s,g,n,h,e,Sq.below a<|dj _ _,d.1,d.2,O⟩
end
def axH(k)(b:gg k=true)(f:k<=78)(w):Calls Tryz.prog 273 #[zI k] w λe c=>e= .returned (.tuple #[zI<|BA k,zI<|rpw k])/\c=w:=by
 have d:=aL b;have a:k=10\/k=26\/k=61\/k=62\/k=63\/k=64\/k=65\/k=66\/k=67\/k=68\/k=69\/k=70\/k=71\/k=72\/k=73\/k=74\/k=75\/k=76\/k=77\/k=78:=O;obtain rfl|rfl|rfl|rfl|rfl|rfl|rfl|rfl|rfl|rfl|rfl|rfl|rfl|rfl|rfl|rfl|rfl|rfl|rfl|rfl:=a;all_goals
  go_in;go_wp2;first
   |(go_ret;exact rr)|(go_ret2;exact rr)
def auB{t b}(h:gg t=b)(w):Calls Tryz.prog 291 #[zI t] w λe a=>e= .returned (.bool b)/\a=w:=h ▸ Ez w t
inductive Ms (E:Pe) (C:Int->Nat->Fo->Nat->Prop) (p:Int) (s:Tk):Nat->Fo->Nat->Fo->Nat->Prop where|stop {x:Fo}{k:Nat}:k<E.n->(gg (E.tk k).k=true->BA (E.tk k).k<p)->Ms E C p s 0 x k x k|go {m k k1 j:Nat}{x y R1:Fo}:k<E.n->gg (E.tk k).k=true->p<=BA (E.tk k).k->C (rpw (E.tk k).k) (k+1) y k1->k+1<=k1->k1<=E.n->Ms E C p s m (one (uF (E.tk k).k s (E.tk<|k1-1).t)<|x.app y) k1 R1 j->Ms E C p s (m+1) x k R1 j
def Ms.le{E C p s x R1}(h:Ms E C p s m x k R1 j):x.sz<=R1.sz:=by
 induction h with
 |stop=>omega|go _ _ _ _ _ _ _ a=>rw[dh,Fo.sz_app]at a;omega
def axI{o}(k j)(h:k<W.heap.size):(W.alloc o).cell? ⟨k,j,A1⟩=W.cell? (aj k j):=World.cell?_alloc_past _ _ _ h
section
variable {E : Pe} {i j : Nat}
theorem auC{p x R1}(al:(E.tk i).k≠6)(ao:i<E.n)(o:∀q,(E.tk q).k<=78)(av:CU E i x k)(A:Ms E (CX E) p (E.tk i) m x k R1 j):CX E p i R1 j:=by
 intro f B K af _;have a:=ah af;have a3:=a.cells;have t:=a.tkw ao al;unfold TkW at t;have bb:=a.lo;have H:=ah A;have bc:=A.le;have a9:(i:Int)<(E.n:Int):=O;have a8:(0:Int)<=(i:Int):=O;have bd:IntKind.i64.wrap (i:Int)=(i:Int):=by rw[du];omega
 go_in;go_wp2_with fail;go_region_held3 (λa1=>∀k j,k<f.heap.size->a1.cell? (aj k j)=f.cell? (aj k j)) (first|exact axI|simp_all) (fail)
 replace a:=Sq.below (Sq.box (cs:=rE (E.tk i).k<|E.tk i) (t:=58) a) blW;generalize World.drew _=d at a⊢;go_wp2_with fail;apply Sq.cq a av O;rintro d _ u _ _ ⟨g,rfl,rfl,rfl⟩ a;go_wp2;go_loopg [6] m (λgk a0 wr=>∃k l s L,a0=zI s/\A0 (Ms E (CX E) p (E.tk i) gk l k R1 j/\Sq E f B K wr k L l [s] [(f.heap.size,58,rE (E.tk i).k<|E.tk i)] []))
 .exact⟨k,_,g,_,R,H,a⟩
 .
  obtain⟨b,l,s,_,rfl,F⟩:=hrel;have⟨ak,a⟩:=F.out;cases ak with
  |stop w y=>
   cases c:gg (E.tk j).k with
   |false=>
    go_wp2_with fail;refine dd (Sq.kind a R) λd a=>?_;go_wp2_with fail;apply ez<|auB c _;go_wp2;go_ret;exact⟨_,_,_,_,R,⟨_,R,R,R⟩,Sq.fin a⟩|true=>
    have e:=y c;go_wp2_with fail;refine dd (Sq.kind a R) λd a=>?_;go_wp2_with fail;apply ez<|auB c _;go_wp2_with fail;refine dd (Sq.kind a R) λd a=>?_;go_wp2_with fail;apply ez<|axH _ c (o _) _;go_wp2;go_ret;exact⟨_,_,_,_,R,⟨_,R,R,R⟩,Sq.fin a⟩
  |@go ax _ e _ _ bh a2 w c y ad a6 a7 z=>
   have C:=ah z;have ar:=z.le;rw[dh,Fo.sz_app]at ar;have ba:¬BA (E.tk b).k<p:=O;have an:(E.tk b).k≠6:=λv=>by rw[v]at c;revert c;decide
   have bf:IntKind.i64.wrap ((E.tk b).k-60)=(E.tk b).k-60:=by rw[du];have:=o b;have:=aL c;omega
   go_wp2_with fail;refine dd (Sq.kind a R) λd a=>?_;go_wp2_with fail;apply ez<|auB c _;go_wp2_with fail;refine dd (Sq.kind a R) λd a=>?_;go_wp2_with fail;apply ez<|axH _ c (o _) _;go_wp2_with fail;refine dd (Sq.take a R w an) λd a=>?_;go_wp2_with fail;apply Sq.cq (Sq.box a) ad (by have:=Sq.ln a;omega);rintro d _ u _ _ ⟨g,rfl,rfl,rfl⟩ a;have r:=Sq.rd a;have bj:=Sq.rd<|Sq.tail a;have ap:=Sq.ln a;rw[Fo.sz_app]at ap;go_wp2_with fail;refine dd (Sq.node a) λd a=>?_;have r:=Sq.rd a;have G:A0 (((E.tk b).k=10\/(E.tk b).k=26)\/((E.tk b).k≠10/\(E.tk b).k≠26)):=by show _\/_;omega
   obtain(hK|hK)|⟨hK,am⟩:=G.out
   case' inl.inl=>rw[hK]at r;have h:=ah (show uF (E.tk b).k (E.tk i) (E.tk<|e-1).t=lF 28 (E.tk i) (E.tk<|e-1).t by rw[hK];rfl)
   case' inl.inr=>rw[hK]at r;have h:=ah (show uF (E.tk b).k (E.tk i) (E.tk<|e-1).t=lF 29 (E.tk i) (E.tk<|e-1).t by rw[hK];rfl)
   case' inr=>have a4:=fC.2 hK;have a5:=fC.2 am;have h:=ah (show uF (E.tk b).k (E.tk i) (E.tk<|e-1).t=nd 31 (E.tk i) (E.tk<|e-1).t ((E.tk b).k-60) 0 z0 [] by unfold uF;grind)
   all_goals
    go_wp2_with fail;apply(Sq.add (Sq.lit1<|Sq.box a) (.inl ⟨R,R⟩) (.inr<|.head _) O).mono;rintro v d ⟨g,rfl,u,a⟩;go_wp2;go_roundg ax
    case measure=>omega
    exact⟨e,_,g,_,R,C,by rw[h.out];exact Sq.tail<|Sq.tail a⟩
end
def ajA(l:zLB)(k s)(h:l[k]?=T s):qc (l.take<|k+1)=qc (l.take k)+s.size:=by
 induction l generalizing k with
 |nil=>simp at h|cons a l b=>
  cases k with
  |zero=>simp at h;subst h;simp[qc]|succ k=>have:=b k (by simpa using h);show a.size+qc (l.take<|k+1)=a.size+qc (l.take k)+s.size;omega
def aqJ(l k):qc (l.take k)<=qc l:=by
 induction l generalizing k with
 |nil=>simp|cons a l b=>
  cases k with
  |zero=>exact lg _|succ k=>have:=b k;show a.size+qc (l.take k)<=a.size+qc l;omega
def amJ(g c m)(x:Bz)(l:zLB)(w)(u:M l=m+1)(z:w.cell? (aj g 0)=T (Ax x))(A:∀(j:Nat) f,l[j]?=T f->w.cell? (aj g<|j+1)=T (Ax f))(bl:m<=4194304)(bx:m+2<=c)(a0:(x++gj l).size<=70368744177664):
  Calls Tryz.prog 160 #[bI g (m+2) c,Ax ⟨#[32]⟩] w λe a=>e= .returned (Ax<|x++gj l)/\V w.heap.size w a:=by
 have G:=fs z A;have ax:(x++gj l).size=(m+1)+(x.size+qc l):=by rw[az,AI,u];omega
 obtain⟨d,v⟩:∃d,d=x::l:=⟨_,R⟩;have a1:∀(j:Nat) f,d[j]?=T f->w.cell? (aj g j)=T (Ax f):=λj f C=>by
  subst v;cases j with
  |zero=>simp at C;subst C;exact z|succ j=>exact A j f (by simpa using C)
 have a2:M d=m+2:=by rw[v,dD,u]
 have a3:qc d=x.size+qc l:=by rw[v];rfl
 have i:A0 ((∀(j:Nat) f,d[j]?=T f->w.cell? (aj g j)=T (Ax f))/\M d=m+2/\qc d=x.size+qc l/\M l=m+1/\(x++gj l).size=(m+1)+(x.size+qc l)/\(x++gj l).size<=70368744177664):=⟨a1,a2,a3,u,ax,a0⟩;have bA:(m:Int)<=4194304:=O;have bD:(0:Int)<=(m:Int):=O;have bE:(1:Int)<9223372036854775807 / ((m:Int)+2-1):=by
  have:(2:Int)<=9223372036854775807 / ((m:Int)+2-1):=Int.le_ediv_of_mul_le O O;omega
 have br:((m:Int)+2==0)=false:=by rw[fC];omega
 have bs:((m:Int)+2==1)=false:=by rw[fC];omega
 clear z A ax v a1 a2 a3 u a0 bl;go_in;go_wp2;go_loopw [5,41] (λbn p wr=>∃a:Nat,a<=m+2/\p=zI a/\bn=zI (m+1+(qc<|d.take a))/\wr=w) (λ_ p _=>m+2-(Y p).toNat)
 .exact⟨0,O,R,by(congr 1;simp[qc];omega),R⟩
 .
  obtain⟨a,bh,rfl,rfl,rfl⟩:=hrel;by_cases B:a<m+2
  .have⟨n,o⟩:=bg i.out.2.1 B;have F:=i.out.1 a n o;have r:=ajA d a n o;have s:=aqJ d<|a+1;have bk:(a:Int)<(m:Int)+2:=O;have bj:(0:Int)<=(a:Int):=O;have b:=i.out;obtain⟨_,_,h,_,q,t⟩:=b;have k:=ah r;rw[r]at s;generalize qc (d.take a)=y at s k⊢;have E:(y:Int)+(n.size:Int)<=70368744177664:=O;clear r h q t o s;go_wp2;exact⟨⟨a+1,O,by go_num,by rw[k.out];congr 1;omega,by trivial⟩,by simp[Y];omega⟩
  .obtain rfl:a=m+2:=O;obtain⟨b,rfl⟩:∃b,b=wr:=⟨wr,R⟩;obtain⟨q,hS⟩:∃q:Nat,(m+1)+qc d=q:=⟨_,R⟩;have al:(m:Int)+1+((qc (d.take<|m+2):Nat):Int)=(q:Int):=by
    rw[ci (by rw[i.out.2.1];exact fG _)];omega
   have bo:=ah hS;have bf:q<=70368744177664:=by have:=i.out;omega
   have am:0<q:=O;rw[al];clear hS al;have a4:=acw _ _ q _ eE (au b _) I O am;go_wp2_with fail;apply a4.mono;rintro e a6 ⟨rfl,ak,an⟩;have av:V b.heap.size b (b.alloc<|.cells #[.pointer A1,fe] 138):=(ay _ b).alloc O _;have t:=av.trans an;have H:Bu b.heap.size b.heap.size zE0 a6:= .inr ak;have bd:=ag t G.out.1;have bF:x.size<=70368744177664:=by have:=i.out;omega
   clear a4 ak an av;have a5:=t.size;have E:=qd _ _ _ x a6 H (by show 0+x.size<=_;omega) a5;rw[L8]at E;have bc:=ah t;clear H a5 t;go_wp2_with fail;apply E.mono;rintro e a7 ⟨rfl,K,ao⟩;have F:A0 (Bu b.heap.size b.heap.size x a7/\V b.heap.size b a7):=⟨K,bc.out.trans ao⟩;clear K ao E bd bf am;have bt:(1:Int)<=(m:Int)+2:=O;have bw:(m:Int)+2<=(c:Int):=O;go_wp2;go_loopw [65] (λp ba=>∃a:Nat,a<=m+1/\p=zI a/\A0 (Bu b.heap.size b.heap.size (x++gj (l.take a)) ba/\V b.heap.size b ba)) (λp _=>m+1-(Y p).toNat)
   .exact⟨0,O,R,by rw[vK,show x++gj []=x from tE x];exact F.out.1,F.out.2⟩
   .
    obtain⟨a,bh,rfl,h⟩:=hrel;by_cases B:a<m+1
    .have⟨n,o⟩:=bg i.out.2.2.2.1 B;have af:=ag h.out.2<|G.out.2 a n o;rw[Nat.add_comm]at af;have r:=AH l a n o;have s:=qI l<|a+1;have k:A0 (gj (l.take<|a+1)=gj (l.take a)++(oq++n)/\(x++gj (l.take<|a+1)).size<=70368744177664):=⟨r,by have:=i.out.2.2.2.2.2;rw[az]at this⊢;omega⟩;have bk:(a:Int)<(m:Int)+2-1:=O;have bz:(a:Int)<(m:Int)+1:=O;have bj:(0:Int)<=(a:Int):=O;clear r s o;go_wp2_with fail;apply(qd _ _ _ oq _ h.out.1 (by have:=k.out.2;rw[k.out.1]at this;simp only[az]at this⊢;omega) h.out.2.size).mono;rintro e a8 ⟨rfl,L,ap⟩;have y:A0 (Bu b.heap.size b.heap.size (x++gj (l.take a)++oq) a8/\V b.heap.size b a8):=⟨L,h.out.2.trans ap⟩;clear L ap af h;go_wp2_with fail;apply(qd _ _ _ n _ y.out.1 (by have:=k.out.2;rw[k.out.1]at this;simp only[az]at this⊢;omega) y.out.2.size).mono;rintro e a9 ⟨rfl,ad,ar⟩;have bb:A0 (Bu b.heap.size b.heap.size (x++gj (l.take<|a+1)) a9/\V b.heap.size b a9):=⟨by rw[k.out.1,<-aB,<-aB];exact ad,y.out.2.trans ar⟩;clear ad ar;go_wp2;exact⟨⟨_,O,by go_num,bb⟩,by simp[Y];omega⟩
    .obtain rfl:a=m+1:=O;have k:=ci (by rw[i.out.2.2.2.1];exact fG _);rw[k]at h;clear k;go_wp2_with fail;apply(AJ _ _ _ _ h.out.1 h.out.2.size).mono;rintro e _ ⟨rfl,_,n⟩;go_wp2;go_ret;exact⟨R,h.out.2.trans n⟩
