import Derived.Test.YthkcmkmkapijkaaGreatDoorh41
import Derived.Test.YthkcmkmkapijkaaGreatDoorh40
set_option linter.all false
set_option maxRecDepth 100000
set_option maxHeartbeats 25600000
open Go.Proofs.Tryz
open List renaming length->Ax
open Option renaming some->A0,none->B6
open Go.RowKit renaming Below->A1,Hid->Br,intOf->B7
open Go.Value renaming slice->A2,string->B0,bool->B1,tuple->B4,agg->B5
open Go.Proofs.Tryz renaming prog->A3
open Go renaming World->A5,Value->B2,Calls->B3
open Go.Ending renaming returned->A9
namespace Go.Proofs.YthkcmkmkapijkaaGreatDoor
open Go.RowKit Go.Maps Go.WideMaps
variable{L:zLJ}{Y:Bz}{f:FuncId}{i t vb:Nat}{ns:zLD}{vs:Value}{w0:World}
def Nd.bk(N:Nd):Nd:={N.bare with ks:=N.ks}
def Gv:∀(a:Fo),a.bare.sz=a.sz| .nil=>rfl| .cons N k r=>by rw[Fo.bare,Fo.sz,Fo.sz,Gv,Gv]
def KD:∀(a:Fo)(b),a.bare.tops b=a.tops b| .nil,b=>rfl| .cons N k r,b=>by rw[Fo.bare,Fo.tops,Fo.tops,Gv,KD]
def Eh:∀(a:Fo)(b),a.bare.flat b=(a.flat b).map Nd.bk
 | .nil,b=>rfl| .cons N k r,b=>by
  rw[Fo.bare,Fo.flat,Fo.flat,Gv,KD,Eh,Eh,ej,eA];rfl
def sl(c:zLD)(a b:Nat):zLD:=(c.take b).drop a
theorem anL(d:zLD){a b c}(e:a<=b)(f:b<=c)(g:c<=Ax d):sl d a b++sl d b c=sl d a c:=by
 grind [sl,List.take_append_drop]
theorem avg(h:i<Ax ns):sl ns i (i+1)=[ab ns i]:=by
 unfold sl ab;grind [List.take_add_one,List.getElem?_eq_getElem,List.drop_of_length_le,Int.toNat_natCast,List.getD]
structure Szk (ns:zLD):Prop where
 at_:∀i:Nat,i<Ax ns->∃a:Nat,a<=i/\Af (jh ns) (ab ns i).ks.reverse i=A0 (a:Int)/\(jh ns).getD i 0=(i:Int)-a+1
 root:(jh ns).getD (Ax ns-1) 0=(Ax ns:Int)
theorem avh(h:(bH ns).1=0):Szk ns:=by
 have i:=yB h;have r:=Be ns λc b d g=>by
  have⟨a,q,_⟩:=iD b;exact(i.kid a c U d g).1
 unfold bH at h;by_cases p:iL ns=true
 .grind
 rw[aa p]at h;have⟨k,n⟩:=aw<|jc (fI ns) (Ax ns) 0;rw[n]at h;cases k with
 |some a=>grind [tf2]|none=>
  rw[tf2]at h;have⟨l,j⟩:=aw<|jc (gw<|jh ns) (Ax ns) 0;rw[j]at h;cases l with
  |some a=>grind [tf3]|none=>
   have o:=po j;rw[tf3]at h;refine⟨λa q=>?_,?_⟩
   .have b:ns[a]?=A0 (ab ns a):=by
     grind [ab]
    generalize ab ns a=c at b;have f:=o a O O;unfold gw at f;have e:=ang b;rw[e]at f;unfold sx at f e;cases hw:Af ((jh ns).take a) c.ks.reverse a with
    |none=>grind|some s=>
     rw[hw]at e;simp only at e;rw[ady _ a _ _ (λd g=>i.kid a c b d U)]at hw;have m:=afk r _ _ _ (λd g=>(i.kid a c b d U).1) O hw;obtain⟨_,rfl⟩:=iJ m.1;grind
   grind
theorem aro(d:Wzd ns)(k:Szk ns):∀i:Nat,i<Ax ns->∃a:Nat,a<=i/\(jh ns).getD i 0=(i:Int)-a+1/\(Sh ns i).sz=i+1-a/\(Sh ns i).flat a=(sl ns a<|i+1).map Nd.bk/\(Sh ns i).tops a=[(i:Int)]:=by
 intro i
 induction i using Nat.strongRecOn with
 |_ i y=>
  intro j;have⟨a,n,f,u⟩:=k.at_ i j;have A:∀(c:zLI)(b:Nat)(a:Nat),b<=i->(∀g∈c,g∈(ab ns i).ks)->Af (jh ns) c.reverse b=A0 (a:Int)->a<=b/\(sA (Sh ns) c).sz=b-a/\(sA (Sh ns) c).flat a=(sl ns a b).map Nd.bk/\(sA (Sh ns) c).tops a=c:=by
   intro c
   induction c using C1 with
   |h0=>
    intro b a x _ f;have e:b=a:=by grind [Af]
    subst e;refine⟨O,by simp[sA,Fo.sz],?_,R⟩;unfold sl;rw[lG U];rfl|h1 F g z=>
    intro b a x l f;rw[List.reverse_append,List.reverse_cons,List.reverse_nil,ga,zj,Af]at f;by_cases w:g=(b:Int)-1/\(jh ns).getD g.toNat 0≠0
    .rw[ae w]at f;obtain⟨h,rfl,C,E,_⟩:=xb d j<|l g I;have⟨e,_,o,_,p,q⟩:=y h C E;rw[(O:((h:Int)).toNat=h),o,(O:(b:Int)-((h:Int)-e+1)=(e:Int))]at f;have⟨r,m,s,t⟩:=z e a O (λB _=>l B U) f;have v:b=h+1:=O;subst v;rw[aa1,lJ];refine⟨O,by grind [Fo.sz_app],?_,?_⟩
     .rw[Fo.flat_app,m,s,(O:a+(e-a)=e),p,<-ej,anL ns r O O]
     .rw[Fo.tops_app,m,t,(O:a+(e-a)=e),q]
    simp_all
  obtain⟨_,_,e,h⟩:=A _ i a O (λg l=>l) f;refine⟨a,n,u,?_,?_,?_⟩
  .grind [xo,dh]
  .rw[xo d j,Cz,e,h,<-anL ns n (Nat.le_succ i) O,avg j,ej];rfl
  grind [xo,aco]
theorem arp(h:(bH ns).1=0):(Sh ns ((Ax ns-1:Nat):Int)).flat 0=ns.map Nd.bk:=by
 have a:=aa0 h;have b:=avh h;have f:=a.len;have⟨c,_,d,_,_,_⟩:=aro a b (Ax ns-1) O;have e:=b.root;rw[d]at e;obtain rfl:c=0:=O;grind [sl,List.take_of_length_le]
section
variable {ns ms : zLD} {M N : Nd}
theorem IJ(h:M.bk=N.bk):M.k=N.k/\M.op=N.op/\M.n=N.n/\M.x=N.x/\M.nm=N.nm/\M.ks=N.ks:=by
 have a:=congrArg Nd.k h;have b:=congrArg Nd.op h;have c:=congrArg Nd.n h;have d:=congrArg Nd.x h;have e:=congrArg Nd.nm h;have f:=congrArg Nd.ks h;exact⟨a,b,c,d,e,f⟩
theorem aa9(h:ms.map Nd.bk=ns.map Nd.bk)(i):(ms.getD i zNd).bk=(ns.getD i zNd).bk:=by
 have b:=congrArg (λa=>a[i]?) h;grind
theorem IK(h:ms.map Nd.bk=ns.map Nd.bk)(e:M.bk=N.bk)(j):gC ms M j=gC ns N j:=by
 unfold gC;rw[(IJ e).2.2.2.2.2];grind [IJ,aa9]
def as6(h:ms.map Nd.bk=ns.map Nd.bk)(e:M.bk=N.bk):∀f j,mK ms M f j=mK ns N f j|0,j=>rfl|f+1,j=>by rw[mK,mK,IK h e,as6 h e]
def as7(h:ms.map Nd.bk=ns.map Nd.bk)(e:M.bk=N.bk):∀f j,sbB ms M f j=sbB ns N f j|0,j=>rfl|f+1,j=>by rw[sbB,sbB,IK h e,as7 h e]
def as8(h:ms.map Nd.bk=ns.map Nd.bk)(e:M.bk=N.bk):∀f j,tgB ms M f j=tgB ns N f j|0,j=>rfl|f+1,j=>by rw[tgB,tgB,IK h e,as8 h e]
def as9(h:ms.map Nd.bk=ns.map Nd.bk)(e:M.bk=N.bk):∀f j,enB ms M f j=enB ns N f j|0,j=>rfl|f+1,j=>by rw[enB,enB,IK h e,as9 h e]
theorem aye(h:ms.map Nd.bk=ns.map Nd.bk)(e:M.bk=N.bk):pG ms M=pG ns N:=by
 have⟨a,b,c,d,f,g⟩:=IJ e;unfold pG stB jA bC gi;simp[IK h e,as6 h e,as7 h e,as8 h e,as9 h e,a,b,c,d,f,g]
def avi:∀ns ms,ms.map Nd.bk=ns.map Nd.bk->jh ms=jh ns:=by
 have g:∀(ns ms:zLD)(a:zLI),ms.map Nd.bk=ns.map Nd.bk->ms.foldl (λa c=>a++[sx a (Ax a) c.ks]) a=ns.foldl (λa c=>a++[sx a (Ax a) c.ks]) a:=by
  intro ns
  induction ns with
  |nil=>intro ms a b;cases ms with
   |nil=>rfl|cons _ _=>simp at b
  |cons c ns f=>
   intro ms a b;cases ms with
   |nil=>simp at b|cons h ms=>
    have⟨d,e⟩:=mD b;rw[qr,qr,(IJ d).2.2.2.2.2];exact f ms _ e
 exact λns ms b=>g ns ms _ b
def avk(h:ms.map Nd.bk=ns.map Nd.bk):Ji ms=Ji ns:=by
 have b:Ax ms=Ax ns:=by simpa using congrArg Ax h
 unfold Ji;rw[b];generalize List.replicate (Ax ns) (0:Int)=D;generalize Ax ns=a
 induction a generalizing D with
 |zero=>rfl|succ a c=>rw[dpN,dpN,(IJ<|aa9 h a).2.2.2.2.2];exact c _
theorem aia{p}:∀{f j},(∀k,j<=k->k<j+f->p k=false)->jc p f j=B6
 |0,j,_=>rfl|f+1,j,h=>by
  rw[jc,aa (by simp_all [fG])];exact aia λk _ _=>h k O O
theorem arq(h:ms.map Nd.bk=ns.map Nd.bk)(a:(bH ns).1=0)(j:∀N∈ms,0<=N.f/\N.f<=N.t/\0<=N.l):bH ms=(0,0):=by
 have n:Ax ms=Ax ns:=by simpa using congrArg Ax h
 have d:=aa0 a;have p:jc (fI ms) (Ax ms) 0=B6:=aia λb _ m=>by
  have m:b<Ax ms:=O;have c:=d.nb b O;have e:=aa9 h b;have g:ab ns b=ns.getD b zNd:=by grind [ab,Int.toNat_natCast,List.getElem?_eq_getElem]
  rw[g]at c;have o:ms.getD b zNd∈ms:=by grind [List.getElem?_eq_getElem,List.getElem_mem]
  have s:=j _ o;unfold fI;unfold kK at c⊢;rw[dF,dF]at c;have r:=aL c.1;have q:=(IJ e).2.2.2.2.2;grind [adt,zNd,decide_eq_true,aye]
 have k:iL ms=iL ns:=by
  grind [iL,IJ,aa9]
 unfold bH at a⊢;rw[k,p,avi ns ms h,avk h,n];by_cases c:iL ns=true
 .simp_all [ae,absurd]
 rw[aa c]at a⊢;cases hR:jc (fI ns) (Ax ns) 0 with
 |some b=>grind [tf2,absurd]|none=>
  rw[hR]at a;rw[tf2]at a⊢;cases hR2:jc (gw<|jh ns) (Ax ns) 0 with
  |some b=>grind [tf3,absurd]|none=>
   rw[hR2]at a;rw[tf3]at a⊢;split at a
   .grind [absurd]
   .rename_i i;rw[aa i];have:=Is a;rw[this];rfl
end
def afB(s:Bz)(c:s.size<=4000)(w):B3 A3 159 #[B0 s] w λe a=>e=A9 (B0<|dK<|eJ s)/\A1 w.heap.size w a:=by
 apply(J3 s c w).mono;rintro e a b;exact b
abbrev pwZ(w:A5)(a b c:Int):A5:=w.alloc<|.cells #[zI a,zI b,zI c] 255
def jF(k:Int):Bool:=k==28||k==29||k==31
def pv(N:Nd):Int:=ite (N.k=28) 10<|ite (N.k=29) 26<|ite (N.k=31) (60+N.op) 0
def tq(N:Nd):Int:=ite (N.k=28) 2<|ite (N.k=29) 1<|ite (N.k=31) ((tg N.op).1) 0
def py(N:Nd):Int:=ite (N.k=28) 3<|ite (N.k=29) 2<|ite (N.k=31) ((tg N.op).2) 0
def avl{a}(h:1<=a/\a<=18):∃j,j<20/\td.getD j 0=60+a/\(∀i,i<j->td.getD i 0≠60+a)/\uE (3*j+1)=(tg a).1/\uE (3*j+2)=(tg a).2:=by
 obtain⟨_,_⟩:=h;obtain rfl|rfl|rfl|rfl|rfl|rfl|rfl|rfl|rfl|rfl|rfl|rfl|rfl|rfl|rfl|rfl|rfl|rfl:=(O:a=1\/a=2\/a=3\/a=4\/a=5\/a=6\/a=7\/a=8\/a=9\/a=10\/a=11\/a=12\/a=13\/a=14\/a=15\/a=16\/a=17\/a=18)
 .exact⟨14,Z,R,Z,R,R⟩
 .exact⟨15,Z,R,Z,R,R⟩
 .exact⟨16,Z,R,Z,R,R⟩
 .exact⟨17,Z,R,Z,R,R⟩
 .exact⟨18,Z,R,Z,R,R⟩
 .exact⟨19,Z,R,Z,R,R⟩
 .exact⟨11,Z,R,Z,R,R⟩
 .exact⟨9,Z,R,Z,R,R⟩
 .exact⟨10,Z,R,Z,R,R⟩
 .exact⟨12,Z,R,Z,R,R⟩
 .exact⟨13,Z,R,Z,R,R⟩
 .exact⟨8,Z,R,Z,R,R⟩
 .exact⟨2,Z,R,Z,R,R⟩
 .exact⟨3,Z,R,Z,R,R⟩
 .exact⟨4,Z,R,Z,R,R⟩
 .exact⟨5,Z,R,Z,R,R⟩
 .exact⟨6,Z,R,Z,R,R⟩
 .exact⟨7,Z,R,Z,R,R⟩
def yE(w:A5):Prop:=∃b a,w.heap[3]?=A0 (.cells Fg b a)
def yE.below{w a B}(h:yE w)(d:A1 B w a)(c:w.heap.size<=B):yE a:=by
 obtain⟨e,b,h⟩:=h;exact⟨e,b,(d.block _<|jm (ai h) c).trans h⟩
def afC(w)(k:yE w){a}(h:1<=a/\a<=18):B3 A3 272 #[zI<|60+a] w λe n=>e=A9 (B4 #[B5 #[zI<|60+a,zI (tg a).1,zI (tg a).2],B1 true])/\A1 w.heap.size w n:=by
 obtain⟨m,b,j⟩:=k;have⟨l,c,d,f,g,i⟩:=avl h;have:=wH w m b j l c _ d f
 rwa [g,i]at this
theorem ub(A a L a0 a9)(ax:Tp A a L a0 a9)(a2:yE A)(i)(a3:i<Ax a)(q:(ab a i).k=31->1<=(ab a i).op/\(ab a i).op<=18)(w)(ar:A1 A.heap.size A w):
  B3 A3 182 #[nV<|qj L i] w λe g=>e=A9 (B4 #[B5 #[zI<|pv<|ab a i,zI<|tq<|ab a i,zI<|py<|ab a i],B1<|jF (ab a i).k])/\A1 w.heap.size w g:=by
 obtain⟨C,_,_,_,_,r,m⟩:=Ai ax a3;have z:=λw=>eD C w;have n:=λw=>sF (eG (ab a i).k) C w;have x:=λao=>(ay _ w).alloc eE ao;have am:=λao=>ar.trans<|(x ao).mono ar.size;have B:=(m.cells<|am<|.cells #[zI 0,zI 0,zI 0] 255).1;have al:yE (pwZ w 0 0 0):=a2.below (am _) O;have l:iB w.heap.size (pwZ w 0 0 0) 0 0 0:=au w _;have p:∀(d:A5)(s t u:Int),A1 (pwZ w 0 0 0).heap.size (pwZ w 0 0 0) d->iB w.heap.size d 0 0 0/\iB w.heap.size (((d.setCell (aj w.heap.size 0)<|zI s).setCell ⟨w.heap.size,1,B6⟩<|zI t).setCell ⟨w.heap.size,2,B6⟩<|zI u) s t u/\A1 w.heap.size w (((d.setCell (aj w.heap.size 0)<|zI s).setCell ⟨w.heap.size,1,B6⟩<|zI t).setCell ⟨w.heap.size,2,B6⟩<|zI u):=by
  intro d s t u f;have b:iB w.heap.size d 0 0 0:=(f.block _<|ai l).trans l;have c:=(x _).trans<|f.mono (x _).size;exact⟨b,b.put s t u,((c.setCell eE _).setCell eE _).setCell eE _⟩
 have v:=ah p;rw[r];by_cases K:(ab a i).k=28
 .have b:Br (pv (ab a i)=10/\tq (ab a i)=2/\py (ab a i)=3/\jF (ab a i).k=true):=⟨by unfold pv;omega,by unfold tq;omega,by unfold py;omega,by rw[K];rfl⟩;obtain⟨ap,af,ak⟩:=al;have j:=wH _ ap af ak 1 Z 10 R Z;rw[K]at B;generalize nC (eG (ab a i).k)=av at n⊢;clear p m r q l;go_enter func182,ntmps182;go_wp2_with (first|(go_at_call 404;apply(z _).mono;rintro e g ⟨rfl,an⟩;subst g)|(go_at_call 272;fail));apply j.mono;rintro e d ⟨rfl,f⟩;have c:=v.out d 10 2 3 f;have⟨E,F,G,H⟩:=c.1.cells;have h:=ah c.2;have o:uE (3*1+1)=2:=rfl;have y:uE (3*1+2)=3:=rfl;rw[o,y];clear c f;go_wp2;exact aA (lp R _ _ _ _ (B1 true) _ R R<|zF _ _ _ _ _ h.out.1) R ⟨by rw[b.out.1,b.out.2.1,b.out.2.2.1,b.out.2.2.2],h.out.2⟩
 have a1:((ab a i).k==28)=false:=U;by_cases ad:(ab a i).k=29
 .have b:Br (pv (ab a i)=26/\tq (ab a i)=1/\py (ab a i)=2/\jF (ab a i).k=true):=⟨by unfold pv;omega,by unfold tq;omega,by unfold py;omega,by rw[ad];rfl⟩;obtain⟨ap,af,ak⟩:=al;have j:=wH _ ap af ak 0 Z 26 R Z;rw[ad]at B;generalize nC (eG (ab a i).k)=av at n⊢;clear p m r q l;go_enter func182,ntmps182;go_wp2_with (first|(go_at_call 404;apply(z _).mono;rintro e g ⟨rfl,an⟩;subst g)|(go_at_call 272;fail));apply j.mono;rintro e d ⟨rfl,f⟩;have c:=v.out d 26 1 2 f;have⟨E,F,G,H⟩:=c.1.cells;have h:=ah c.2;have o:uE (3*0+1)=1:=rfl;have y:uE (3*0+2)=2:=rfl;rw[o,y];clear c f;go_wp2;exact aA (lp R _ _ _ _ (B1 true) _ R R<|zF _ _ _ _ _ h.out.1) R ⟨by rw[b.out.1,b.out.2.1,b.out.2.2.1,b.out.2.2.2],h.out.2⟩
 have ak:((ab a i).k==29)=false:=U;by_cases o:(ab a i).k=31
 .have b:Br (pv (ab a i)=60+(ab a i).op/\tq (ab a i)=(tg (ab a i).op).1/\py (ab a i)=(tg (ab a i).op).2/\jF (ab a i).k=true):=⟨by unfold pv;omega,by unfold tq;omega,by unfold py;omega,by rw[o];rfl⟩;have y:=q o;have j:=afC _ al y;have af:eG (ab a i).k=4:=by rw[o];rfl
  have ba:=(m.cells<|am<|.cells #[zI 0,zI 0,zI 0] 255).2.2 _ (by rw[af];rfl);rw[af]at n⊢;simp[nC]at n⊢;have bb:=λw=>au9 C w;rw[o]at B;have a5:IntKind.i64.wrap (60+(ab a i).op)=60+(ab a i).op:=by rw[du];omega
  have ap:=y.2;have a4:=y.1;generalize (tg (ab a i).op).1=a7 at j b;generalize (tg (ab a i).op).2=a8 at j b;generalize (ab a i).op=a6 at j b ba a5 ap a4;clear p m r q l y;go_enter func182,ntmps182;go_wp2_with (first|(go_at_call 404;apply(z _).mono;rintro e g ⟨rfl,an⟩;subst g)|(go_at_call 272;fail));apply j.mono;rintro e d ⟨rfl,f⟩;have c:=v.out d (60+a6) a7 a8 f;have⟨E,F,G,H⟩:=c.1.cells;have h:=ah c.2;clear c f;go_wp2;exact aA (lp R _ _ _ _ (B1 true) _ R R<|zF _ _ _ _ _ h.out.1) R ⟨by rw[b.out.1,b.out.2.1,b.out.2.2.1,b.out.2.2.2],h.out.2⟩
 .have h:((ab a i).k==31)=false:=U;have b:Br (pv (ab a i)=0/\tq (ab a i)=0/\py (ab a i)=0/\jF (ab a i).k=false):=⟨by unfold pv;omega,by unfold tq;omega,by unfold py;omega,by unfold jF;grind⟩;have c:=v.out _ 0 0 0 blR;have⟨E,F,G,H⟩:=c.1.cells;have f:Br (iB w.heap.size (pwZ w 0 0 0) 0 0 0/\A1 w.heap.size w (pwZ w 0 0 0)):=⟨l,x _⟩;generalize nC (eG (ab a i).k)=av at n⊢;generalize (ab a i).k=j at B a1 ak h n b;clear p m r q l c K ad o;go_enter func182,ntmps182;go_wp2_with (go_at_call 404;apply(z _).mono;rintro e g ⟨rfl,an⟩;subst g);exact aA (lp R _ _ _ _ (B1 false) _ R R<|zF _ _ 0 0 0 f.out.1) R ⟨by rw[b.out.1,b.out.2.1,b.out.2.2.1,b.out.2.2.2],f.out.2⟩
def vH{b}(a:Nat)(c:Tp w0 ns L b vs)(g:i<Ax ns)(h:(ab ns i).k=(a:Int))(l:Pw w0 vb f #[vP vb,kH w0 t,nV<|qj L i] Y)(e:(ae2 vb)[a]?=A0 (mv vb f):=by rfl)(j:a<43:=by decide)(d:∀(args:zAV) (w),(callFunc f args).run A3 w= .ok (.enter f args) w:=by intro args w;kernel_rfl):Jk w0 vb L t i Y:=anB w0 vb ns L b vs c t i g a h j f e d Y l
section
variable {w0 : World} {vb : Nat}
structure Pq (w0:A5) (vb:Nat) (w:A5) (T:Bz) (W:A5):Prop where
 ps:Ps w0 vb T W
 kq:Kq w0.heap.size w W
variable {w V W : World} {T Y : Bz} {f : FuncId} {args : zAV} {Q : Ending → World → Prop}
def Pq.below(P:Pq w0 vb w T V)(b:A1 V.heap.size V W):Pq w0 vb w T W:=⟨P.ps.below b,P.kq.trans<|Kq.of_below b⟩
def Pq.stp(P:Br (Pq w0 vb w T V))(c:A1 V.heap.size V W)(S:Br (Pw w0 vb f args Y))(k:∀b,Br (Pq w0 vb w (T++Y) b)->A1 w0.heap.size w0 b->Q (A9<|B4 #[]) b):B3 A3 f args W Q:=
 (S _ _ (P.below c).ps).mono λ_ d a=>a.1 ▸ k d ⟨a.2.1,(P.below c).kq.trans a.2.2⟩ a.2.1.pg.bel
def Pq.fin(P:Br (Pq w0 vb w Y W))(e:Y=T):Ending.returned (B4 #[])=A9 (B4 #[])/\Ps w0 vb T W/\Kq w0.heap.size w W:=⟨R,e ▸ P.ps,P.kq⟩
variable {L : zLJ} {N : Nd} {b n c j : Nat} {vn : Value} {pa : Addr} {q : Int}
def NdQ.kid0(K:NdQ w0 L N b vn (A0 pa) n c)(e:N.ks[0]?=A0 q)(W)(d:A1 w0.heap.size w0 W):W.cell? pa=A0 (nV<|qj L q):=by
 obtain⟨_,a,_,f⟩:=(K.ks.below d).get e;cases a;simpa [Addr.add] using f
def NdQ.kid(K:NdQ w0 L N b vn (A0 pa) n c)(f:N.ks[j]?=A0 q)(e:j≠0)(W)(d:A1 w0.heap.size w0 W):W.cell? (aj pa.block<|pa.off+j)=A0 (nV<|qj L q):=by
 obtain⟨_,a,_,g⟩:=(K.ks.below d).get f;cases a;exact Hp g e
end
section
variable (w0 : World) (vb : Nat) (L : zLJ) (t : Nat)
abbrev LX(b:zLI)(X:Bz):Prop:=∀a,uu w0 L a b->Pw w0 vb 178 #[vP vb,kH w0 t,a] X
abbrev VX(f:FuncId)(q:Nat)(a:Bz):Prop:=Pw w0 vb f #[vP vb,kH w0 t,nV<|qj L (q:Int)] a
inductive MO (N:Nd) (i:Nat):FuncId->Bz->Prop|brk:MO N i 81 ⟨#[98,114,101,97,107]⟩|nxt:MO N i 82 ⟨#[110,101,120,116]⟩|nil_:MO N i 87 ⟨#[110,105,108]⟩|tru:MO N i 88 ⟨#[116,114,117,101]⟩|fls:MO N i 89 ⟨#[102,97,108,115,101]⟩|rst:MO N i 94 ⟨#[46,46,46]⟩|do_ {q:Nat}{E:Bz}:N.ks[0]?=some (q:Int)->Hid (VX w0 vb L t 106 q E)->MO N i 76 E|itm {q:Nat}{E:Bz}:N.ks[0]?=some (q:Int)->Hid (VX w0 vb L t 106 q E)->MO N i 103 E|ret0:List.length N.ks=0->MO N i 83 ⟨#[114,101,116,117,114,110]⟩|ret {X:Bz}:0<List.length N.ks->LX w0 vb L t N.ks X->MO N i 83 (⟨#[114,101,116,117,114,110]⟩++(⟨#[32]⟩++X))|thr {X:Bz}:LX w0 vb L t N.ks X->MO N i 85 (⟨#[116,104,114,111,119,32]⟩++X)|dfr {X:Bz}:LX w0 vb L t N.ks X->MO N i 86 (⟨#[100,101,102,101,114,32]⟩++X)|ind {q r:Nat}{E F:Bz}:N.ks[0]?=some (q:Int)->N.ks[1]?=some (r:Int)->Hid (VX w0 vb L t 187 q E)->Hid (VX w0 vb L t 188 r F)->MO N i 97 (E++F)|one {q:Nat}{E:Bz}:N.ks[0]?=some (q:Int)->Hid (Pw w0 vb 183 #[vP vb,kH w0 t,nV<|qj L (q:Int),.bool true] E)->MO N i 102 E|iff {Y:Bz}:Hid (Pw w0 vb 179 #[vP vb,kH w0 t,.string ⟨#[105,102,32]⟩,nV<|qj L (i:Int)] Y)->MO N i 77 Y|par {q:Nat}{E X:Bz}:List.length N.ks=2->N.ks[0]?=some (q:Int)->Hid (VX w0 vb L t 188 q E)->LX w0 vb L t (N.ks.drop 1) X->MO N i 104 (E++(⟨#[32,61,32]⟩++X))|whl {q:Nat}{X E:Bz}:List.length N.ks=2->LX w0 vb L t (N.ks.take 1) X->N.ks[1]?=some (q:Int)->Hid (VX w0 vb L t 106 q E)->MO N i 78 (⟨#[119,104,105,108,101,32]⟩++X++⟨#[32]⟩++E)|fnx {Y:Bz}:Hid (VX w0 vb L t 177 i Y)->MO N i 101 (⟨#[102,110]⟩++Y)
end
def m_w{E}(u:Tp w0 ns L E vs)(a0:t<=100000)(K:i<Ax ns){N}(F:ab ns i=N)(ap:Ax N.ks<=1048576)(G:MO w0 vb L t N i f Y):
  Pw w0 vb f #[vP vb,kH w0 t,nV<|qj L i] Y:=by
 intro B d g;obtain⟨v,_,_,ak,l,m,a⟩:=Ai u K;rw[F]at m a;have r:=λd=>eD v d;have ar:=λd=>sr w0.heap.size (gB t) d;have ax:=λd=>Bj w0.heap.size (gB t) d;have ad:=a.hn;have av:=λd=>sF (eG N.k) v d;have z:=ah (λb g=>mm w0 vb t b g);have A:Br (∀(b e:Bz)(c:B2),b.size<=100000000->Br (Pw w0 vb 178 #[vP vb,kH w0 t,c] e)->Pw w0 vb 176 #[vP vb,kH w0 t,B0 b,c] (b++e)):=λb e c g o=>qk w0 vb t b e g c o;have y:Br (∀(b e Y:Bz)(c h:B2),b.size<=100000000->Br (Pw w0 vb 178 #[vP vb,kH w0 t,c] e)->Br (Pw w0 vb 106 #[vP vb,kH w0 t,h] Y)->Pw w0 vb 180 #[vP vb,kH w0 t,B0 b,c,h] (b++e++⟨#[32]⟩++Y)):=λb e Y c h g o af=>Bi w0 vb t b _ Y c h (qk w0 vb t b e g c o) af;have a1:=λk (q:A1 w0.heap.size w0 k)=>(a.cells q).1;have r5:=λk (q:A1 w0.heap.size w0 k)=>(a.cells q).2.1;have p:=g.pg.bel;have P:Br (Pq w0 vb d B d):=⟨g,Kq.refl _ _⟩;have s:=ah a;cases G
 case' ret hX=>have n:=ah<|hX _ a.ks
 case' ret=>have am:(0:Int)<(ak:Int):=O
 case' thr hX=>have n:=ah<|hX _ a.ks
 case' dfr hX=>have n:=ah<|hX _ a.ks
 case' iff hX=>rw[m]at hX
 case' par hq _ hX=>obtain⟨x,rfl,w, -⟩:=a.ks.get hq;have n:=ah<|hX (A2 (A0 ⟨_,_,B6⟩) 1 _)<|a.ks.drop 1 1 O O
 case' whl hX hq _=>obtain⟨x,rfl,w, -⟩:=a.ks.get hq;have n:=ah<|hX _<|a.ks.take 1 O
 case' fnx hX=>unfold VX at hX;rw[m]at hX
 all_goals
  try (have h:=ad.symm.trans (by with_reducible assumption:Ax N.ks=_);subst h)
  try (have h:=a.ks.get (by with_reducible assumption:N.ks[_]?=A0 _);obtain⟨x,rfl,w, -⟩:=h)
  (try have a4:=s.kid0 byW)
  (try have a5:=s.kid (j:=1) byW Z)
  try (have an:=wF (by with_reducible assumption:N.ks[0]?=A0 _))
  try (have ao:=wF (by with_reducible assumption:N.ks[1]?=A0 _))
  try (have H:(1:Int)<=(l:Int)/\1<=l/\¬l=0/\(1<=l):=O;obtain⟨_,_,_,_⟩:=H)
  try (have al:¬l=1:=O)
  rw[m];generalize nC (eG N.k)=a3 at *;try unfold VX at *
  unfold kH th at *;generalize gB t=a2 at *;clear g a m u;go_in
  repeat' (go_wp2_with (go_at_call 404;refine ez (r _) ?_);first|(refine Pq.stp P blR (by with_reducible first|assumption|exact ah (z.out _ Z)|exact ah (A.out _ _ _ Z O)) ?_;intro k P p)|(go_region_held3 (λC=>A1 w0.heap.size w0 C) (first|exact(P.below blW).ps.pg.bel|exact p|go_keep) (first|(go_at_call 404;refine ez (r _) ?_)|(refine Pq.stp P blW (by with_reducible exact ah<|y.out _ _ _ _ _ Z O O) ?_;intro k P p))))
  all_goals
   go_wp2_with (go_at_call 404;apply ez<|r _);go_end0
   exact Pq.fin P (by simp only[aB])
theorem sz2{a s:Bz}(b:a.size<=100)(c:s.size<=1000000):(a++s).size<=100000000:=U
theorem sz3{a s b:Bz}(c:a.size<=100)(e:s.size<=1000000)(d:b.size<=100):(a++s++b).size<=100000000:=U
section
variable (w0 : World) (vb : Nat) (L : zLJ) (t : Nat)
inductive MN (N:Nd) (i:Nat):FuncId->Bz->Prop|let0:Hid (N.k=2)->List.length N.ks=0->MN N i 72 (⟨#[108,101,116,32]⟩++cD N.nm)|let1 {X:Bz}:Hid (N.k=2)->0<List.length N.ks->LX w0 vb L t N.ks X->MN N i 72 (⟨#[108,101,116,32]⟩++cD N.nm++(⟨#[32,61,32]⟩++X))|cst {X:Bz}:Hid (N.k=3)->LX w0 vb L t N.ks X->MN N i 73 (⟨#[99,111,110,115,116,32]⟩++cD N.nm++⟨#[32,61,32]⟩++X)|fns {q:Nat}{E:Bz}:Hid (N.k=4)->N.ks[0]?=some (q:Int)->Hid (VX w0 vb L t 177 q E)->MN N i 74 (⟨#[102,110,32]⟩++cD N.nm++E)|try_ {q r:Nat}{E F:Bz}:Hid (N.k=14)->N.ks[0]?=some (q:Int)->N.ks[1]?=some (r:Int)->Hid (VX w0 vb L t 106 q E)->Hid (VX w0 vb L t 106 r F)->MN N i 84 (⟨#[116,114,121,32]⟩++E++⟨#[32,99,97,116,99,104,32]⟩++cD N.nm++⟨#[32]⟩++F)|eac {q:Nat}{X E:Bz}:Hid (N.k=10)->List.length N.ks=2->LX w0 vb L t (N.ks.take 1) X->N.ks[1]?=some (q:Int)->Hid (VX w0 vb L t 106 q E)->MN N i 80 (⟨#[102,111,114,32]⟩++cD N.nm++⟨#[32,105,110,32]⟩++X++⟨#[32]⟩++E)|fr {k q:Nat}{X E:Bz}:Hid (N.k=9)->k=2\/k=3->List.length N.ks=k+1->LX w0 vb L t (N.ks.take k) X->N.ks[k]?=some (q:Int)->Hid (VX w0 vb L t 106 q E)->MN N i 79 (⟨#[102,111,114,32]⟩++cD N.nm++⟨#[32,61,32]⟩++X++⟨#[32]⟩++E)
end
def m_n{af}(C:Tp w0 ns L af vs)(bc:t<=100000)(ap:i<Ax ns){N}(al:ab ns i=N)(a9:Ax N.ks<=1048576)(ar:Ax N.nm<=1048576)(c:(cD N.nm).size<=1000000)(E:MN w0 vb L t N i f Y):
  Pw w0 vb f #[vP vb,kH w0 t,nV<|qj L i] Y:=by
 intro K e h;have⟨u,a1,_,a0,m,w,a⟩:=Ai C ap;rw[al]at w a;have x:=λe=>eD u e;have ba:=λe=>sr w0.heap.size (gB t) e;have bb:=λe=>Bj w0.heap.size (gB t) e;have ax:=a.hn;have F:eG N.k=0:=by cases E<;>(rw[(by assumption:Br (N.k=_)).out];rfl)
 have av:=λe=>sF 0 u e;have A:=ah (λb h=>mm w0 vb t b h);have B:Br (∀(b g:Bz)(d:B2),b.size<=100000000->Br (Pw w0 vb 178 #[vP vb,kH w0 t,d] g)->Pw w0 vb 176 #[vP vb,kH w0 t,B0 b,d] (b++g)):=λb g d h v=>qk w0 vb t b g h d v;have z:Br (∀(b g Y:Bz)(d k:B2),b.size<=100000000->Br (Pw w0 vb 178 #[vP vb,kH w0 t,d] g)->Br (Pw w0 vb 106 #[vP vb,kH w0 t,k] Y)->Pw w0 vb 180 #[vP vb,kH w0 t,B0 b,d,k] (b++g++⟨#[32]⟩++Y)):=λb g Y d k h v n=>Bi w0 vb t b _ Y d k (qk w0 vb t b g h d v) n;have y:=ah (λl o=>adD l u a1 _ (a.nm.below o) a.jn ar O<|(a.cells o).2.2 _ (by rw[F];rfl));have bd:=λl (o:A1 w0.heap.size w0 l)=>(a.cells o).1;have r5:=λl (o:A1 w0.heap.size w0 l)=>(a.cells o).2.1;have p:=h.pg.bel;have P:Br (Pq w0 vb e K e):=⟨h,Kq.refl _ _⟩;have q:=ah a;cases E
 case' let1 hX=>have s:=ah<|hX _ a.ks;have a6:(0:Int)<(a0:Int):=O
 case' cst hX=>have s:=ah<|hX _ a.ks
 case' eac hX _ _=>have s:=ah<|hX _<|a.ks.take 1 O
 case' fr hk _ hX _ _=>have s:=ah<|hX _<|a.ks.take _ O;obtain rfl|rfl:=hk
 all_goals
  try (have k:=ax.symm.trans O;subst k)
  try (have k:=a.ks.get O;obtain⟨_,rfl,_, -⟩:=k)
  (try have bh:=q.kid0 O)
  (try have bj:=q.kid (j:=1) O Z)
  (try have bk:=q.kid (j:=2) O Z)
  (try have bl:=q.kid (j:=3) O Z)
  try (have a7:=wF (by with_reducible assumption:N.ks[0]?=A0 _))
  try (have a8:=wF (by with_reducible assumption:N.ks[1]?=A0 _))
  try (have a5:¬m=0:=by omega)
  try (have am:(1:Int)<=(m:Int)/\1<=m:=O;obtain⟨_,_⟩:=am)
  try (have an:(2:Int)<=(m:Int)/\2<=m:=O;obtain⟨_,_⟩:=an)
  try (have ao:(3:Int)<=(m:Int)/\3<=m:=O;obtain⟨_,_⟩:=ao)
  rw[w,F];simp[nC]at av⊢;generalize cD N.nm=H at *;have a3:∀n:Nat,n<=100->¬9223372036854775807<n+H.size:=O;have a4:∀n G:Nat,n<=100->G<=100->¬9223372036854775807<n+H.size+G:=O;unfold VX at *;unfold kH th at *;generalize gB t=bf at *;clear h a w C;go_in
  repeat' (go_wp2_with (first|(go_at_call 404;refine ez (x _) ?_)|(go_at_call 175;apply(y.out _ p).mono;rintro ak a2 ⟨rfl,r⟩;have P:=ah<|P.below r;have p:=P.ps.pg.bel));first|(refine Pq.stp P blR (by with_reducible first|assumption|exact ah (A.out _ (by first|decide|exact sz2 Z c|exact sz3 Z c Z))|exact ah (B.out _ _ _ (by first|decide|exact sz2 Z c|exact sz3 Z c Z) O)|exact ah (z.out _ _ _ _ _ (by first|decide|exact sz2 Z c|exact sz3 Z c Z) byA byA)) ?_;intro l P p)|(go_region_held3 (λad=>A1 w0.heap.size w0 ad) (first|exact(P.below blW).ps.pg.bel|exact((P.below blW).below r).ps.pg.bel|exact p|go_keep) (first|(go_at_call 404;refine ez (x _) ?_)|(go_at_call 175;refine(y.out _ (P.below blW).ps.pg.bel).mono ?_;rintro ak a2 ⟨rfl,r⟩)|(refine Pq.stp P (by first|exact eC blR|exact blW.trans r) (by with_reducible first|assumption|exact ah (A.out _ (by first|decide|exact sz2 Z c|exact sz3 Z c Z))|exact ah (B.out _ _ _ (by first|decide|exact sz2 Z c|exact sz3 Z c Z) byA)|exact ah (z.out _ _ _ _ _ (by first|decide|exact sz2 Z c|exact sz3 Z c Z) byA byA)) ?_;intro l P p))))
  all_goals
   go_wp2_with (go_at_call 404;apply ez<|x _);go_end0
   exact Pq.fin P (by simp only[aB])
section
variable (w0 : World) (vb : Nat) (L : zLJ) (t : Nat)
inductive MD (N:Nd) (i:Nat):FuncId->UInt8->Bz->Prop|tab {X:Bz}:LX w0 vb L t N.ks X->MD N i 100 125 (⟨#[123]⟩++X)|call {q:Nat}{E X:Bz}:N.ks[0]?=some (q:Int)->Hid (VX w0 vb L t 187 q E)->LX w0 vb L t (N.ks.drop 1) X->MD N i 99 41 (E++⟨#[40]⟩++X)
end
theorem m_d{x}(n:Tp w0 ns L x vs)(av:t<=100000)(G:i<Ax ns){N}(B:ab ns i=N)(am:Ax N.ks<=1048576){z}(C:MD w0 vb L t N i f z Y):
  Pw w0 vb f #[vP vb,kH w0 t,nV<|qj L i] (Y++⟨#[z]⟩):=by
 intro d a c;obtain⟨o,_,_,e,y,l,b⟩:=Ai n G;rw[B]at l b;have q:=λa=>eD o a;have an:=λa=>sr w0.heap.size (gB t) a;have ar:=λa=>Bj w0.heap.size (gB t) a;have ap:=b.hn;have ao:=λa=>sF (eG N.k) o a;have w:=ah (λaf c=>mm w0 vb t af c);have v:Br (∀d a,Ps w0 vb d a->∀h,CallsD A3 403 #[th w0 t,B0 ⟨#[z]⟩] h a λp r s=>r=h/\(p=A9 (B4 #[])/\Ps w0 vb (d++⟨#[z]⟩) s/\Kq w0.heap.size a s)):=λd a c h=>pu w0 vb t _ d (by show(1:Nat)<=100000000;decide) h a c;have ax:=λg (j:A1 w0.heap.size w0 g)=>(b.cells j).1;have r5:=λg (j:A1 w0.heap.size w0 g)=>(b.cells j).2.1;have A:=c.pg.bel;have P:Br (Pq w0 vb a d a):=⟨c,Kq.refl _ _⟩;have u:=ah b;cases C
 case' tab hX=>have m:=ah<|hX _ b.ks
 case' call hq _ hX=>
  obtain⟨ad,rfl,_, -⟩:=b.ks.get hq;have ak:=wF hq;have al:(0:Int)<(e:Int):=O;have E:(1:Int)<=(e:Int)/\1<=e:=O;obtain⟨_,_⟩:=E;have a2:=u.kid0 hq;by_cases F:y=1
  case' pos=>
   obtain rfl:e=1:=O;subst F;have m:=ah<|hX (A2 (A0 ad) 0 0)<|.inl ⟨U,_,_,R⟩
  case' neg=>have m:=ah<|hX (A2 (A0 ⟨_,_,B6⟩) _ _)<|b.ks.drop 1 (e-1) O O
 all_goals
  rw[l];generalize nC (eG N.k)=a1 at *;unfold VX at *;unfold kH th at *;generalize gB t=a0 at *;clear c b l n;first|go_enter_defers func100,ntmps100|go_enter_defers func99,ntmps99
  repeat (go_wp2_with (go_at_call 404;apply ez<|q _);refine Pq.stp P blR (by with_reducible first|assumption|exact ah (w.out _ Z)) ?_;intro g P A)
  go_wp2_with (go_at_call 404;refine ez (q _) ?_);apply pf I<|xd _ _ _ _;apply(v.out _ _ P.ps _).mono;rintro p r _ ⟨rfl,rfl,K,H⟩;refine⟨_,fE R _ _ _,R,?_,P.kq.trans H⟩;simpa only[aB] using K
theorem aj2(w i j l)(q:dt w i l)(r:dt w j l)(t:Ax l<=1048576):
  B3 A3 156 #[i,j] w λe a=>e=A9 (B1 true)/\A1 w.heap.size w a:=by
 obtain⟨m,o,rfl⟩:=q.form;obtain⟨n,p,rfl⟩:=r.form;have⟨b,g⟩:=aw<|Ax l;have k:=ah g;have f:Br (dt w (A2 m b o) l/\dt w (A2 n b p) l):=U;rw[g]at t⊢;go_in;go_wp21
 go_loopw [13] (λd wr=>∃a:Nat,a<=b/\d=zI a/\A1 w.heap.size w wr) (λd _=>b-(B7 d).toNat)
 .exact⟨0,O,R,blR⟩
 .
  obtain⟨a,_,rfl,c⟩:=hrel;by_cases u:a<b
  .have⟨_,h⟩:=bg k.out u;obtain⟨_,rfl,_⟩:=(f.1.below c).get h;obtain⟨_,rfl,_⟩:=(f.2.below c).get h;have s:(a:Int)<(b:Int):=O;go_wp21
   go_quiet (fail)
   go_wp21
   exact⟨⟨a+1,O,by go_num,nB c _⟩,by simp[B7];omega⟩
  .obtain rfl:a=b:=O;have s:¬(a:Int)<(a:Int):=O;go_wp21
   go_ret
   simp_all
theorem afD(w i j l)(q:bv w i l)(r:bv w j l)(t:Ax l<=1048576):
  B3 A3 155 #[i,j] w λe a=>e=A9 (B1 true)/\A1 w.heap.size w a:=by
 obtain⟨m,o,rfl⟩:=q.form;obtain⟨n,p,rfl⟩:=r.form;have⟨b,g⟩:=aw<|Ax l;have k:=ah g;have f:Br (bv w (A2 m b o) l/\bv w (A2 n b p) l):=U;rw[g]at t⊢;go_in;go_wp21
 go_loopw [13] (λd wr=>∃a:Nat,a<=b/\d=zI a/\A1 w.heap.size w wr) (λd _=>b-(B7 d).toNat)
 .exact⟨0,O,R,blR⟩
 .
  obtain⟨a,_,rfl,c⟩:=hrel;by_cases u:a<b
  .have⟨_,h⟩:=bg k.out u;obtain⟨_,rfl,_⟩:=(f.1.below c).get h;obtain⟨_,rfl,_⟩:=(f.2.below c).get h;have s:(a:Int)<(b:Int):=O;go_wp21
   go_quiet (fail)
   go_wp21
   exact⟨⟨a+1,O,by go_num,nB c _⟩,by simp[B7];omega⟩
  .obtain rfl:a=b:=O;have s:¬(a:Int)<(a:Int):=O;go_wp21
   go_ret
   simp_all
def dE.rd{W a n c k l N}(h:dE W (A2 (A0 a) n c) l)(m:l[k]?=A0 N):
  ∃d j g b i e,(W.cell? (a.add<|k*9)=A0 (zI N.k)/\W.cell? (aj ((a.add<|k*9).block)<|(a.add<|k*9).off+1)=A0 (zI N.f)/\W.cell? (aj ((a.add<|k*9).block)<|(a.add<|k*9).off+2)=A0 (zI N.t)/\W.cell? (aj ((a.add<|k*9).block)<|(a.add<|k*9).off+3)=A0 (zI N.l)/\W.cell? (aj ((a.add<|k*9).block)<|(a.add<|k*9).off+4)=A0 (zI N.op)/\W.cell? (aj ((a.add<|k*9).block)<|(a.add<|k*9).off+5)=A0 (zI N.n)/\W.cell? (aj ((a.add<|k*9).block)<|(a.add<|k*9).off+6)=A0 (B0 N.x)/\W.cell? (aj ((a.add<|k*9).block)<|(a.add<|k*9).off+7)=A0 (A2 d j g)/\W.cell? (aj ((a.add<|k*9).block)<|(a.add<|k*9).off+8)=A0 (A2 b i e))/\Ax N.ks=i/\dt W (A2 b i e) N.ks/\bv W (A2 d j g) N.nm:=by
 have⟨_,i,_,_,h⟩:=h.get m;cases i;obtain⟨d,g,rfl⟩:=h.hn.form;obtain⟨b,e,rfl⟩:=h.hk.form;exact⟨d,_,g,b,_,e,⟨h.c0,h.c1,h.c2,h.c3,h.c4,h.c5,h.c6,h.c7,h.c8⟩,R,h.hk,h.hn⟩
theorem ck9{W k}(m:A1 W.heap.size W k){a b c d e f g i j p q r s t u v x l}(h:W.cell? a=A0 p/\W.cell? b=A0 q/\W.cell? c=A0 r/\W.cell? d=A0 s/\W.cell? e=A0 t/\W.cell? f=A0 u/\W.cell? g=A0 v/\W.cell? i=A0 x/\W.cell? j=A0 l):
  k.cell? a=A0 p/\k.cell? b=A0 q/\k.cell? c=A0 r/\k.cell? d=A0 s/\k.cell? e=A0 t/\k.cell? f=A0 u/\k.cell? g=A0 v/\k.cell? i=A0 x/\k.cell? j=A0 l:=by
 obtain⟨_,_,_,_,_,_,_,_,_⟩:=h;have n:=λ{a v}=>ag m (a:=a) (v:=v);grind
def aj3(w N h f i g)(n:bv w h N.nm)(k:dt w f N.ks)(n2:bv w i N.nm)(l:dt w g N.ks)(y:Ax N.nm<=1048576)(z:Ax N.ks<=1048576):
  B3 A3 56 #[jq N h f,jq N i g] w λe a=>e=A9 (B1 true)/\A1 w.heap.size w a:=by
 have ks:=λb a=>afD b h i _ (n.below a) (n2.below a) y;have m:=λb a=>aj2 b f g _ (k.below a) (l.below a) z;obtain⟨_,_,rfl⟩:=n.form;obtain⟨_,_,rfl⟩:=n2.form;obtain⟨p,s,rfl⟩:=k.form;obtain⟨q,t,rfl⟩:=l.form;unfold jq;generalize Ax N.nm=B at ks⊢;generalize Ax N.ks=j at m⊢;go_in;go_wp2_with fail;generalize x:(w.alloc _).alloc _=o;obtain⟨u,v,d, -⟩:=Eu x;refine dd (ks o d) λw1 c=>?_;have C:w1.cell? (aj w.heap.size 8)=A0 (A2 p j s):=ag c<|crV u;have E:w1.cell? (aj (w.heap.size+1) 8)=A0 (A2 q j t):=ag c<|crV v;have a:=d.trans<|c.mono d.size;have A:=m w1 a;go_wp2_with (go_at_call 156;refine dd A λ_ r=>?_);go_ret;exact⟨R,a.trans<|r.mono a.size⟩
def KF(w y z l)(k:dE w y l)(m:dE w z l)(L:Ax l<=1048576)(H:∀N∈l,Ax N.nm<=1048576/\Ax N.ks<=1048576):
  B3 A3 24 #[B5 #[y],B5 #[z]] w λe a=>e=A9 (B1 true)/\A1 w.heap.size w a:=by
 obtain⟨A,C,rfl⟩:=k.form;obtain⟨B,E,rfl⟩:=m.form;have⟨b,v⟩:=aw<|Ax l;rw[v]at k m L⊢;have c:=Cg v k m H;go_in;go_wp2_with fail;generalize K:(w.alloc _).alloc _=g;obtain⟨F,G,s, -⟩:=Eu K;have o:g.cell? (aj w.heap.size 0)=A0 (A2 A b C):=crV F;have p:g.cell? (aj (w.heap.size+1) 0)=A0 (A2 B b E):=crV G;have f:=jG s o p;go_loopw [16] (λq wr=>∃a:Nat,a<=b/\q=zI a/\A1 g.heap.size g wr) (λq _=>b-(B7 q).toNat)
 .exact⟨0,O,R,blR⟩
 .
  obtain⟨a,_,rfl,h⟩:=hrel;have o:=ag h f.2.1;have p:=ag h f.2.2;have n:=f.1.trans<|h.mono f.1.size;by_cases ad:a<b
  .have⟨N,d⟩:=bg c.1 ad;have⟨ap,ar⟩:=c.2.2.2 N<|db d;obtain⟨_,rfl, -⟩:=c.2.1.get d;obtain⟨s,rfl, -⟩:=c.2.2.1.get d;have⟨_,_,_,_,_,_,an,_,af,al⟩:=(c.2.1.below n).rd d;have⟨_,_,_,_,_,_,ao,_,ak,am⟩:=(c.2.2.1.below n).rd d;have x:=aj3 wr.drew N _ _ _ _ al af am ak ap ar;unfold jq at x;have ax:(a:Int)<(b:Int):=O;have av:(0:Int)<=(a:Int):=O;have u:A1 wr.heap.size wr wr.drew:=blW;have a0:=λj (i:A1 wr.heap.size wr j)=>(⟨⟨ag i o,ag i p⟩,ck9 i an,ck9 i ao⟩:(_/\_)/\_/\_);have r:=fs n h;go_wp2_with fail;go_region_held3 (λj=>A1 wr.heap.size wr j) (first|exact u.trans t|exact u) ((go_at_call 56;refine dd x λ_ t=>?_))
   go_wp2;exact⟨⟨a+1,O,by go_num,(eC r.2).trans<|t.mono r.2.size⟩,by simp[B7];omega⟩
  .obtain rfl:a=b:=O;exact gwS
def adF(W u v c a f)(l:dE W u f)(m:dE W v f)(p:Ax f<=1048576)(o:∀N∈f,Ax N.nm<=1048576/\Ax N.ks<=1048576):
  B3 A3 7 #[B5 #[zI c,zI a,u],B5 #[zI c,zI a,v]] W λe b=>e=A9 (B1 true)/\A1 W.heap.size W b:=by
 have r:=λs n=>KF s u v f (l.below n) (m.below n) p o;obtain⟨g,j,rfl⟩:=l.form;obtain⟨h,k,rfl⟩:=m.form;have⟨d,q⟩:=aw<|Ax f;rw[q]at r⊢;have w:∀b:A5,(Instr.field 28 (B5 #[zI c,zI a,A2 g d j]) 2).run A3 b= .ok (B5 #[A2 g d j]) b:=λb=>by rfl
 have x:∀b:A5,(Instr.field 28 (B5 #[zI c,zI a,A2 h d k]) 2).run A3 b= .ok (B5 #[A2 h d k]) b:=λb=>by rfl
 clear l m p o q;go_in;go_wp2_with fail;have i:=(dj W<|.cells #[zI c,zI a,A2 g d j] 28).trans<|(dj _<|.cells #[zI c,zI a,A2 h d k] 28).mono (dj W _).size;refine dd (r _ i) λw1 t=>?_;exact gwX<|i.trans<|t.mono i.size
