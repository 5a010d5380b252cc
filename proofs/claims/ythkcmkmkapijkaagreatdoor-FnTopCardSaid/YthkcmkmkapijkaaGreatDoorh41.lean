import Derived.Test.YthkcmkmkapijkaaGreatDoorh29
import Derived.Test.YthkcmkmkapijkaaGreatDoorh38
set_option linter.all false
set_option maxRecDepth 100000
set_option maxHeartbeats 3200000
open Go.Proofs.Tryz
open List renaming length->M
open Bool renaming true->Q,false->V
open ByteArray renaming empty->T
open Go.Proofs.Tryz renaming prog->Y
open Go.Value renaming string->Ax,iface->A2,slice->A3,bool->A5,tuple->A9
open Go renaming World->A0,Value->A1
namespace Go.Proofs.YthkcmkmkapijkaaGreatDoor
open Go.RowKit Go.Maps Go.WideMaps
variable{K:Fo}{N:Nd}{a b:Bz}{c k:Int}{ns:zLD}
def ady(S)(i:Nat):∀(l)(a),(∀k∈l,0<=k/\k<(i:Int))->Af (S.take i) l a=Af S l a
 |[],a,_=>rfl|k::r,a,h=>by
  have e:=h k bG;have b:(S.take i).getD k.toNat 0=S.getD k.toNat 0:=by
   rw[ed,ed,List.getElem?_take_of_lt O]
  rw[Af,Af,b,ady S i r _ λd c=>h d<|dJ _ c]
structure Wzd (ns:zLD):Prop where
 nb:∀i:Nat,i<M ns->kK ns i (ab ns i)=Q
 len:1<=M ns
def aa0(h:(bH ns).1=0):Wzd ns:=⟨(aaG h).nb,(yB h).len.1⟩
def sA(g:Int->Fo):zLI->Fo|[]=> .nil|k::r=>(g k).app<|sA g r
def shT(a:zLD):Nat->Int->Fo|0,_=> .nil|f+1,i=>one (ab a i).bare<|sA (shT a f) (ab a i).ks
def Sh(a:zLD)(i:Int):Fo:=shT a (i.toNat+1) i
def Ef{g h}:∀l,(∀z∈l,g z=h z)->sA g l=sA h l|[],_=>rfl|k::r,e=>by rw[sA,sA,e k bG,Ef r λz a=>e z<|dJ _ a]
def aa1(g):∀a b,sA g (a++b)=(sA g a).app (sA g b)|[],b=>rfl|k::r,b=>by rw[fh,sA,sA,aa1,Fo.app_app]
def xb(d:Wzd ns){i}(e:i<M ns){z}(g:z∈(ab ns i).ks):∃a:Nat,z=(a:Int)/\a<i/\a<M ns/\∃j,j<(ab ns i).ks.length/\dA (ab ns i) j=z:=by
 have⟨j,f,c⟩:=pq g;have⟨a,b⟩:=ij (d.nb i e) e j f;exact⟨a,by rw[<-c,b.id],b.lt,b.len,j,f,c⟩
theorem aq9(d:Wzd ns):∀i,i<M ns->∀f,i<f->shT ns f i=Sh ns i:=by
 intro i
 induction i using Nat.strongRecOn with
 |_ i e=>
  intro b f _;obtain⟨f,rfl⟩:∃a,f=a+1:=⟨f-1,O⟩;unfold Sh;rw[shT,(O:((i:Int)).toNat+1=i+1),shT]
  congr 1
  refine Ef _ λ_ c=>?_;obtain⟨_,rfl,_,_,_⟩:=xb d b c;grind
theorem xo(d:Wzd ns){i}(a:i<M ns):Sh ns i=one (ab ns i).bare (sA (Sh ns) (ab ns i).ks):=by
 have:Sh ns i=shT ns (i+1) i:=by rfl
 rw[this,shT]
 congr 1
 refine Ef _ λ_ b=>?_;obtain⟨_,rfl,_,_,_⟩:=xb d a b;grind [aq9]
def Eg(h:M N.ks=2):N.ks=[dA N 0,dA N 1]:=by
 unfold dA
 match e:N.ks,h with
 |[a,b],_=>rfl
def xc(h:M N.ks=1):N.ks=[dA N 0]:=by
 unfold dA
 match e:N.ks,h with
 |[a],_=>rfl
def adz(h:M N.ks=3):N.ks=[dA N 0,dA N 1,dA N 2]:=by
 unfold dA
 match e:N.ks,h with
 |[a,b,c],_=>rfl
def ara(h:M N.ks=4):N.ks=[dA N 0,dA N 1,dA N 2,dA N 3]:=by
 unfold dA
 match e:N.ks,h with
 |[a,b,c,d],_=>rfl
def lJ(g a):sA g [a]=g a:=Fo.app_nil _
def od(g a b):sA g [a,b]=(g a).app (g b):=by rw[sA,lJ]
section
variable {ns : zLD} {N : Nd}
theorem arb{a b c e}(h:bC N a b c e=Q):N.bare=bN N.k (ite (a=Q) N.op 0) (ite (b=Q) N.n 0) (ite (c=Q) N.x z0) (ite (e=Q) N.nm<|[]):=by
 unfold bC DH at h;simp only[dF,zn,decide_eq_true_eq,qo]at h;obtain⟨⟨⟨_,_⟩,d⟩,_⟩:=h;unfold Nd.bare
 congr 1
 .grind
 .grind
 .rcases d with g|g
  .grind
  .have f:N.x=z0:=by
    rw[iH]at g;apply nK;apply Array.toList_inj.1;exact g
   grind
 grind
theorem Dh(h:pG ns N=Q):N.bare=bN N.k (ite (N.k=30\/N.k=31\/N.k=36) N.op 0) (ite (N.k=5\/N.k=23) N.n 0) (ite (N.k=24\/N.k=25\/N.k=26\/N.k=33\/N.k=42) N.x z0) (ite (N.k=2\/N.k=3\/N.k=4\/N.k=9\/N.k=10\/N.k=14\/N.k=36) N.nm<|[]):=by
 have:=arb<|aaF h;grind
theorem Iz(h:pG ns N=Q)(c:N.k=2\/N.k=3\/N.k=4\/N.k=9\/N.k=10\/N.k=14):∃x r,N.nm=x::r/\(∀s∈x::r,lL s=Q)/\(N.k=3\/N.k=4\/N.k=9->r=[])/\(N.k=14->M r<=1):=by
 have h:=qE h;unfold stB at h;have f:∀{b a:Int},gi N b a=Q->1<=b->(N.k=3\/N.k=4\/N.k=9->a=1)->(N.k=14->a<=2)->∃x r,N.nm=x::r/\(∀s∈x::r,lL s=Q)/\(N.k=3\/N.k=4\/N.k=9->r=[])/\(N.k=14->M r<=1):=λ{b a} d _ _ _=>by
  have⟨_,_,_⟩:=oD d;cases e:N.nm with
  |nil=>grind|cons x r=>
   grind
 obtain e|e|e|e|e|e:=c;all_goals (simp[e]at h)
 all_goals grind
theorem aa2(h:pG ns N=Q):(N.k=26\/N.k=33\/N.k=42->lL N.x=Q)/\(N.k=24->fok N.x=Q):=by
 refine⟨λa=>?_,λa=>?_⟩
 .have h:=tH h;unfold jA at h;obtain e|e|e:=a<;>simp[e]at h<;>simp[h]
 .have h:=tH h;grind [jA]
def IA(h:pG ns N=Q)(a:N.k=32\/N.k=33\/N.k=34):(ab ns<|dA N 0).k≠27:=by
 have h:=tH h;unfold jA at h;obtain e|e|e:=a<;>simp[e,oa]at h<;>simp[h]
theorem arc(h:pG ns N=Q)(a:N.k=37):(ab ns<|dA N 0).k=34\/(ab ns<|dA N 0).k=27:=by
 have h:=tH h
 simp_all [jA,oa]
def ax8:∀f j,tgB ns N f j=Q->∀q,j<=q->q<j+f->xj (ab ns<|dA N q).k=Q
 |0,j,_,q,a,b=>O|f+1,j,h,q,a,b=>by
  rw[tgB,dF]at h;obtain rfl|h3:=jx a
  .exact h.1
  .exact ax8 f _ h.2 q h3 O
end
def mBs:zLB->Bz|[]=>T|y::r=>fj++(y++mBs r)
theorem sC(a:Bz):a++T=a:=byS
theorem afv(a:Bz):T++a=a:=byS
theorem adA:∀(r)(a),(r.foldl Jr (Q,a)).2=a++mBs r
 |[],a=>(sC a).symm|y::r,a=>by
  rw[qr,mBs,<-aB,<-aB];exact adA r _
theorem IB(x)(r:zLB):cD (x::r)=x++mBs r:=by
 unfold cD aeD;rw[qr];have:Jr (V,T) x=(Q,x):=by rfl
 grind [adA]
theorem tJ(x):cD [x]=x:=by rfl
theorem rA(x a)(r:zLB):cD (x::a::r)=x++(fj++cD (a::r)):=by grind [IB,mBs]
theorem IC(x)(r:zLB):iw (x::r)=x++iw r:=by
 have c:∀(r:zLB)(a:Bz),r.foldl (· ++·) a=a++r.foldl (· ++·) T:=by
  intro r
  induction r with
  |nil=>simp_all|cons d r b=>grind [T,afv,ByteArray.append_assoc]
 grind [iw,afv]
theorem gl(h:0<a.size):aq (a++b) 0=aq a 0:=by rw[C7,ae h]
theorem aK(h:0<a.size:=by decide):0<(a++b).size:=U
theorem Fx{f:Int->Bool}(h:0<a.size:=by decide)(c:f (aq a 0)=Q:=by decide):f (aq (a++b) 0)=Q:=by grind [gl]
def Gq(h:pm c=Q):Fv c=Q:=by
 have:∀c∈Eb,Fv c=Q:=Z;exact this c<|aL h
theorem ahD(a:k=40\/k=41\/k=42\/k=43\/k=44\/k=45\/k=46\/k=50)(c):Du (di k) k c=Q:=by
 have b:nxS k c=Q:=by unfold nxS;rw[ae a]
 have d:bi (aq (di k) 0)=V/\co (aq (di k) 0)=V/\aq (di k) 0≠34/\aq (di k) 0≠45:=by obtain rfl|rfl|rfl|rfl|rfl|rfl|rfl|rfl:=a<;>decide+kernel
 simp_all [Du,aa]
def lit1{x}(a:k=40\/k=41\/k=42\/k=43\/k=44\/k=45\/k=46\/k=50:=by decide)(h:x=di k:=by decide+kernel):jr sL x [sgF k]:=by
 rw[h];exact(am8 O O (by obtain rfl|rfl|rfl|rfl|rfl|rfl|rfl|rfl:=a<;>decide+kernel)).mono λb _=>ahD a b
def Gr:jr sL ⟨#[40]⟩ [sgF 40]:=lit1
def aa3:jr sL ⟨#[41]⟩ [sgF 41]:=lit1
def nE:jr sL fj [sgF 46]:=lit [46,0]
theorem anr{x l}(h:jr pm x l)(a:0<x.size):jr sL (mI x) (sgF 40::(l++[sgF 41])):=by
 have:=(Gr.app h a R).app aa3;grind [mI]
def Gs(x):0<(mI x).size/\aq (mI x) 0=40:=by
 unfold mI;have a:0<(⟨#[40]⟩++x:Bz).size:=aK;exact⟨aK a,by rw[gl a,gl Z];rfl⟩
def kdK(k:Int):Nat:=ite (k=26) 0<|ite (k=34) 2<|ite (k=37) 3 1
structure EL (ns:zLD) (z:Nat) (x:Bz) (l:zLW):Prop where
 pos:0<x.size
 fb:11<=iu (ab ns z).k (ab ns z).op->aq x 0≠61/\(aq x 0=45->yo (ab ns z)=Q)
 rd:jr pm x l
 ba:mc (ab ns z).k=Q->jr Fv x l/\AL l (Sh ns z) (kdK (ab ns z).k)
 un:11<=iu (ab ns z).k (ab ns z).op->DL l (Sh ns z)
 ex:pj l (Sh ns z) (iu (ab ns z).k (ab ns z).op)
 sh:∃K,Sh ns z=one (ab ns z).bare K
def Jj(a:zLD)(z:Nat)(x:Bz):Prop:=∃l,EL a z x l
theorem ant(a):3<=(tg a).1/\(tg a).1<=(tg a).2/\(tg a).2<=11:=by
 grind [tg]
theorem qL(k a):1<=iu k a/\(iu k a<11->k=28\/k=29\/k=31)/\(iu k a=11->k=30\/k=31):=by
 have:=ant a;grind [iu]
theorem anu{a}(h:mc k=Q):iu k a=12:=by
 simp_all [mc,iu,aa];omega
theorem anv(h:mc N.k=Q):yo N=V:=by
 grind [mc,yo,beq_eq_false_iff_ne]
section
variable {ns : zLD} {E : Int → Bz} {S : Int → Nat → Bz} {z : Nat} {x : Bz} {l : zLW}
def EL.par(h:EL ns z x l)(a:(ab ns z).k≠34)(b:(ab ns z).k≠27):jr sL (mI x) (sgF 40::(l++[sgF 41]))/\AL (sgF 40::(l++[sgF 41])) (Sh ns z) 3:=by
 refine⟨anr h.rd h.pos,?_⟩;have⟨_,c⟩:=h.sh;have:=h.ex.le (r:=0) (by have:=qL (ab ns z).k (ab ns z).op;omega);rw[c]at this⊢;exact this.par a b
def ahE{least}(h:Jj ns z (E z))(d:least<=11):∃l,0<(je ns E z least).size/\jr pm (je ns E z least) l/\pj l (Sh ns z) least:=by
 obtain⟨l,h⟩:=h;have e:=qL (ab ns z).k (ab ns z).op;unfold je;split
 .rename_i c;have⟨a,b⟩:=h.par O O;exact⟨_,(Gs _).1,a.tt,b.un.ex _⟩
 .rename_i c;exact⟨l,h.pos,h.rd,h.ex.le O⟩
def ard(h:Jj ns z (E z)):∃l,0<(je ns E z 11).size/\jr pm (je ns E z 11) l/\DL l (Sh ns z)/\aq (je ns E z 11) 0≠61/\(aq (je ns E z 11) 0=45->yo (ab ns z)=Q):=by
 obtain⟨l,h⟩:=h;have d:=qL (ab ns z).k (ab ns z).op;unfold je;split
 .rename_i a;have⟨b,c⟩:=h.par O O;have:=Gs<|E z;exact⟨_,this.1,b.tt,c.un,O,λa=>(by rw[this.2]at a;cases a)⟩
 .rename_i a;have:=h.fb O;exact⟨l,h.pos,h.rd,h.un O,this.1,this.2⟩
theorem anw(h:Jj ns z (E z))(f:(ab ns z).k≠27):∃l d,d<4/\(0<(Hn ns E z).size/\aq (Hn ns E z) 0≠61/\aq (Hn ns E z) 0≠45)/\jr Fv (Hn ns E z) l/\AL l (Sh ns z) d:=by
 obtain⟨l,h⟩:=h;unfold Hn;split
 .rename_i c;have i:=h.fb (by grind [anu]);have⟨a,b⟩:=h.ba c;refine⟨l,_,?_,⟨h.pos,i.1,λj=>?_⟩,a,b⟩;all_goals (grind [kdK,anv])
 .rename_i c;have g:(ab ns z).k≠34:=λe=>c (by rw[e];decide);have⟨a,b⟩:=h.par g f;have:=Gs<|E z;exact⟨_,3,Z,O,a.tt,b⟩
def EL.of_ba(h:mc (ab ns z).k=Q)(d:0<x.size)(f:aq x 0≠61)(e:aq x 0≠45)(b:jr Fv x l)(a:AL l (Sh ns z) (kdK (ab ns z).k))(g:Sh ns z=one (ab ns z).bare K):Jj ns z x:=
 ⟨l,d,λ_=>⟨f,λc=>absurd c e⟩,b.mono λ_=>Gq,λ_=>⟨b,a⟩,λ_=>a.un,a.un.ex _,⟨K,g⟩⟩
def EL.of_un(f:mc (ab ns z).k=V)(c:0<x.size)(e:aq x 0≠61)(d:aq x 0=45->yo (ab ns z)=Q)(g:jr pm x l)(b:DL l (Sh ns z))(h:Sh ns z=one (ab ns z).bare K):Jj ns z x:=
 ⟨l,c,λ_=>⟨e,d⟩,g,λa=>(by rw[f]at a;cases a),λ_=>b,b.ex _,⟨K,h⟩⟩
def EL.of_ex(d:mc (ab ns z).k=V)(b:0<x.size)(g:iu (ab ns z).k (ab ns z).op<11)(e:jr pm x l)(c:pj l (Sh ns z) (iu (ab ns z).k (ab ns z).op))(f:Sh ns z=one (ab ns z).bare K):Jj ns z x:=
 ⟨l,b,λa=>O,e,λa=>(by rw[d]at a;cases a),λa=>O,c,⟨K,f⟩⟩
def KE(b:zLD)(E:Int->Bz)(z:Int):Prop:=∃a:Nat,z=(a:Int)/\Jj b a (E a)
def zJ:∀(r:zLI)(z),(∀a∈z::r,KE ns E a)->∃l,0<(cD<|(z::r).map E).size/\jr pm (cD<|(z::r).map E) l/\ESc l (sA (Sh ns) (z::r))
 |[],z,h=>by
  obtain⟨a,rfl,l,b⟩:=h z bG;refine⟨l,?_⟩;rw[eA,List.map_nil,tJ,lJ];exact⟨b.pos,b.rd,(b.ex.le (by have:=qL (ab ns a).k (ab ns a).op;omega)).es⟩
 |z2::r,z,h=>by
  obtain⟨a,rfl,l,b⟩:=h z bG;obtain⟨e,f,g,i⟩:=zJ r z2 λa d=>h a<|dJ _ d;refine⟨l++(sgF 46::e),?_⟩;rw[eA,eA,rA,<-eA,sA];have c:0<(fj++cD ((z2::r).map E)).size:=aK;refine⟨aK b.pos,?_,ESc.cons (b.ex.le (by have:=qL (ab ns a).k (ab ns a).op;omega)) i⟩;have:=b.rd.app (nE.app g f R) c Fx;exact this
def anx{a b t L R1 sign}(e:Jj ns a (E a))(f:Jj ns b (E b))(g:jr sL sign [sgF t])(s0:0<sign.size)(s:aq sign 0=32)(c:L=lkw t)(d:R1=rpw t)(h:gg t=Q)(i:t<100)(j:t≠7)(k:ww t=V):
  ∃l,0<(je ns E a L++sign++je ns E b R1).size/\jr pm (je ns E a L++sign++je ns E b R1) l/\pj l (one (ajh t)<|(Sh ns a).app<|Sh ns b) (BA t):=by
 subst c d;obtain⟨l,m,n,o⟩:=ahE (least:=lkw t) e (by have:=CE t;omega);have⟨_,p,q,r⟩:=ahE f (ag0 t).2;refine⟨_,aK<|aK m,?_,pj.bin o r h i j k⟩;have:=(n.app g s0 (by rw[s];decide)).app q p R;exact this.as
def are:∀a:Fin 19,1<=a.val->BA (60+(a.val:Int))=(tg a.val).1/\rpw (60+(a.val:Int))=(tg a.val).2/\lkw (60+(a.val:Int))=(if(tg a.val).2=(tg a.val).1 then(tg a.val).1+1 else(tg a.val).1)/\gg (60+(a.val:Int))=Q/\ww (60+(a.val:Int))=V/\rK (60+(a.val:Int))=di (60+(a.val:Int))/\itC [0,60+(a.val:Int),0]=Q:=by decide+kernel
end
def SCl(a:zLD)(z:Nat)(x:Bz):Prop:=∃l,0<x.size/\jr pm x l/\Jh l (Sh a z)
def KS(b:zLD)(S:Int->Nat->Bz)(t:Nat)(z:Int):Prop:=∃a:Nat,z=(a:Int)/\SCl b a (S a t)
def afw(t):0<(gA t).size/\aq (gA t) 0=10:=by
 unfold gA;exact⟨aK,by rw[gl Z];rfl⟩
def ur{x}(h:lL x=Q):0<x.size/\bi (aq x 0)=Q:=by
 unfold lL at h;have⟨_,a,_,_⟩:=aL h;have b:=pK a;exact⟨bp R,a⟩
def ahF:∀(r:zLB)(x),(∀s∈x::r,lL s=Q)->jr Fv (cD (x::r)) (nmL (x::r))/\0<(cD (x::r)).size
 |[],x,h=>by
  have a:=h x bG;rw[tJ];exact⟨qw a,(ur a).1⟩|y::r,x,h=>by
  have a:=h x bG;obtain⟨c,d⟩:=ahF r y λs b=>h s<|dJ _ b;rw[rA];exact⟨(qw a).app (nE.app c d R) aK Fx,aK (ur a).1⟩
theorem anz(h:bi c=Q):Du (di 48) 48 c=Q:=by
 have b:=pK h;have a:bi (aq (di 48) 0)=V/\co (aq (di 48) 0)=V/\aq (di 48) 0≠34/\aq (di 48) 0≠45:=by decide+kernel
 simp_all [Du,nxS,aa];omega
def prT(nm:zLB)(r:Bool):Bz:=cD nm++(ite (r=Q) (ite (nm=[]) ⟨#[46,46,46]⟩<|fj++⟨#[46,46,46]⟩) T)
def aa4:jr pm ⟨#[46,46,46]⟩ [sgF 49]:=(lit [49]).mono λa b=>by
 have:∀a∈Eb,itF [49] a=Q:=by decide+kernel
 exact this a<|aL b
theorem anA:∀(nm:zLB)(r),(∀s∈nm,lL s=Q)->(nm≠[]\/r=Q)->jr pm (prT nm r) (aah nm r)/\0<(prT nm r).size
 |[],false,_,h=>by simp at h|[],true,_,_=>by
  have e:prT [] Q=⟨#[46,46,46]⟩:=Z;rw[e];exact⟨aa4,Z⟩|[x],false,h,_=>by
  have a:=h x bG;have e:prT [x] V=x:=by grind [prT,tJ,sC]
  rw[e];exact⟨(qw a).mono λ_=>Gq,(ur a).1⟩|[x],true,h,_=>by
  have a:=h x bG;have e:prT [x] Q=x++(fj++⟨#[46,46,46]⟩):=by grind [prT,tJ]
  rw[e];exact⟨(qw a).app (nE.app aa4) Z Z,aK (ur a).1⟩|x::c::r,b,h,_=>by
  have a:=h x bG;obtain⟨g,i⟩:=anA _ b (λs f=>h s<|dJ _ f)<|.inl I;have e:prT (x::c::r) b=x++(fj++prT (c::r) b):=by
   simp[prT,rA,aB]
  have d:aah (x::c::r) b=nmW x::sgF 46::aah (c::r) b:=by simp[aah]
  rw[e,d];exact⟨(qw a).app (nE.app g i R) aK Fx,aK (ur a).1⟩
theorem arf(N)(h:∀s∈N.nm,lL s=Q):jr sL (Fl N) (sgF 40::(aah N.nm (decide (N.op=1))++[sgF 41])):=by
 have a:jr sL ⟨#[41,32]⟩ [sgF 41]:=lit [41,0];have b:Fl N=⟨#[40]⟩++prT N.nm (decide (N.op=1))++⟨#[41,32]⟩:=by
  simp[Fl,prT,aB]
 rw[b];by_cases d:N.nm≠[]\/decide (N.op=1)=Q
 .obtain⟨c,e⟩:=anA _ _ h d;have:=(Gr.app c e R).app a;exact this.as
 .have e:N.nm=[]:=by grind [absurd]
  have f:decide (N.op=1)=V:=by grind [absurd]
  rw[e,f];have c:prT [] V=T:=Z;rw[c,sC];exact Gr.app a
section
variable {ns : zLD} {E : Int → Bz} {S : Int → Nat → Bz} {i tab q : Nat}
theorem ahG:∀ks,(∀z∈ks,KS ns S (tab+1) z)->∃m,0<(iw (ks.map λk=>gA (tab+1)++S k (tab+1))++gA tab).size/\aq (iw (ks.map λk=>gA (tab+1)++S k (tab+1))++gA tab) 0=10/\jr sL (iw (ks.map λk=>gA (tab+1)++S k (tab+1))++gA tab) m/\SLc m (sA (Sh ns) ks)
 |[],_=>by
  refine⟨[nlW],?_⟩;have e:iw (([]:zLI).map λk=>gA (tab+1)++S k (tab+1))++gA tab=gA tab:=afv _;rw[e];exact⟨(afw tab).1,(afw tab).2,ahx tab,SLc.nil⟩|z::p,a=>by
  obtain⟨b,rfl,f,g,h,i⟩:=a z bG;obtain⟨m,j,l,n,o⟩:=ahG p λb d=>a b<|dJ _ d;refine⟨nlW::(f++m),?_⟩;rw[eA,IC,sA];simp only[aB];have c:=afw<|tab+1;refine⟨aK c.1,by grind [gl],?_,SLc.cons i o⟩;exact(ahx _).app (h.app n j (by rw[l];decide)) (aK g) R
def azE(ks)(h:∀z∈ks,KS ns S (tab+1) z):∃l,0<(Ab S ks tab).size/\jr sL (Ab S ks tab) l/\BLc l (one (bN 1 0 0 z0 [])<|sA (Sh ns) ks):=by
 unfold Ab;split
 .rename_i b;subst b;exact⟨_,Z,(lit [42,43]).mono λa _=>(show Du (di 43) 43 a=Q from ahD Z a),at9⟩
 .have⟨i,d,j,e,f⟩:=ahG ks h;have b:(⟨#[123]⟩:Bz)++iw (ks.map λc=>gA (tab+1)++S c (tab+1))++gA tab++⟨#[125]⟩=⟨#[123]⟩++(iw (ks.map λc=>gA (tab+1)++S c (tab+1))++gA tab)++⟨#[125]⟩:=by simp[aB]
  rw[b];have g:jr sL (⟨#[123]⟩:Bz) [sgF 42]:=lit1;have a:jr sL (⟨#[125]⟩:Bz) [sgF 43]:=lit1;refine⟨_,aK aK,?_,SLc.bl f⟩;have:=(g.app e d R).app a;exact this.as
structure JzE (ns:zLD) (E:Int->Bz) (S:Int->Nat->Bz) (i:Nat) (tab:Nat):Prop where
 e:∀z:Nat,z<i->z<M ns->gh (ab ns z).k=Q->Jj ns z (E z)
 s:∀z:Nat,z<i->z<M ns->jE (ab ns z).k=Q->SCl ns z (S z<|tab+1)
 b:∀z:Nat,z<M ns->oC (ab ns z)
theorem JzE.blk(h:JzE ns E S i tab)(d:Wzd ns)(o:q<=i)(a:q<M ns)(g:(ab ns q).k=1):∃l,0<(Ab S (ab ns q).ks tab).size/\jr sL (Ab S (ab ns q).ks tab) l/\BLc l (Sh ns q):=by
 have j:=(jf<|d.nb q a).1;obtain⟨l,_,_,_⟩:=azE _ λ_ m=>by
  obtain⟨c,rfl,_,f,n,_,e⟩:=xb d a m;have b:=Iu _ 0 (vw j g) n O O;rw[e]at b;exact⟨c,R,h.s c O f b⟩
 grind [xo,Dh]
theorem JzE.bod(h:JzE ns E S i tab)(d:Wzd ns)(t:q<=i)(b:q<M ns)(f:(ab ns q).k=36):∃l,(0<(CH ns S (ab ns q) tab).size/\aq (CH ns S (ab ns q) tab) 0=40)/\jr sL (CH ns S (ab ns q) tab) l/\BDc l (Sh ns q):=by
 have c:=(jf<|d.nb q b).1;have⟨m,e,_,_⟩:=ahA c f;have⟨_,a⟩:=ij (d.nb q b) b 0 O;rw[a.id]at e;obtain⟨l,o,p,r⟩:=h.blk d (by have:=a.lt;omega) a.len e;have n:=arf _<|as0 c;unfold CH;rw[a.id];have s:0<(Fl<|ab ns q).size/\aq (Fl<|ab ns q) 0=40:=by
  unfold Fl;have j:∀g:Bz,0<(⟨#[40]⟩++g:Bz).size:=λg=>aK;simp only[aB];exact⟨j _,by rw[gl Z];rfl⟩
 refine⟨_,⟨aK s.1,by grind [gl]⟩,n.app p o R,?_⟩;have:=BLc.body r (ab ns q).nm<|decide ((ab ns q).op=1);rw[xo d b,Dh c,f,xc m,lJ,a.id];grind [ab,Int,List,Wt,sgF]
def JzE.ent(h:JzE ns E S i tab)(d:Wzd ns)(G:q<=i)(j:q<M ns)(F:40<=(ab ns q).k/\(ab ns q).k<=42):∃l,0<(uK ns E<|ab ns q).size/\jr pm (uK ns E<|ab ns q) l/\ENc l (Sh ns q):=by
 have m:=(jf<|d.nb q j).1;have t:=λC B=>ij (d.nb q j) j C B;have v:=λA:Nat=>(qL (ab ns A).k (ab ns A).op).1;unfold uK;rw[xo d j,Dh m];by_cases o:(ab ns q).k=41
 .have⟨p,y,_⟩:=ng m;have⟨c,a⟩:=t 0 O;have⟨w,f⟩:=t 1 O;have g:=gI 2 0 y 0 O O;have z:=gI 2 0 y 1 O O;rw[a.id]at g;rw[f.id]at z;have:=a.lt;have:=f.lt;have⟨l,b⟩:=h.e c O a.len g;have⟨_,s⟩:=h.e w O f.len z;rw[ae o,a.id,f.id,Eg p,od,a.id,f.id,o];have u:jr sL (⟨#[91]⟩:Bz) [sgF 44]:=lit1;have n:jr sL (⟨#[93,32,61,32]⟩:Bz) [sgF 45,sgF 47]:=lit [45,0,47,0];refine⟨_,aK<|aK aK,?_,pj.pair (b.ex.le (by have:=v c;omega))<|s.ex.le (by have:=v w;omega)⟩;have:=((u.app b.rd b.pos R).app n).app s.rd s.pos R;exact this.as
 rw[aa o];have⟨p,g,_⟩:=ou m;have⟨c,a⟩:=t 0 O;rw[a.id]at g;have:=a.lt;have⟨l,b⟩:=h.e c O a.len g;have w:=b.ex.le (r:=0) (by have:=v c;omega);rw[a.id,xc p,lJ,a.id];by_cases f:(ab ns q).k=42
 .have s:=(aa2 m).1 O;have y:=ur s;rw[ae f,f];have u:jr (Du (di 48) 48) (⟨#[46]⟩:Bz) [sgF 48]:=lit [48];have n:jr sL (⟨#[32,61,32]⟩:Bz) [sgF 47]:=lit [0,47,0];have z:Du (di 48) 48 (aq (ab ns q).x 0)=Q:=anz y.2;refine⟨sgF _::nmW (ab ns q).x::sgF _::l,aK<|aK aK,?_,pj.named w⟩;exact((u.app (qw s) y.1 z).app n).app b.rd b.pos R
 .have n:(ab ns q).k=40:=O;rw[aa f,n];exact⟨l,b.pos,b.rd,pj.item w⟩
end
theorem afx{w}(h:co (aq w 0)=Q\/aq w 0=34)(a:pm c=Q):Du w k c=Q:=by
 have b:bi (aq w 0)=V:=by
  obtain g|g:=h
  .have:=lC g;grind [bi]
  .rw[g];decide
 unfold Du;rw[aa U,ae h];exact a
def arh(n):co (aq (Aa n) 0)=Q:=by
 unfold Aa;split
 .rw[(Gl _ _).1];decide
 .have:=Io n.toNat;exact this.2.1 0 this.1
section
variable {ns : zLD} {E : Int → Bz} {S : Int → Nat → Bz} {i tab q : Nat}
theorem JzE.tbl(h:JzE ns E S i tab)(d:Wzd ns):∀(r:zLI)(z),(∀a∈z::r,∃k:Nat,a=(k:Int)/\k<=i/\k<M ns/\40<=(ab ns k).k/\(ab ns k).k<=42)->∃l,0<(cD<|(z::r).map λk=>uK ns E<|ab ns k).size/\jr pm (cD<|(z::r).map λk=>uK ns E<|ab ns k) l/\TBc l (sA (Sh ns) (z::r))
 |[],z,g=>by
  obtain⟨a,rfl,b,c,e⟩:=g z U;have⟨l,j,m,n⟩:=h.ent d b c e;refine⟨l,?_⟩;rw[eA,List.map_nil,tJ,lJ];exact⟨j,m,n.last⟩
 |z2::r,z,g=>by
  obtain⟨a,rfl,b,c,e⟩:=g z U;have⟨l,j,m,n⟩:=h.ent d b c e;obtain⟨p,q,s,t⟩:=h.tbl d r _ λa o=>g a<|dJ _ o;refine⟨l++(sgF 46::p),?_⟩;rw[eA,eA,rA,<-eA (f:=λk=>uK _ E _),sA];exact⟨aK j,m.app (nE.app s q R) aK Fx,n.cons t⟩
theorem ari(d:Wzd ns)(q:i<M ns)(p:oC (ab ns i))(y:20<=(ab ns i).k/\(ab ns i).k<=27):Jj ns i (Fk<|ab ns i):=by
 have j:=(jf<|d.nb i q).1;have z:=anl j y;have w:(ab ns i).ks=[]:=U;have c:=xo d q;have l:=c;rw[Dh j,w,sA]at l;have m:∀(o:Bz)(k:Int),o=itT [k]->itC [k]=Q->k≠0->(∀h∈Eb,Du (di k) k h=Q)->jr pm o [sgF k]:=λo k r s u v=>by
  have:=lit _ r s;simp[itF,itL,aa u]at this;exact this.mono λh g=>v h<|aL g
 obtain e|e|e|e|e|e|e|e:(ab ns i).k=20\/(ab ns i).k=21\/(ab ns i).k=22\/(ab ns i).k=23\/(ab ns i).k=24\/(ab ns i).k=25\/(ab ns i).k=26\/(ab ns i).k=27:=O;all_goals (simp only[e]at l)
 .rw[show Fk (ab ns i)=⟨#[110,105,108]⟩ by grind [Fk]];exact EL.of_un (by rw[e];decide) Z Z (λa=>absurd a Z) (m _ 24 (by decide+kernel) (by decide+kernel) Z (by decide+kernel)) (by grind [at5]) c
 .rw[show Fk (ab ns i)=⟨#[116,114,117,101]⟩ by grind [Fk]];exact EL.of_un (by rw[e];decide) Z Z (λa=>absurd a Z) (m _ 29 (by decide+kernel) (by decide+kernel) Z (by decide+kernel)) (by grind [at6]) c
 .rw[show Fk (ab ns i)=⟨#[102,97,108,115,101]⟩ by grind [Fk]];exact EL.of_un (by rw[e];decide) Z Z (λa=>absurd a Z) (m _ 17 (by decide+kernel) (by decide+kernel) Z (by decide+kernel)) (by grind [at7]) c
 .rw[show Fk (ab ns i)=Aa (ab ns i).n by grind [Fk]];have f:=aq3 _ p.n.1 p.n.2;have b:=arh (ab ns i).n;exact EL.of_un (by rw[e];decide) f.pos (λa=>by rw[a]at b;exact absurd b Z) (λa=>by rw[a]at b;exact absurd b Z) ((Ip (t:=⟨2,_,_,_⟩) I I f).mono λh g=>afx (.inl b) g) (by grind [at1]) c
 .rw[show Fk (ab ns i)=(ab ns i).x by grind [Fk]];have x:=(aa2 j).2 e;have f:=aqL x;have b:co (aq (ab ns i).x 0)=Q:=by simp_all [fok,sj,dF,aL]
  exact EL.of_un (by rw[e];decide) f.pos (λa=>by rw[a]at b;exact absurd b Z) (λa=>by rw[a]at b;exact absurd b Z) ((Ip (t:=⟨3,0,_,_⟩) I I f).mono λh g=>afx (.inl b) g) (by grind [at3]) c
 .rw[show Fk (ab ns i)=dK (eJ (ab ns i).x) by grind [Fk]];have f:=aq0 (ab ns i).x;have b:=adr (ab ns i).x;exact EL.of_un (by rw[e];decide) f.pos O O ((Ip (t:=⟨4,0,_,_⟩) I I f).mono λh g=>afx (.inr b) g) (by grind [at4]) c
 .rw[show Fk (ab ns i)=(ab ns i).x by grind [Fk]];have b:=(aa2 j).1 O;have f:=ur b;have g:=pK f.2;exact EL.of_ba (by rw[e];decide) f.1 O O (qw b) (by rw[l,e];exact aqg) c
 .rw[show Fk (ab ns i)=⟨#[46,46,46]⟩ by grind [Fk]];exact EL.of_un (by rw[e];decide) Z Z (λa=>absurd a Z) aa4 (by grind [at8]) c
theorem azF{a:Nat}(d:Wzd ns)(n:i<M ns)(h:(ab ns i).k=30)(m:dA (ab ns i) 0=(a:Int))(C:Jj ns a (E a)):Jj ns i (unB ns E<|ab ns i):=by
 have q:=(jf<|d.nb i n).1;have⟨A,_,p⟩:=ou q;have p:=p h;have r:=xo d n;have j:=r;rw[Dh q,xc A,lJ,m]at j;simp only[h]at j;have⟨l,G,H,K,_,_⟩:=ard C;have F:mc (ab ns i).k=V:=by rw[h];decide
 unfold unB;rw[m];have f:∀(k:Int)(c:Bz)(g:Int->Bool),unS ns (ab ns i)=c->0<c.size->aq c 0≠61->(aq c 0=45->yo (ab ns i)=Q)->jr g c [sgF k]->g (aq (je ns E a 11) 0)=Q->lm k=Q->k≠7->k<100->acp k=(ab ns i).op->Jj ns i (unS ns (ab ns i)++je ns E a 11):=λk c g s u _ _ v w x y z t=>by
  rw[s];refine EL.of_un (l:=sgF k::l) F (aK u) (by grind [gl]) (by grind [gl]) (v.app H G w) ?_ r;rw[j,<-t];exact K.pre x y z
 obtain e|e|e|e:(ab ns i).op=19\/(ab ns i).op=20\/(ab ns i).op=21\/(ab ns i).op=22:=O
 .have o:yo (ab ns i)=Q:=by grind [yo]
  by_cases b:yo (ab ns a)=Q
  .refine f _ (⟨#[45]⟩++⟨#[32]⟩) _ (by simp_all [unS,ae]) Z Z (λ_=>o) (lit [62,0]) R Z Z Z (by rw[e];decide)
  .refine f _ ⟨#[45]⟩ (Du (di 62) 62) (by simp_all [unS,aa]) Z Z (λ_=>o) (lit [62]) ?_ Z Z Z (by rw[e];decide);have B:bi (aq (di 62) 0)=V/\co (aq (di 62) 0)=V/\aq (di 62) 0≠34:=by decide+kernel
   simp_all [aq,je,Du,nxS,aa]
 .refine f _ ⟨#[126]⟩ (Du (di 69) _) (by grind [unS]) Z Z (λb=>absurd b Z) (lit [69]) ?_ Z Z Z (by rw[e];decide);have B:bi (aq (di 69) 0)=V/\co (aq (di 69) 0)=V/\aq (di 69) 0≠34/\aq (di 69) 0≠45:=by decide+kernel
  simp_all [Du,nxS,aa]
 .exact f _ ⟨#[110,111,116,32]⟩ _ (by grind [unS]) Z Z (λb=>absurd b Z) (lit [25,0]) R Z Z Z (by rw[e];decide)
 .exact f 50 ⟨#[35]⟩ _ (by grind [unS]) Z Z (λb=>absurd b Z) (lit1) R Z Z Z (by rw[e];decide)
theorem au7(h:JzE ns E S i tab)(d:Wzd ns)(w:i<M ns)(bc:gh (ab ns i).k=Q):Jj ns i (prE ns E S (ab ns i) tab):=by
 have q:=(jf<|d.nb i w).1;have bc:=aL bc;have F:=λap a5=>ij (d.nb i w) w ap a5;have p:=xo d w;have b:=p;rw[Dh q]at b;have a0:∀(a6:(ab ns i).k=28\/(ab ns i).k=29\/(ab ns i).k=31\/(ab ns i).k=32),∃a n:Nat,dA (ab ns i) 0=(a:Int)/\dA (ab ns i) 1=(n:Int)/\(ab ns i).ks=[(a:Int),(n:Int)]/\Jj ns a (E a)/\Jj ns n (E n):=λa6=>by
  have⟨ad,ao,_⟩:=ng q;have⟨a,c⟩:=F 0 O;have⟨n,e⟩:=F 1 O;have z:=gI 2 0 ao 0 O O;have f:=gI 2 0 ao 1 O O;rw[c.id]at z;rw[e.id]at f;exact⟨a,n,c.id,e.id,by rw[Eg ad,c.id,e.id],h.e a c.lt c.len z,h.e n e.lt e.len f⟩
 have ba:∀(a6:(ab ns i).k=30\/(ab ns i).k=33\/(ab ns i).k=37),∃a:Nat,dA (ab ns i) 0=(a:Int)/\(ab ns i).ks=[(a:Int)]/\Jj ns a (E a):=λa6=>by
  have⟨ad,z,_⟩:=ou q;have⟨a,c⟩:=F 0 O;rw[c.id]at z;exact⟨a,c.id,by rw[xc ad,c.id],h.e a c.lt c.len z⟩
 unfold prE;by_cases H:(ab ns i).k=28
 .obtain⟨a,n,f,C,m,u,v⟩:=a0 O;rw[ae H];unfold D3 ym;rw[f,C];simp only[H,m,od]at b⊢;obtain⟨l,s,o,j⟩:=anx (sign:=⟨#[32,97,110,100,32]⟩) u v (lit [0,10,0]) Z Z R R Z Z Z Z;exact EL.of_ex (by rw[H];decide) s (by rw[H];show(2:Int)<11;decide) o (by rw[b,H];exact j) p
 rw[aa H];by_cases K:(ab ns i).k=29
 .obtain⟨a,n,f,C,m,u,v⟩:=a0 O;rw[ae K];unfold D3 ym;rw[f,C];simp only[K,m,od]at b⊢;obtain⟨l,s,o,j⟩:=anx (sign:=⟨#[32,111,114,32]⟩) u v (lit [0,26,0]) Z Z R R Z Z Z Z;exact EL.of_ex (by rw[K];decide) s (by rw[K];show(1:Int)<11;decide) o (by rw[b,K];exact j) p
 rw[aa K];by_cases B:(ab ns i).k=31
 .obtain⟨a,n,f,C,m,u,v⟩:=a0 O;have⟨_,_,A⟩:=ng q;have A:=A B;rw[ae B];unfold D3 ym;rw[f,C];simp only[B,m,od]at b⊢;obtain⟨e,G⟩:∃e,(ab ns i).op=e:=⟨_,R⟩;rw[G]at A b⊢;have av:((e.toNat:Nat):Int)=e:=O;have⟨af,ak,al,am,an,ax,ar⟩:=are ⟨e.toNat,O⟩ U;simp[av]at af ak al am an ax ar;have x:uj 31 e=(tg e).2:=rfl;have y:iu 31 e=(tg e).1:=rfl;have a1:jr sL (⟨#[32]⟩++rK (60+e)++⟨#[32]⟩) [sgF<|60+e]:=by
   have:=am9 _ ar;have t:(60+e:Int)≠0:=O
   simp_all [itT,itL,itF,aa,oL,sC,aB]
  obtain⟨l,s,o,j⟩:=anx (L:=ite (uj _ _=iu _ _) (iu _ _+1)<|iu _ _) (R1:=uj _ _) u v a1 (aK aK) (by rw[gl aK,gl Z];decide) (by rw[x,y,al]) (by rw[x,ak]) am O O an;refine EL.of_ex (by rw[B];decide) s (by rw[B,G,y];have:=ant e;have:=DK<|60+e;omega) o ?_ p;rw[b,B,G,y,<-af];have v:ajh (60+e)=bN 31 e 0 z0 []:=by unfold ajh;rw[aa O,aa O,(O:60+e-60=e)]
  rw[v]at j;exact j
 rw[aa B];by_cases bb:(ab ns i).k=30
 .obtain⟨a,f,m,u⟩:=ba O;rw[ae bb];grind [azF]
 rw[aa bb];by_cases am:(ab ns i).k=32
 .obtain⟨a,n,f,C,m,u,v⟩:=a0 O;have y:=IA q O;rw[f]at y;have⟨l,F,af,⟨s,ax,bf⟩,o,j⟩:=anw u y;obtain⟨av,e⟩:=v;rw[ae am,f,C];simp only[am,m,od]at b;have A:jr sL (⟨#[91]⟩:Bz) [sgF 44]:=lit1;have G:jr sL (⟨#[93]⟩:Bz) [sgF 45]:=lit1;have r:=((o.app A).app e.rd e.pos R).app G;refine EL.of_ba (l:=l++(sgF 44::(av++[sgF 45]))) (by rw[am];decide) U (by grind [gl,aK]) (by grind [gl,aK]) ?_ ?_ p
  .have:=r.tt (g:=Fv);exact this.as
  .rw[b,am];exact j.index af<|e.ex.le (by have:=qL (ab ns n).k (ab ns n).op;omega)
 rw[aa am];by_cases an:(ab ns i).k=33
 .obtain⟨a,f,m,u⟩:=ba O;have y:=IA q O;rw[f]at y;have e:=(aa2 q).1 O;have v:=ur e;have⟨l,F,af,⟨s,ax,bf⟩,o,j⟩:=anw u y;rw[ae an,f];simp only[an,m,lJ]at b;have A:jr (Du (di 48) 48) (⟨#[46]⟩:Bz) [sgF 48]:=lit [48];have r:=o.app (A.app (qw e) v.1<|anz v.2) aK Fx;refine EL.of_ba (l:=l++[sgF _,nmW _]) (by rw[an];decide) (aK s) (by grind [gl]) (by grind [gl]) r ?_ p;rw[b,an];exact j.field af
 rw[aa an];by_cases u:(ab ns i).k=34
 .have⟨ad,ao⟩:=Gm q u;have⟨a,c⟩:=F 0 O;have z:=gI _ 0 ao 0 O O;have y:=IA q O;rw[c.id]at z y;have⟨l,F,af,⟨s,ax,bf⟩,o,j⟩:=anw (h.e a c.lt c.len z) y;have m:(ab ns i).ks=(a:Int)::(ab ns i).ks.drop 1:=by
   cases v:(ab ns i).ks with
   |nil=>rw[v]at ad;simp at ad|cons e r=>have:=c.at_;rw[v]at this;simp at this;rw[this];rfl
  have bd:∀t∈(ab ns i).ks.drop 1,KE ns E t:=λt C=>by
   obtain⟨a1,rfl,ak,e,ap,a5,v⟩:=xb d w<|List.mem_of_mem_drop C;have ar:=gI _ 0 ao ap O O;rw[v]at ar;exact⟨a1,R,h.e a1 ak e ar⟩
  rw[ae u,c.id];rw[m,sA]at b;simp only[u]at b;have a4:∀ak e al:Bz,0<(Hn ns E a++ak++e++al).size/\aq (Hn ns E a++ak++e++al) 0=aq (Hn ns E a) 0:=λak e al=>⟨U,by grind [gl,aK]⟩;have bh:=o.app Gr;cases x:(ab ns i).ks.drop 1 with
  |nil=>
   rw[x]at b;have a2:cD (([]:zLI).map E)=T:=rfl;rw[a2];obtain⟨a3,bj⟩:=a4 ⟨#[40]⟩ T ⟨#[41]⟩;refine EL.of_ba (l:=l++[sgF 40,sgF 41]) (by rw[u];decide) a3 O O ?_ ?_ p
   .rw[sC];have:=(bh.app aa3).tt (g:=Fv);exact this.as
   .rw[b,u,sA,Fo.app_nil];exact j.call0 af
  |cons t r=>
   rw[x]at b bd;have⟨av,a7,a8,a9⟩:=zJ r t bd;obtain⟨a3,bj⟩:=a4 ⟨#[40]⟩ (cD<|(t::r).map E) ⟨#[41]⟩;refine EL.of_ba (l:=l++(sgF 40::(av++[sgF 41]))) (by rw[u];decide) a3 O O ?_ ?_ p
   .have:=((bh.app a8 a7 R).app aa3).tt (g:=Fv);exact this.as
   .rw[b,u];exact j.call af a9
 rw[aa u];by_cases y:(ab ns i).k=35
 .rw[ae y];unfold ae1;have z:=Da q y;simp only[y]at b;have C:∀t∈(ab ns i).ks,∃k:Nat,t=(k:Int)/\k<=i/\k<M ns/\40<=(ab ns k).k/\(ab ns k).k<=42:=λt C=>by
   obtain⟨a1,rfl,ak,e,ap,a5,v⟩:=xb d w C;have ar:=adx _ 0 z ap O O;rw[v]at ar;exact⟨a1,R,O,e,ar⟩
  have A:jr sL (⟨#[123]⟩:Bz) [sgF 42]:=lit1;have G:jr sL (⟨#[125]⟩:Bz) [sgF 43]:=lit1;have a4:∀e al:Bz,aq ((⟨#[123]⟩:Bz)++e++al) 0=123:=λe al=>by rw[gl aK,gl Z];decide
  cases x:(ab ns i).ks with
  |nil=>
   rw[x]at b;have a2:cD (([]:zLI).map λk=>uK ns E<|ab ns k)=T:=rfl;rw[a2];refine EL.of_un (l:=[sgF 42,sgF 43]) (by rw[y];decide) (aK aK) U U ?_ ?_ p
   .rw[sC];exact(A.app G).tt
   .rw[b];exact TBc.nil.un|cons t r=>
   rw[x]at b C;have⟨av,a7,a8,a9⟩:=h.tbl d r t C;refine EL.of_un (l:=sgF 42::(av++[sgF 43])) (by rw[y];decide) U U U ?_ ?_ p
   .have:=((A.app a8 a7 R).app G).tt (g:=pm);exact this.as
   .rw[b];exact a9.un
 rw[aa y];by_cases t:(ab ns i).k=36
 .rw[ae t];obtain⟨l,⟨s,ax⟩,o,j⟩:=h.bod d O w t;have A:jr Fv (⟨#[102,110]⟩:Bz) [sgF 18]:=(lit [18]).mono λG e=>by
   show Du (di 18) 18 G=Q;unfold Du;rw[ae (by decide+kernel)];exact e
  exact EL.of_un (by rw[t];decide) aK (by rw[gl Z];decide) (λg=>by rw[gl Z]at g;exact absurd g Z) (A.app o s (by rw[ax];decide)).tt j.un p
 rw[aa t];by_cases e:(ab ns i).k=37
 .obtain⟨a,f,m,l,c⟩:=ba O;have o:=arc q e;rw[f]at o;rw[ae e,f];simp only[e,m,lJ]at b;have⟨_,j⟩:=c.sh;have v:=Gs<|E a;refine EL.of_ba (by rw[e];decide) v.1 O O (anr c.rd c.pos).tt ?_ p;have s:=c.ex.le (r:=0) (by have:=qL (ab ns a).k (ab ns a).op;omega);rw[j]at s;rw[b,e,j];exact s.held o
 rw[aa e];exact ari d w (h.b i w) O
end
def adB:jr sL (⟨#[32,61,32]⟩:Bz) [sgF 47]:=lit [0,47,0]
section
variable {ns : zLD} {E : Int → Bz} {S : Int → Nat → Bz} {i tab q : Nat}
theorem ahH:∀(r:zLI),(∀a∈r,∃k:Nat,a=(k:Int)/\Jj ns k (E k)/\xj (ab ns k).k=Q)->∃l,jr Fv (mBs<|r.map E) l/\(r≠[]->0<(mBs<|r.map E).size/\aq (mBs<|r.map E) 0=44)/\TMc l (sA (Sh ns) r)/\(r=[]->l=[])
 |[],_=>⟨[],afq,λh=>absurd R h,TMc.nil,λ_=>rfl⟩|z::r,h=>by
  obtain⟨a,rfl,⟨l,d⟩,b⟩:=h z U;obtain⟨_,n,o,p,q⟩:=ahH r λa _=>h a U;have b:=aL b;have j:mc (ab ns a).k=Q:=by obtain e|e|e:=b<;>rw[e]<;>decide
  have m:kdK (ab ns a).k<2:=by obtain e|e|e:=b<;>rw[e]<;>decide
  have⟨c,f⟩:=d.ba j;refine⟨_,?_,λ_=>?_,TMc.cons f m p,λi=>(by cases i)⟩
  .rw[eA,mBs];cases r with
   |nil=>
    have e:mBs (([]:zLI).map E)=T:=rfl;have g:=q R;rw[e,sC,g,fp];exact nE.app c d.pos R|cons s r=>
    have⟨g,p2⟩:=o I;exact nE.app (c.app n g (by rw[p2];decide)) U R
  .rw[eA,mBs];exact⟨aK,by rw[gl Z];rfl⟩
def BCl(a:zLD)(z:Nat)(x:Bz):Prop:=∃l,0<x.size/\jr pm x l/\BRc l (Sh a z)
theorem azG{x}(h:JzE ns E S i tab)(d:Wzd ns)(m:i<M ns)(B:(ab ns i).k=7)
  (L:∀z:Nat,z<i->z<M ns->(ab ns z).k=7->∃b,BCl ns z b/\∀w,x z w=w++b):∃b,BCl ns i b/\∀w,yp ns E S x (ab ns i) w tab=w++b:=by
 have F:=(jf<|d.nb i m).1;have q:=λal ad=>ij (d.nb i m) m al ad;have⟨_,_,y,A,K⟩:=ahB F B;have⟨c,e⟩:=q 0 O;have⟨n,f⟩:=q 1 O;rw[e.id]at y;rw[f.id]at A;have⟨G,C⟩:=h.e c e.lt e.len y;have⟨H,am,an,ao⟩:=h.blk d (gL f.lt) f.len A;have af:=C.ex.le (r:=0) (by have:=qL (ab ns c).k (ab ns c).op;omega);have p:=xo d m;rw[Dh F]at p;simp only[B]at p;have l:=(C.rd.app C8).app an am R;rw[fp]at l;unfold yp;rw[e.id,f.id];obtain g|g:=cG (ab ns i).ks.length 3
 .refine⟨_,⟨_,U,l.tt,?_⟩,λw=>?_⟩
  .rw[p,Eg O,od,e.id,f.id];exact pj.br0 af ao
  simp_all [ae,sC,aB]
 .obtain⟨j,a⟩:=q 2 O;rw[a.id]at K;have ap:sA (Sh ns) (ab ns i).ks=((Sh ns c).app<|Sh ns n).app (Sh ns j):=by rw[adz O,sA,od,e.id,f.id,a.id,Fo.app_app]
  by_cases o:(ab ns j).k=7
  .have⟨b,⟨t,u,v,p2⟩,ak⟩:=L j a.lt a.len o;have s:jr sL (⟨#[32,101,108,105,102,32]⟩:Bz) [sgF 15]:=lit [0,15,0];refine⟨(E c++⟨#[32]⟩++Ab S (ab ns n).ks tab)++(⟨#[32,101,108,105,102,32]⟩++b),⟨G++(H++(sgF 15::t)),U,?_,?_⟩,λw=>?_⟩
   .have:=l.app (s.app v u R) aK R;exact this.as
   .grind [pj.br2]
   .rw[aa O,a.id,ae o,ak];simp[aB]
  .have b:(ab ns j).k=1:=O;have⟨t,u,v,p2⟩:=h.blk d (gL a.lt) a.len b;have s:jr sL (⟨#[32,101,108,115,101,32]⟩:Bz) [sgF 16]:=lit [0,16,0];refine⟨(E c++⟨#[32]⟩++Ab S (ab ns n).ks tab)++(⟨#[32,101,108,115,101,32]⟩++Ab S (ab ns j).ks tab),⟨G++(H++(sgF 16::t)),U,?_,?_⟩,λw=>?_⟩
   .have:=l.app (s.app v u R) aK R;have:=this.tt (g:=pm);exact this.as
   .grind [pj.br1]
   .rw[aa O,a.id,aa o];simp[aB]
theorem au8{bw}(h:JzE ns E S i tab)(d:Wzd ns)(a8:i<M ns)(ap:jE (ab ns i).k=Q)
  (bh:(ab ns i).k=7->∃t,BCl ns i t/\bw (-1) ⟨#[105,102,32]⟩=⟨#[105,102,32]⟩++t):SCl ns i (prS ns E S bw (ab ns i) tab):=by
 have s:=(jf<|d.nb i a8).1;have ap:=aL ap;have u:=λC ao=>ij (d.nb i a8) a8 C ao;have b:=xo d a8;rw[Dh s]at b;have a1:∀f:Nat,Kid ns i (ab ns i) 0 f->gh (ab ns f).k=Q->∃c,EL ns f (E f) c/\pj c (Sh ns f) 0:=λf a bj=>by
  have⟨c,j⟩:=h.e f a.lt a.len bj;exact⟨c,j,j.ex.le (by have:=qL (ab ns f).k (ab ns f).op;omega)⟩
 have bA:∀{bf C:Nat},mK ns (ab ns i) bf C=Q->∀p,C<=p->p<C+bf->p<(ab ns i).ks.length->KE ns E (dA (ab ns i) p):=λ{bf C} y p b4 b5 b6=>by
  have⟨t,G⟩:=u p b6;have:=gI bf C y p b4 b5;rw[G.id]at this⊢;exact⟨t,R,h.e t G.lt G.len this⟩
 have bx:mK ns (ab ns i) (ab ns i).ks.length 0=Q->∀L∈(ab ns i).ks,KE ns E L:=λy L br=>by
  obtain⟨C,ao,rfl⟩:=pq br;exact bA y C O O ao
 unfold prS;by_cases a6:(ab ns i).k=1
 .rw[ae a6];obtain⟨c,H,K,o⟩:=h.blk d O a8 a6;exact⟨c,H,K.tt,o.st⟩
 rw[aa a6];by_cases af:(ab ns i).k=2
 .rw[ae af];have⟨v,r,z,F,_⟩:=Iz s O;have⟨ak,al⟩:=ahF r v F;have n:jr sL (⟨#[108,101,116,32]⟩:Bz) [sgF 22]:=lit [22,0];simp only[af,z]at b⊢;have y:=bx (aaH s af).1;cases er:(ab ns i).ks with
  |nil=>
   rw[er]at b;rw[ae R,sC];refine⟨sgF _::nmL _,aK,(n.app ak al R).mono λan=>Gq,?_⟩;rw[b];exact aqh|cons L p=>
   rw[er]at b y;rw[aa I];have⟨c,H,K,o⟩:=zJ p L y;refine⟨sgF 22::(nmL (v::r)++(sgF 47::c)),aK aK,?_,?_⟩
   .have:=(n.app ak al R).app (adB.app K H R) aK Fx;exact this.as
   .rw[b];exact o.let_
 rw[aa af];by_cases a3:(ab ns i).k=3
 .rw[ae a3];have⟨q,l,_⟩:=De s a3;have⟨v,r,z,F,ar,_⟩:=Iz s O;obtain rfl:=ar O;have y:=F v U;have⟨f,a⟩:=u 0 O;rw[a.id]at l⊢;have⟨c,j,o⟩:=a1 f a l;have m:nm0 (ab ns i)=v:=by grind [nm0]
  simp only[a3,z,xc q,lJ,a.id]at b;rw[m];have n:jr sL (⟨#[99,111,110,115,116,32]⟩:Bz) [sgF 13]:=lit [13,0];refine⟨sgF 13::nmW v::sgF 47::c,aK<|aK aK,?_,?_⟩
  .exact((n.app (qw y) (ur y).1 R).app adB).app j.rd j.pos R
  .rw[b];exact o.const
 rw[aa a3];by_cases a4:(ab ns i).k=4
 .rw[ae a4];have⟨q,l,_⟩:=aaI s a4;have⟨v,r,z,F,ar,_⟩:=Iz s O;obtain rfl:=ar O;have y:=F v U;have⟨f,a⟩:=u 0 O;rw[a.id]at l⊢;have⟨c,⟨H,w⟩,K,o⟩:=h.bod d (gL a.lt) a.len l;have m:nm0 (ab ns i)=v:=by grind [nm0]
  simp only[a4,z,xc q,lJ,a.id]at b;rw[m];have n:jr sL (⟨#[102,110,32]⟩:Bz) [sgF 18]:=lit [18,0];refine⟨sgF 18::nmW v::c,aK aK,?_,?_⟩
  .exact((n.app (qw y) (ur y).1 R).app K H (by rw[w];decide)).tt
  .rw[b];exact o.fn
 rw[aa a4];by_cases bc:(ab ns i).k=5
 .rw[ae bc];have⟨q,l,x,a9⟩:=afs s bc;obtain⟨w,F⟩:∃w,(ab ns i).n.toNat=w:=⟨_,R⟩;rw[F]at x a9;have z:(ab ns i).n=(w:Int):=O;simp only[bc,z]at b;rw[F];have av:∀t∈(ab ns i).ks.take w,∃k:Nat,t=(k:Int)/\Jj ns k (E k)/\xj (ab ns k).k=Q:=λt G=>by
   have⟨C,ao,e⟩:=iD G;rw[mA]at ao;rw[List.getElem_take]at e;have⟨k,ap⟩:=u C O;have:=ax8 _ 0 x C O O;have af:t=(k:Int):=by rw[<-e,yD,ap.id]
   rw[ap.id]at this;exact⟨k,af,h.e k ap.lt ap.len<|Kw this,this⟩
  have bl:∀L∈(ab ns i).ks.drop w,KE ns E L:=λL br=>by
   have⟨C,ao,e⟩:=iD br;rw[tu]at ao;rw[List.getElem_drop]at e;rw[<-e,yD];exact bA a9 _ O O O
  have A:sA (Sh ns) (ab ns i).ks=(sA (Sh ns)<|(ab ns i).ks.take w).app (sA (Sh ns)<|(ab ns i).ks.drop w):=by rw[<-aa1,BE]
  have bD:M ((ab ns i).ks.take w)=w:=by rw[mA];omega
  have bz:M ((ab ns i).ks.drop w)=(ab ns i).ks.length-w:=U;rw[A]at b;generalize (ab ns i).ks.take w=B at *;generalize (ab ns i).ks.drop w=a7 at *;cases B with
  |nil=>simp at bD;omega|cons L B=>
  cases a7 with
  |nil=>simp at bz;omega|cons t a7=>
   obtain⟨k,rfl,⟨c,j⟩,a5⟩:=av L U;obtain⟨ad,ax,a0,bE,bF⟩:=ahH B λt G=>av t U;have⟨bs,bb,a2,p2⟩:=zJ a7 t bl;have a5:=aL a5;have m:mc (ab ns k).k=Q:=by obtain e|e|e:=a5<;>rw[e]<;>decide
   have bn:kdK (ab ns k).k<2:=by obtain e|e|e:=a5<;>rw[e]<;>decide
   have⟨bk,am⟩:=j.ba m;have bo:(((Sh ns k).app<|sA (Sh ns) B).len:Int)=w:=by
    have:∀(c:zLI),(∀t∈c,∃k:Nat,t=(k:Int)/\Jj ns k (E k)/\xj (ab ns k).k=Q)->(sA (Sh ns) c).len=M c:=by
     intro c
     induction c with
     |nil=>intro _;rfl|cons f c bt=>
      intro j;obtain⟨k,rfl,⟨_,b0⟩,_⟩:=j f U;have⟨_,bd⟩:=b0.sh;rw[sA,Fo.len_app,bt λt G=>j t U,bd,dD];show 1+M c=_;omega
    grind [Int,sA]
   have bt:jr pm (cD<|((k:Int)::B).map E) (c++ad):=by
    rw[eA,IB];cases B with
    |nil=>
     have e:mBs (([]:zLI).map E)=T:=rfl;have bd:=bF R;rw[e,sC,bd,fp];exact j.rd|cons bd r=>
     have⟨a2,p2⟩:=a0 I;exact(bk.app ax a2 (by rw[p2];decide)).mono λan=>Gq
   have bd:0<(cD<|((k:Int)::B).map E).size:=by rw[eA,IB];exact aK j.pos
   refine⟨c++(ad++(sgF 47::bs)),U,?_,?_⟩
   .have:=(bt.app adB).app a2 bb R;exact this.as
   .rw[b,sA,<-bo];exact am.set bn bE p2
 rw[aa bc];by_cases bl:(ab ns i).k=6
 .rw[ae bl];have⟨q,l⟩:=E4 s O;have⟨f,a⟩:=u 0 O;rw[a.id]at l⊢;have⟨c,j,_⟩:=a1 f a (by rw[l];decide);have⟨bk,am⟩:=j.ba (by rw[l];decide);simp only[bl,xc q,lJ,a.id]at b;rw[l]at am;exact⟨c,j.pos,j.rd,by rw[b];exact am.do_⟩
 rw[aa bl];by_cases bn:(ab ns i).k=7
 .rw[ae bn];have⟨t,⟨c,H,K,o⟩,G⟩:=bh bn;rw[G];have n:jr sL (⟨#[105,102,32]⟩:Bz) [sgF 20]:=lit [20,0];exact⟨_,aK,n.app K H R,o.st⟩
 rw[aa bn];by_cases bd:(ab ns i).k=8
 .rw[ae bd];have⟨q,l,x⟩:=Df s bd;have⟨f,a⟩:=u 0 O;have⟨w,m⟩:=u 1 O;rw[a.id]at l⊢;rw[m.id]at x⊢;have⟨c,j,o⟩:=a1 f a l;have⟨ad,a9,ax,a0⟩:=h.blk d (gL m.lt) m.len x;simp only[bd,Eg q,od,a.id,m.id]at b;have n:jr sL (⟨#[119,104,105,108,101,32]⟩:Bz) [sgF 31]:=lit [31,0];refine⟨_,U,?_,by rw[b];exact o.while_ a0⟩;have:=(((n.app j.rd j.pos R).app C8).app ax a9 R).tt (g:=pm);exact this.as
 rw[aa bd];by_cases bo:(ab ns i).k=9\/(ab ns i).k=10
 .rw[ae bo];have⟨v,r,z,F,ar,_⟩:=Iz s O;have⟨ak,al⟩:=ahF r v F;have n:jr sL (⟨#[102,111,114,32]⟩:Bz) [sgF 19]:=lit [19,0];obtain e|e:=bo
  .have⟨q,l,x,_⟩:=aaJ s e;obtain rfl:=ar O;have⟨f,a⟩:=u 0 O;have⟨w,m⟩:=u 1 O;have bj:=gI _ 0 l 0 O O;have bz:=gI _ 0 l 1 O O;rw[a.id]at bj;rw[m.id]at bz;have⟨c,j,o⟩:=a1 f a bj;have⟨ad,a5⟩:=h.e w m.lt m.len bz;have bh:=a5.ex.le (r:=0) (by have:=qL (ab ns w).k (ab ns w).op;omega);simp only[e,z,oL]at b⊢;obtain g|g:=q
   .obtain⟨an,B⟩:=u 2 O;rw[g,B.id]at x;have⟨bs,bb,a2,p2⟩:=h.blk d (gL B.lt) B.len x;have A:=adz g;rw[a.id,m.id,B.id]at A;rw[A,sA,od,<-Fo.app_app]at b;have a7:(ab ns i).ks.take ((ab ns i).ks.length-1)=[(f:Int),(w:Int)]:=by rw[A];rfl
    rw[a7,g,B.id];obtain⟨_,bD,_⟩:=zJ [w] f (λt G=>by
     simp at G;obtain rfl|rfl:=G
     .exact⟨f,R,c,j⟩
     .exact⟨w,R,ad,a5⟩)
    have bt:jr pm (cD<|[(f:Int),(w:Int)].map E) (c++(sgF 46::ad)):=by
     rw[eA,eA,List.map_nil,rA,tJ];exact j.rd.app (nE.app a5.rd a5.pos R) aK Fx
    refine⟨_,U,?_,by rw[b];exact pj.for_ o bh.es p2<|aqj bh⟩;have:=(((((n.app ak al R).app adB).app bt bD R).app C8).app a2 bb R).tt (g:=pm);grind [List.append_assoc,nmL]
   .obtain⟨p,av⟩:=u 2 O;have⟨an,B⟩:=u 3 O;have bD:=gI _ 0 l 2 O O;rw[av.id]at bD;rw[g,B.id]at x;have⟨bE,t⟩:=h.e p av.lt av.len bD;have G:=t.ex.le (r:=0) (by have:=qL (ab ns p).k (ab ns p).op;omega);have⟨bs,bb,a2,p2⟩:=h.blk d (gL B.lt) B.len x;have A:=ara g;rw[a.id,m.id,av.id,B.id]at A;rw[A,sA,sA,od,<-Fo.app_app (Sh _ w),<-Fo.app_app]at b;have a7:(ab ns i).ks.take ((ab ns i).ks.length-1)=[(f:Int),(w:Int),(p:Int)]:=by rw[A];rfl
    rw[a7,g,B.id];have b0:jr pm (cD<|[(w:Int),(p:Int)].map E) (ad++(sgF 46::bE)):=by
     rw[eA,eA,List.map_nil,rA,tJ];exact a5.rd.app (nE.app t.rd t.pos R) aK Fx
    have b3:0<(cD<|[(w:Int),(p:Int)].map E).size:=by rw[eA,eA,List.map_nil,rA];exact aK a5.pos
    have bt:jr pm (cD<|[(f:Int),(w:Int),(p:Int)].map E) (c++(sgF 46::(ad++(sgF 46::bE)))):=by
     rw[eA,eA,rA,<-eA];exact j.rd.app (nE.app b0 b3 R) aK Fx
    have bF:0<(cD<|[(f:Int),(w:Int),(p:Int)].map E).size:=by grind [rA,aK]
    refine⟨_,U,?_,by rw[b];exact pj.for_ o (ESc.cons bh G.es) p2<|aji bh G⟩;have:=(((((n.app ak al R).app adB).app bt bF R).app C8).app a2 bb R).tt (g:=pm);grind [List.append_assoc,nmL]
  .have⟨q,l,x,_⟩:=Gn s e;have⟨f,a⟩:=u 0 O;have⟨w,m⟩:=u 1 O;rw[a.id]at l;rw[m.id]at x;have⟨c,j,o⟩:=a1 f a l;have⟨ad,a9,ax,a0⟩:=h.blk d (gL m.lt) m.len x;have A:=Eg q;rw[a.id,m.id]at A;simp only[e,z,A,od]at b;have a7:(ab ns i).ks.take ((ab ns i).ks.length-1)=[(f:Int)]:=by rw[A];rfl
   have t:dA (ab ns i) ((ab ns i).ks.length-1)=(w:Int):=by rw[q];exact m.id
   rw[a7,t,aa O,z,eA,List.map_nil,tJ];have G:jr sL (⟨#[32,105,110,32]⟩:Bz) [sgF 21]:=lit [0,21,0];refine⟨_,U,?_,by rw[b];exact o.each a0⟩;have:=(((((n.app ak al R).app G).app j.rd j.pos R).app C8).app ax a9 R).tt (g:=pm);exact this.as
 rw[aa bo];have av:∀(v:Bz)(k:Int),v=itT [k]->itC [k]=Q->k≠0->(∀an∈Eb,Du (di k) k an=Q)->jr pm v [sgF k]:=λv k a6 af a3 a4=>by
  have:=lit _ a6 af;simp[itF,itL,aa a3]at this;exact this.mono λan B=>a4 an<|aL B
 have a2:(ab ns i).k=11\/(ab ns i).k=12->(ab ns i).ks=[]:=λg=>by
  have:=qE s;grind [stB]
 by_cases B:(ab ns i).k=11
 .rw[ae B];simp only[B,a2 O,sA]at b;exact⟨_,Z,av _ 11 (by decide+kernel) (by decide+kernel) Z (by decide+kernel),by simp_all [ag2]⟩
 rw[aa B];by_cases G:(ab ns i).k=12
 .rw[ae G];simp only[G,a2 O,sA]at b;exact⟨_,Z,av _ 23 (by decide+kernel) (by decide+kernel) Z (by decide+kernel),by simp_all [ag2]⟩
 rw[aa G];by_cases A:(ab ns i).k=13
 .rw[ae A];simp only[A]at b;have y:=bx<|afu s A;have n:=av (⟨#[114,101,116,117,114,110]⟩) 27 (by decide+kernel) (by decide+kernel) Z (by decide+kernel);cases er:(ab ns i).ks with
  |nil=>
   rw[er]at b;rw[ae R,sC];exact⟨_,Z,n,by rw[b];exact aqi⟩|cons L p=>
   rw[er]at b y;rw[aa I];have⟨c,H,K,o⟩:=zJ p L y;exact⟨_,aK,n.app (C8.app K H R) aK Fx,by rw[b];exact o.ret⟩
 rw[aa A];by_cases t:(ab ns i).k=14
 .rw[ae t];have⟨q,l,x,_⟩:=aaK s t;have⟨v,r,z,F,_,ar⟩:=Iz s O;have⟨ak,al⟩:=ahF r v F;have⟨f,a⟩:=u 0 O;have⟨w,m⟩:=u 1 O;rw[a.id]at l⊢;rw[m.id]at x⊢;have⟨c,H,K,o⟩:=h.blk d (gL a.lt) a.len l;have⟨ad,a9,ax,a0⟩:=h.blk d (gL m.lt) m.len x;simp only[t,z,Eg q,od,a.id,m.id]at b;rw[z];have n:jr sL (⟨#[116,114,121,32]⟩:Bz) [sgF 30]:=lit [30,0];have a5:jr sL (⟨#[32,99,97,116,99,104,32]⟩:Bz) [sgF 12]:=lit [0,12,0];refine⟨_,U,?_,by rw[b];exact o.try_ a0<|ar t⟩;have:=(((((n.app K H R).app a5).app ak al R).app C8).app ax a9 R).tt (g:=pm);exact this.as
 rw[aa t];by_cases m:(ab ns i).k=15
 .rw[ae m];have⟨q,l⟩:=Dg s m;have⟨f,a⟩:=u 0 O;rw[a.id]at l⊢;have⟨c,j,o⟩:=a1 f a l;simp only[m,xc q,lJ,a.id]at b;have n:jr sL (⟨#[116,104,114,111,119,32]⟩:Bz) [sgF 28]:=lit [28,0];exact⟨_,aK,n.app j.rd j.pos R,by rw[b];exact o.throw⟩
 rw[aa m];have o:(ab ns i).k=16:=O;rw[ae o];have⟨q,l⟩:=E4 s O;have⟨f,a⟩:=u 0 O;rw[a.id]at l⊢;have⟨c,j,_⟩:=a1 f a (by rw[l];decide);have⟨bk,am⟩:=j.ba (by rw[l];decide);rw[l]at am;simp only[o,xc q,lJ,a.id]at b;have n:jr sL (⟨#[100,101,102,101,114,32]⟩:Bz) [sgF 14]:=lit [14,0];exact⟨_,aK,n.app j.rd j.pos R,by rw[b];exact am.defer⟩
end
theorem adC(a d L t e v)(n:uu a L v e)(a1:M e<=1048576)(E)(x:∀z∈e,Jk a d L t z<|E z):
  Pw a d 178 #[vP d,kH a t,v] (cD<|e.map E):=by
 intro h p ad;obtain⟨ap,av,rfl⟩:=n.form;obtain⟨f,A⟩:∃f,M e=f:=⟨_,R⟩;rw[A]at n a1⊢;have r:Hid (Ps a d h p/\uu a L (A3 ap f av) e/\(∀z∈e,Jk a d L t z<|E z)/\M e=f):=⟨ad,n,x,A⟩;obtain⟨c,y⟩:∃c,e.map E=c:=⟨_,R⟩;rw[y];have F:Hid (e.map E=c/\M c=f):=⟨y,U⟩;have a0:=λp=>sr a.heap.size (gB t) p;have u:=ah<|mm a d t fj Z;have s:Hid (∀z∈e,Pw a d 106 #[vP d,kH a t,nV<|qj L z]<|E z):=x;unfold kH th at s u⊢;generalize gB t=a4 at a0 u s⊢;clear ad n x A y;go_enter func178,ntmps178;go_wp2;go_loopw [10] (λB wr=>∃b:Nat,b<=f/\B=zI b/\Hid (Ps a d (h++cD (c.take b)) wr/\Kq a.heap.size p wr)) (λB _=>f-(intOf B).toNat)
 .exact⟨0,O,R,by rw[show h++cD (c.take 0)=h from lj];exact r.out.1,Kq.refl _ _⟩
 .
  obtain⟨b,_,rfl,g⟩:=hrel;by_cases ax:b<f
  .have⟨z,o⟩:=bg r.out.2.2.2 ax;obtain⟨ar,rfl,_,H⟩:=(r.out.2.1.below g.out.1.pg.bel).get o;have al:c[b]?=some (E z):=by rw[<-F.out.1,cJ,o];rfl
   have ak:=rG c b _ al;have w:=s.out z<|db o;generalize nV (qj L z)=a2 at H w;have G:=ah w;have m:=ah ak;clear ak o al w;by_cases af:b=0
   .subst af;have k:cD (c.take<|0+1)=cD (c.take 0)++E z:=by rw[m.out,ae rfl]
    have q:=ah k;clear k m;have C:wr.cell? ar=some a2:=by simpa [Addr.add] using H
    go_wp2_with (go_at_call 106;fail);apply(G.out _ _ g.out.1).mono;rintro K i ⟨rfl,p2,l⟩;have j:Hid (Ps a d (h++cD (c.take 0)++E z) i/\Kq a.heap.size wr i):=⟨p2,l⟩;clear p2 l;go_wp2_with fail;refine⟨⟨1,O,by go_num,?_,g.out.2.trans j.out.2⟩,by simp[intOf];omega⟩;rw[show(1:Nat)=0+1 from rfl,q.out,<-aB];exact j.out.1
   .have k:cD (c.take<|b+1)=cD (c.take b)++fj++E z:=by rw[m.out,aa af]
    have q:=ah k;clear k m;have a3:(0:Int)<(b:Int):=O;go_wp2_with (go_at_call 403;fail);apply(u.out _ _ g.out.1).mono;rintro K i ⟨rfl,p2,l⟩;have j:Hid (Ps a d (h++cD (c.take b)++fj) i/\Kq a.heap.size wr i):=⟨p2,l⟩;clear p2 l;go_wp2_with (go_at_call 106;fail);apply(G.out _ _ j.out.1).mono;rintro K ao ⟨rfl,an,am⟩;have C:Hid (Ps a d (h++cD (c.take b)++fj++E z) ao/\Kq a.heap.size i ao):=⟨an,am⟩;clear an am;go_wp2_with fail;refine⟨⟨b+1,O,by go_num,?_,(g.out.2.trans j.out.2).trans C.out.2⟩,by simp[intOf];omega⟩;rw[q.out,<-aB,<-aB];exact C.out.1
  .obtain rfl:b=f:=O;go_wp2_with fail;go_end0
   refine⟨R,?_,g.out.2⟩;have:=g.out.1
   rwa [ci (by rw[F.out.2];omega)]at this
def qk(a b t)(s X:Bz)(r:s.size<=100000000)(v)(h:Pw a b 178 #[vP b,kH a t,v] X):
  Pw a b 176 #[vP b,kH a t,Ax s,v] (s++X):=by
 intro f c g;have u:=λc=>sr a.heap.size (gB t) c;have o:=ah<|mm a b t s r;have p:=ah h;have n:=ah g;unfold kH th at *;generalize gB t=w at *;clear g h;go_enter func176,ntmps176;go_wp2_with (go_at_call 403;fail);apply(o.out _ _ n.out).mono;rintro q l ⟨rfl,p2,i⟩;have d:Hid (Ps a b (f++s) l/\Kq a.heap.size c l):=⟨p2,i⟩;clear p2 i;go_wp2_with (go_at_call 178;fail);apply(p.out _ _ d.out.1).mono;rintro q m ⟨rfl,k,j⟩;have e:Hid (Ps a b (f++s++X) m/\Kq a.heap.size c m):=⟨k,d.out.2.trans j⟩;clear k j;go_wp2_with fail;go_end0
 exact⟨R,by rw[<-aB];exact e.out.1,e.out.2⟩
def Bi(a b t)(s X e:Bz)(v r)(k:Pw a b 176 #[vP b,kH a t,Ax s,v] X)(l:Pw a b 106 #[vP b,kH a t,r] e):
  Pw a b 180 #[vP b,kH a t,Ax s,v,r] (X++⟨#[32]⟩++e):=by
 intro d c j;have C:=λc=>sr a.heap.size (gB t) c;have z:=ah k;have A:Hid (Pw a b 403 #[th a t,Ax ⟨#[32]⟩] ⟨#[32]⟩):=mm a b t _ Z;have B:=ah l;have y:=ah j;unfold kH th at *;generalize gB t=E at *;clear j k l;go_enter func180,ntmps180;go_wp2_with (go_at_call 176;fail);apply(z.out _ _ y.out).mono;rintro i u ⟨rfl,p2,m⟩;have f:Hid (Ps a b (d++X) u/\Kq a.heap.size c u):=⟨p2,m⟩;clear p2 m;go_wp2_with (go_at_call 403;fail);apply(A.out _ _ f.out.1).mono;rintro i w ⟨rfl,p,n⟩;have g:Hid (Ps a b (d++X++⟨#[32]⟩) w/\Kq a.heap.size c w):=⟨p,f.out.2.trans n⟩;clear p n;go_wp2_with (go_at_call 106;fail);apply(B.out _ _ g.out.1).mono;rintro i x ⟨rfl,q,o⟩;have h:Hid (Ps a b (d++X++⟨#[32]⟩++e) x/\Kq a.heap.size c x):=⟨q,g.out.2.trans o⟩;clear q o;go_wp21
 go_end0
 exact⟨R,by have:=h.out.1;simpa only[aB] using this,h.out.2⟩
def pu(a f t)(s b:Bz)(m:s.size<=100000000)(u w)(h:Ps a f b w):
  CallsD Y 403 #[th a t,Ax s] u w λe o g=>o=u/\(e= .returned (A9 #[])/\Ps a f (b++s) g/\Kq a.heap.size w g):=by
 have c:=λn=>(ay _ w).alloc eE n;have i:=ah (λk l=>L9 a b s k (h.pg.below l) m);have j:=ah h;unfold th;generalize gB t=p;clear h;go_enter_d func403,ntmps403
 go_wp2_with (go_at_call 400;apply(i.out _<|c _).mono;rintro e _ ⟨rfl,p2,d⟩);go_end0
 exact⟨R,j.out.next p2<|(Kq.of_below<|c _).trans d,(Kq.of_below<|c _).trans d⟩
def xd(b)(a s:Bz)(w):(invoke (.fn (.method "loop.example/warp/impl.put") #[]) #[A2 84<|.agg #[be b 0,Ax a],Ax s]).run Y w= .ok (.enter 403 #[.agg #[be b 0,Ax a],Ax s]) w:=J
def Di(a b t v h)(k:Pw a b 106 #[vP b,kH a t,v] h):
  Pw a b 183 #[vP b,kH a t,v,A5 Q] (mI h):=by
 intro d c f;have A:=λc=>sr a.heap.size (gB t) c;have u:Hid (Pw a b 403 #[th a t,Ax ⟨#[40]⟩] ⟨#[40]⟩):=mm a b t _ Z;have w:=ah k;have x:Hid (∀d c,Ps a b d c->∀g,CallsD Y 403 #[th a t,Ax ⟨#[41]⟩] g c λe o p=>o=g/\(e= .returned (A9 #[])/\Ps a b (d++⟨#[41]⟩) p/\Kq a.heap.size c p)):=λd c f g=>pu a b t _ d Z g c f;have s:=ah f;unfold kH th at *;generalize gB t=B at *;clear f k;go_enter_defers func183,ntmps183
 go_wp2_with (go_at_call 403;fail);apply(u.out _ _ s.out).mono;rintro e q ⟨rfl,p2,l⟩;have i:Hid (Ps a b (d++⟨#[40]⟩) q/\Kq a.heap.size c q):=⟨p2,l⟩;clear p2 l;go_wp2_with (go_at_call 106;fail);apply(w.out _ _ i.out.1).mono;rintro e r ⟨rfl,n,m⟩;have j:Hid (Ps a b (d++⟨#[40]⟩++h) r/\Kq a.heap.size c r):=⟨n,i.out.2.trans m⟩;clear n m;go_wp2_with fail;apply pf I<|xd _ _ _ _;apply(x.out _ _ j.out.1 _).mono;rintro e o _ ⟨rfl,rfl,z,y⟩;refine⟨_,fE R _ _ _,R,?_,j.out.2.trans y⟩;unfold mI;simpa only[aB] using z
def aa6(b a t v c)(e:Pw b a 106 #[vP a,kH b t,v] c):
  Pw b a 183 #[vP a,kH b t,v,A5 V] c:=by
 intro _ _ d;have g:=ah e;have f:=ah d;unfold kH th at *;generalize gB t=j at *;clear d e;go_enter_defers func183,ntmps183
 go_wp2_with (go_at_call 106;fail);apply(g.out _ _ f.out).mono;rintro _ _ ⟨rfl,i,h⟩;go_wp2;exact⟨_,fE R _ _ _,R,i,h⟩
def tK(b a t v c d)(e:Pw b a 106 #[vP a,kH b t,v] c):
  Pw b a 183 #[vP a,kH b t,v,A5 d] (ite (d=Q) (mI c) c):=by
 cases d
 .rw[aa I];exact aa6 b a t v c e
 .rw[ae rfl];exact Di b a t v c e
def ahJ(a b t v h)(k:Pw a b 106 #[vP b,kH a t,v] h):
  Pw a b 188 #[vP b,kH a t,v] (⟨#[91]⟩++h++⟨#[93]⟩):=by
 intro d c f;have A:=λc=>sr a.heap.size (gB t) c;have u:Hid (Pw a b 403 #[th a t,Ax ⟨#[91]⟩] ⟨#[91]⟩):=mm a b t _ Z;have w:=ah k;have x:Hid (∀d c,Ps a b d c->∀g,CallsD Y 403 #[th a t,Ax ⟨#[93]⟩] g c λe o p=>o=g/\(e= .returned (A9 #[])/\Ps a b (d++⟨#[93]⟩) p/\Kq a.heap.size c p)):=λd c f g=>pu a b t _ d Z g c f;have s:=ah f;unfold kH th at *;generalize gB t=B at *;clear f k;go_enter_defers func188,ntmps188
 go_wp2_with (go_at_call 403;fail);apply(u.out _ _ s.out).mono;rintro e q ⟨rfl,p2,l⟩;have i:Hid (Ps a b (d++⟨#[91]⟩) q/\Kq a.heap.size c q):=⟨p2,l⟩;clear p2 l;go_wp2_with (go_at_call 106;fail);apply(w.out _ _ i.out.1).mono;rintro e r ⟨rfl,n,m⟩;have j:Hid (Ps a b (d++⟨#[91]⟩++h) r/\Kq a.heap.size c r):=⟨n,i.out.2.trans m⟩;clear n m;go_wp2_with fail;apply pf I<|xd _ _ _ _;apply(x.out _ _ j.out.1 _).mono;rintro e o _ ⟨rfl,rfl,z,y⟩;refine⟨_,fE R _ _ _,R,?_,j.out.2.trans y⟩;simpa only[aB] using z
theorem ajI(c e a L v A)(u:Tp c a L v A)(t i)(w:i<M a)(d)(p:Jk c e L t i d):
  Pw c e 187 #[vP e,kH c t,nV<|qj L i] (ite (mc (ab a i).k=Q) d<|mI d):=by
 intro _ f h;obtain⟨n,_,_,_,_,r,m⟩:=Ai u w;have C:=(m.cells h.pg.bel).1;have s:=λf=>eD n f;have q:=λf=>sF (eG (ab a i).k) n f;have b:Hid (Pw c e 183 #[vP e,kH c t,nV<|qj L i,A5<|!mc (ab a i).k]<|ite (mc (ab a i).k=Q) d<|mI d):=by
  have:=tK c e t _ d (!mc (ab a i).k) p;cases hb:mc (ab a i).k<;>simp[hb]at this⊢ <;>exact this
 have l:=ah h;rw[r]at b⊢;generalize (ab a i).k=k at C q b⊢;generalize nC (eG k)=F at q b⊢;generalize kH c t=E at b⊢;clear h m r p;cases hb:mc k with
 |true=>
  rw[hb]at b;have o:k=26\/k=32\/k=33\/k=34\/k=37:=by unfold mc at hb;grind
  clear hb;obtain rfl|rfl|rfl|rfl|rfl:=o<;>
  .go_enter func187,ntmps187;go_wp2_with (first|(go_at_call 404;apply(s _).mono;rintro g j ⟨rfl,x⟩;subst j)|(go_at_call 183;apply(b.out _ _ l.out).mono;rintro g B ⟨rfl,z,y⟩));go_end0
   grind
 |false=>
  rw[hb]at b;have o:(k==26)=V/\(k==32)=V/\(k==33)=V/\(k==34)=V/\(k==37)=V:=by unfold mc at hb;grind
  obtain⟨o,_,_,_,_⟩:=o;clear hb;go_enter func187,ntmps187;go_wp2_with (first|(go_at_call 404;apply(s _).mono;rintro g j ⟨rfl,x⟩;subst j)|(go_at_call 183;apply(b.out _ _ l.out).mono;rintro g B ⟨rfl,z,y⟩));go_end0
  grind
def ajJ:zLB->Bz|[]=>T|y::r=>fj++y++ajJ r
def ajK(l):∀x:Bz,l.foldl Jr (Q,x)=(Q,x++ajJ l):=by
 induction l with
 |nil=>intro x;simp[ajJ]|cons a d c=>
  intro x;rw[qr];have b:Jr (Q,x) a=(Q,x++fj++a):=rfl;rw[b,c];simp[ajJ,aB]
def ajL(x)(l:zLB):cD (x::l)=x++ajJ l:=by
 unfold cD aeD;rw[qr];have a:Jr (V,T) x=(Q,x):=by rfl
 rw[a,ajK]
def anC(l):(⟨(Lib.join (l.map (·.data.toList)) fj.data.toList).toArray⟩:Bz)=cD l:=by
 cases l with
 |nil=>rfl|cons e l=>
  rw[eA,Lib.join_cons,ajL];have d:∀l:zLB,Lib.joinTail fj.data.toList (l.map (·.data.toList))=(ajJ l).data.toList:=by
   intro l
   induction l with
   |nil=>rfl|cons a l c=>
    have b:Lib.joinTail fj.data.toList ((a::l).map (·.data.toList))=(fj.data.toList++a.data.toList)++Lib.joinTail fj.data.toList (l.map (·.data.toList)):=by rfl
    rw[b,c];rfl
  rw[d];rfl
def aj0(l)(x:Bz):cD (l++[x])=ite (l=[]) x (cD l++fj++x):=by
 unfold cD;rw[DI];unfold Jr;rw[act];cases l with
 |nil=>rfl|cons a b=>simp
theorem KA(w c l)(h:bv w c l)(n:vB c)(s:M l<=1048576)(t:(cD l).size<=100000000):
  Calls Y 160 #[c,Ax ⟨#[44,32]⟩] w λe d=>e= .returned (Ax<|cD l)/\Below w.heap.size w d:=by
 obtain⟨rfl,a,b,rfl⟩|⟨a,b,rfl,f⟩:=h
 .apply(Tryz.strings_Join_none a b _ w).mono;rintro e d ⟨rfl,rfl⟩;exact⟨R,blR⟩
 .by_cases g:l=[]
  .subst g;apply(Tryz.strings_Join_none _ b _ w).mono;rintro e d ⟨rfl,rfl⟩;exact⟨R,blR⟩
  .obtain⟨i,j⟩:=n a _ b R;have o:0<M l:=U;have m:a.block<w.heap.size:=by
    have:=Cn<|f 0 _<|bm o;unfold Addr.add at this;grind
   have d:=anC l;have u:M (Lib.join (l.map (·.data.toList)) fj.data.toList)=(cD l).size:=by rw[<-d];rfl
   have:=Tryz.strings_Join _ a.off b l fj w (λq r p=>by
    have k:=f q r p;unfold Addr.add at k;grind) m O i<|Nat.le_trans (Nat.le_of_eq u) O
   rw[d,<-j]at this;exact this
theorem uu.take{W L}{a:zOA}{n c l}(h:uu W L (A3 a n c) l)(k)(m:k<=M l):uu W L (A3 a k c) (l.take k):=by
 obtain⟨rfl,b,e,d⟩|⟨b,e,d,_,g⟩:=h
 .have:k=0:=U;subst this;exact .inl ⟨R,a,c,R⟩
 .cases d;by_cases f:k=0
  .subst f;exact .inl ⟨I,_,_,R⟩
  .refine .inr ⟨b,c,U,U,λi j _=>g i j ?_⟩;grind
theorem anD(a:Addr)(i j):(a.add i).add j=a.add (i+j):=by
 unfold Addr.add;grind
theorem uu.drop{W L a n c l}(h:uu W L (A3 (some a) n c) l)(k m)(i:k<=M l)(f:m=M l-k):uu W L (A3 (some<|a.add k) m<|c-k) (l.drop k):=by
 subst f;obtain⟨rfl,d,e,b⟩|⟨d,e,b,_,_⟩:=h
 .exact .inl ⟨I,some<|a.add k,c-k,I⟩
 .cases b;refine .inr ⟨a.add k,c-k,U,U,λ_ _ g=>?_⟩;rw[BD]at g;rw[anD];grind
def Bj(b)(a:Bz)(w):(nilAhead 520 84 (.agg #[be b 0,Ax a]) "loop.example/warp/impl.put").run Y w= .ok (some V) w:=J
def azH(b w):(Instr.typeAssert (A2 203<|be b 0) 64 203 V).run Y w= .ok (be b 0) w:=J
def azI(b w):(Instr.typeAssert (A2 206<|be b 0) 64 206 V).run Y w= .ok (be b 0) w:=J
def azJ(b w):(Instr.typeAssert (A2 209<|be b 0) 64 209 V).run Y w= .ok (be b 0) w:=J
def azK(b w):(Instr.typeAssert (A2 212<|be b 0) 64 212 V).run Y w= .ok (be b 0) w:=J
def au9(b w):(Instr.typeAssert (A2 215<|be b 0) 64 215 V).run Y w= .ok (be b 0) w:=J
def azL(b w):(Instr.typeAssert (A2 218<|be b 0) 64 218 V).run Y w= .ok (be b 0) w:=J
theorem adD(w b a l)(h:bv w a l)(c:vB a)(d:M l<=1048576)(f:(cD l).size<=100000000)(k:w.cell? (aj b 6)=some a):
  Calls Y 175 #[A2 203<|be b 0] w λe g=>e= .returned (Ax<|cD l)/\Below w.heap.size w g:=by
 have g:=KA w a l h c d f;have i:=λw=>azH b w;obtain⟨_,_,rfl⟩:=h.form;generalize M l=j at *;clear h c;go_enter func175,ntmps175;go_wp2_with (go_at_call 160;apply g.mono;rintro e _ ⟨rfl,_⟩);go_ret
 simp_all
