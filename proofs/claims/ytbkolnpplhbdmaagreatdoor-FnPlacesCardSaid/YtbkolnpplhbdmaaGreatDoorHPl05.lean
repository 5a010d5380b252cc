import Derived.Test.YtbkolnpplhbdmaaGreatDoorHPl03
import Derived.Test.YtbkolnpplhbdmaaGreatDoorHPl02
set_option linter.all false
set_option maxRecDepth 100000
set_option maxHeartbeats 6400000
open Go.Proofs.Tryz renaming prog->O
open Go renaming World->U,Calls->Ax,Value->A1,Program->Bk
open Go.Value renaming int->V,string->Ad,bool->A0,slice->A2,ownBlock->A9,string->Bn,pointer->Br,int->B0,tuple->B1
open Go.IntKind renaming i64->X
open Option renaming some->Y,none->Z
open Bool renaming true->Ak,false->A5
open Go.World renaming setCell->A3
open ByteArray renaming empty->Bc
namespace Go.Proofs.YtbkolnpplhbdmaaGreatDoor
open Go.RowKit
variable{C:Nat->Bool}{Q:Exit->Act->World->Prop}{S S2:World->Prop}{T:ByteArray}{W w w' w0:World}{b base i lo n:Nat}{md:Region.Mode}{ops:Array Oper}{v vt:Value}{xs:List Value}
def mq{B:Nat}{a:U}(h:Below B a w)(n:Nat):Below B a (w.drewN n):=⟨h.os,h.tape,h.output,h.size,h.block⟩
def bF{B:Nat}{a:U}(h:Below B a w):Below B a w.drew:=⟨h.os,h.tape,h.output,h.size,h.block⟩
def di{e size:Nat}(h:W.ownsRow base e size v n xs):∃a b,v= A2 a n b:=by
 rcases h.2 with⟨rfl,c⟩|⟨f,b,d,rfl,_⟩
 .exact⟨Z,0,by rw[c]⟩
 .exact⟨_,_,rfl⟩
def ux(w:U)(b:Option Nat):w.grownBy w b:=⟨rfl,rfl,rfl,ag _,λ_ _ _=>rfl⟩
def re(h:w0.grownBy w (Y b))(i:Nat)(v:A1):w0.grownBy (w.setCell ⟨b,i,Z⟩ v) (Y b):=
 ⟨h.os,h.tape,h.output,by simpa [A3] using h.size,λe d a=>by rw[ay _ _ _ _ (λc=>a (by rw[c]))];exact h.block e d a⟩
def bJ{e size:Nat}(h:W.ownsRow base e size v n xs):(n=0/\v= A2 Z 0 0)\/∃g a,v= A2 (Y ⟨g,0,Z⟩) n a:=by
 rcases h.2 with⟨rfl,b⟩|⟨g,a,c,rfl,_⟩
 .exact .inl ⟨b,rfl⟩
 .exact .inr ⟨_,_,rfl⟩
structure Mb where
 N:Nd
 vn:A1
 vk:A1
def cMb(x:Mb):List A1:=[V X x.N.k,V X x.N.f,V X x.N.t,V X x.N.l,V X x.N.op,V X x.N.n,Ad x.N.x,x.vn,x.vk]
def oE(l:List Mb):List A1:=l.flatMap cMb
def Gu(a:Mb)(r:List Mb):oE (a::r)=cMb a++oE r:=by simp[oE]
def uy(a b:List Mb):oE (a++b)=oE a++oE b:=by simp[oE]
def agb(l:List Mb):(oE l).length=l.length*9:=by
 induction l with
 |nil=>rfl
 |cons a d b=>
  have c:(cMb a).length=9:=rfl;rw[Gu,aG,b,c,bc];omega
def ajK(ts:List Mb)(i j:Nat)(T:Mb)(a:ts[i]?=Y T)(e:j<9):(oE ts)[i*9+j]?=(cMb T)[j]?:=by
 induction ts generalizing i with
 |nil=>simp at a
 |cons b f c=>
  have d:(cMb b).length=9:=rfl;rw[Gu];cases i with
  |zero=>simp at a;subst a;rw[gw (by omega)];congr 1;omega
  |succ i=>
   rw[eD (by omega),d,show(i+1)*9+j-9=i*9+j by omega];exact c i (by simpa using a)
def aeg{l:List ByteArray}(h:W.ownsRow base 9 1 v l.length (l.map Bn)):dz W v l:=by
 rcases bJ h with⟨a,rfl⟩|⟨c,b,rfl⟩
 .exact .inl ⟨lD a,_,_,rfl⟩
 .exact af3 h rfl
def aeh{l:List Int}(h:W.ownsRow base 3 1 v l.length (l.map (B0 X))):dH W v l:=by
 rcases bJ h with⟨a,rfl⟩|⟨c,b,rfl⟩
 .exact .inl ⟨lD a,_,_,rfl⟩
 .exact af4 h rfl
def we{g d:Nat}{L:List Mb}(h:W.ownsRow lo 34 9 (A2 (Y ⟨g,0,Z⟩) n d) n (oE L)){x:Mb}(c:L[i]?=Y x):
  W.cell? ⟨g,i*9,Z⟩=Y (V X x.N.k)/\W.cell? ⟨g,i*9+1,Z⟩=Y (V X x.N.f)/\W.cell? ⟨g,i*9+2,Z⟩=Y (V X x.N.t)/\W.cell? ⟨g,i*9+3,Z⟩=Y (V X x.N.l)/\W.cell? ⟨g,i*9+4,Z⟩=Y (V X x.N.op)/\W.cell? ⟨g,i*9+5,Z⟩=Y (V X x.N.n)/\W.cell? ⟨g,i*9+6,Z⟩=Y (Ad x.N.x)/\W.cell? ⟨g,i*9+7,Z⟩=Y x.vn/\W.cell? ⟨g,i*9+8,Z⟩=Y x.vk:=by
 have m:n*9=L.length*9:=by have:=h.1;rw[agb]at this;omega
 have j:i<L.length:=by rcases bg i L.length with g|g;exact g;rw[jC g]at c;cases c
 have a:∀b,b<9->W.cell? ⟨g,i*9+b,Z⟩=(cMb x)[b]?:=λb e=>by
  rw[h.cellAt (i*9+b) (by omega),ajK L i b x c e]
 exact⟨a 0 (by omega),a 1 (by omega),a 2 (by omega),a 3 (by omega),a 4 (by omega),a 5 (by omega),a 6 (by omega),a 7 (by omega),a 8 (by omega)⟩
def nxt(a:Nat)(N:Nd):Nat:=a+7+N.nm.length+N.ks.length
def cnt:Nat->List Nd->Nat
 |K,[]=>K
 |K,N::r=>cnt (nxt K N) r
def agc(A B:List Nd):∀a,cnt a (A++B)=cnt (cnt a A) B:=by
 induction A with
 |nil=>intro a;rfl
 |cons d c b=>intro a;simp[cnt,b]
def Du(l:List Int):∀r:ByteArray,(l.foldl (λr n=>r.push (UInt8.ofNat n.toNat)) r).data.toList=r.data.toList++l.map (λn=>UInt8.ofNat n.toNat):=by
 induction l with
 |nil=>intro r;simp
 |cons b l a=>intro r;simp only[kG,dw];rw[a];simp[ByteArray.push]
def Gv(l:List Int):(fH l).data.toList=l.map (λn=>UInt8.ofNat n.toNat):=by
 unfold fH;rw[Du,show ByteArray.empty.data.toList=[] from rfl,dI]
def aei(s:ByteArray)(i:Nat):aq s i=((s.data.toList[i]?).map (λb=>(b.toNat:Int))).getD (-1):=by
 unfold aq;by_cases a:i<s.size
 .rw[ni a,aw (by simpa using a)];rfl
 .rw[dif_neg a,jC (by simpa using a)];rfl
def yE(l:List Int)(h:∀x∈l,0<=x/\x<256)(i:Nat):aq (fH l) i=(l[i]?).getD (-1):=by
 rw[aei,Gv,cD,Option.map_map];by_cases a:i<l.length
 .rw[aw a];have:=h _ (jq a);simp only[vD,gy,Function.comp];rw[UInt8.toNat_ofNat'];omega
 .rw[jC (by omega)];rfl
def pi(s:ByteArray):List Int:=s.data.toList.map λb=>(b.toNat:Int)
def aaE(s:ByteArray):fH (pi s)=s:=by
 apply kD;apply Array.toList_inj.1;rw[Gv];unfold pi;rw[List.map_map]
 conv=>rhs;rw[<-List.map_id s.data.toList]
 apply List.map_congr_left;intro a _;simp
def Dv(s:ByteArray):(pi s).length=s.size:=by simp[pi]
def Ki(s:ByteArray)(k:Nat)(h:k<s.size):(pi s).take (k+1)=(pi s).take k++[(s[k].toNat:Int)]:=by
 have a:k<(pi s).length:=by rw[Dv];exact h
 rw[List.take_succ_eq_append_getElem a]
 congr 2
 simp[pi];rfl
def Hx(d:Int)(a:0<=d)(b:d<16):32<=ry d/\ry d<=126:=by unfold ry;split<;>omega
def ang(c:Int)(e:0<=c)(f:c<256):∀x∈esc c,32<=x/\x<=126:=by
 unfold esc;split
 .simp
 split
 .simp
 split
 .rename_i d;simp;omega
 split
 .have a:=Hx (c / 16) (by omega) (by omega);have b:=Hx (c%16) (by omega) (by omega);simp;omega
 .simp;omega
def Hy(s:ByteArray)(k:Nat)(h:k<s.size):0<=(s[k].toNat:Int)/\(s[k].toNat:Int)<256:=by have:=s[k].toNat_lt;omega
def amh(s:ByteArray):∀k,k<=s.size->∀x∈qt s k,32<=x/\x<=126
 |0,_=>by simp[qt]
 |k+1,h=>by
  intro x hx;rw[vI s k (by omega),yj]at hx;rcases hx with hx|hx
  .exact amh s k (by omega) x hx
  .exact ang _ (Hy s k (by omega)).1 (Hy s k (by omega)).2 x hx
def Dw(s:ByteArray):∀x∈ej s,32<=x/\x<=126:=by
 intro x hx;unfold ej at hx;rw[yj]at hx;rcases hx with hx|hx
 .exact amh s s.size (ag _) x hx
 .simp at hx;omega
def Dy(s:ByteArray)(k:Nat):∀n,k+n<=s.size->∃tl,qt s (k+n)=qt s k++tl
 |0,_=>⟨[],by simp⟩
 |n+1,h=>by
  have⟨tl,ht⟩:=Dy s k n (by omega);exact⟨tl++esc (s[k+n].toNat:Int),by rw[show k+(n+1)=(k+n)+1 by omega,vI s (k+n) (by omega),ht,bC]⟩
def agd(s:ByteArray)(k:Nat)(h:k<s.size):∃tl,ej s=qt s k++(esc (s[k].toNat:Int)++tl):=by
 have⟨tl,a⟩:=Dy s (k+1) (s.size-(k+1)) (by omega);rw[show k+1+(s.size-(k+1))=s.size by omega,vI s k h]at a;exact⟨tl++[34],by unfold ej;rw[a];simp⟩
def aej(s:ByteArray)(k j:Nat)(h:k<s.size)(a:j<(esc (s[k].toNat:Int)).length):aq (fH (ej s)) ((qt s k).length+j)=(esc (s[k].toNat:Int))[j]:=by
 rw[yE _ (λd c=>by have:=Dw s d c;omega)];have⟨e,b⟩:=agd s k h;rw[b,eD (by omega),show(qt s k).length+j-(qt s k).length=j by omega,gw a,aw a];rfl
def aek(s:ByteArray):aq (fH (ej s)) (qt s s.size).length=34:=by
 rw[yE _ (λb a=>by have:=Dw s b a;omega)];unfold ej;rw[eD (by omega)];simp
def Kj(s:ByteArray):aq (fH (ej s)) 0=34:=by
 rw[yE _ (λb a=>by have:=Dw s b a;omega)];unfold ej qt;simp
def ael(s:ByteArray):(ej s).length=(qt s s.size).length+1:=by unfold ej;simp
def aem:∀d:Fin 16,ic (ry (d.val:Int))=(d.val:Int):=by decide
def xq(d:Int)(b:0<=d)(c:d<16):ic (ry d)=d:=by
 have:=aem ⟨d.toNat,by omega⟩;have a:((d.toNat:Nat):Int)=d:=by omega
 simp only[a]at this;exact this
def age(s:ByteArray):∀(n k f:Nat),k+n=s.size->(fH (ej s)).size<(qt s k).length+f->
  gc (fH (ej s)) f (qt s k).length ((pi s).take k)=(Ak,(fH (ej s)).size,pi s):=by
 have E:(fH (ej s)).size=(qt s s.size).length+1:=by rw[rH,ael]
 intro n
 induction n with
 |zero=>
  intro k f z w;obtain rfl:k=s.size:=by omega
  obtain⟨f,rfl⟩:∃p,f=p+1:=⟨f-1,by omega⟩;unfold gc;rw[aa (by omega),aek,ab rfl,E,dl (by rw[Dv];omega)]
 |succ n H=>
  intro k f z w;have o:k<s.size:=by omega
  have ak:=Hy s k o;have C:=vI s k o;have F:=Ki s k o;have b:=λI y=>aej s k I o y;have A:(qt s (k+1)).length<=(qt s s.size).length:=by
   have⟨an,r⟩:=Dy s (k+1) n (by omega);rw[show k+1+n=s.size by omega]at r;rw[r];simp
  have d:=λv x=>H (k+1) v (by omega) x;rw[F]at d;generalize (s[k].toNat:Int)=a at *;have B:(qt s (k+1)).length=(qt s k).length+(esc a).length:=by rw[C];simp
  generalize al:fH (ej s)=c at *;generalize af:(qt s k).length=P at *;generalize ad:(pi s).take k=L at *;obtain⟨f,rfl⟩:∃p,f=p+1:=⟨f-1,by omega⟩;rw[B]at d A;unfold gc;rw[aa (by omega)];by_cases j:a=10
  .subst j;have e:aq c P=92:=b 0 (by decide);have g:=b 1 (by decide);have h:iG c (P+1)=(10,P+1+1,Ak):=by unfold iG;rw[g];rfl
   rw[e,aa (by decide),aa (by decide),ab rfl,h,ab rfl];exact d f (by have:(esc 10).length=2:=rfl;omega)
  by_cases l:a=9
  .subst l;have e:aq c P=92:=b 0 (by decide);have g:=b 1 (by decide);have h:iG c (P+1)=(9,P+1+1,Ak):=by unfold iG;rw[g];rfl
   rw[e,aa (by decide),aa (by decide),ab rfl,h,ab rfl];exact d f (by have:(esc 9).length=2:=rfl;omega)
  by_cases m:a=34\/a=92
  .have i:esc a=[92,a]:=by unfold esc;rw[aa j,aa l,ab m]
   rw[i]at b d;have e:aq c P=92:=b 0 (by simp);have g:aq c (P+1)=a:=b 1 (by simp);have h:iG c (P+1)=(a,P+1+1,Ak):=by unfold iG;rw[g,aa (by omega),aa (by omega),ab m]
   rw[e,aa (by decide),aa (by decide),ab rfl,h,ab rfl];exact d f (by simp;omega)
  by_cases q:a<32\/126<a
  .have i:esc a=[92,120,ry (a / 16),ry (a%16)]:=by unfold esc;rw[aa j,aa l,aa m,ab q]
   rw[i]at b d;have e:aq c P=92:=b 0 (by simp);have g:aq c (P+1)=120:=b 1 (by simp);have t:aq c (P+1+1)=ry (a / 16):=b 2 (by simp);have u:aq c (P+1+1+1)=ry (a%16):=b 3 (by simp);have J:=xq (a / 16) (by omega) (by omega);have K:=xq (a%16) (by omega) (by omega);have G:hexI c (P+1+1)=(a,P+1+1+1+1,Ak):=by
    unfold hexI;rw[t,u,J,K,aa (by omega),aa (by omega)]
    congr 1;omega
   have h:iG c (P+1)=(a,P+1+1+1+1,Ak):=by unfold iG;rw[g,aa (by decide),aa (by decide),aa (by decide),ab rfl,G]
   rw[e,aa (by decide),aa (by decide),ab rfl,h,ab rfl];exact d f (by simp;omega)
  .have i:esc a=[a]:=by unfold esc;rw[aa j,aa l,aa m,aa q]
   rw[i]at b d;have e:aq c P=a:=b 0 (by simp);rw[e,aa (by omega),aa (by omega),aa (by omega)];exact d f (by simp;omega)
def wpU(P:Bk)(d:Region.Mode)(c:Array Oper)(Q:Exit->Act->U->Prop)(S e:U->Prop)(C:Nat->Bool):Nat->Array Bool->Act->U->Prop
 |0,b,a,w=>Region.ready d c b=[]/\Q .normal a w
 |fuel+1,b,a,w=>
  (Region.ready d c b=[]->Q .normal a w)/\
  ∀i∈Region.ready d c b,wpOp P c Q i (λf w'=>(e w'/\(C i=Ak->S w'))/\wpU P d c Q S e C fuel (b.setIfInBounds i Ak) f w') a w
def Dz{P:Bk}:∀(fuel:Nat)(c:Array Bool)(a:Act)(w:U),wpU P md ops Q S S2 C fuel c a w->wpAnyH P md ops Q S2 fuel c a w
 |0,_,_,_,h=>h
 |fuel+1,_,_,_,h=>⟨h.1,λi e=>wpOp_mono (λd w' b=>⟨b.1.1,Dz fuel _ d w' b.2⟩) (h.2 i e)⟩
def sa{P:Bk}{l:Oper}(B:ops[i]?=Y l)(J:∀(j:Nat) (o:Oper) cs b,ops[j]?=Y o->o.op≠ .select cs b)
  (al:∀c a w,Q (.panic c) (a.put l.dst v) w->Q (.panic c) a w) (af:∀(j:Nat) d,ops[j]?=Y d->C j=A5->∃e∈d.after,Region.binds md e=Ak/\e.on=i):
  ∀(fuel:Nat)(f:Array Bool)(a:Act)(w:U),
   (∀j d,ops[j]?=Y d->j≠i->f.getD j Ak=A5->(∀e∈d.after,Region.binds md e=Ak->e.on≠i)->l.apart ops d=Ak)->
   i∈Region.ready md ops f->YieldsIf P ops S l v a->S2 w->S w->
   wpU P md ops Q S S2 C fuel (f.setIfInBounds i Ak) (a.put l.dst v) w->wpAnyH P md ops Q S2 (fuel+1) f a w:=by
 intro fuel
 induction fuel with
 |zero=>
  intro f a w _ k t x hS n;refine⟨λu=>(by rw[u]at k;cases k),λj r=>?_⟩;by_cases g:j=i
  .subst g;exact t.wpOp B hS ⟨x,Dz _ _ _ _ n⟩
  .have:=ready_mono r g;rw[n.1]at this;cases this
 |succ fuel aK=>
  intro f a w F k t x hS n;refine⟨λu=>(by rw[u]at k;cases k),λj r=>?_⟩;by_cases g:j=i
  .subst g;exact t.wpOp B hS ⟨x,Dz _ _ _ _ n⟩
  .have h:=n.2 j (ready_mono r g);have⟨H,d,s,an⟩:=mem_ready.1 r;have I:∀e∈d.after,Region.binds md e=Ak->e.on≠i:=λe z y A=>by
    have h:=an e z y;have E:=(mem_ready.1 k).1;rw[A]at h;rcases bg i f.size with h'|h'
    .simp[h']at E h;rw[E]at h;cases h
    .simp[yc h']at h
   have ak:C j=Ak:=by
    cases hc:C j with
    |true=>rfl
    |false=>
     have⟨e,z,y,A⟩:=af j d s hc;exact absurd A (I e z y)
   have ad:=wpOp_putIf s (F j d s g H I) (λcs b=>J i l cs b B) (λcs b=>J j d cs b s) al t h;have ao:∀m q,ops[m]?=Y q->m≠i->(f.setIfInBounds j Ak).getD m Ak=A5->
     (∀e∈q.after,Region.binds md e=Ak->e.on≠i)->l.apart ops q=Ak:=λm q ap ar K av=>by
    refine F m q ap ar ?_ av;by_cases G:j=m
    .subst G;exact H
    .rw[getD_set_ne Ak G]at K;exact K
   refine wpOp_mono (λL a0 p=>⟨p.2.1.1,aK (f.setIfInBounds j Ak) L a0 ao (ready_mono k (dB g)) p.1 p.2.1.1 (p.2.1.2 ak) ?_⟩) ad;rw[Array.setIfInBounds_comm _ _ g];exact p.2.2
def fj{P:Bk}{o:Oper}{fuel:Nat}{c:Array Bool}{a:Act}(l:Region.ready md ops c=[i])(r:ops[i]?=Y o)
  (h:∀d:Act->U->Prop,Shut (∀a w,S2 w->(C i=Ak->S w)->wpU P md ops Q S S2 C fuel (c.setIfInBounds i Ak) a w->d a w)->if Region.wanted o (yielded ops a.tmps)=Ak then Oper.wp P o a w d Q else d (a.put o.dst undef) w):wpU P md ops Q S S2 C (fuel+1) c a w:=by
 refine⟨λj=>(by rw[l]at j;cases j),λf k=>?_⟩;rw[l]at k;obtain rfl:f=i:=by simpa using k
 have b:=h (λm g=>(S2 g/\(C f=Ak->S g))/\wpU P md ops Q S S2 C fuel (c.setIfInBounds f Ak) m g) (λa w n p q=>⟨⟨n,p⟩,q⟩);unfold wpOp;simp only[r];split
 .rename_i e;rw[ab e]at b;exact .inl b
 .rename_i e;rw[aa e]at b;exact b
def uz{P:Bk}{c:Array Bool}{a:Act}(b:Region.ready md ops c=[])(h:Q .normal a w):
  ∀fuel,wpU P md ops Q S S2 C fuel c a w
 |0=>⟨b,h⟩
 |_+1=>⟨λ_=>h,by rw[b];simp⟩
def kH{c e size:Nat}(o:w.ownsRow lo e size v n xs)(h:∀g,v.ownBlock=Y g->lo<=g->g<w.heap.size->w'.heap[g]?=w.heap[g]?/\c<=g):w'.ownsRow c e size v n xs:=by
 obtain⟨j,a⟩:=o;refine⟨j,?_⟩;rcases a with a|⟨g,f,i,rfl,k,b,l⟩
 .exact .inl a
 .have d:=h g rfl k (ai b);exact .inr ⟨g,f,i,rfl,d.2,d.1.trans b,l⟩
structure Lw (w:U) (lo:Nat) (lv:A1) (L:List Mb):Prop where
 row:w.ownsRow lo 34 9 lv L.length (oE L)
 each:∀x∈L,w.ownsRow lo 9 1 x.vn x.N.nm.length (x.N.nm.map Bn)/\w.ownsRow lo 3 1 x.vk x.N.ks.length (x.N.ks.map (B0 .i64))
def Lw.mono{L:List Mb}(h:Lw w lo v L)(d:∀k,lo<=k->k<w.heap.size->w'.heap[k]?=w.heap[k]?):Lw w' lo v L:=
 ⟨kH h.row λb _ a c=>⟨d b a c,a⟩,λf e=>⟨kH (h.each f e).1 λb _ a c=>⟨d b a c,a⟩,kH (h.each f e).2 λb _ a c=>⟨d b a c,a⟩⟩⟩
def Lw.nds{L:List Mb}(h:Lw w lo v L):gg w v (L.map Mb.N):=by
 rcases bJ h.row with⟨p,rfl⟩|⟨b,o,rfl⟩
 .exact .inl ⟨by rw[lD p];rfl,_,_,rfl⟩
 .refine .inr ⟨⟨b,0,Z⟩,o,by rw[bq],λc N a=>?_⟩;rw[cD]at a;cases hx:L[c]? with
  |none=>rw[hx]at a;cases a
  |some d=>
   rw[hx]at a;obtain rfl:=aJ a;rw[show(⟨b,0,Z⟩:Addr).add (c*9)=⟨b,c*9,Z⟩ by unfold Addr.add;split<;>simp_all];have⟨f,g,i,j,k,c5,l,m,n⟩:=we h.row hx;have e:=h.each d (dj hx);exact⟨d.vn,d.vk,f,g,i,j,k,c5,l,m,n,aeg e.1,aeh e.2⟩
def gE(k:Int):Bool:=decide (20<=k/\k<=37)
def iK(k:Int):Bool:=decide (1<=k/\k<=16)
def ud(k:Int):Bool:=decide (k=26\/k=32\/k=33)
def aaF(k:Int)(w:U):Ax O 206 #[V X k] w (jt w (A0 (gE k))):=by
 unfold gE;rcases(show(20<=k/\k<=37)\/(20<=k/\¬k<=37)\/¬20<=k by omega) with⟨h1,b⟩|⟨h1,b⟩|h1
 .rw[be ⟨h1,b⟩];go_in;go_wp2;go_ret;exact⟨rfl,rfl⟩
 .rw[az (λa=>b a.2)];go_in;go_wp2;go_ret;exact⟨rfl,rfl⟩
 .rw[az (λa=>h1 a.1)];go_in;go_wp2;go_ret;exact⟨rfl,rfl⟩
def DA(k:Int)(w:U):Ax O 77 #[V X k] w (jt w (A0 (iK k))):=by
 unfold iK;rcases(show(1<=k/\k<=16)\/(1<=k/\¬k<=16)\/¬1<=k by omega) with⟨h1,b⟩|⟨h1,b⟩|h1
 .rw[be ⟨h1,b⟩];go_in;go_wp2;go_ret;exact⟨rfl,rfl⟩
 .rw[az (λa=>b a.2)];go_in;go_wp2;go_ret;exact⟨rfl,rfl⟩
 .rw[az (λa=>h1 a.1)];go_in;go_wp2;go_ret;exact⟨rfl,rfl⟩
def Hz(k:Int)(w:U):Ax O 157 #[V X k] w (jt w (A0 (ud k))):=by
 unfold ud;by_cases a:k=26
 .subst a;go_in;go_wp2;go_ret;exact⟨rfl,rfl⟩
 have d:(k==26)=A5:=by rw[du];exact a
 by_cases b:k=32
 .subst b;go_in;go_wp2;go_ret;exact⟨rfl,rfl⟩
 have e:(k==32)=A5:=by rw[du];exact b
 by_cases c:k=33
 .subst c;go_in;go_wp2;go_ret;exact⟨rfl,rfl⟩
 have f:(k==33)=A5:=by rw[du];exact c
 rw[az (by omega)];go_in;go_wp2;go_ret;exact⟨rfl,rfl⟩
def aen(w:U)(g:A1)(ns:List Nd)(N M:Nd)(vn vk:A1)(i:Nat)(z:Nat)(ht:gg w g ns)(q:dz w vn N.nm)(f:dH w vk N.ks)(b:N.ks[i]?=Y (z:Int))(a:ns[z]?=Y M)(n:ns.length<=1048576)(o:N.ks.length<=1048576):
  Ax O 153 #[.agg #[g],jI N vn vk,V X i] w (jf w (V X M.k)):=by
 have m:∀c d,cg w ((w.alloc c).alloc d):=λc d=>((ah _ w).alloc (ag _) c).alloc (by simp) d;obtain⟨v,A,rfl⟩:=ht.form;obtain⟨x,B,rfl⟩:=q.form;obtain⟨y,C,rfl⟩:=f.form;obtain⟨an,rfl,ar,ap,j⟩:=ht.get a;obtain⟨ao,rfl,l⟩:=f.get b;have r:z<ns.length:=by rcases bg z ns.length with h|h;exact h;rw[jC h]at a;cases a
 have p:i<N.ks.length:=by rcases bg i N.ks.length with h|h;exact h;rw[jC h]at b;cases b
 have e:=j.c0;have E:=yw l;have F:=yw e;unfold jI;generalize ns.length=G at n r;generalize N.ks.length=t at o p;generalize N.nm.length=s;generalize M.k=u at e;obtain⟨I,H,ak,K,af,L,al,ad,J⟩:=N;simp only;go_in;go_wp21
 go_quiet (fail)
 go_wp21
 go_ret;exact⟨rfl,mq (m _ _) _⟩
def fl(ns:List Nd)(N:Nd)(j:Nat):Int:=(ns.getD ((N.ks.getD j 0).toNat) Gk).k
def lj(ns:List Nd)(N:Nd):Nat->Nat->Bool
 |0,_=>Ak
 |f+1,j=>gE (fl ns N j)&&lj ns N f (j+1)
structure anh (ns:List Nd) (N:Nd) (f j:Nat) (R:Bool):Prop where
 out:lj ns N f j=R
structure Ae (ns:List Nd) (N:Nd):Prop where
 ok:∀z∈N.ks,0<=z/\z<(ns.length:Int)
def Ae.get{ns:List Nd}{N:Nd}(h:Ae ns N){j:Nat}(c:j<N.ks.length):∃(z:Nat) (M:Nd),N.ks[j]?=Y (z:Int)/\ns[z]?=Y M/\fl ns N j=M.k/\z<ns.length:=by
 have b:N.ks[j]?=Y N.ks[j]:=aw c;have⟨e,f⟩:=h.ok N.ks[j] (jq c);obtain⟨z,d⟩:∃z:Nat,N.ks[j]=(z:Int):=⟨N.ks[j].toNat,by omega⟩;have a:z<ns.length:=by omega
 refine⟨z,ns[z],by rw[b,d],aw a,?_,a⟩;unfold fl;rw[aF,aF,b,d];simp[a]
def mK(w:U)(B:A1)(ns:List Nd)(N:Nd)(vn vk:A1)(i k:Nat)(ht:gg w B ns)(g:dz w vn N.nm)(z:dH w vk N.ks)(an:Ae ns N)(aK:k<=N.ks.length)(ap:ns.length<=1048576)(ar:N.ks.length<=1048576):
  Ax O 156 #[.agg #[B],jI N vn vk,V X i,V X k] w (jf w (A0 (lj ns N (k-i) i))):=by
 have⟨h,y⟩:=aC (lj ns N (k-i) i);rw[y];have E:anh ns N (k-i) i h:=⟨y⟩;have ba:∀o p,cg w ((w.alloc o).alloc p):=λo p=>((ah _ w).alloc (ag _) o).alloc (by simp) p;have d:=gF ht z;obtain⟨F,H,rfl⟩:=ht.form;obtain⟨a5,a6,rfl⟩:=g.form;obtain⟨G,I,rfl⟩:=z.form;unfold jI;have⟨A,g⟩:=aC ns.length;have⟨t,x⟩:=aC N.ks.length;have s:=gF g x;rw[g]at d ap⊢;rw[x]at d ar aK⊢;generalize N.nm.length=a4;go_in;go_wp2_with fail;generalize ao:(w.alloc _).alloc _=l;obtain⟨m,n,v, -⟩:=CD ao;replace m:l.cell? ⟨w.heap.size,0,Z⟩=Y (A2 F A H):=(aj _ _ _ _ _ _ m).trans rfl;replace n:l.cell? ⟨w.heap.size+1,8,Z⟩=Y (A2 G t I):=(aj _ _ _ _ _ _ n).trans rfl;go_loopw [9] (λq wr=>∃(j:Nat),q= V X j/\i<=j/\(i<=k->j<=k)/\anh ns N (k-j) j h/\cg l wr) (λq _=>k-(intOf q).toNat)
 case atStart=>exact⟨i,rfl,ag _,λal=>al,E,ah _ _⟩
 case round=>
  obtain⟨j,rfl,bb,bf,r,e⟩:=hrel;have f:=v.trans (e.mono v.size);by_cases bj:j<k
  .have⟨C,u,J,K,L,ad⟩:=an.get (j:=j) (by rw[s.out.2];omega);rw[s.out.1]at ad;obtain⟨bn,rfl,bs,br,ak⟩:=(d.1.below f).get K;obtain⟨bo,rfl,a9⟩:=(d.2.below f).get J;have a7:=cell_kept e m;have a8:=cell_kept e n;have af:=ak.c0;have a:=r.out;rw[show k-j=(k-(j+1))+1 by omega,lj,L]at a;have av:(j:Int)<(k:Int):=by omega
   have bh:(j:Int)<(t:Int):=by omega
   have bl:(C:Int)<(A:Int):=by omega
   have bk:(0:Int)<=(C:Int):=by omega
   have bd:(0:Int)<=(j:Int):=by omega
   have c:=λw=>aaF u.k w;generalize u.k=a0 at af a c;cases hx:gE a0 with
   |true=>
    rw[hx,gI]at a;rw[hx]at c;have b:anh ns N (k-(j+1)) (j+1) h:=⟨a⟩;go_wp2_with fail;go_quiet ((go_at_call 206;exact Calls.quiet_of_same (c _)))
    go_wp2;exact⟨⟨j+1,by go_num,by omega,λ_=>by omega,b,mq e _⟩,by simp[intOf];omega⟩
   |false=>
    rw[hx,fE]at a;rw[hx]at c;have b:=am a;clear a hx;go_wp2_with fail;go_quiet ((go_at_call 206;exact Calls.quiet_of_same (c _)))
    go_wp2;go_ret;exact⟨by rw[<-b.out];rfl,mq f _⟩
  .have a:=r.out;rw[show k-j=0 by omega,lj]at a;have b:=am a;have av:¬(j:Int)<(k:Int):=by omega
   go_wp2;go_ret;exact⟨by rw[<-b.out];rfl,f⟩
open Go.Maps Go.WideMaps
def uA(l:List ByteArray):Nat->Nat->Bool
 |0,_=>Ak
 |f+1,j=>lr (l.getD j Bc)&&uA l f (j+1)
structure Gw (l:List ByteArray) (f j:Nat) (R:Bool):Prop where
 out:uA l f j=R
def fy(N:Nd)(least a:Int):Bool:=decide (least<=(N.nm.length:Int)/\(N.nm.length:Int)<=a)&&uA N.nm N.nm.length 0
def Kk(w:U)(N:Nd)(vn vk:A1)(least o:Int)(H:dz w vn N.nm)(af:dH w vk N.ks)(ak:N.nm.length<=1048576)(an:∀s∈N.nm,s.size<=1048576):
  Ax O 155 #[jI N vn vk,V X least,V X o] w (jf w (A0 (fy N least o))):=by
 have i:∀y,cg w (w.alloc y):=λy=>(ah _ w).alloc (ag _) y;have p:=gF H an;obtain⟨B,E,rfl⟩:=H.form;obtain⟨C,F,rfl⟩:=af.form;have⟨h,c⟩:=aC (fy N least o);rw[c];unfold fy at c;unfold jI;have⟨a,G⟩:=aC N.nm.length;have J:=am G;rw[G]at p ak c⊢;generalize N.ks.length=A;by_cases ap:(a:Int)<least
 .have e:Hid (A5=h):=by rw[az (by omega)]at c;exact c
  go_in;go_wp2;go_ret;exact⟨by rw[<-e.out];rfl,i _⟩
 by_cases ar:o<(a:Int)
 .have e:Hid (A5=h):=by rw[az (by omega)]at c;exact c
  go_in;go_wp2;go_ret;exact⟨by rw[<-e.out];rfl,i _⟩
 have e:Gw N.nm a 0 h:=⟨by rw[be (by omega)]at c;simpa using c⟩;clear c;go_in;go_wp21
 have q:=i (.cells #[V X N.k,V X N.f,V X N.t,V X N.l,V X N.op,V X N.n,Ad N.x,A2 B a E,A2 C A F] 34);generalize w.alloc (.cells #[V X N.k,V X N.f,V X N.t,V X N.l,V X N.op,V X N.n,Ad N.x,A2 B a E,A2 C A F] 34)=K at q⊢;clear i;go_loopw [24,8] (λz _ wr=>∃(b:Nat),z= V X b/\b<=a/\Gw N.nm (a-b) b h/\cg K wr) (λz _ _=>a-(intOf z).toNat)
 case atStart=>exact⟨0,rfl,by omega,e,ah _ _⟩
 case round=>
  obtain⟨b,rfl,aK,I,r⟩:=hrel;have j:=q.trans (r.mono q.size);have d:=I.out;by_cases al:b<a
  .have⟨s,v⟩:=cJ J.out al;have a0:=p.2 s (dj v);obtain⟨a1,rfl,av⟩:=(p.1.below j).get v;rw[show a-b=(a-(b+1))+1 by omega,uA,aF,v,gy]at d;have ad:(b:Int)<(a:Int):=by omega
   have m:=yv s (by omega) wr;cases hx:lr s with
   |true=>
    rw[hx,gI]at d;rw[hx]at m;have g:Gw N.nm (a-(b+1)) (b+1) h:=⟨d⟩;clear d hx;go_wp2_with (go_at_call 159;refine m.mono ?_;rintro L ao ⟨rfl,u⟩);exact⟨⟨b+1,by go_num,by omega,g,r.trans (u.mono r.size)⟩,by simp[intOf];omega⟩
   |false=>
    rw[hx,fE]at d;rw[hx]at m;have g:=am d;clear d hx;go_wp2_with (go_at_call 159;refine m.mono ?_;rintro L ao ⟨rfl,u⟩);go_ret;exact⟨by rw[<-g.out];rfl,j.trans (u.mono j.size)⟩
  .rw[show a-b=0 by omega,uA]at d;have g:=am d;have ad:¬(b:Int)<(a:Int):=by omega
   go_wp21
   go_ret;exact⟨by rw[<-g.out];rfl,j⟩
def xr(x:ByteArray):Bool:=decide (x.toList=[])
def bu(N:Nd)(op b c a:Bool):Bool:=(op||N.op==0)&&(b||N.n==0)&&(c||xr N.x)&&(a||decide (N.nm.length=0))
def aaG(w:U)(N:Nd)(vn vk:A1)(i:dz w vn N.nm)(h:dH w vk N.ks)(q:N.nm.length<=1048576)(a b c d:Bool):
  Ax O 154 #[jI N vn vk,A0 a,A0 b,A0 c,A0 d] w (jf w (A0 (bu N a b c d))):=by
 have g:=am (dC w);obtain⟨m,o,rfl⟩:=i.form;obtain⟨n,p,rfl⟩:=h.form;have⟨l,e⟩:=aC (bu N a b c d);rw[e];unfold jI;generalize N.ks.length=k;unfold bu xr at e;by_cases j:N.x.toList=[];all_goals
  simp only[j,decide_true,decide_false]at e;have f:=am e;cases t4:((N.nm.length:Int)==0);all_goals
   go_in;go_wp2;all_goals
    go_ret;exact⟨by rw[<-f.out];simp at t4;simp[*],g _⟩
open Go.Lib (strCells strCells_length wpList_append_own_string)
def ani:(Tryz.prog.info? 5).map (λi=>(i.zero,i.size,i.bytes))=Y (Y (V .u8 0),1,1):=by kernel_rfl
def H8(a b:ByteArray):strCells (a++b)=strCells a++strCells b:=by
 unfold strCells;rw[show(a++b).data=a.data++b.data from lg];simp
structure Kq (b:Nat) (w w':U):Prop where
 os:w'.os=w.os
 tape:w'.tape=w.tape
 output:w'.output=w.output
 size:w.heap.size<=w'.heap.size
 block:∀k,k<w.heap.size->k≠b->(∀cs fr,w.heap[k]?≠Y (.cells cs 5 fr))->w'.heap[k]?=w.heap[k]?
def Kq.refl(b:Nat)(w:U):Kq b w w:=⟨rfl,rfl,rfl,ag _,λ_ _ _ _=>rfl⟩
def Kq.trans{x f z:U}(h:Kq b x f)(k:Kq b f z):Kq b x z:=
 ⟨k.os.trans h.os,k.tape.trans h.tape,k.output.trans h.output,bG h.size k.size,λe c d a=>
  (k.block e (iB c h.size) d (λg i=>by rw[h.block e c d a];exact a g i)).trans (h.block e c d a)⟩
def Kq.of_below(h:cg w w'):Kq b w w':=⟨h.os,h.tape,h.output,h.size,λc a _ _=>h.block c a⟩
structure Pr (w0:U) (vt:A1) (T:ByteArray) (tab:Int) (W:U):Prop where
 bel:cg w0 W
 row:∃o,W.heap[w0.heap.size]?=Y (.cells #[vt,o,.int .i64 tab] 119 (0,0))/\W.ownsRow (w0.heap.size+1) 5 1 o T.size (strCells T)
def Pr.lt{tab:Int}(h:Pr w0 vt T tab W):w0.heap.size<W.heap.size:=by
 have⟨c,a,b⟩:=h.row;exact ai a
def Pr.below{tab:Int}{b:U}(h:Pr w0 vt T tab W)(a:cg W b):Pr w0 vt T tab b:=by
 have⟨e,c,d⟩:=h.row;exact⟨h.bel.trans (a.mono h.bel.size),e,(a.block _ (ai c)).trans c,dA d a⟩
def agf{p:Nat}{o:A1}{cs:Array A1}{t:TypeId}{fr:Nat×Nat}(c:W.heap[p]?=Y (.cells cs t fr))(ht:t≠5)(d:W.ownsRow base 5 1 o n xs)(g:Nat)(a:o.ownBlock=Y g):g≠p/\base<=g:=by
 refine⟨?_,(d.lt g a).1⟩;rintro rfl;rcases d.2 with⟨b,_⟩|⟨e,h,i,b,_,f,_⟩
 .rw[b]at a;simp[A9]at a
 .rw[b]at a;obtain rfl:e=g:=by simpa [A9] using a
  rw[f]at c;cases c;exact ht rfl
def Pr.put{g:A1}{d:Int}(e:cg w0 W)(b:W.heap[w0.heap.size]?=Y (.cells #[vt,g,V X d] 119 (0,0))){o:A1}(c:W.ownsRow (w0.heap.size+1) 5 1 o T.size (strCells T)):Pr w0 vt T d (W.setCell ⟨w0.heap.size,1,Z⟩ o):=
 ⟨e.setCell (ag _) _,o,bp _ _ 1 _ _ _ b,c.kept (row:=Y w0.heap.size) ⟨rfl,rfl,rfl,by simp[A3],λj i f=>ay _ _ _ _ (λa=>f (by rw[a]))⟩ (by
  cases hv:o.ownBlock with
  |none=>exact .inl rfl
  |some h=>exact .inr (λa=>by cases a;exact(agf b (by decide) c _ hv).1 rfl))⟩
def Pr.putTab{g:Int}(h:Pr w0 vt T g W)(e:Int):Pr w0 vt T e (W.setCell ⟨w0.heap.size,2,Z⟩ (V X e)):=by
 have⟨d,b,c⟩:=h.row;exact⟨h.bel.setCell (ag _) _,d,bp _ _ 2 _ _ _ b,c.kept (row:=Y w0.heap.size) ⟨rfl,rfl,rfl,by simp[A3],λk j f=>ay _ _ _ _ (λa=>f (by rw[a]))⟩ (by
  cases hv:d.ownBlock with
  |none=>exact .inl rfl
  |some i=>exact .inr (λa=>by cases a;exact(agf b (by decide) c _ hv).1 rfl))⟩
def Kq.putP(b:Nat)(W:U)(i:Nat)(v:A1):Kq b W (W.setCell ⟨b,i,Z⟩ v):=
 ⟨rfl,rfl,rfl,by simp[A3],λd c a _=>ay _ _ _ _ a⟩
def Pr.cells{tab:Int}(h:Pr w0 vt T tab W):W.cell? ⟨w0.heap.size,0,Z⟩=Y vt/\W.cell? ⟨w0.heap.size,2,Z⟩=Y (V X tab)/\∀j,W.frozen? ⟨w0.heap.size,j,Z⟩=A5:=by
 have⟨c,a,b⟩:=h.row;exact⟨by rw[aj _ _ _ _ _ _ a];rfl,by rw[aj _ _ _ _ _ _ a];rfl,λj=>cH _ _ _ _ _ a⟩
def gA(a:U)(p:A1)(T s:ByteArray)(tab:Int)(w:U)(h:Pr a p T tab w)(E:T.size+s.size<=140737488355328):
  Ax O 46 #[Br (Y ⟨a.heap.size,0,Z⟩),Ad s] w λe w'=>e= .returned (B1 #[])/\Pr a p (T++s) tab w'/\Kq a.heap.size w w':=by
 have⟨ao,i,j⟩:=h.row;have B:=h.bel;have⟨f,t⟩:=aC T.size;rw[t]at j E;obtain⟨k,l,rfl⟩:=di j;have⟨H,I,J,K,L⟩:=fh ani;have F:=ai i;have ad:w.cell? ⟨a.heap.size,1,Z⟩=Y (A2 k f l):=by rw[aj _ _ _ _ _ _ i];rfl
 have u:=agf i (by decide) j;have c:=Ft j i t B;go_in;go_wp2_with (at_builtin;refine wpList_append_own_string _ rfl _ _ 22 9 rfl (a.heap.size+1) 5 H Tryz.underlying22 Tryz.underlying9 I J K L _ _ _ rfl c.1 s rfl (by unfold maxLen;omega) (by omega) (by omega) ?_;intro ap w5 v b an;obtain⟨q,r,rfl⟩:=di v;have n:=(b.block _ F (λe=>(u _ e.symm).1 rfl)).trans c.2.1;have ar:w5.cell? ⟨a.heap.size,1,Z⟩=Y (A2 k f l):=(by rw[aj _ _ _ _ _ _ n];rfl);have al:w5.frozen? ⟨a.heap.size,1,Z⟩=A5:=cH _ _ _ _ _ n);have y:Pr a p (T++s) tab (w5.setCell ⟨a.heap.size,1,Z⟩ (A2 q (f+s.size) r)):=Pr.put (c.2.2.2.grown b (by omega) (λd o=>by have:=(u d o).2;omega)) n (by rw[au,c.out.2.2.1,H8];exact v);have x:Kq a.heap.size w (w5.setCell ⟨a.heap.size,1,Z⟩ (A2 q (f+s.size) r)):=by
  refine⟨b.os,b.tape,b.output,by simp[A3];exact b.size,λd o G C=>?_⟩;rw[ay _ _ _ _ G];refine b.block d o (λe=>?_);have g:(Value.slice k f l).ownBlock=Y d:=e.symm;rcases c.1.2 with⟨m,_⟩|⟨z,af,ak,m,_,A,_⟩
  .rw[m]at g;simp[A9]at g
  .rw[m]at g;obtain rfl:z=d:=by simpa [A9] using g
   exact C _ _ A
 go_end0
 exact⟨rfl,y,x⟩
end Go.Proofs.YtbkolnpplhbdmaaGreatDoor
namespace Go.Proofs.YtbkolnpplhbdmaaGreatDoor
open Go.RowKit
variable{C:Nat->Bool}{Q:Exit->Act->World->Prop}{S S2:World->Prop}{T:ByteArray}{W w w' w0:World}{b base i lo n:Nat}{md:Region.Mode}{ops:Array Oper}{v vt:Value}{xs:List Value}
def FA:Nat->ByteArray
 |0=>Bc
 |n+1=>FA n++⟨#[9]⟩
def jc(t:Nat):ByteArray:=⟨#[10]⟩++FA t
def wg:∀t,(FA t).size=t
 |0=>rfl
 |t+1=>by rw[FA,au,wg t];rfl
def og(t:Nat):(jc t).size=t+1:=by rw[jc,au,wg];show 1+t=_;omega
def iI:ByteArray:=⟨#[44,32]⟩
def aaH(a:Bool×ByteArray)(x:ByteArray):Bool×ByteArray:=(Ak,(if a.1=Ak then a.2++iI else a.2)++x)
def aeo(l:List ByteArray):Bool×ByteArray:=l.foldl aaH (A5,Bc)
def eK(l:List ByteArray):ByteArray:=(aeo l).2
def Gx(l:List ByteArray)(x:ByteArray):aeo (l++[x])=aaH (aeo l) x:=by unfold aeo;rw[List.foldl_append];rfl
def agh:∀l:List ByteArray,(aeo l).1=!l.isEmpty:=by
 intro l;rcases List.eq_nil_or_concat l with rfl|⟨a,b,rfl⟩
 .rfl
 .rw[List.concat_eq_append,Gx];unfold aaH;simp
def se(l:List ByteArray)(k:Nat)(x:ByteArray)(f:l[k]?=Y x):eK (l.take (k+1))=(if k=0 then eK (l.take k) else eK (l.take k)++iI)++x:=by
 obtain⟨b,e⟩:=List.getElem?_eq_some_iff.1 f;have d:l.take (k+1)=l.take k++[x]:=by rw[List.take_succ_eq_append_getElem b,e]
 unfold eK;rw[d,Gx];unfold aaH;simp only;rw[agh];by_cases a:k=0
 .subst a;simp
 .rw[aa a,ab];cases l with
  |nil=>simp at b
  |cons g h=>obtain⟨c,rfl⟩:∃c,k=c+1:=⟨k-1,by omega⟩;simp
def agi(l:List ByteArray)(k:Nat):(eK (l.take k)).size<=(eK (l.take (k+1))).size:=by
 by_cases a:k<l.length
 .rw[se l k _ (aw a),au];split
  .omega
  .rw[au];omega
 .rw[dl (by omega),dl (by omega)];exact ag _
def CF(l:List ByteArray)(k:Nat):(eK (l.take k)).size<=(eK l).size:=by
 have b:∀a,(eK (l.take k)).size<=(eK (l.take (k+a))).size:=by
  intro a
  induction a with
  |zero=>exact ag _
  |succ a c=>exact bG c (agi l (k+a))
 have:=b l.length
 rwa [dl (show l.length<=k+l.length by omega)]at this
def Kl(b:U)(d:A1)(T:ByteArray)(t:Nat)(w:U)(h:Pr b d T t w)(ht:t<=1000000)(q:T.size+(t+1)<=140737488355328):
  Ax O 164 #[Br (Y ⟨b.heap.size,0,Z⟩)] w λe w'=>e= .returned (B1 #[])/\Pr b d (T++jc t) t w'/\Kq b.heap.size w w':=by
 have i:=am h;go_in;go_wp2_with (go_at_call 46;refine(gA b d T _ _ _ i (by show T.size+1<=_;omega)).mono ?_;rintro e w1 ⟨rfl,l,j⟩);have g:=gF l j;go_loopw [2] (λf wr=>∃a:Nat,a<=t/\f= V X a/\Hid (Pr b d (T++(⟨#[10]⟩++FA a)) t wr/\Kq b.heap.size w wr)) (λf _=>t-(intOf f).toNat)
 case atStart=>exact⟨0,by omega,rfl,by rw[show(⟨#[10]⟩:ByteArray)++FA 0=⟨#[10]⟩ from rfl];exact g⟩
 case round=>
  obtain⟨a,p,rfl,c⟩:=hrel;have⟨m,n,o⟩:=c.1.cells;by_cases r:a<t
  .go_wp2_with (go_at_call 46;refine(gA b d _ _ _ _ c.1 (by rw[au,au,wg];show T.size+(1+a)+1<=_;omega)).mono ?_;rintro e s ⟨rfl,p2,k⟩);refine⟨⟨a+1,by omega,by go_num,?_⟩,by simp[intOf];omega⟩;refine⟨?_,c.2.trans k⟩;rw[show T++((⟨#[10]⟩:ByteArray)++FA (a+1))=T++(⟨#[10]⟩++FA a)++⟨#[9]⟩ by rw[FA,de,de]];exact p2
  .obtain rfl:a=t:=by omega
   go_wp21
   go_end0
   exact⟨rfl,c.1,c.2⟩
def aep(b:U)(d vn:A1)(l:List ByteArray)(T:ByteArray)(t:Int)(w:U)(h:Pr b d T t w)(y:dz b vn l)(H:l.length<=1048576)(ak:T.size+(eK l).size<=140737488355328):
  Ax O 92 #[Br (Y ⟨b.heap.size,0,Z⟩),vn] w λe w'=>e= .returned (B1 #[])/\Pr b d (T++eK l) t w'/\Kq b.heap.size w w':=by
 have n:=gF h y;obtain⟨K,L,rfl⟩:=y.form;have⟨k,x⟩:=aC l.length;rw[x]at H n⊢;have u:=am x;go_in;go_wp21
 go_loopw [8] (λo wr=>∃a:Nat,a<=k/\o= V X a/\Hid (Pr b d (T++eK (l.take a)) t wr/\Kq b.heap.size w wr)) (λo _=>k-(intOf o).toNat)
 case atStart=>exact⟨0,by omega,rfl,by rw[show T++eK (l.take 0)=T from ByteArray.append_empty];exact n.1,Kq.refl _ _⟩
 case round=>
  obtain⟨a,af,rfl,c⟩:=hrel;by_cases G:a<k
  .have⟨m,z⟩:=cJ u.out G;obtain⟨A,rfl,B⟩:=(n.2.below c.1.bel).get z;have E:=se l a m z;have F:=CF l (a+1);have i:=gF E F;by_cases v:a=0
   .subst v;have g:eK (l.take (0+1))=eK (l.take 0)++m:=by rw[i.out.1,ab rfl]
    have j:=i.2;rw[g,au]at j;have f:=am g;have ad:wr.cell? A=Y (Ad m):=by simpa [Addr.add] using B
    go_wp2_with (go_at_call 46;refine(gA b d _ _ _ _ c.1 (by rw[au];omega)).mono ?_;rintro e q ⟨rfl,p2,p⟩);refine⟨⟨1,by omega,by go_num,?_,c.2.trans p⟩,by simp[intOf];omega⟩;rw[show(1:Nat)=0+1 from rfl,f.out,<-de];exact p2
   .have g:eK (l.take (a+1))=eK (l.take a)++iI++m:=by rw[i.out.1,aa v]
    have j:=i.2;rw[g,au,au]at j;have C:iI.size=2:=rfl;have f:=kK g j C;go_wp21
    refine(gA b d _ _ _ _ c.1 (by have:=f.2;rw[au];show _+iI.size<=_;omega)).mono ?_;rintro e q ⟨rfl,p2,p⟩;have r:Hid (Pr b d (T++eK (l.take a)++iI) t q/\Kq b.heap.size wr q):=⟨p2,p⟩;go_wp21
    refine(gA b d _ _ _ _ r.1 (by have:=f.2;rw[au,au];omega)).mono ?_;rintro e al ⟨rfl,J,I⟩;have s:=gF J I;go_wp21
    refine⟨⟨a+1,by omega,by go_num,?_,(c.2.trans r.2).trans s.2⟩,by simp[intOf];omega⟩;rw[f.out.1,<-de,<-de];exact s.1
  .obtain rfl:a=k:=by omega
   go_wp21
   go_end0
   refine⟨rfl,?_,c.2⟩;have:=c.1
   rwa [dl (by rw[u.out];exact ag _)]at this
def wB:Nat->ByteArray
 |0=>⟨#[115,116,97,116]⟩
 |1=>⟨#[98,108,111,99,107]⟩
 |2=>⟨#[101,108,115,101]⟩
 |3=>⟨#[101,120,112,114]⟩
 |4=>⟨#[98,97,115,101]⟩
 |5=>⟨#[116,97,114,103,101,116]⟩
 |6=>⟨#[99,97,108,108]⟩
 |7=>⟨#[109,97,110,121]⟩
 |8=>⟨#[102,110]⟩
 |_=>⟨#[101,110,116,114,121]⟩
def ms:Nat->Int->Bool
 |0,k=>iK k
 |1,k=>k==1
 |2,k=>k==1||k==7
 |3,k=>gE k
 |4,k=>gE k&&k !=27
 |5,k=>k==26||k==32||k==33
 |6,k=>k==34
 |7,k=>k==34||k==27
 |8,k=>k==36
 |_,k=>decide (40<=k/\k<=42)
def DB(k:Int)(w:U):Ax O 253 #[V X k] w (jt w (A0 (gE k))):=by
 unfold gE;rcases(show(20<=k/\k<=37)\/(20<=k/\¬k<=37)\/¬20<=k by omega) with⟨h1,b⟩|⟨h1,b⟩|h1
 .rw[be ⟨h1,b⟩];go_in;go_wp2;go_ret;exact⟨rfl,rfl⟩
 .rw[az (λa=>b a.2)];go_in;go_wp2;go_ret;exact⟨rfl,rfl⟩
 .rw[az (λa=>h1 a.1)];go_in;go_wp2;go_ret;exact⟨rfl,rfl⟩
def aeq(k:Int)(w:U):Ax O 232 #[Ad ⟨#[115,116,97,116]⟩,V X k] w (jt w (A0 (ms 0 k))):=by
 rcases(show(1<=k/\k<=16)\/(1<=k/\¬k<=16)\/(¬1<=k) by omega) with⟨h0,a⟩|⟨h0,a⟩|h0
 .rw[show ms 0 k=Ak from be (by omega)];go_in;go_wp2;go_ret;exact⟨rfl,rfl⟩
 .rw[show ms 0 k=A5 from az (by omega)];go_in;go_wp2;go_ret;exact⟨rfl,rfl⟩
 .rw[show ms 0 k=A5 from az (by omega)];go_in;go_wp2;go_ret;exact⟨rfl,rfl⟩
def aer(k:Int)(w:U):Ax O 232 #[Ad ⟨#[98,108,111,99,107]⟩,V X k] w (jt w (A0 (ms 1 k))):=by
 unfold ms;go_in;go_wp2;go_ret;exact⟨rfl,rfl⟩
def aes(k:Int)(w:U):Ax O 232 #[Ad ⟨#[101,108,115,101]⟩,V X k] w (jt w (A0 (ms 2 k))):=by
 unfold ms;rcases(show(k=1)\/(k=7)\/(¬k=1/\¬k=7) by omega) with rfl|rfl|⟨a,b⟩
 .go_in;go_wp2;go_ret;exact⟨rfl,rfl⟩
 .go_in;go_wp2;go_ret;exact⟨rfl,rfl⟩
 .go_in;go_wp2;go_ret;exact⟨rfl,rfl⟩
def aet(k:Int)(w:U):Ax O 232 #[Ad ⟨#[101,120,112,114]⟩,V X k] w (jt w (A0 (ms 3 k))):=by
 have a:=λw=>DB k w;have⟨c,b⟩:=aC (gE k);show Ax _ _ _ _ (jt w (A0 (gE k)));rw[b]at a⊢;go_in;go_wp2_with (go_at_call 253;refine fC (a _) ?_);go_ret;exact⟨rfl,rfl⟩
def aeu(k:Int)(w:U):Ax O 232 #[Ad ⟨#[98,97,115,101]⟩,V X k] w (jt w (A0 (ms 4 k))):=by
 have a:=λw=>DB k w;have⟨b,c⟩:=aC (gE k);show Ax _ _ _ _ (jt w (A0 (gE k&&k !=27)));rw[c]at a⊢;cases b
 .rw[fE];go_in;go_wp2_with (go_at_call 253;refine fC (a _) ?_);go_ret;exact⟨rfl,rfl⟩
 .rw[gI];go_in;go_wp2_with (go_at_call 253;refine fC (a _) ?_);go_ret;exact⟨rfl,rfl⟩
def aev(k:Int)(w:U):Ax O 232 #[Ad ⟨#[116,97,114,103,101,116]⟩,V X k] w (jt w (A0 (ms 5 k))):=by
 unfold ms;rcases(show(k=26)\/(k=32)\/(k=33)\/(¬k=26/\¬k=32/\¬k=33) by omega) with rfl|rfl|rfl|⟨a,b,c⟩
 .go_in;go_wp2;go_ret;exact⟨rfl,rfl⟩
 .go_in;go_wp2;go_ret;exact⟨rfl,rfl⟩
 .go_in;go_wp2;go_ret;exact⟨rfl,rfl⟩
 .go_in;go_wp2;go_ret;exact⟨rfl,rfl⟩
def aew(k:Int)(w:U):Ax O 232 #[Ad ⟨#[99,97,108,108]⟩,V X k] w (jt w (A0 (ms 6 k))):=by
 unfold ms;go_in;go_wp2;go_ret;exact⟨rfl,rfl⟩
def aex(k:Int)(w:U):Ax O 232 #[Ad ⟨#[109,97,110,121]⟩,V X k] w (jt w (A0 (ms 7 k))):=by
 unfold ms;rcases(show(k=34)\/(k=27)\/(¬k=34/\¬k=27) by omega) with rfl|rfl|⟨a,b⟩
 .go_in;go_wp2;go_ret;exact⟨rfl,rfl⟩
 .go_in;go_wp2;go_ret;exact⟨rfl,rfl⟩
 .go_in;go_wp2;go_ret;exact⟨rfl,rfl⟩
def aey(k:Int)(w:U):Ax O 232 #[Ad ⟨#[102,110]⟩,V X k] w (jt w (A0 (ms 8 k))):=by
 unfold ms;go_in;go_wp2;go_ret;exact⟨rfl,rfl⟩
def aez(k:Int)(w:U):Ax O 232 #[Ad ⟨#[101,110,116,114,121]⟩,V X k] w (jt w (A0 (ms 9 k))):=by
 rcases(show(40<=k/\k<=42)\/(40<=k/\¬k<=42)\/(¬40<=k) by omega) with⟨h0,a⟩|⟨h0,a⟩|h0
 .rw[show ms 9 k=Ak from be (by omega)];go_in;go_wp2;go_ret;exact⟨rfl,rfl⟩
 .rw[show ms 9 k=A5 from az (by omega)];go_in;go_wp2;go_ret;exact⟨rfl,rfl⟩
 .rw[show ms 9 k=A5 from az (by omega)];go_in;go_wp2;go_ret;exact⟨rfl,rfl⟩
def H9(i:Nat)(a:i<10)(k:Int)(w:U):Ax O 232 #[Ad (wB i),V X k] w (jt w (A0 (ms i k))):=by
 match i,a with
 |0,_=>exact aeq k w
 |1,_=>exact aer k w
 |2,_=>exact aes k w
 |3,_=>exact aet k w
 |4,_=>exact aeu k w
 |5,_=>exact aev k w
 |6,_=>exact aew k w
 |7,_=>exact aex k w
 |8,_=>exact aey k w
 |9,_=>exact aez k w
