import Derived.Test.YtbkolnpplhbdmaaGreatDoorHPl28
set_option linter.all false
set_option maxRecDepth 100000
set_option maxHeartbeats 6400000
open Bool renaming true->O,false->A3
open Go.Value renaming slice->S,int->Y,string->A1
open Go.Proofs.Tryz renaming prog->U
open Go.Obj renaming cells->V
open Option renaming some->Z,none->Ax
open Go.IntKind renaming i64->Ad
open List renaming replicate->Ak
open Go renaming Calls->A0,World->A2
namespace Go.Proofs.YtbkolnpplhbdmaaGreatDoor
open Go.RowKit Go.Maps Go.WideMaps
variable{M N:Nd}{W w:World}{a l:List Wt}{i j n p:Nat}{k lz:Int}{ns:List Nd}{s y:ByteArray}{t:Wt}{ts:List Tk}
section
variable {C : Cd} {E : Bs} {w w' W : World} {c c1 c2 c3 : Cr} {z k y n : Int}
end
def Lw.kcap{lo g c:Nat}{L:List Mb}(h:Lw w lo (S (Z ⟨g,0,Ax⟩) n c) L)(m:L.length=n):Ed w ⟨g,0,Ax⟩ (L.map Mb.N):=λa N q r d b=>by
 subst m;rw[cD]at d;obtain⟨p,e,rfl⟩:=Option.map_eq_some_iff.1 d;have⟨_,_,_,_,_,_,_,_,k⟩:=we h.row e;have l:(⟨((⟨g,0,Ax⟩:Addr).add (a*9)).block,((⟨g,0,Ax⟩:Addr).add (a*9)).off+8,Ax⟩:Addr)=⟨g,a*9+8,Ax⟩:=by
  unfold Addr.add;split<;>simp_all
 rw[l,k]at b;have o:=aJ b;have f:=(h.each p (dj e)).2;rw[o]at f;rcases f.2 with⟨i,j⟩|⟨u,s,t,i,_,_,j,_⟩
 .omega
 .cases i;exact j
def JD.small(h:JD N):lL N:=⟨by have:=h.nm;omega,by have:=h.ks;omega,by have:=h.x.size;omega,λb a=>by have:=(h.s b a).sz;omega⟩
def BE(ns:List Nd):(jw ns).size<=65536:=by
 unfold jw;split
 .unfold IA;split
  .decide
  .omega
 .decide
def GdX(t:ByteArray):Prop:=∃a:List Nd,(∀N∈a,JD N)/\a.length<=265/\bigs a<=3/\LoR (jw a) (nI (jw a)).1 t
def TkA:Prop:=∀a:List Nd,(∀N∈a,JD N)->a.length<=265->bigs a<=3->aiK (jw a)
structure Cy (C:Cd) (E:Bs) (W w:A2) (c:Cr):Prop where
 cu:Cu C E w c
 bel:Below E.base W w
section
variable {C : Cd} {E : Bs} {w w' W : World} {c c' : Cr} {v : Value} {ar : List Value} {f : FuncId} {Q : Ending → World → Prop}
def Cy.below(a:Cy C E W w c)(b:cg w w'):Cy C E W w' c:=⟨a.cu.below b,a.bel.trans (b.mono a.cu.lo.2)⟩
def Cy.al{o:Obj}(a:Cy C E W w c):Cy C E W (w.alloc o) c:=a.below (dC w o)
def Cy.run(a:Cy C E W w c)(k:Rcw C f ar c v c')(h:∀w',Cy C E W w' c'->Q (.returned v) w'):A0 U f (cV E::ar).toArray w Q:=
 (k a.cu).mono λd w' b=>b.1 ▸ h w' ⟨b.2.1,a.bel.trans b.2.2⟩
end
def apD(ap:TkA)(C:Cd)(c:Cr)(a0:0<=c.p/\c.p<=100)(a9:c.r=0):∃(t:ByteArray) (c':Cr),(t.size<=721000/\GdX t)/\(0<=c'.p/\c'.p<=20300000/\0<=c'.r/\c'.r<=3)/\Rcw C 8 [] c (A1 t) c':=by
 have⟨a,m,b,G⟩:=aol C c a0 (by omega);have w:=BE a;have a7:=aad (jw a);have v:=adK (jw a);have an:=b.p;have a6:=b.r;obtain⟨t,af,a4,a5,ak,E⟩:=apv C (jw a) (nI (jw a)).1 m 0 an.1 (by omega) (λI e=>by have:=v.each I e;omega) v.next (by decide) (by omega)
 refine⟨t,af,⟨by omega,a,b.nd,b.n.2,by omega,ak⟩,by omega,λF J s=>?_⟩;have k:=alL (ap a b.nd b.n.2 (by omega)) w E (by omega);have y:=b.nd;have aK:=b.n.2;have a1:=G s;have a8:=s.lo;go_in;go_wp2_with fail;refine a1.mono ?_;rintro o w1 ⟨q,n,H,rfl,u,e,ao,av⟩;have⟨i,g⟩:=aC a.length;rw[g]at e aK⊢;have ar:H.length=i:=by rw[<-g,<-u,bq]
 have x:∀d,A0 U 22 #[.agg #[S (Z ⟨q,0,Ax⟩) i n]] (w1.alloc d) λo a2=>o= .returned (A1 (jw a))/\Below (w1.alloc d).heap.size (w1.alloc d) a2:=λd=>by
  have l:=dC w1 d;have nd:=e.lw.nds;have z:=e.lw.kcap ar;rw[u]at nd z;exact F7 (w1.alloc d) ⟨q,0,Ax⟩ i n a (nd.below l) (z.below nd l) g (by omega) (λf h=>(y f h).small) (λf h=>(y f h).int)
 have K:Cy C F J w1 m:=⟨ao,av⟩;generalize jw a=P at x k w;have A:=am K;go_wp2_with fail;refine dt (x _) λba ad=>?_;have B:=am (A.out.al.below ad);go_wp2_with fail;refine B.out.run k λbb L=>?_;have j:=am L;go_wp2;go_ret;exact⟨rfl,j.out.cu,j.out.bel⟩
section
variable {T A x y : ByteArray} {p : Nat} {o : Bool}
def ad8(A x c:ByteArray):JE (A++(x++c)) A.size x:=by
 refine⟨by rw[au,au];omega,λa b=>?_⟩;rw[oB,aa (by omega),show A.size+a-A.size=a by omega,oB,ab b]
def ajj:∀(n p:Nat),(∀i,i<n->ja (aq T (p+i))=O)->LA T o p (p+n)
 |0,p,_=> .nil
 |n+1,p,h=> .bl (h 0 (by omega)) (by rw[show p+(n+1)=p+1+n by omega];exact ajj n (p+1) λi a=>by rw[show p+1+i=p+(i+1) by omega];exact h (i+1) (by omega))
def ajk(c:aq T p=45)(d:aq T (p+1)=45)(e:aq T (p+2)=122)(b:aq T (p+3)=10):xL T p=p+3:=by
 have g:=aH b;unfold xL;refine tD JB T 3 (T.size+1) p (λa f=>?_) (by rw[b];decide) (by omega);rcases(show a=0\/a=1\/a=2 by omega) with rfl|rfl|rfl
 .rw[fL,c];decide
 .rw[d];decide
 .rw[e];decide
def apE{w:ByteArray}{c:Int}(b:c∈vf):wD w k c=O:=by
 have a:zy c=O/\c≠61/\c≠46/\c≠45:=by
  have:∀c∈vf,zy c=O/\c≠61/\c≠46/\c≠45:=by decide
  exact this c b
 unfold wD;split
 .exact a.1
 split
 .exact be b
 .have:nxS k c=O:=by
   unfold nxS
   repeat' split
   all_goals first|rfl|exact be a.2.1|exact be a.2.2.1|exact be b
  rw[this];simp[a.2.2.2]
def ar1{c:ByteArray}(m:JE T p c)(h:c∈Ej\/(o=O/\c∈F5)):LA T o p (p+c.size)/\aq T p∈vf:=by
 have b:∀a,a<c.size->aq T (p+a)=aq c a:=m.2;rcases h with h|⟨i,h⟩
 .have j:0<c.size/\(∀a,a<c.size->ja (aq c a)=O)/\aq c 0∈vf:=by
   simp only[Ej,gK,mC,mE]at h;rcases h with rfl|rfl|rfl|rfl|rfl;all_goals refine⟨by decide,λa e=>?_,by decide⟩
   .obtain rfl:a=0:=by change a<1 at e;omega
    decide
   .rcases(show a=0\/a=1 by change a<2 at e;omega) with rfl|rfl<;>decide
   .obtain rfl:a=0:=by change a<1 at e;omega
    decide
   .obtain rfl:a=0:=by change a<1 at e;omega
    decide
   .rcases(show a=0\/a=1\/a=2 by change a<3 at e;omega) with rfl|rfl|rfl<;>decide
  have d:=b 0 j.1;rw[fL]at d;exact⟨ajj _ _ λa e=>by rw[b a e];exact j.2.1 a e,by rw[d];exact j.2.2⟩
 .simp only[F5,gK,mC,mE]at h;rcases h with rfl|rfl|rfl
  .have d:aq T p=10:=b 0 (by decide);exact⟨.nl i d .nil,by rw[d];decide⟩
  .have d:aq T p=32:=b 0 (by decide);have f:aq T (p+1)=45:=b 1 (by decide);have g:aq T (p+1+1)=45:=b 2 (by decide);have l:aq T (p+1+2)=122:=b 3 (by decide);have k:aq T (p+1+3)=10:=b 4 (by decide);refine⟨.bl (by rw[d];decide) (.rem f g ?_),by rw[d];decide⟩;rw[ajk f g l k];exact .nl i k .nil
  .have d:aq T p=13:=b 0 (by decide);have f:aq T (p+1)=10:=b 1 (by decide);have g:aq T (p+1+1)=10:=b 2 (by decide);exact⟨.bl (by rw[d];decide) (.nl i f (.nl i g .nil)),by rw[d];decide⟩
def apF(c:ByteArray):Nat:=if c.size=2\/c.size=5 then 1 else 0
def al7{c:ByteArray}(l:JE T p c)(h:c∈II){e:List Wt}{q:Nat}(f:Rz T (p+c.size) e q):Rz T p (Ak (apF c+1) nlW++e) q:=by
 have a:∀i,i<c.size->aq T (p+i)=aq c i:=l.2;simp only[II,gK,mC,mE]at h;rcases h with rfl|rfl|rfl|rfl|rfl|rfl
 .have b:aq T p=10:=a 0 (by decide);exact .sep b (.inl rfl) f
 .have b:aq T p=59:=a 0 (by decide);exact .sep b (.inr rfl) f
 .have b:aq T p=10:=a 0 (by decide);have d:aq T (p+1)=10:=a 1 (by decide);exact .sep b (.inl rfl) (.sep d (.inl rfl) f)
 .have b:aq T p=32:=a 0 (by decide);have d:aq T (p+1)=59:=a 1 (by decide);have g:aq T (p+1+1)=32:=a 2 (by decide);exact .bl (by rw[b];decide) (.sep d (.inr rfl) (.bl (by rw[g];decide) f))
 .have b:aq T p=10:=a 0 (by decide);have d:aq T (p+1)=45:=a 1 (by decide);have g:aq T (p+1+1)=45:=a 2 (by decide);have k:aq T (p+1+2)=122:=a 3 (by decide);have j:aq T (p+1+3)=10:=a 4 (by decide);refine .sep b (.inl rfl) (.rem d g ?_);rw[ajk d g k j];exact .sep j (.inl rfl) f
 .have b:aq T p=59:=a 0 (by decide);have d:aq T (p+1)=59:=a 1 (by decide);exact .sep b (.inr rfl) (.sep d (.inr rfl) f)
end
def pv.reps{e:List Wt}(ht:t.k=7)(h:pv l e):∀n,pv (t::l) (Ak (n+1) nlW++e)
 |0=> .sep ht rfl h
 |n+1=> .more ht rfl (pv.reps ht h n)
def w5(t:Wt):Nat:=if t.k=7 then 5 else wt t
def c5:List Wt->Nat
 |[]=>0
 |t::l=>w5 t+c5 l
def am5(t:Wt):w5 t<=wt t:=by
 unfold w5 wt;split<;>split<;>omega
def am6:∀l:List Wt,c5 l<=cst l
 |[]=>ag _
 |t::l=>Nat.add_le_add (am5 t) (am6 l)
def ajl(e:List Wt):∀n,c5 (Ak n nlW++e)=5*n+c5 e
 |0=>by simp
 |n+1=>by rw[List.replicate_succ,dJ,c5,ajl e n,show w5 nlW=5 from rfl];omega
def ar2{q:Nat}(h:uq s p l ts q):∀{y:ByteArray},LoC s ts y->∃e,pv l e/\c5 e<=cst l/\∀A:ByteArray,Rz (A++y) A.size e (A++y).size:=by
 induction h with
 |nil=>
  intro y b;cases b;refine⟨[],.nil,ag _,λA=>?_⟩;rw[show A++(⟨#[]⟩:ByteArray)=A from nE A];exact .nil
 |bl _ _ g=>exact g
 |rem _ _ _ g=>exact g
 |@tok p i q a l r ts m n E F _ _ z _ B _ g=>
  intro y b;have G:s.extract r.f.toNat r.t.toNat=a.w:=by rw[B.1,B.2];exact F.ext
  cases b with
  |@cons _ c y _ v b=>
   have⟨e,u,C,x⟩:=g b;refine⟨a::e,.tok m u,Nat.add_le_add (am5 a) C,λA=>?_⟩;rcases v.2 with⟨j,_⟩|⟨_,d,H,rfl⟩
   .exact absurd (z.symm.trans j) n
   .rw[G,z]at *;have t:A++(a.w++d++y)=(A++(a.w++d))++y:=by simp only[de]
    have i:=x (A++(a.w++d));rw[<-t]at i;have K:JE (A++(a.w++d++y)) A.size (a.w++d):=ad8 A (a.w++d) y;have⟨L,ad⟩:=K.app;obtain⟨I,J⟩:=ar1 (o:=opn a.k) ad H;rw[au,au,<-fi]at i;exact .tok m n E L (apE J) I i
 |@sep p q l d r ts _ _ n _ g=>
  intro y b;have m:nlW.k=7:=rfl;cases b with
  |@cons _ c y _ v b=>
   have⟨e,u,C,x⟩:=g b;rcases v.2 with⟨_,j⟩|⟨j,_⟩
   .refine⟨Ak (apF c+1) nlW++e,pv.reps m u _,?_,λA=>?_⟩
    .rw[ajl,cst,show wt nlW=11 by unfold wt;rw[aa (by omega)],show apF c=if _ then 1 else 0 from rfl];split<;>omega
    have t:A++(c++y)=(A++c)++y:=by simp only[de]
    have i:=x (A++c);rw[<-t,au]at i;exact al7 (ad8 A c y) j i
   .exact absurd n j
def al8:∀j:Fin 22,(ch fD j.val).size<=6:=by decide+kernel
def apH{w:ByteArray}{n:Int}(h:Alo w k n y)(v:¬k<5):w.size<=6:=by
 obtain⟨l,c,b,a,p,q,r,s⟩:=h;unfold db at c b a;by_cases g:bI (aq w 0)=O
 .rw[ab g]at b a;simp only at b a;unfold C0 at a;rw[b,jJ]at a;cases e:vK fD w 22 0 with
  |none=>rw[e]at a;simp only at a;omega
  |some f=>
   have⟨t,u,o⟩:=qJ fD w 22 0 f e;have x:(ch fD f).size=w.size:=by have:=congrArg List.length o;rwa [gH,gH,fK,fK]at this
   have:=al8 ⟨f,by omega⟩;simp only at this;omega
 rw[aa g]at c b a;by_cases i:cm (aq w 0)=O
 .rw[ab i]at c b a;exfalso;split at a
  .simp only at a;unfold ue at a;split at a
   .simp only at a;omega
   .split at a<;>(simp only at a;omega)
  .simp only at a;omega
 rw[aa i]at c b a;by_cases j:aq w 0=34
 .rw[ab j]at c b a;exfalso;split at a<;>(simp only at a;omega)
 rw[aa j,jJ]at c b a;by_cases d:pc w=0
 .rw[ab d]at c;cases c
 rw[aa d]at b a;simp only at b a;rw[a,dv]at b;have m:=(ED w l d).1;rw[a]at m;have:∀k:Fin 79,(dK (k.val:Int)).size<=6:=by decide+kernel
 have:=this ⟨k.toNat,by omega⟩;rw[show((k.toNat:Nat):Int)=k by omega]at this;omega
def al9{q:Nat}(h:uq s p l ts q):∀{y:ByteArray},LoC s ts y->y.size<=c5 l:=by
 have t:∀c:ByteArray,c∈Ej\/c∈F5\/c∈II->c.size<=5:=λc e=>by
  simp only[Ej,F5,II,gK,mC,mE]at e;rcases e with(rfl|rfl|rfl|rfl|rfl)|(rfl|rfl|rfl)|(rfl|rfl|rfl|rfl|rfl|rfl)<;>decide
 induction h with
 |nil=>intro y b;cases b;exact aD _
 |bl _ _ d=>exact d
 |rem _ _ _ d=>exact d
 |@tok p B q n l g ts i j u x _ _ v _ r _ d=>
  intro y b;have z:s.extract g.f.toNat g.t.toNat=n.w:=by rw[r.1,r.2];exact x.ext
  cases b with
  |@cons _ o y _ m b=>
   have:=d b;rcases m.2 with⟨a,_⟩|⟨_,c,e,rfl⟩
   .exact absurd (v.symm.trans a) j
   .have A:=t c (e.imp id λa=> .inl a.2);rw[z,au,au,c5,show w5 n=wt n from aa i];unfold wt;split
    .omega
    .rename_i a;have:=apH u a;omega
 |@sep p q l c g ts _ _ j _ d=>
  intro y b;have i:nlW.k=7:=rfl;cases b with
  |@cons _ o y _ m b=>
   have:=d b;rcases m.2 with⟨_,a⟩|⟨a,_⟩
   .have A:=t o (.inr (.inr a));rw[au,c5,show w5 nlW=5 from ab i];omega
   .exact absurd j a
def ajm(h:TkO n ts){q r:Nat}(b:q<=r)(a:r<ts.length):0<=(rj ts q).f/\(rj ts q).f<=(rj ts r).t/\0<=(rj ts q).l:=by
 rw[rC (aw (show q<ts.length by omega)),rC (aw a)];have c:=h.each ts[q] (jq _);have d:=h.each ts[r] (jq _);rcases ie b with rfl|g
 .omega
 .have:=(List.pairwise_iff_getElem.1 h.next) q r (by omega) a g;omega
def pv.pre{u:Wt}{e:List Wt}(ht:t.k=7)(b:u.k=7)(H:∀c v,v.k=7->pv e c->pv (t::l) (v::c)):∀{c:List Wt},pv (u::e) c->pv (t::l) c
 |_,.tok h _=>absurd b h
 |_,.sep _ a g=>H _ _ a g
 |_,.more _ a g=> .more ht a (pv.pre ht b H g)
def pv.trans{b:List Wt}(h:pv a b):∀{c:List Wt},pv b c->pv a c:=by
 induction h with
 |nil=>exact λd=>d
 |tok e i g=>
  intro c d;cases d with
  |tok _ d=>exact .tok e (g d)
  |sep f _ _=>exact absurd f e
  |more f _ _=>exact absurd f e
 |sep e i k g=>exact λd=>pv.pre e i (λc l j f=> .sep e j (g f)) d
 |more e i k g=>exact λd=>pv.pre e i (λc l j f=> .more e j (g f)) d
structure Gt (l:List Wt) (F:Fo) (ns:List Nd):Prop where
 rt:∃cs,Rts l cs/\csF cs=F
 ok:(eG ns).1=0
 bk:∀(y:ByteArray)(X:Fo),X.bare=F->(rm y X).map Nd.bk=ns.map Nd.bk
def Gt.rc{a:Fo}(g:Gt l a ns):Ha l a:=by
 obtain⟨c,b,rfl⟩:=g.rt;exact b.root
def ajn(j:∀N∈ns,JD N)(q:Wp ns ns.length<=65536):∃l F ms,Gt l F ms/\cst l<=65536/\Rz (jw ns) 0 l (jw ns).size:=by
 have e:∃l F ms,Gt l F ms/\cst l<=65536/\Rz ⟨#[]⟩ 0 l (⟨#[]⟩:ByteArray).size:=⟨[],.nil,[⟨1,0,0,1,0,0,⟨#[]⟩,[],[]⟩],⟨⟨_,.nil,rfl⟩,by decide+kernel,λp d b=>by cases d with
  |nil=>rfl
  |cons N u v=>cases b⟩,aD _,.nil⟩
 unfold jw;by_cases a:(eG ns).1=0
 case neg=>rw[aa a];exact e
 rw[ab a];unfold IA;by_cases f:65536<(mI ns).size
 case pos=>rw[ab f];exact e
 rw[aa f];have c:=I9 a;have s:=c.len;obtain⟨l,h,n,k,i,r⟩:=al0 a λt m=>j _ (by unfold ae;rw[iF,List.getD,aw m];exact jq _);refine⟨l,_,ns,⟨⟨h,k,i⟩,a,λp d b=>?_⟩,by omega,n⟩;have o:=(kJ (c.nb (ns.length-1) (by omega))).1;have g:=(abB a).2.2;rw[show((ns.length:Int)-1)=((ns.length-1:Nat):Int) by omega]at b g;unfold rm;rw[<-AL,dh,b,<-alt a,uf c (by omega),zB o,g];rfl
section
variable {l e : List Wt} {F : Fo} {ns : List Nd} {s y : ByteArray}
def Gt.acc(g:Gt l F ns)(d:Rz y 0 e y.size)(c:pv l e):Acc y:=by
 have⟨i,f,h,a,b,_⟩:=ajd d c g.rc;exact⟨by rw[a],by rw[a];exact b⟩
def Gt.step(g:Gt l F ns)(w:Rz s 0 e s.size)(j:pv l e)(h:LoR s (nI s).1 y):∃b,pv l b/\Rz y 0 b y.size/\c5 b<=cst e/\y.size<=c5 e:=by
 have⟨a,i,A,v,p,k,t,_⟩:=ajd w j g.rc;rw[show(nI s).1=a++[nG s i] by unfold nI;rw[v,aa (by simp),ab p]]at h;obtain⟨f,c,r⟩:=h;have o:(a++[nG s i]).take f=a:=by
  rcases bg a.length f with g|g
  .have:=c.no6 (nG s i) (by rw[dl (by simp;omega)];simp);exact absurd rfl this
  .rcases r with x|⟨n,m,z⟩
   .simp at x;omega
   .rcases bg f a.length with g2|g2
    .rw[gw g2]at m;exact absurd z (t n (dj m))
    .rw[show f=a.length by omega,List.take_append_of_le_length (ag _),dl (ag _)]
 rw[o]at c;have⟨b,q,u,d⟩:=ar2 k c;have d:=d ByteArray.empty;rw[EI]at d;exact⟨b,j.trans q,d,u,al9 k c⟩
end
def BF(ak:s.size<=65536)(f:Acc s):aiK s:=by
 intro a;have E:CH (a.alloc (V #[S Ax 0 0] 102)) a.heap.size a.heap.size []:=⟨⟨_,aA a _,fs _ _ _ _⟩,ag _⟩;have b:=afl _ a.heap.size a.heap.size s E (by omega) f.1;have j:=am (dC a (V #[S Ax 0 0] 102));have g:Hid (nI s=((mj s).1, -1)):=by show _=_;unfold nI;rw[f.1,aa (by decide),ab f.2]
 obtain⟨c,h⟩:=f;obtain⟨⟨k,r,J⟩,x⟩:∃q,mj s=q:=⟨_,rfl⟩;rw[x]at b g c h;unfold Ll at b;simp only at b g c h;subst c;have⟨an,l⟩:=aC k.length;rw[l]at b;go_in;go_wp2_with fail;generalize a.alloc (V #[S Ax 0 0] 102)=K at b j⊢;refine b.mono ?_;rintro e n ⟨t,w,H,o,rfl,A,m,G,F,u,L,ad⟩;have z:cg a n:=j.out.trans (u.mono (ag _));have i:=D6 n a.heap.size a.heap.size o r H 6 m G F (by decide) (by decide) (by omega);unfold zb at i;rw[h]at i;have⟨ar,B,_⟩:=m.ex;have d:=kK A B l;go_wp2_with fail;refine i.mono ?_;rintro e I ⟨ap,D,rfl,al,ao,af,C,v⟩;have y:cg a I:=z.trans (v.mono (ag _));have p:=am (C.row d.2.1 d.1 (by decide) (by decide));go_wp2;go_ret2;have e:=g.out;have c:(nI s).1=k:=by rw[e]
 exact(show TkP _ _ _ _ from⟨t,w,by rw[e];simp only[d.out.2.2];rfl,by rw[c,d.out.2.2];exact p,y⟩)
abbrev cuW(W:A2)(C:Cd)(a:Option Addr)(b:Nat):A2:=W.alloc (V #[S a C.len b,Y Ad 0,Y .u64 0,Y Ad 0] 39)
def apI{C:Cd}{a:Option Addr}(b:Nat)(h:Code C W.heap.size W a):Cy C ⟨W.heap.size,W.heap.size,0,a,b⟩ (cuW W C a b) (cuW W C a b) ⟨0,0,0⟩:=
 have c:=dC W (V #[S a C.len b,Y Ad 0,Y .u64 0,Y Ad 0] 39)
 ⟨⟨⟨ag _,c.size⟩,h.below c,aA W _⟩,ah _ _⟩
def Dx(C:Cd)(f:FuncId)(b:List Value)(t:ByteArray):Prop:=∀ ⦃W:A2⦄ ⦃a:Option Addr⦄ ⦃c:Nat⦄,Code C W.heap.size W a->A0 U f (b++[Value.slice a C.len c]).toArray W (jf W (A1 t))
def apJ:TkA:=λa c g h=>by
 have⟨e,f,ms,b,_,d⟩:=ajn c (by rw[ah6];omega);exact BF (BE a) (b.acc d (pv.refl e))
def apK(C:Cd):∃t,GdX t/\t.size<=721000/\Dx C 4 [] t:=by
 have⟨t,j,c,_,f⟩:=apD apJ C ⟨0,0,0⟩ (by decide) rfl;refine⟨t,c.2,c.1,λa g b i=>?_⟩;have d:=am (apI b i);show A0 U 4 #[S g C.len b] a _;go_in;go_wp2_with fail;refine d.out.run f λw1 h=>?_;have e:=am ((dC a _).trans h.bel);go_wp2;go_ret;exact⟨rfl,e.out⟩
def ama{w:ByteArray}{c:Int}(h:wD w k c=O):wD w k (-1)=O:=by
 unfold wD at h⊢;split
 .decide
 rename_i a;rw[aa a]at h;split
 .decide
 rename_i b;rw[aa b]at h;refine Bool.and_eq_true_iff.2 ⟨?_,by simp⟩;unfold nxS
 repeat' split
 all_goals rfl
def aam(T:ByteArray)(h:p<=T.size):JB (aq T (xL T p))=A3:=by
 have:∀a p,T.size<a+p->JB (aq T (ix JB T a p))=A3:=λa=>by
  induction a with
  |zero=>intro p c;rw[ix,dy];rfl
  |succ a d=>
   intro p c;rw[ix];split
   .exact d _ (by omega)
   .rename_i b;simpa using b
 exact this _ _ (by omega)
section
variable {T x : ByteArray} {b z p q r a : Nat}
def JE.sub(h:JE T p x)(c:z<=T.size)(e:b<=p)(f:p+x.size<=z):JE (T.extract b z) (p-b) x:=
 ⟨by rw[jd T b z c];omega,λa d=>by rw[ga T b z _ c,show b+(p-b+a)=p+a by omega];exact h.2 a d⟩
def ad9(a:z<=T.size)(g:b<=p)(d:p<=T.size)(h:xL T p<z):xL (T.extract b z) (p-b)=xL T p-b:=by
 have f:=xB T p d;have e:=tD JB (T.extract b z) (xL T p-p) ((T.extract b z).size+1) (p-b) (λc i=>?_) ?_ (by rw[jd T b z a];omega)
 .unfold xL at f⊢;rw[e];unfold xL;omega
 .rw[ga T b z _ a,show b+(p-b+c)=p+c by omega];exact ql JB T (T.size+1) p (p+c) (by omega) (by show _<xL T p;omega)
 .rw[ga T b z _ a,show b+(p-b+(xL T p-p))=xL T p by omega];exact aam T d
def LA.le{o:Bool}(h:LA T o a r)(g:a<=T.size):a<=r/\r<=T.size:=by
 induction h with
 |nil=>omega
 |@bl e _ c d b=>have:=aH (s:=T) (i:=e) rfl (by have:=aB c;omega);have:=b this;omega
 |@rem e _ c d f b=>have:=xB T e g;have:=b this.2;omega
 |nl c d f b=>have:=aH d;have:=b this;omega
def LA.sub{o:Bool}(h:LA T o a r)(t:z<=T.size)(l:b<=a)(p:a<=T.size)(n:r<z):LA (T.extract b z) o (a-b) (r-b):=by
 have k:∀i,b<=i->i<z->aq (T.extract b z) (i-b)=aq T i:=λi d e=>by rw[ga T b z _ t,show b+(i-b)=i by omega]
 induction h with
 |nil=>exact .nil
 |@bl c u d e j=>
  have f:=aH (s:=T) (i:=c) rfl (by have:=aB d;omega);have:=(e.le f).1;refine .bl (by rw[k c l (by omega)];exact d) ?_;rw[show c-b+1=c+1-b by omega];exact j (by omega) f n
 |@rem c u d e m j=>
  have q:=xB T c p;have w:=rh T c d;have:=(m.le q.2).1;have v:aq (T.extract b z) (c-b+1)=45:=by
   rcases bg (c+1) z with g|g
   .rw[show c-b+1=c+1-b by omega,k _ (by omega) g];exact e
   .omega
  refine .rem (by rw[k c l (by omega)];exact d) v ?_;rw[ad9 t l p (by omega)];exact j (by omega) q.2 n
 |@nl c u d e m j=>
  have f:=aH e;have:=(m.le f).1;refine .nl d (by rw[k c l (by omega)];exact e) ?_;rw[show c-b+1=c+1-b by omega];exact j (by omega) f n
end
def sft(b:Nat)(X:Tk):Tk:=⟨X.k,X.f-b,X.t-b,X.l,X.n,X.x⟩
section
variable {T : ByteArray} {p q : Nat} {l : List Wt} {ts : List Tk}
def uq.sub(h:uq T p l ts q):∀(a e:List Wt),l=a++e->(∃t,a.getLast?=Z t/\t.k≠7)->∃X z,ts[a.length-1]?=Z X/\X.t=((z:Nat):Int)/\p<z/\z<=T.size/\∀b,b<=p->uq (T.extract b z) (p-b) a ((ts.take a.length).map (sft b)) (z-b):=by
 induction h with
 |nil=>
  rintro a e j ⟨t,w,_⟩;obtain⟨rfl,rfl⟩:a=[]/\e=[]:=by simpa using j.symm
  cases w
 |@bl p q l ts m n x=>
  intro a e j i;have⟨X,z,o,s,B,d,u⟩:=x a e j i;refine⟨X,z,o,s,by omega,d,λb v=> .bl (by rw[ga T b z _ d,show b+(p-b)=p by omega];exact m) ?_⟩;rw[show p-b+1=p+1-b by omega];exact u b (by omega)
 |@rem p q l ts m n y x=>
  intro a e j i;have⟨X,z,o,s,B,d,u⟩:=x a e j i;have ao:=rh T p m;have aK:=aH m;have ap:p+1<xL T p:=by
   have:JB (aq T (p+1))=O:=by rw[n];decide
   rcases bg (p+1) (xL T p) with g|g
   .exact g
   .have:=aam T (p:=p) (by omega);rw[show xL T p=p+1 by omega]at this
    simp_all
  refine⟨X,z,o,s,by omega,d,λb v=> .rem (by rw[ga T b z _ d,show b+(p-b)=p by omega];exact m) (by rw[ga T b z _ d,show b+(p-b+1)=p+1 by omega];exact n) ?_⟩;rw[ad9 d v (by omega) (by omega)];exact u b (by omega)
 |@tok p r q t l X ts m n y F J K L ad al ar x=>
  intro a e j i;have a0:=y.pos;have A:=F.1;cases a with
  |nil=>obtain⟨t,w,_⟩:=i;cases w
  |cons an a=>
   obtain⟨rfl,E⟩:=gL j;cases a with
   |nil=>
    refine⟨X,p+t.w.size,rfl,al.2,by omega,A,λb v=>?_⟩;have a6:=jd T b (p+t.w.size) A;refine .tok (r:=p+t.w.size-b) m n y (F.sub A v (ag _)) ?_ ?_ L ad ⟨by show X.f-b=_;omega,by show X.t-b=_;omega⟩ .nil
    .rw[show p-b+t.w.size=p+t.w.size-b by omega,dy (by omega)];exact ama J
    .rw[show p-b+t.w.size=p+t.w.size-b by omega];exact .nil
   |cons H a=>
    obtain⟨C,z,o,s,B,d,u⟩:=x (H::a) e E (by obtain⟨I,G,h⟩:=i;exact⟨I,by simpa using G,h⟩);have av:=K.le A;refine⟨C,z,by simpa using o,s,by omega,d,λb v=> .tok (r:=r-b) m n y (F.sub d v (by omega)) ?_ ?_ L ad ⟨by show X.f-b=_;omega,by show X.t-b=_;omega⟩ (u b (by omega))⟩
    .rw[show p-b+t.w.size=p+t.w.size-b by omega,ga T b z _ d,show b+(p+t.w.size-b)=p+t.w.size by omega];exact J
    .rw[show p-b+t.w.size=p+t.w.size-b by omega];exact K.sub d (by omega) A B
 |@sep p q l c X ts af ak n y x=>
  intro a e j i;cases a with
  |nil=>obtain⟨t,w,_⟩:=i;cases w
  |cons an a=>
   obtain⟨rfl,E⟩:=gL j;cases a with
   |nil=>obtain⟨t,w,h⟩:=i;cases w;exact absurd rfl h
   |cons H a=>
    obtain⟨C,z,o,s,B,d,u⟩:=x (H::a) e E (by obtain⟨I,G,h⟩:=i;exact⟨I,by simpa using G,h⟩);refine⟨C,z,by simpa using o,s,by omega,d,λb v=> .sep (c:=c) (by rw[ga T b z _ d,show b+(p-b)=p by omega];exact af) ak n ?_⟩;rw[show p-b+1=p+1-b by omega];exact u b (by omega)
def uq.drop(h:uq T p l ts q):∀(a c:List Wt),l=a++c->∃r,uq T r c (ts.drop a.length) q:=by
 induction h with
 |nil=>
  intro a c b;obtain⟨rfl,rfl⟩:a=[]/\c=[]:=by simpa using b.symm
  exact⟨_,.nil⟩
 |bl g e d=>exact d
 |rem g e f d=>exact d
 |tok g e f m n o s t u k d=>
  intro a c b;cases a with
  |nil=>exact⟨_,by rw[<-(show _=c from b)];exact .tok g e f m n o s t u k⟩
  |cons v a=>exact d a c (gL b).2
 |sep i j e f d=>
  intro a c b;cases a with
  |nil=>exact⟨_,by rw[<-(show _=c from b)];exact .sep i j e f⟩
  |cons v a=>exact d a c (gL b).2
def uq.first(h:uq T p l ts q):∀t m,l=t::m->t.k≠7->∃X r,ts[0]?=Z X/\X.f=((r:Nat):Int)/\uq T r l ts q:=by
 induction h with
 |nil=>intro t m b;cases b
 |bl d c a=>exact a
 |rem d c e a=>exact a
 |tok d c e j n o s u g i a=>exact λt m b _=>⟨_,_,rfl,g.1,.tok d c e j n o s u g i⟩
 |sep v w c e a=>exact λt m b h=>absurd (by rw[<-(gL b).1];rfl) h
def uq.piece(h:uq T p l ts q){e c:List Wt}(r:l=a++(e++c))(n:∃t m,e=t::m/\t.k≠7)(o:∃t,e.getLast?=Z t/\t.k≠7):∃X b f z,ts[a.length]?=Z X/\ts[a.length+e.length-1]?=Z b/\X.f=((f:Nat):Int)/\b.t=((z:Nat):Int)/\f<z/\z<=T.size/\∃us,uq (T.extract f z) 0 e us (T.extract f z).size/\us[0]?=Z (sft f X)/\us[e.length-1]?=Z (sft f b):=by
 have⟨y,d⟩:=h.drop a (e++c) r;obtain⟨t,m,rfl,s⟩:=n;obtain⟨X,f,g,u,d⟩:=d.first t _ rfl s
 have⟨b,z,i,v,w,j,x⟩:=d.sub (t::m) c rfl o;have:=x f (ag _);rw[fx,show z-f=(T.extract f z).size by rw[jd T f z j]]at this;refine⟨X,b,f,z,by rw[<-g,pE,fL],by rw[<-i,pE,show a.length+(t::m).length-1=a.length+((t::m).length-1) by simp only[bc];omega],u,v,w,j,_,this,?_,?_⟩
 .rw[cD,List.getElem?_take_of_lt (by simp),g];rfl
 .rw[cD,List.getElem?_take_of_lt (by simp),i];rfl
end
section
variable {tk : Nat → Tk} {n i j : Nat} {R : Fo}
def LsT(tk:Nat->Tk):uE->Nat->Nat->Prop
 | .stats,_,_=>True
 | .more _ _ _,i,j=>i<j->(tk (j-1)).k≠5
 | .post _ _,i,j=>i<j->(tk (j-1)).k≠5
 | .moreE,i,j=>i<j->(tk (j-1)).k≠5
 | .moreB,i,j=>i<j->(tk (j-1)).k≠5
 | .entries,i,j=>i<j->(tk (j-1)).k≠5
 |_,_,j=>(tk (j-1)).k≠5
def ls2{k:Nat}(h:k<=j)(a:k<j->(tk (j-1)).k≠5)(b:j=k->(tk (k-1)).k≠5):(tk (j-1)).k≠5:=by
 rcases ie h with rfl|g
 .exact b rfl
 .exact a g
def FE.ls{k:Nat}{ns:List ByteArray}(h:FE tk n k ns j):k<j->(tk (j-1)).k≠5:=by
 induction h with
 |stop _ _=>intro e;omega
 |@go k j ns f g a b c=>intro _;exact ls2 b.pos.1 c λd=>by rw[show k+2-1=k+1 by omega,a];decide
def P.l5{t:uE}(h:P tk n t i R j):LsT tk t i j:=by
 induction h
 case ex h1 h2 h3 h4 i1 i2=>have a:=h4.pos;simp only[bH]at a;exact ls2 (by omega) i2 λ_=>i1
 case mgo h1 h2 h3 h4 h5 i1 i2=>have a:=h5.pos;simp only[bH]at a;exact λ_=>ls2 (by omega) i2 λ_=>i1
 case bname h1 h2 h3 ih=>have a:=h3.pos;simp only[bH]at a;exact ls2 (by omega) ih λ_=>by rw[lh,h1];decide
 case bopen h1 h2 h3 h4 h5 h6 i1 i2=>have a:=h6.pos;simp only[bH]at a;exact ls2 (by omega) i2 λ_=>by rw[lh,h4];decide
 case pdot k j h1 h2 h3 h4 ih=>have a:=h4.pos;simp only[bH]at a;exact λ_=>ls2 (by omega) ih λ_=>by rw[show k+2-1=k+1 by omega,h2];decide
 case pcall0 k j h1 h2 h3 h4 ih=>have a:=h4.pos;simp only[bH]at a;exact λ_=>ls2 (by omega) ih λ_=>by rw[show k+2-1=k+1 by omega,h2];decide
 case psq h1 h2 h3 h4 h5 h6 i1 i2=>have a:=h6.pos;simp only[bH]at a;exact λ_=>ls2 (by omega) i2 λ_=>by rw[lh,h4];decide
 case pcall h1 h2 h3 h4 h5 h6 h7 i1 i2=>have a:=h7.pos;simp only[bH]at a;exact λ_=>ls2 (by omega) i2 λ_=>by rw[lh,h5];decide
 case es h1 h2 i1 i2=>have a:=h2.pos;simp only[bH]at a;exact ls2 (by omega) i2 λ_=>i1
 case ego h1 h2 h3 h4 i1 i2=>have a:=h4.pos;simp only[bH]at a;exact λ_=>ls2 (by omega) i2 λ_=>i1
 case bgo h1 h2 h3 h4 i1 i2=>have a:=h4.pos;simp only[bH]at a;exact λ_=>ls2 (by omega) i2 λ_=>i1
 case ncom h1 h2 h3 h4 h5 h6 i1 i2=>have a:=h6.pos;simp only[bH]at a;exact λ_=>ls2 (by omega) i2 λ_=>by rw[lh,h4];decide
 case nlast h1 h2 h3 h4 h5 h6 i1 i2=>have a:=h6.pos;simp only[bH]at a;exact λ_=>ls2 (by omega) i2 λ_=>i1
 case tlet0 i k ns h1 h2 h3 h4 h5=>exact ls2 h4.pos.1 h4.ls λ_=>by rw[show i+2-1=i+1 by omega,h3];decide
 all_goals first
  |assumption
  |exact trivial
  |exact λb=>absurd b (CC _)
  |(show(tk (_+1-1)).k≠5;rw[lh];omega)
def P.stat_at(h:P tk n .stat i R j):∃N ks,R=one N ks/\N.f=(tk i).f/\N.t=(tk (j-1)).t/\iK N.k=O:=by
 have a:∀{R j},P tk n .block i R j->∃N ks,R=one N ks/\N.f=(tk i).f/\N.t=(tk (j-1)).t/\iK N.k=O:=λh=>by
  cases h with
  |block _ _ _ _ _=>exact⟨_,_,rfl,rfl,rfl,rfl⟩
 cases h with
 |tif _ _ h=>
  cases h with
  |belif _ _ _ _ _ _ _=>exact⟨_,_,rfl,rfl,rfl,rfl⟩
  |belse _ _ _ _ _ _ _=>exact⟨_,_,rfl,rfl,rfl,rfl⟩
  |bno _ _ _ _ _ _ _=>exact⟨_,_,rfl,rfl,rfl,rfl⟩
 |tblock _ _ h=>exact a h
 |_=>exact⟨_,_,rfl,rfl,rfl,rfl⟩
def P.seps{X:Fo}(h:P tk n .stats i X j):X= .nil->∀q,i<=q->q<j->(tk q).k=5:=by
 generalize o:uE.stats=y at h
 induction h with
 |sstop _ _=>intro _ q b c;omega
 |@ssep k j d b c l p=>
  intro a q e f;rcases ie e with rfl|g
  .exact b
  .exact p rfl a q g f
 |@sgo k w j z d b c l s m t u v=>
  intro a;obtain⟨r,x,rfl,_⟩:=m.stat_at;cases a
 |_=>cases o
def P.one_stat{L:Fo}(h:P tk n .stats 0 (one M L) j)(p:(tk 0).k≠5)(q:(tk (j-1)).k≠5):M.f=(tk 0).f/\M.t=(tk (j-1)).t:=by
 generalize a:one M L=v at h;cases h with
 |sstop _ _=>cases a
 |ssep b _ _=>exact absurd b p
 |@sgo _ r _ A i b w x y c d=>
  obtain⟨e,z,rfl,l,m,_⟩:=c.stat_at;have o:M=e/\i= .nil:=by
   simp only[one,Fo.app,Fo.cons.injEq]at a;exact⟨a.1,a.2.2.symm⟩
  obtain⟨rfl,rfl⟩:=o;have s:=d.pos;have u:=c.pos;simp only[bH]at s u;rcases ie (show r<=j by omega) with g|g
  .subst g;exact⟨l,m⟩
  .exact absurd (d.seps rfl (j-1) (by omega) (by omega)) q
end
def Bl.root{e:Fo}(h:Bl l e):Ha l e:=λo n m c k b=>by
 have⟨f,g,p,d,j,i⟩:=h o n 0 m c k (.inr (.inl b));refine⟨f,g,?_,i _ _ (DD.exp b (by decide:xE 101 6=([],O)) c (DD.tok b c ⟨0,.nil⟩))⟩;have:=P.sgo (λa=>d (.inl a)) (λa=>d (.inr (.inl a))) (λa=>d (.inr (.inr a))) (by omega) j (.sstop (.inr b) c)
 rwa [f.app_nil]at this
def pv.split{e:List Wt}(h:pv l e):∀a b,l=a++b->∃d f,e=d++f/\pv a d/\pv b f:=by
 induction h with
 |nil=>
  intro a b e;obtain⟨rfl,rfl⟩:a=[]/\b=[]:=by simpa using e.symm
  exact⟨[],[],rfl,.nil,.nil⟩
 |@tok i l e g j o=>
  intro a b c;cases a with
  |nil=>exact⟨[],i::e,rfl,.nil,by rw[<-(show i::l=b from c)];exact .tok g j⟩
  |cons k a=>
   obtain⟨rfl,q⟩:=gL c;obtain⟨d,f,rfl,m,n⟩:=o a b q;exact⟨i::d,f,rfl,.tok g m,n⟩
 |@sep i k l e g j p o=>
  intro a b c;cases a with
  |nil=>exact⟨[],k::e,rfl,.nil,by rw[<-(show i::l=b from c)];exact .sep g j p⟩
  |cons r a=>
   obtain⟨rfl,q⟩:=gL c;obtain⟨d,f,rfl,m,n⟩:=o a b q;exact⟨k::d,f,rfl,.sep g j m,n⟩
 |@more i k l e g j p o=>
  intro a b c;cases a with
  |nil=>exact⟨[],k::e,rfl,.nil,by rw[<-(show i::l=b from c)];exact .more g j p⟩
  |cons r a=>
   obtain⟨rfl,_⟩:=gL c;obtain⟨d,f,rfl,m,n⟩:=o (i::a) b c;exact⟨k::d,f,rfl,.more g j m,n⟩
def pv.seps{e:List Wt}(h:pv l e):l=[nlW]->e≠[]/\∀t∈e,t.k=7:=by
 induction h with
 |nil=>intro a;cases a
 |tok c b f=>intro a;cases a;exact absurd rfl c
 |@sep t j l e c b g f=>
  intro a;cases a;cases g;exact⟨by simp,λt d=>by rw[List.mem_singleton.1 d];exact b⟩
 |@more t j l e c b g f=>
  intro a;have⟨_,i⟩:=f a;exact⟨by simp,λt d=>(List.mem_cons.1 d).elim (λe=>e ▸ b) (i t)⟩
def Fo.each(p:Nd->Fo->Prop):Fo->Prop
 | .nil=>True
 | .cons N k r=>p N k/\r.each p
def amb(tk:Nat->Tk)(e:List Wt)(N:Nd)(ks:Fo):Prop:=∃a b c l F,e=a++(b++c)/\pv l b/\Bl l F/\(one N ks).bare=F/\iK N.k=O/\N.f=(tk a.length).f/\N.t=(tk (a.length+b.length-1)).t/\0<b.length/\(tk a.length).k≠5/\(tk (a.length+b.length-1)).k≠5
def TkM(tk:Nat->Tk)(a:Nat)(e:List Wt):Prop:=∀q t,e[q]?=Z t->(tk (a+q)).k=Bz t/\(t.k≠7->(tk (a+q)).n=t.n/\(tk (a+q)).x=t.x)
section
variable {tk : Nat → Tk} {n : Nat}
def TkM.app{a:Nat}{x e:List Wt}(h:TkM tk a (x++e)):TkM tk a x/\TkM tk (a+x.length) e:=
 ⟨λb d c=>h b d (by rw[gw (List.getElem?_eq_some_iff.1 c).1];exact c),λb d c=>by
  have:=h (x.length+b) d (by rw[eD (by omega),show x.length+b-x.length=b by omega];exact c)
  rwa [<-fi]at this⟩
def aea{b:List Wt}{d:Fo}(h:Bl l d)(i:pv l b){c:List Wt}(r:TkM tk a.length b)(s:a.length+b.length<n)(q:FG (tk (a.length+b.length)).k):∃N ks,(one N ks).bare=d/\P tk n .stat a.length (one N ks) (a.length+b.length)/\¬FG (tk a.length).k/\amb tk (a++(b++c)) N ks:=by
 have⟨t,f,u,g,e,_⟩:=h tk n a.length (a.length+b.length) s (i.seg (by omega) r) q;obtain⟨N,ks,rfl,j,m,o⟩:=e.stat_at;exact⟨N,ks,f,e,g,a,b,c,l,d,rfl,i,h,f,o,j,m,by omega,λp=>g (.inl p),e.l5⟩
def StL.kids{m:List Wt}{cs:List (List Wt×Fo)}(h:StL m cs):∀{a g:List Wt},pv m g->TkM tk a.length g->a.length+g.length<n->(tk (a.length+g.length)).k=6->∃X,X.bare=csF cs/\P tk n .stats a.length X (a.length+g.length)/\(tk a.length).k=5/\X.each (amb tk (a++g)):=by
 induction h with
 |nil=>
  intro a g u s t p;obtain⟨X,F,o,_,r,_⟩:=SLc.nil tk n a.length _ t (u.seg (by omega) s) (.inr p);cases X with
  |nil=>exact⟨.nil,rfl,r,o,trivial⟩
  |cons v k a6=>cases F
 |@cons z m a0 cs H a4 K=>
  intro a g u s t p;obtain⟨b,a1,rfl,ap,ar⟩:=u.split [nlW] (z++m) rfl;obtain⟨d,e,rfl,av,aK⟩:=ar.split z m rfl;have⟨ad,af⟩:=s.app;have⟨ak,al⟩:=af.app;have⟨an,ao⟩:=ap.seps rfl;have a5:0<b.length:=List.length_pos_iff.2 an;simp only[aG]at t p⊢;have i:(a++b).length=a.length+b.length:=aG;have l:(a++b++d).length=a.length+b.length+d.length:=by rw[aG,i]
  obtain⟨A,G,x,o,I⟩:=K (a:=a++b++d) aK (by rw[l];exact al) (by rw[l];omega) (by rw[l,show a.length+b.length+d.length+e.length=a.length+(b.length+(d.length+e.length)) by omega];exact p);rw[l]at x o;obtain⟨v,L,E,r,q,J⟩:=aea (tk:=tk) (n:=n) H av (a:=a++b) (c:=e) (by rw[i];exact ak) (by rw[i];omega) (by rw[i];exact .inl o);rw[i]at r q;have y:∀f,a.length<=f->f<a.length+b.length->(tk f).k=5/\f<n:=λf a2 a3=>by
   have w:f-a.length<b.length:=by omega
   have:=ad (f-a.length) _ (aw w);rw[show a.length+(f-a.length)=f by omega]at this;exact⟨by rw[this.1];unfold Bz;rw[ab (ao _ (jq w))],by omega⟩
  have:=(Go.Proofs.YtbkolnpplhbdmaaGreatDoor.seps y (by omega)).1 _ _ (.sgo (λj=>q (.inl j)) (λj=>q (.inr (.inl j))) (λj=>q (.inr (.inr j))) (by omega) r x);refine⟨one v L |>.app A,by rw[fc,E,G];rfl,?_,(y _ (ag _) (by omega)).1,?_⟩
  .rw[show a.length+(b.length+(d.length+e.length))=a.length+b.length+d.length+e.length by omega];exact this
  .have B:a++(b++(d++e))=a++b++d++e:=by simp only[bC]
   have C:a++b++d++e=a++b++(d++e):=by simp only[bC]
   rw[B];exact⟨by rw[C];exact J,I⟩
def Rts.kids{e:List Wt}{cs:List (List Wt×Fo)}(h:Rts l cs)(j:pv l e)(z:TkM tk 0 e)(g:e.length<n)(f:(tk e.length).k=6):∃X,X.bare=csF cs/\P tk n .stats 0 X e.length/\X.each (amb tk e):=by
 cases h with
 |nil=>
  obtain⟨_,_,rfl,_,_⟩:∃(a I:List Wt),e=[]/\True/\True:=by cases j;exact⟨[],[],rfl,trivial,trivial⟩
  exact⟨.nil,rfl,.sstop (.inr f) g,trivial⟩
 |@cons l C H cs u v=>
  obtain⟨s,t,rfl,F,G⟩:=j.split l C rfl;have⟨E,m⟩:=z.app;rw[dv]at m;rw[aG]at g f⊢;obtain⟨p,r,A,w,x⟩:=v.kids (a:=s) G m g f;obtain⟨o,B,q,i,d,y⟩:=aea (tk:=tk) (n:=n) u F (a:=[]) (c:=t) (by exact E) (by simp only[dE];omega) (by simp only[dE,dv];exact .inl w);simp only[dE,dv]at i d;exact⟨(one o B).app p,by rw[fc,q,r];rfl,.sgo (λb=>d (.inl b)) (λb=>d (.inr (.inl b))) (λb=>d (.inr (.inr b))) (by omega) i A,y,x⟩
end
section
variable {ns ms : List Nd} {M N : Nd}
def ajo(a:∀j,j<N.ks.length->fl ms M j=fl ns N j):∀f j,j+f<=N.ks.length->lj ms M f j=lj ns N f j
 |0,j,_=>rfl
 |f+1,j,h=>by rw[lj,lj,a j (by omega),ajo a f _ (by omega)]
def ajp(a:∀j,j<N.ks.length->fl ms M j=fl ns N j):∀f j,j+f<=N.ks.length->C7 ms M f j=C7 ns N f j
 |0,j,_=>rfl
 |f+1,j,h=>by rw[C7,C7,a j (by omega),ajp a f _ (by omega)]
def ajq(a:∀j,j<N.ks.length->fl ms M j=fl ns N j):∀f j,j+f<=N.ks.length->C8 ms M f j=C8 ns N f j
 |0,j,_=>rfl
 |f+1,j,h=>by rw[C8,C8,a j (by omega),ajq a f _ (by omega)]
def ajr(a:∀j,j<N.ks.length->fl ms M j=fl ns N j):∀f j,j+f<=N.ks.length->F4 ms M f j=F4 ns N f j
 |0,j,_=>rfl
 |f+1,j,h=>by rw[F4,F4,a j (by omega),ajr a f _ (by omega)]
def ab9(e:M.bare=N.bare)(t:M.ks.length=N.ks.length)(a:∀j,j<N.ks.length->fl ms M j=fl ns N j)(h:mJ ns N=O):mJ ms M=O:=by
 have r:M.k=N.k:=by have:=congrArg Nd.k e;exact this
 have i:M.op=N.op:=by have:=congrArg Nd.op e;exact this
 have l:M.n=N.n:=by have:=congrArg Nd.n e;exact this
 have m:M.x=N.x:=by have:=congrArg Nd.x e;exact this
 have n:M.nm=N.nm:=by have:=congrArg Nd.nm e;exact this
 have p:=afC a (ajo a) (ajp a) (ajq a) (ajr a);have s:∀b c d f,bu M b c d f=bu N b c d f:=λb c d f=>by unfold bu;rw[i,l,m,n]
 have u:∀b c,fy M b c=fy N b c:=λb c=>by unfold fy;rw[n]
 unfold mJ stB jj at h⊢;rw[r,t,i,l,m];have⟨a,o,w,x,v⟩:=p.out;by_cases hS:iK N.k=O
 case' pos=>
  rw[ab hS]at h⊢;have z:=aB hS;rcases(show N.k=1\/N.k=2\/N.k=3\/N.k=4\/N.k=5\/N.k=6\/N.k=7\/N.k=8\/N.k=9\/N.k=10\/N.k=11\/N.k=12\/N.k=13\/N.k=14\/N.k=15\/N.k=16 by omega) with q|q|q|q|q|q|q|q|q|q|q|q|q|q|q|q
 case' neg=>
  rw[aa hS]at h⊢;by_cases y:20<=N.k/\N.k<=42
  case' neg=>
   repeat rw[aa (by omega)]at h
   cases h
  case' pos=>rcases(show N.k=20\/N.k=21\/N.k=22\/N.k=23\/N.k=24\/N.k=25\/N.k=26\/N.k=27\/N.k=28\/N.k=29\/N.k=30\/N.k=31\/N.k=32\/N.k=33\/N.k=34\/N.k=35\/N.k=36\/N.k=37\/N.k=38\/N.k=39\/N.k=40\/N.k=41\/N.k=42 by omega) with q|q|q|q|q|q|q|q|q|q|q|q|q|q|q|q|q|q|q|q|q|q|q
 all_goals
  simp only[q,Int.reduceEq,reduceIte,s,u,bB,sI,jD,decide_eq_true_eq,Bool.not_eq_true',bne_eq_false_iff_eq,yl]at h⊢
 all_goals try
  repeat (first|rw[o _ _ (by omega)]|rw[w _ _ (by omega)]|rw[x _ _ (by omega)]|rw[v _ _ (by omega)]|rw[a _ (by omega)])
  exact h
 refine⟨h.1,h.2.1,by rw[o _ _ (by omega)];exact h.2.2.1,by rw[a _ (by omega)];exact h.2.2.2.1,?_⟩;rcases bg 2 N.ks.length with g|g
 .rw[a 2 g];exact h.2.2.2.2
 .exact .inl (by omega)
end
def Fo.kds:Fo->List Int
 | .nil=>[]
 | .cons N _ r=>N.k::r.kds
def pa:∀(F:Fo)(ns:List Nd)(b:Nat),(∀j,j<(F.flat b).length->ns[b+j]?=(F.flat b)[j]?)->∀j,j<F.len->(ns.getD ((F.tops b).getD j 0).toNat Gk).k=F.kds.getD j 0
 | .nil,ns,b,_,j,a=>by rw[Fo.len]at a;omega
 | .cons N k r,ns,b,h,j,a=>by
  obtain⟨_,c,d⟩:=A8 (A:=k.flat b) (B:=r.flat (b+k.sz+1)) rfl h;rw[k.flat_len]at c d;cases j with
  |zero=>
   show(ns.getD ((b+k.sz:Nat):Int).toNat Gk).k=N.k;rw[iF,aF,c];rfl
  |succ j=>exact pa r ns (b+k.sz+1) d j (by rw[Fo.len]at a;omega)
def aan:∀(F:Fo)(b:Nat),∀t∈F.tops b,0<=t
 | .nil,b=>λt ht=>by cases ht
 | .cons N k r,b=>λt ht=>by
  rcases List.mem_cons.1 ht with rfl|ht
  .omega
  .exact aan r _ t ht
def okY(N:Nd)(k:Fo):Prop:=mJ (k.flat 0) {N with ks:=k.tops 0}=O/\k.len<=200
def Fo.oks:Fo->Prop
 | .nil=>True
 | .cons N k r=>okY N k/\k.oks/\r.oks
def ajs{l:List Int}{i:Int}:∀(f j:Nat),(∀q,j<=q->q<j+f->0<=l.getD q 0/\l.getD q 0<i)->GJ l i f j=O
 |0,j,_=>rfl
 |f+1,j,h=>by rw[GJ,ajs f (j+1) λq a b=>h q (by omega) (by omega),be (h j (ag _) (by omega))];rfl
def okY.node{k:Fo}(h:okY N k)(e:Pln N){b:Nat}(m:∀j,j<(k.flat b).length->ns[b+j]?=(k.flat b)[j]?):jK ns (b+k.sz) {N with ks:=k.tops b}=O:=by
 obtain⟨l,p⟩:=h;obtain⟨q,p2,r⟩:=e;have g:=k.tops_len 0;have i:=k.tops_len b;have o:mJ ns {N with ks:=k.tops b}=O:=ab9 (N:={N with ks:=k.tops 0}) (M:={N with ks:=k.tops b}) rfl (by rw[i,g]) (λj c=>by
  rw[g]at c;unfold fl;rw[pa k ns b m j c,pa k (k.flat 0) 0 (λj _=>by rw[dv]) j c]) l
 unfold jK I2;rw[o,ajs _ _ λa _ n=>?_]
 .simp only[Bool.and_true,decide_eq_true_eq,i];omega
 .have f:a<(k.tops b).length:=by simpa using n
  show 0<=(k.tops b).getD a 0/\(k.tops b).getD a 0<_;rw[aF,aw f];have d:=jq f;have:=ub k b _ d;have e:0<=(k.tops b)[a]:=aan k b _ d;simp only[gy];omega
def Ju:∀(F:Fo),F.oks->F.all Pln->∀(ns:List Nd)(b:Nat),(∀j,j<(F.flat b).length->ns[b+j]?=(F.flat b)[j]?)->∀j,j<F.sz->fI ns (b+j)=A3
 | .nil,_,_,ns,b,_,j,a=>by rw[Fo.sz]at a;omega
 | .cons N k r,c,d,ns,b,h,j,a=>by
  obtain⟨e,f,g⟩:=A8 (A:=k.flat b) (B:=r.flat (b+k.sz+1)) rfl h;rw[k.flat_len]at f g;rw[Fo.sz]at a;rcases Nat.lt_trichotomy j k.sz with q|q|q
  .exact Ju k c.2.1 d.2.1 ns b e j q
  .subst q;unfold fI;rw[aF,f];simp only[gy,c.1.node d.1 e,Bool.not_true]
  .rw[show b+j=b+k.sz+1+(j-k.sz-1) by omega];exact Ju r c.2.2 d.2.2 ns _ g _ (by omega)
def ajt{X:Fo}(c:N.k=1)(f:X.sz+1<=3000)(a:X.dep<=100)(d:(one N X).oks)(e:(one N X).all Pln):eG ((one N X).flat 0)=(0,0):=
 ajg c f a λg b=>by
  have:=Ju (one N X) d e ((one N X).flat 0) 0 (λh _=>by rw[dv]) g (by rw[bz];exact b)
  rwa [dv]at this
def Fk:∀F:Fo,F.bare.kds=F.kds
 | .nil=>rfl
 | .cons N k r=>by rw[Fo.bare,Fo.kds,Fo.kds,Fk r];rfl
def zH:∀F:Fo,F.bare.dep=F.dep
 | .nil=>rfl
 | .cons N k r=>by rw[Fo.bare,Fo.dep,Fo.dep,zH k,zH r]
def okY.turn{k q:Fo}(h:okY N k)(e:M.bare=N.bare)(b:q.bare=k.bare):okY M q:=by
 obtain⟨g,j⟩:=h;have d:=k.tops_len 0;have i:=q.tops_len 0;have f:q.len=k.len:=by rw[<-yK q,b,yK]
 refine⟨ab9 (N:={N with ks:=k.tops 0}) (M:={M with ks:=q.tops 0}) e (by rw[d,i,f]) (λa c=>?_) g,by omega⟩;rw[d]at c;unfold fl;rw[pa k (k.flat 0) 0 (λa _=>by rw[dv]) a c,pa q (q.flat 0) 0 (λa _=>by rw[dv]) a (by omega),<-Fk q,b,Fk]
def Fl:∀{F a:Fo},F.oks->a.bare=F.bare->a.oks
 | .nil,.nil,_,_=>trivial
 | .nil,.cons _ _ _,_,e=>by cases e
 | .cons _ _ _,.nil,_,e=>by cases e
 | .cons N k r,.cons M q s,h,e=>by
  simp only[Fo.bare,Fo.cons.injEq]at e;exact⟨h.1.turn e.1 e.2.1,Fl h.2.1 e.2.1,Fl h.2.2 e.2.2⟩
def okY.of{k:Fo}{b:Nat}(d:∀j,j<(k.flat b).length->ns[b+j]?=(k.flat b)[j]?)(h:jK ns i {N with ks:=k.tops b}=O):okY N k:=by
 have e:=k.tops_len 0;have c:=k.tops_len b;unfold jK I2 at h;simp only[bB,decide_eq_true_eq]at h;refine⟨ab9 (N:={N with ks:=k.tops b}) (M:={N with ks:=k.tops 0}) rfl (by rw[c,e]) (λj a=>?_) h.2.2,by omega⟩;rw[c]at a;unfold fl;rw[pa k ns b d j a,pa k (k.flat 0) 0 (λj _=>by rw[dv]) j a]
def aca:∀(F:Fo)(ns:List Nd)(b:Nat),(∀j,j<(F.flat b).length->ns[b+j]?=(F.flat b)[j]?)->(∀j,j<F.sz->fI ns (b+j)=A3)->F.oks
 | .nil,_,_,_,_=>trivial
 | .cons N k r,ns,b,h,c=>by
  obtain⟨d,e,f⟩:=A8 (A:=k.flat b) (B:=r.flat (b+k.sz+1)) rfl h;rw[k.flat_len]at e f;rw[Fo.sz]at c;have a:=c k.sz (by omega);unfold fI at a;rw[aF,e]at a;simp only[gy,Bool.not_eq_false']at a;exact⟨okY.of d a,aca k ns b d λj g=>c j (by omega),aca r ns _ f λj g=>by rw[show b+k.sz+1+j=b+(k.sz+1+j) by omega];exact c _ (by omega)⟩
def Jv:∀(F:Fo)(d:Int),0<F.dep->d+F.dep-1∈F.dpl d
 | .nil,d,h=>by rw[Fo.dep]at h;omega
 | .cons N k r,d,h=>by
  rw[Fo.dep,Fo.dpl];rcases Nat.le_total (k.dep+1) r.dep with g|g
  .rw[Nat.max_eq_right g];exact yi _ (cG _ (Jv r d (by omega)))
  .rw[Nat.max_eq_left g];rcases oz k.dep with q|q
   .rw[q];exact yi _ (by rw[show d+((0+1:Nat):Int)-1=d by omega];exact aI)
   .have:=Jv k (d+1) q;rw[show d+((k.dep+1:Nat):Int)-1=d+1+(k.dep:Int)-1 by omega];exact List.mem_append_left _ this
def amc{X:Fo}(h:(eG ((one N X).flat 0)).1=0):(one N X).oks/\X.sz+1<=3000/\X.dep<=100:=by
 obtain⟨a,e⟩:∃a,(one N X).flat 0=a:=⟨_,rfl⟩;have s:a.length=X.sz+1:=by rw[<-e,Fo.flat_len,bz]
 have j:∀b,b<((one N X).flat 0).length->a[0+b]?=((one N X).flat 0)[b]?:=λb _=>by rw[e,dv]
 obtain⟨n,g,u,_,o⟩:=Df (one N X) a 0 (Ak a.length 0) 0 j (by rw[bz,List.length_replicate];omega) λt d=>by
  have:=ub _ _ t d;rw[bz]at this;rw[yh,ab (by omega)]
 have q:C9 a=n:=by
  unfold C9;rw[bz,dv,<-s]at g;rw[g];rfl
 rw[e]at h;unfold eG at h;by_cases c:iu a=O
 .rw[ab c]at h;exact absurd h (by decide)
 rw[aa c]at h;have v:a.length<=3000:=by
  unfold iu at c;simp only[decide_eq_true_eq]at c;omega
 cases hR:jH (fI a) a.length 0 with
 |some m=>rw[hR,tf2]at h;exact absurd h (by simp)
 |none=>
  rw[hR,tf2]at h;cases hS:jH (iJ (iL a)) a.length 0 with
  |some m=>rw[hS,tf3]at h;exact absurd h (by simp)
  |none=>
   rw[hS,tf3]at h;by_cases i:(iL a).getD (a.length-1) 0≠(a.length:Int)
   .rw[ab i]at h;exact absurd h (by simp)
   rw[aa i]at h;cases hD:jH (jh (C9 a)) a.length 0 with
   |some m=>rw[hD,tf4]at h;exact absurd h (by simp)
   |none=>
    refine⟨aca _ a 0 j λb r=>by rw[dv];exact lB hR b (aD _) (by rw[bz]at r;omega),by omega,?_⟩;have w:(one N X).dep=X.dep+1:=by simp[one,Fo.dep]
    have⟨d,k,p⟩:=iq (Jv (one N X) 0 (by omega));have l:=k;rw[qc,bz]at l;have:=lB hD d (aD _) (by omega);unfold jh at this;have f:=o d (by rw[bz];exact l);rw[dv,aw k,p]at f;rw[q,aF,f]at this;simp only[gy,qG]at this;omega
def LnN(a:ByteArray)(N:Nd):Prop:=0<=N.f/\N.f<=N.t/\N.t<=(a.size:Int)/\N.l=1+nlc a N.f.toNat
def amd(a:ByteArray)(N:Nd)(ks:Fo):Prop:=∃f z:Nat,N.f=(f:Int)/\N.t=(z:Int)/\f<z/\z<=a.size/\∃M b,A6 (a.extract f z) (rm (a.extract f z) (one M b))/\M.k=N.k/\M.f=0/\M.t=((z-f:Nat):Int)
structure TkT (y:ByteArray) (tk:Nat->Tk) (n:Nat):Prop where
 o:FH tk n
 l:∀q,q<n->alx y (tk q)/\(tk q).t<=(y.size:Int)
def ar3{st:List Int}(g:mj y=(ts++[nG y lz],st, -1))(l:(dm st 6).2=O):TkT y (rj (ts++[nG y lz])) (ts.length+1):=by
 have m:nI y=(ts++[nG y lz], -1):=by unfold nI;rw[g,aa (by simp),ab l]
 have d:TkO y.size (ts++[nG y lz]):=by have:=adK y;rwa [m]at this
 have o:(ts++[nG y lz]).length=ts.length+1:=by simp
 have i:∀a,a<ts.length+1->∃b,(ts++[nG y lz])[a]?=Z b/\rj (ts++[nG y lz]) a=b:=λa f=>⟨_,aw (by omega),rC (aw (by omega))⟩;refine⟨⟨λc n=>(ajm d c (by omega)).2.1,λ{a h} c n=>?_⟩,λa f=>?_⟩
 .rw[rC (aw (show a<(ts++[nG y lz]).length by omega)),rC (aw (show h<(ts++[nG y lz]).length by omega))];exact(List.pairwise_iff_getElem.1 d.next) a h (by omega) (by omega) c
 .obtain⟨b,j,k⟩:=i a f;rw[k];have e:=dj j;exact⟨aly g b e,(d.each b e).2.2.1⟩
def TkT.q{tk:Nat->Tk}(h:TkT y tk n):alv (LnN y) tk n:=λq c _ _ _ _ _ b a=>
 ⟨(h.l q (by omega)).1.1,h.o.ft b a,(h.l c a).2,(h.l q (by omega)).1.2⟩
def Jw{p q:Nd->Prop}(h:∀N,p N->q N):∀F:Fo,F.all p->F.all q
 | .nil,_=>trivial
 | .cons N k r,g=>⟨h N g.1,Jw h k g.2.1,Jw h r g.2.2⟩
def LnN.pln(h:LnN y N):Pln N:=⟨h.1,h.2.1,by
 have:∀a,0<=nlc y a:=λa=>by induction a with
  |zero=>exact Int.le_refl 0
  |succ a b=>rw[nlc];split<;>omega
 have:=this N.f.toNat;have:=h.2.2.2;omega⟩
def aju(c:y.size<=65536){st:List Int}(a:mj y=(ts++[nG y lz],st, -1))(b:(dm st 6).2=O)(e:∀X∈ts,X.k≠6){X:Fo}(d:P (rj (ts++[nG y lz])) (ts.length+1) .stats 0 X ts.length)(f:eG (rm y X)=(0,0)):A6 y (rm y X):=
 ⟨_,_,X,_,c,⟨by rw[a],by rw[a];exact b⟩,by unfold nI;rw[a,aa (by simp),ab b],ara c a (by simp) (zG ts (nG y lz)) d λh g=>by rw[tL (aw g)];exact e _ (jq _),f,rfl⟩
def ame{L:Fo}(a:iK M.k=O):okY ⟨1,0,(y.size:Nat),1,0,0,⟨#[]⟩,[],[]⟩ (one M L):=by
 refine⟨?_,by simp[one,Fo.len]⟩;show mJ ((one M L).flat 0) ⟨1,0,(y.size:Nat),1,0,0,⟨#[]⟩,[],(one M L).tops 0⟩=O;unfold mJ;rw[ab (show iK 1=O from rfl)];unfold stB;rw[ab rfl];show(C7 _ _ 1 0&&_)=O;have:fl ((one M L).flat 0) ⟨1,0,(y.size:Nat),1,0,0,⟨#[]⟩,[],(one M L).tops 0⟩ 0=M.k:=pa (one M L) ((one M L).flat 0) 0 (λb _=>by rw[dv]) 0 (by simp[one,Fo.len]);rw[C7,C7,this,a];simp[bu];decide+kernel
def aao{p q:Nd->Fo->Prop}{A B:Nat}:∀(F:Fo),(∀N k,p N k->(one N k).oks->(one N k).sz<=A->(one N k).dep<=B->q N k)->F.oks->F.sz<=A->F.dep<=B->F.each p->F.each q
 | .nil,_,_,_,_,_=>trivial
 | .cons N k r,h,a,b,c,g=>by
  have d:(one N k).sz=k.sz+1:=by simp[one,Fo.sz]
  have e:(one N k).dep=k.dep+1:=by simp[one,Fo.dep]
  simp only[Fo.sz,Fo.dep]at b c;exact⟨h N k g.1 ⟨a.1,a.2.1,trivial⟩ (by omega) (by omega),aao r h a.2.2 (by omega) (by omega) g.2⟩
def TkT.pln{tk:Nat->Tk}(h:TkT y tk n){X:Fo}(a:P tk n .stats i X j):X.all (LnN y):=a.allq h.q trivial
def aap{X:Fo}(h:X.all (LnN y)):(one ⟨1,0,(y.size:Nat),1,0,0,⟨#[]⟩,[],[]⟩ X).all Pln:=(cj _ _ X).2 ⟨⟨Int.le_refl 0,by show(0:Int)<=(y.size:Nat);omega,by show(0:Int)<=1;decide⟩,Jw (λ_ a=>a.pln) X h⟩
def kp7(h:Bz t≠5):t.k≠7:=λa=>h (by unfold Bz;rw[ab a])
def apL(b0:y.size<=65536){e:List Wt}(ht:uq y 0 e ts y.size){ks:Fo}(h:amb (rj (ts++[nG y lz])) e N ks)(bh:(one N ks).oks)(bE:(one N ks).sz<=2999)(a9:(one N ks).dep<=100):amd y N ks:=by
 obtain⟨E,j,bD,b4,bA,rfl,ap,an,a6,bb,I,J,ak,o,p⟩:=h;have⟨b6,bo⟩:=ht.at_;have G:∀d f,j[d]?=Z f->∃c,ts[E.length+d]?=Z c/\c.k=Bz f:=λd f m=>by
  have bd:=(List.getElem?_eq_some_iff.1 m).1;obtain⟨c,x,bt,_⟩:=bo (E.length+d) f (by rw[eD (by omega),Nat.add_sub_cancel_left,gw bd];exact m);exact⟨c,x,bt⟩
 have a3:=aw ak;have w:=aw (show j.length-1<j.length by omega);obtain⟨A,r,F⟩:=G 0 _ a3;obtain⟨B,s,H⟩:=G (j.length-1) _ w;rw[fL]at r;rw[<-Nat.add_sub_assoc (by omega)]at s;rw[tL r]at I o;rw[tL s]at J p;obtain⟨c,a5,l,z,x,bw,bv,bx,ba,ar,b7,bj,br,bs⟩:=ht.piece rfl ⟨_,_,(List.getElem_cons_drop ak).symm,kp7 (F ▸ o)⟩ ⟨_,by rw[List.getLast?_eq_getElem?];exact w,kp7 (H ▸ p)⟩;obtain rfl:A=c:=aJ (r.symm.trans x);obtain rfl:B=a5:=aJ (s.symm.trans bw);have hS:=jd y l z ar;have⟨q,bk,b5,ao,K,b3,bf,al,v,t⟩:=ajc bj ap an.root;have a4:=ap.seg (tk:=rj (q++[nG (y.extract l z) bk])) (n:=q.length+1) (i:=0) (by omega) λd f m=>by rw[dv];exact t d f m
 rw[dv,<-v]at a4;obtain⟨C,a,u,_⟩:=an.root _ _ _ (Nat.lt_succ_self _) a4 (by rw[zG];rfl);rw[<-a6]at a;obtain⟨b,g,rfl⟩:∃b g,C=one b g:=by
  cases C with
  |nil=>cases a
  |cons b g bl=>
   cases bl with
   |nil=>exact⟨b,g,rfl⟩
   |cons _ _ _=>simp[one,Fo.bare]at a
 have a7:b.bare=N.bare:=by simp[one,Fo.bare]at a;exact a.1
 have L:b.k=N.k:=by have:=congrArg Nd.k a7;exact this
 obtain⟨av,ad⟩:∃av,q[0]?=Z av:=⟨_,aw (by omega)⟩;obtain⟨aK,af⟩:∃aK,q[j.length-1]?=Z aK:=⟨_,aw (by omega)⟩;have s0:=al.at_ 0 br ad o;have bn:=al.at_ _ bs af p;obtain⟨a0,p2⟩:=u.one_stat (by rw[(t 0 _ a3).1,<-F];exact o) (by rw[v,(t _ _ w).1,<-H];exact p);rw[tL ad]at a0;rw[v,tL af]at p2;have a8:=ar3 ao K;refine⟨l,z,I.trans bv,J.trans bx,ba,ar,b,g,aju (by omega) ao K bf u ?_,L,?_,?_⟩
 .refine ajt rfl ?_ ?_ ⟨ame (by rw[L];exact bb),Fl bh a,trivial⟩ (aap (a8.pln u))
  .rw[<-wu,a,wu];omega
  .rw[<-zH,a,zH];exact a9
 .rw[a0,s0.1];show A.f-(l:Int)=0;omega
 .rw[p2,bn.2];show B.t-(l:Int)=_;omega
def ap0{e:List Wt}{t:Fo}(g:Gt l t ns)(p:y.size<=65536)(G:Rz y 0 e y.size)(i:pv l e):∃X,A6 y (rm y X)/\X.all (LnN y)/\X.plc 0 y.size/\X.each (amd y):=by
 obtain⟨ar,F⟩:=G.tks;obtain⟨ak,m,v⟩:=g.rt;obtain⟨s,H,ap,q,h,E,B,_,r,af⟩:=ajc F i g.rc;obtain⟨X,u,a,A⟩:=m.kids (tk:=rj (s++[nG y H])) (n:=s.length+1) i (λd ad C=>by rw[dv];exact af d ad C) (by omega) (by rw[<-r,zG];rfl);rw[<-r]at a;have b:=ar3 q h;have j:=b.pln a;have z:=g.bk y X (u.trans v);have k:eG (rm y X)=(0,0):=alu z g.ok λc x=>(zo Pln (λc an w=>w) _ 0 (aap j) c x).1;obtain⟨I,ao,J⟩:=amc (by show(eG (rm y X)).1=0;rw[k]);refine⟨X,aju p q h B a k,j,?_,aao X (λc al K d f L=>apL p E K d f L) I.2.1 (by omega) J A⟩;exact a.plx b.o 0 _ (b.l 0 (by omega)).1.1 (λf m=>(b.l f (by omega)).2) (by omega)
def ajv:∀{R:Fo}{a b:Int},R.plc a b->a<=b
 | .nil,_,_,h=>h
 | .cons N k r,a,b,h=>by have:=ajv h.2.2.2;have:=h.1;have:=h.2.1;omega
def AtF(ns:List Nd)(a:Fo)(b:Nat):Prop:=∀j,j<(a.flat b).length->ns[b+j]?=(a.flat b)[j]?
section
variable {ns : List Nd} {N : Nd} {k r : Fo} {b : Nat}
def AtF.cons(h:AtF ns (.cons N k r) b):AtF ns k b/\ns[b+k.sz]?=Z {N with ks:=k.tops b}/\AtF ns r (b+k.sz+1):=by
 have h:=A8 (A:=k.flat b) (B:=r.flat (b+k.sz+1)) rfl h;have a:=k.flat_len b;rw[a]at h;exact⟨λc d=>h.1 c (by omega),h.2⟩
def ajw(h:ns[i]?=Z M):(0<=((i:Nat):Int)/\((i:Nat):Int).toNat<ns.length)/\ae ns (i:Nat)=M:=by
 have:=(List.getElem?_eq_some_iff.1 h).1;refine⟨⟨by omega,by omega⟩,?_⟩;unfold ae;rw[iF,aF,h];rfl
end
def aaq:∀(F:Fo)(b:Nat){a e:Int},AtF ns F b->F.plc a e->chn ns e a (F.tops b)
 | .nil,_,_,_,_,_=>trivial
 | .cons N k r,b,a,e,h,p=>by
  have⟨_,f,g⟩:=h.cons;have⟨c,d⟩:=ajw f;rw[Fo.tops,chn,d];exact⟨c,p.1,p.2.1,ajv p.2.2.2,aaq r _ g p.2.2.2⟩
def Jy:∀(F:Fo)(b:Nat){a e:Int},AtF ns F b->F.plc a e->∀M∈F.flat b,chn ns M.t M.f M.ks
 | .nil,_,_,_,_,_=>λM hM=>by cases hM
 | .cons N k r,b,a,e,h,p=>λM hM=>by
  have⟨c,_,d⟩:=h.cons;rw[Fo.flat,yj,gK]at hM;rcases hM with hM|rfl|hM
  .exact Jy k b c p.2.2.1 M hM
  .exact aaq k b c p.2.2.1
  .exact Jy r _ d p.2.2.2 M hM
def Hc{p:Nd->Fo->Prop}:∀(F:Fo)(b:Nat),AtF ns F b->F.each p->∀t∈F.tops b,(0<=t/\t.toNat<ns.length)/\∃N k,p N k/\(ae ns t).k=N.k/\(ae ns t).f=N.f/\(ae ns t).t=N.t
 | .nil,_,_,_=>λt ht=>by cases ht
 | .cons N k r,b,h,g=>λt ht=>by
  have⟨_,d,e⟩:=h.cons;rw[Fo.tops,gK]at ht;rcases ht with rfl|ht
  .obtain⟨c,a⟩:=ajw d;exact⟨c,N,k,g.1,by rw[a],by rw[a],by rw[a]⟩
  .exact Hc r _ e g.2 t ht
def ar4(a:ByteArray)(N:Nd):Prop:=∃f z:Nat,N.f=(f:Int)/\N.t=(z:Int)/\f<z/\z<=a.size/\∃ms,A6 (a.extract f z) ms/\2<=ms.length/\(ae ms ((ms.length:Int)-1)).ks.length=1/\(ae ms ((ms.length:Int)-2)).k=N.k/\(ae ms ((ms.length:Int)-2)).f=0/\(ae ms ((ms.length:Int)-2)).t=((z-f:Nat):Int)
structure ajx (y:ByteArray) (ns:List Nd):Prop where
 o:A6 y ns
 n:0<ns.length
 l:∀N∈ns,LnN y N
 c:∀N∈ns,chn ns N.t N.f N.ks
 s:∀k∈(ae ns ((ns.length:Int)-1)).ks,(0<=k/\k.toNat<ns.length)/\ar4 y (ae ns k)
def ar5{ks:Fo}(h:amd y N ks)(j:M.k=N.k)(l:M.f=N.f)(m:M.t=N.t):ar4 y M:=by
 obtain⟨f,c,d,e,g,i,b,a,s,k,u,v⟩:=h;refine⟨f,c,l.trans d,m.trans e,g,i,_,s,?_⟩;have o:(rm (y.extract f c) (one b a)).length=a.sz+2:=by unfold rm;rw[Fo.flat_len];rfl
 have n:AtF (rm (y.extract f c) (one b a)) (one ⟨1,0,((y.extract f c).size:Nat),1,0,0,⟨#[]⟩,[],[]⟩ (one b a)) 0:=λw _=>by rw[dv];rfl
 have⟨p,q,_⟩:=n.cons;have⟨_,r,_⟩:=p.cons;rw[o,show(((a.sz+2:Nat):Int)-1)=((0+(one b a).sz:Nat):Int) by rw[bz];omega,show(((a.sz+2:Nat):Int)-2)=((0+a.sz:Nat):Int) by omega,(ajw q).2,(ajw r).2];exact⟨by omega,rfl,k.trans j.symm,u,v⟩
def ar6{X:Fo}(o:A6 y (rm y X))(l:X.all (LnN y))(p:X.plc 0 y.size)(s:X.each (amd y)):ajx y (rm y X):=by
 have d:(rm y X).length=X.sz+1:=by unfold rm;rw[Fo.flat_len];rfl
 have c:AtF (rm y X) (one ⟨1,0,(y.size:Nat),1,0,0,⟨#[]⟩,[],[]⟩ X) 0:=λt _=>by rw[dv];rfl
 have⟨k,m,_⟩:=c.cons;refine⟨o,by omega,λb n=>(zo (LnN y) (λb u j=>j) _ 0 ((cj _ _ X).2 ⟨⟨Int.le_refl 0,by show(0:Int)<=(y.size:Nat);omega,Int.le_refl _,rfl⟩,l⟩) b n).1,Jy _ 0 (a:=0) (e:=y.size) c ⟨Int.le_refl 0,by show(0:Int)<=(y.size:Nat);omega,p,Int.le_refl _⟩,?_⟩;rw[d,show(((X.sz+1:Nat):Int)-1)=((0+X.sz:Nat):Int) by omega,(ajw m).2];intro r q;have⟨i,b,v,a,f,g,h⟩:=Hc X 0 k s r q;exact⟨d ▸ i,ar5 a f g h⟩
def Gt.plc{e:List Wt}{a:Fo}(g:Gt l a ns)(i:y.size<=65536)(j:Rz y 0 e y.size)(h:pv l e):∃ms,ajx y ms:=by
 have⟨k,b,c,d,f⟩:=ap0 g i j h;exact⟨_,ar6 b c d f⟩
def ar7(C:Cd):∃t ns,ajx t ns/\Dx C 4 [] t:=by
 obtain⟨t,⟨l,e,n,o,f⟩,_,c⟩:=apK C;have⟨b,k,ns,a,p,g⟩:=ajn e (by rw[ah6];omega);have⟨m,i,j,q,r⟩:=a.step g (pv.refl b) f;have d:t.size<=65536:=by have:=am6 b;omega
 have⟨ms,h⟩:=a.plc d j i;exact⟨t,ms,h,c⟩
def PM(E:Pe):uE->Nat->Fo->Nat->Prop
 | .unit,i,R,j=>CU E i R j
 | .expr p,i,R,j=>CX E p i R j
 | .more p s x,i,R,j=>∃m,Ms E (CX E) p s m x i R j
 | .base,i,R,j=>CB E i R j
 | .post s x,i,R,j=>∃m,LH E (CX E 0) (CLx E) s m x i R j
 | .exprs,i,R,j=>CLx E i R j
 | .moreE,i,R,j=>∃m,Ls E (CX E 0) m i R j
 | .moreB,i,R,j=>∃m,Ls E (CB E) m i R j
 | .stat,i,R,j=>CI E 76 #[pV E] i R j
 | .stats,i,R,j=>∃m,Ss E (CI E 76 #[pV E]) m i R j
 | .block,i,R,j=>CK E i R j
 | .body s,i,R,j=>CBd E s i R j
 | .entry,i,R,j=>CI E 234 #[pV E] i R j
 | .entries,i,R,j=>∃m,Es E (CI E 234 #[pV E]) m i R j
 | .branch,i,R,j=>CBr E (E.tk i).k i R j
def ap1(h:k=5\/k=6\/k=43):eE k=A3:=by rcases h with rfl|rfl|rfl<;>decide
def ap2(h:jE k=O):k=25\/k=50\/k=62\/k=69:=by
 have:=aB h;omega
def brK{E:Pe}{R:Fo}(h:CBr E (E.tk i).k i R j)(e:(E.tk i).k=k):CBr E k i R j:=e ▸ h
def afz{E:Pe}(A:∀q,(E.tk q).k<=78){t:uE}{R:Fo}(h:P E.tk E.n t i R j):PM E t i R j:=by
 induction h with
 |upre a b d c=>have:=d.pos;simp only[bH]at this;exact qx (.pre (ap2 a) rfl b c (by omega) (by omega))
 |uint a b=>exact qx (.int a b)
 |uflt a b=>exact qx (.word (.inl ⟨rfl,rfl⟩) a b)
 |ustr a b=>exact qx (.word (.inr ⟨rfl,rfl⟩) a b)
 |unil a b=>exact qx (.leaf (.inl ⟨rfl,rfl⟩) a b)
 |utru a b=>exact qx (.leaf (.inr (.inl ⟨rfl,rfl⟩)) a b)
 |ufls a b=>exact qx (.leaf (.inr (.inr (.inl ⟨rfl,rfl⟩))) a b)
 |urst a b=>exact qx (.leaf (.inr (.inr (.inr ⟨rfl,rfl⟩))) a b)
 |ufn a b d c=>exact qx (.fn a b c)
 |utab a b d e f c=>obtain⟨g,c⟩:=c;exact aiw a b c e f
 |ubas a b d c=>exact qx (.base a rfl b c)
 |ex a b d e l o=>obtain⟨g,c⟩:=o;exact aph a b A l c
 |mstop a b=>exact⟨0,.stop a b⟩
 |mgo a b d e f o w=>obtain⟨g,c⟩:=w;have:=e.pos;simp only[bH]at this;exact⟨g+1,.go a b d o (by omega) (by omega) c⟩
 |bname a b d c=>obtain⟨g,c⟩:=c;have:=d.pos;simp only[bH]at this;exact aiv a b .name (by omega) c
 |@bopen i k j u z R a b d e f m l r=>
  obtain⟨g,c⟩:=r;have:=d.pos;have:=m.pos;simp only[bH]at *;by_cases v:u.k=34\/u.k=27
  .rw[show mh u z (E.tk i) (E.tk k).t=_ from ab v]at c;exact aiv a b (.held l e (by omega) v rfl) (by omega) c
  .rw[show mh u z (E.tk i) (E.tk k).t=_ from aa v]at c;exact aiv a b (.par l e (by omega) (by simp;omega) (by simp;omega)) (by omega) c
 |pstop a b=>exact⟨0,.stop a b⟩
 |pdot a b d e c=>obtain⟨g,c⟩:=c;have:=e.pos;exact⟨g+1,.dot a b (by omega) c⟩
 |psq a b d e f m l r=>obtain⟨g,c⟩:=r;have:=d.pos;simp only[bH]at this;have:=m.pos;exact⟨g+1,.sq a b l e (by omega) c⟩
 |pcall0 a b d e c=>obtain⟨g,c⟩:=c;have:=e.pos;exact⟨g+1,.call0 a b (by omega) c⟩
 |pcall a b d e f m p o s=>obtain⟨g,c⟩:=s;have:=e.pos;simp only[bH]at this;have:=p.pos;exact⟨g+1,.call a b d o f (by omega) c⟩
 |es a b C F=>obtain⟨g,c⟩:=F;exact alz C c
 |estop a b=>exact⟨0,.stop a b⟩
 |ego a b d e l o=>obtain⟨g,c⟩:=o;exact⟨g+1,.go a b l c⟩
 |bstop a b=>exact⟨0,.stop a b⟩
 |bgo a b d e l o=>obtain⟨g,c⟩:=o;exact⟨g+1,.go a b l c⟩
 |@body i k j al ad ak L a b d e c=>
  have⟨g,I,J,af,K⟩:=Pt.of d;have:=e.pos;simp only[bH]at this;obtain⟨y,rfl⟩:∃y,k=y+1:=⟨k-1,by omega⟩;exact apf a b I J K c (by omega) (by omega)
 |block a b d e f c=>obtain⟨g,c⟩:=c;exact qx (.block a b (adB (.inl rfl) e c) e f)
 |sstop a b=>exact⟨0,.stop b⟩
 |ssep a b d c=>obtain⟨g,c⟩:=c;exact⟨g+1,.sep a b c⟩
 |sgo a b d e f m w r=>obtain⟨g,c⟩:=r;exact⟨g+1,.go a b d e w c⟩
 |nstop a b=>exact⟨0,.stop a b⟩
 |ncom a b d e f m l r=>obtain⟨g,c⟩:=r;exact⟨g+1,.com a b l e f c⟩
 |nlast a b d e f m l r=>obtain⟨g,c⟩:=r;exact⟨g+1,.last a b l e f c⟩
 |item a b d e f c=>have:=f.pos;simp only[bH]at this;exact Ji d e (.item a b c (by omega) (by omega))
 |pair a b d e f m p l s=>have:=d.pos;have:=p.pos;simp only[bH]at *;exact Ji (by omega) (by omega) (.pair a l e f m s (by omega) (by omega))
 |named a b d e f c=>have:=f.pos;simp only[bH]at this;exact Ji (by omega) (by omega) (.named a b d e c (by omega) (by omega))
 |belif a b d e f m p l o s=>have:=d.pos;have:=e.pos;have:=p.pos;simp only[bH]at *;exact jl (.belif a rfl b l o m f (brK s f) (by omega) (by omega))
 |belse a b d e f m p l o s=>have:=d.pos;have:=e.pos;have:=p.pos;simp only[bH]at *;exact jl (.belse a rfl b l o m f s (by omega) (by omega))
 |bno a b d e f m p l o=>have:=d.pos;have:=e.pos;simp only[bH]at *;exact jl (.bno a rfl b l o (by omega) p f m)
 |tlet0 a b d e f=>have:=e.pos;exact jl (.let0 a (by omega) (wv d b e) (by omega) (by omega) f)
 |tlet a b d e f m c=>have:=e.pos;have:=m.pos;simp only[bH]at *;exact jl (.let1 a (by omega) (wv d b e) (by omega) f c (by omega) (by omega))
 |@tcon i j an a b d e f c=>have:=f.pos;simp only[bH]at *;exact jl (.con a (by omega) (wv b (by omega) (.stop (by rw[d];decide) (by omega))) (by omega) d c (by omega) (by omega))
 |tfn a b d e f c=>have:=f.pos;simp only[bH]at *;exact alA a b d e c (by omega) (by omega)
 |tif a b d c=>exact jl (.iff a b (brK c a))
 |twhile a b d e l o=>have:=d.pos;have:=e.pos;simp only[bH]at *;exact jl (.whl a b l o (by omega) (by omega))
 |tfor a b d e f m p r s=>have:=e.pos;have:=m.pos;have:=p.pos;simp only[bH]at *;exact jl (.for_ a (by omega) (jl (.lfor a (by omega) (wv d b e) (by omega) f r s (by omega) (by omega))))
 |teach a b d e f m p x B r H=>have:=e.pos;have:=m.pos;have:=B.pos;simp only[bH]at *;exact jl (.for_ a (by omega) (jl (.leach a (by omega) (wv d b e) (by omega) f r H (by omega) (by omega))))
 |tbreak a b=>exact jl (.leaf (.inl ⟨rfl,rfl⟩) a b)
 |tnext a b=>exact jl (.leaf (.inr ⟨rfl,rfl⟩) a b)
 |tret0 a b d=>exact jl (.ret0 a b (ap1 d))
 |tret a b d e c=>have:=e.pos;simp only[bH]at *;exact jl (.ret1 a b d c (by omega) (by omega))
 |ttry a b d e f m p x l G=>have:=d.pos;have:=p.pos;have:=x.pos;simp only[bH]at *;exact jl (.try_ a b l e (by omega) (wv m f p) G (by omega) (by omega))
 |tthrow a b d c=>have:=d.pos;simp only[bH]at *;exact jl (.thr a b c (by omega) (by omega))
 |tdefer a b d c=>have:=d.pos;simp only[bH]at *;exact jl (.dfr a b c (by omega) (by omega))
 |tblock a b d c=>exact jl (.blk a b c)
 |tdo a b d e f m c=>have:=d.pos;simp only[bH]at *;exact jl (.smp a rfl b (LI a rfl b c (.inl ⟨e,f,m,rfl,rfl⟩) (by omega)))
 |tset a b d e f m p l o s=>obtain⟨g,o⟩:=o;have:=d.pos;have:=e.pos;have:=p.pos;simp only[bH]at *;exact jl (.smp a rfl b (LI a rfl b l (.inr ⟨_,_,_,g,by cases o with|stop _ _=>exact .inr f|go h _ _ _=>exact .inl h,o,f,m,s,by omega,by omega,rfl⟩) (by omega)))
def Jz(w:A2)(s:ByteArray)(cq:s.size<=65536){d:List Tk}{m:Nat}{R:Fo}(z:aiK s)(a8:nI s=(d, -1))(a3:PF s d m R lz):A0 U 7 #[A1 s] w (PsP w (okC (rm s R)) 0 (okN (rm s R))):=by
 have cr:∀w:A2,(zeroValue 28).run U w= .ok (.agg #[Y Ad 0,Y Ad 0,S Ax 0 0]) w:=λw=>by kernel_rfl
 have cn:¬(65536:Int)<(s.size:Int):=by omega
 unfold aiK TkP at z;rw[a8]at z;clear a8;have⟨g,an⟩:=aC d.length;have a:=gF a3 an;simp only[an]at z;clear a3 an;have ad:=dC w (V #[Y Ad 0,Y Ad 0,S Ax 0 0] 28);have ao:=aA w (V #[Y Ad 0,Y Ad 0,S Ax 0 0] 28);go_in;go_wp2_with fail;generalize w.alloc (V #[Y Ad 0,Y Ad 0,S Ax 0 0] 28)=ca at ad ao⊢;refine(z _).mono ?_;rintro bw b ⟨q,f,rfl,bn,a5⟩;have ap:=(a5.block _ (ai ao)).trans ao;have a7:cg w b:=ad.trans (a5.mono ad.size);have bf:g=m+1:=by rw[<-a.out.2];exact a.out.1.len
 obtain⟨j,F,rfl,bd,a9⟩:∃j F,q=Z ⟨j,0,Ax⟩/\b.heap[j]?=Z (V F 49 (0,0))/\TkR F (rj d) g:=by
  rcases bn.2 with⟨_,k⟩|⟨bA,cb,bv,b7,cl,b0,cd,cf,ck,bE⟩
  .omega
  .cases b7;exact⟨bA,bv,rfl,b0,aiI bE a.out.2 (λb8 b9 bh=>by rw[rC bh];exact⟨rfl,λ_=>rfl⟩)⟩
 obtain⟨b8,hS⟩:PM ⟨b.heap.size,b.heap.size+1,j,f,g,rj d⟩ .stats 0 R m:=afz (E:=⟨b.heap.size,b.heap.size+1,j,f,g,rj d⟩) a.out.1.k78 (bf ▸ a.out.1.p);have bl:=alC s b j f g m (rj d) F (0,0) bd a9 (by have:=a.out.1.le;omega) (by omega) (R:=R) (adB (E:=⟨b.heap.size,b.heap.size+1,j,f,g,rj d⟩) (.inr rfl) (by show(rj d m).k=6;rw[a.out.1.end_]) hS) (by have:=a.out.1.sz;omega);clear hS;clear z bn bd a9 bf;go_wp2_with fail;refine bl.mono ?_;rintro bw e ⟨bo,J,rfl,a0,al,a6⟩;have a1:gg e bo (rm s R):=by have:=a0.nds;rw[al]at this;exact this
 have x:=(a6.block _ (ai ap)).trans ap;have af:cg w e:=a7.trans (a6.mono a7.size);obtain⟨r,A,u,rfl⟩:∃q g f,bo= S q g f:=by obtain⟨q,f,G⟩:=a1.form;exact⟨q,_,f,G⟩
 have b1:=a.out.1.ct;have b4:(rm s R).length<=1048576:=by
  have:=a.out.1.sz;unfold rm;rw[Fo.flat_len,bz];omega
 have aK:=λl=>Et (e.alloc l) (S r A u) (rm s R) (a1.below (dC e l)) b4 a.out.1.sm;have a4:Hid (Lw e b.heap.size (S r A u) J/\J.map Mb.N=rm s R):=⟨a0,al⟩;have n:Hid (okC (rm s R)=(if(eG (rm s R)).1=0 then 0 else 2)/\okN (rm s R)=(if(eG (rm s R)).1=0 then rm s R else [])):=⟨rfl,rfl⟩;have⟨I,ar⟩:=aC ((eG (rm s R)).1);have⟨C,bk⟩:=aC ((eG (rm s R)).2);rw[ar]at n;simp only[ar,bk]at aK;have ba:=aA e (V #[S r A u] 26);have v:=dC e (V #[S r A u] 26);have b5:=v.size;clear bl a1 ar bk b1 a0 al;go_wp2_with fail;refine dt (aK _) λc t=>?_;have bb:=(t.block _ (ai ba)).trans ba;have bj:=(t.block _ (ai ((v.block _ (ai x)).trans x))).trans ((v.block _ (ai x)).trans x);have H:cg w c:=(af.trans (v.mono af.size)).trans (t.mono (bG af.size b5));have ce:=ai bb;clear aK;have B:∀(i:Nat)(K:Array Value)(a2:TypeId)(L:Nat×Nat)(l:Obj),c.heap[i]?=Z (V K a2 L)->(c.alloc l).heap[i]?=Z (V K a2 L):=λi K a2 L l G=>((dC c l).block _ (ai G)).trans G;have cp:w.heap.size≠e.heap.size:=by have:=ai x;omega
 by_cases k:I=0
 .subst k;have y:=B _ _ _ _ (V #[Y Ad 0,Y Ad C] 58) bj;have⟨br,bs,bt,bx⟩:=row3 y;have cu:(c.alloc (V #[Y Ad 0,Y Ad C] 58)).cell? ⟨e.heap.size,0,Ax⟩=Z (S r A u):=by rw[aj _ _ _ _ _ _ (B _ _ _ _ _ bb)];rfl
  have h:=n.out;rw[ab rfl,ab rfl]at h;have o:=am h;have ak:cg w (c.alloc (V #[Y Ad 0,Y Ad C] 58)):=H.trans ((dC c _).mono H.size);clear h n B;go_wp2;exact aL (io rfl _ _ w.heap.size _ _ _ _ rfl (set3 y _ _ _) Tryz.underlying28 rfl (by kernel_rfl)) rfl (show PsP w (okC (rm s R)) 0 (okN (rm s R)) _ _ from by rw[o.out.1,o.out.2];exact⟨_,rfl,⟨J,_,a4.out.2,a4.out.1.mono λi cc bD=>(am2 (by have:=ai ap;omega) _ _ _).trans (((dC c _).block i (by have:=t.size;omega)).trans ((t.block i (by omega)).trans (v.block i bD)))⟩,aiJ ak _ _ _⟩)
 .have y:=B _ _ _ _ (V #[Y Ad I,Y Ad C] 58) bj;have⟨br,bs,bt,bx⟩:=row3 y;have h:=n.out;rw[aa k,aa k]at h;have o:=am h;have bh:(I==0)=A3:=by simpa using k
  have ak:cg w (c.alloc (V #[Y Ad I,Y Ad C] 58)):=H.trans ((dC c _).mono H.size);clear h n k B;go_wp2;exact aL (io rfl _ _ w.heap.size _ _ _ _ rfl (set3 y _ _ _) Tryz.underlying28 rfl (by kernel_rfl)) rfl (show PsP w (okC (rm s R)) 0 (okN (rm s R)) _ _ from by rw[o.out.1,o.out.2];exact⟨_,rfl,apn _,aiJ ak _ _ _⟩)
structure Tm (ns:List Nd):Prop where
 n:ns.length<=1048576
 l:∀N∈ns,N.nm.length<=1048576/\N.ks.length<=1048576
section
variable {s : ByteArray} {ns : List Nd}
def A6.tm(h:A6 s ns):Tm ns:=by
 obtain⟨_,_,d,_,_,_,_,a,_,rfl⟩:=h;refine⟨?_,λb c=>⟨(a.sm b c).l1,(a.sm b c).l2⟩⟩;have:=a.sz;unfold rm;rw[Fo.flat_len,bz];omega
def A6.sp(h:A6 s ns)(w:A2):A0 U 7 #[A1 s] w (PsP w 0 0 ns):=by
 obtain⟨_,_,g,_,a,e,f,c,d,rfl⟩:=h;have b:=Jz w s a (BF a e) f c;unfold okC okN at b
 rwa [d,ab rfl,ab rfl]at b
end
def Cg(w:A2)(a:Option Addr)(n b:Nat)(h:1048576<n)(c:n<=9223372036854775807):A0 U 3 #[S a n b] w (jf w (.bool O)):=by
 have d:(1048576:Int)<(n:Int):=by omega
 go_in;go_wp2;go_ret;exact⟨rfl,ah _ _⟩
def aeb{f:FuncId}{z:Array Value}(h:A0 U f z W (PsP W 0 0 ns)):A0 U f z W (PaP W ns):=h.mono λ_ _ ⟨d,b,c,a⟩=>⟨d,b,c.nds,a⟩
def A6.ip(o:A6 s ns)(b:PL w)(a:cg w W):A0 U 5 #[A1 s] W (PaP W ns):=aeb (Jt (b.below a (ag _)) o)
def ajx.plc{t:ByteArray}(h:ajx t ns)(j:PL w):∃m,PlC w t ns m:=by
 obtain⟨m,K⟩:∃m,ns.length=m+1:=⟨ns.length-1,by have:=h.n;omega⟩;have o:=h.o.tm;refine⟨m,⟨by obtain⟨_,_,_,_,d,_⟩:=h.o;exact d,K,by have:=o.n;omega,o.l,λc E=>?_,h.c,λa=>h.o.ip j,λa=>aeb (h.o.sp a),λak F aK e=>?_⟩⟩
 .obtain⟨d,al,an,v⟩:=h.l c E;exact⟨c.f.toNat,by omega,by omega,v⟩
 .have f:=h.s;obtain⟨ad,av,g⟩:=Km (ns:=ns) (k:=(ns.length:Int)-1) ⟨by omega,by omega⟩;obtain rfl:ad=m:=by omega
  rw[F]at g;rw[<-aJ g]at f;obtain⟨A,z,af,x,y,H,L,ms,i,ar,J,r,q,u⟩:=f _ (jq e);have⟨k,I,G⟩:=Km A;obtain⟨p,ao,B⟩:=Km (ns:=ms) (k:=(ms.length:Int)-1) ⟨by omega,by omega⟩;obtain⟨b,ap,C⟩:=Km (ns:=ms) (k:=(ms.length:Int)-2) ⟨by omega,by omega⟩;obtain rfl:p=b+1:=by omega
  exact⟨k,_,(aw e).trans (congrArg Z I),G,z,af,x,y,H,L,ms,b,_,_,by omega,by have:=i.tm.n;omega,B,J,C,r,q,by rw[u];omega,λa=>i.ip j⟩
def acb{C:Cd}{a:Option Addr}{e:Nat}(f:Code C w.heap.size w a)(g:PL w):A0 U 3 #[S a C.len e] w (jf w (.bool O)):=by
 have⟨j,i,d,c⟩:=ar7 C;have⟨h,b⟩:=d.plc g;exact Kn (c f) b (by have:=C.ok;omega)
