import Derived.Test.YthkcmkmkapijkaaGreatDoorh02
import Derived.WalkSmall
set_option linter.all false
set_option maxRecDepth 100000
set_option maxHeartbeats 25600000
open List renaming length->M
open Option renaming some->N,none->A5
open Go renaming World->Q,Calls->A0,ownsRow_succ->A2,Value->A9,TypeId->B0
open Go.Value renaming ownBlock->S,slice->X,slice->A1,int->A3
open Go.Proofs.Tryz renaming prog->T
open Go.RowKit renaming Below->V,Hid->Br,intOf->B1
open Go.World renaming news_of_block->Y
open Go.Obj renaming cells->Ax
namespace Go.Proofs.YthkcmkmkapijkaaGreatDoor
open Go.RowKit
variable{C:List (Int×Int)}{W w w':World}{base k mb n:Nat}
def ieq(t c:Int):(t=c)=((t==c)=true):=I
def aer(w t):A0 T 209 #[zI t] w (mF w<|jL t):=by
 go_in;go_wp2_with (go_at_call 208;refine ez (zu _ _) ?_);all_goals
  go_ret2;go_tidy
  simp only[jL,ieq, *];simp[*];first|exact uB w _ _ I|exact LD w _
def aes(w t):A0 T 290 #[zI t] w (mF w<|Cm t):=by
 have b:=λw=>we w t;have a:=λw=>wg w t;go_in;go_wp2_with (first|(go_at_call 208;apply ez<|zu _ _)|(go_at_call 288;apply ez<|b _)|(go_at_call 210;apply ez<|a _));all_goals
  go_ret2;go_tidy
  simp only[Cm,ieq, *];simp[*];exact uB w _ _ I
def ai8{w1 r e}(a:V w.heap.size w w1)(h:mF w1 r e w'):mF w r e w':=by
 obtain⟨b,c,rfl,f,d⟩:=h;exact⟨b,c,R,pL f a.size,a.trans<|d.mono a.size⟩
theorem apJ{p}[Decidable p] {a b:zLI×Bool}(c:M a.1<=6) (d:M b.1<=6):(ite p a b).1.length<=6:=U
def ai9(t):(jL t).1.length<=6:=by
 unfold jL
 repeat' (first|(apply apJ<;>skip)|exact Nat.le_of_ble_eq_true R)
def G5(w t):A0 T 130 #[zI 100,zI t] w (mF w<|aiB t):=by
 unfold aiB;by_cases f:t=5
 .subst f;show A0 _ _ _ _ (mF w ([5,100],true));go_in;go_wp2_with (go_at_call 208;apply ez<|zu _ _);go_ret2;exact uB w _ _ I
 .rw[aa f];have a:=λw=>aer w t;have d:=ai9 t;generalize jL t=x at a d⊢;obtain⟨v,j⟩:=x;simp at d⊢;have⟨_,c⟩:=aw<|M v;have⟨_,q,r,s,u⟩:=dw tD;cases j with
  |true=>
   rw[ae rfl];unfold mF at a⊢;simp only at a⊢;rw[aG,ej];rw[c]at a d⊢;clear c;go_in;go_wp2_with (first|(go_at_call 209;apply(a _).mono;rintro l w1 ⟨i,k,rfl,e,b⟩;have p:=b.size)|(at_builtin;apply nJ _ R _ _ _ R _ 3 _ _ 1 8 Tryz.underlying35 q r s u R Z _ _ _ R (e.alloc _) _ 1 1 [A3 _ _] rfl R (Y (cs:=#[A3 _ _])<|au _ _) (by intro _ h;simp at h;subst h;rfl) byM O lr;intro _ _ g o _;obtain⟨_,_,rfl⟩:=A2 g));go_ret2;exact⟨_,_,R,g,(b.alloc p _).grown o lr (λm n=>(e.lt m n).1)⟩
  |false=>
   rw[Bw];unfold mF at a;simp at a;rw[c]at a;clear c;go_in;go_wp2_with (go_at_call 209;apply(a _).mono;rintro l w1 ⟨i,k,rfl,e,b⟩);go_ret2;exact ai8 b<|LD _ _
theorem acb(w s t)(b:101<=s)(c:s<=133):A0 T 130 #[zI s,zI t] w (mF w<|xE s t):=by
 have f:=λw=>wg w t;have g:=λw=>Ez w t;have h:=λw=>aes w t;obtain rfl|rfl|rfl|rfl|rfl|rfl|rfl|rfl|rfl|rfl|rfl|rfl|rfl|rfl|rfl|rfl|rfl|rfl|rfl|rfl|rfl|rfl|rfl|rfl|rfl|rfl|rfl|rfl|rfl|rfl|rfl|rfl|rfl:s=101\/s=102\/s=103\/s=104\/s=105\/s=106\/s=107\/s=108\/s=109\/s=110\/s=111\/s=112\/s=113\/s=114\/s=115\/s=116\/s=117\/s=118\/s=119\/s=120\/s=121\/s=122\/s=123\/s=124\/s=125\/s=126\/s=127\/s=128\/s=129\/s=130\/s=131\/s=132\/s=133:=O;all_goals
  clear b c;go_in;go_wp2_with (first|(go_at_call 208;apply ez<|zu _ _)|(go_at_call 210;apply ez<|f _)|(go_at_call 291;apply ez<|g _)|(go_at_call 290;apply(h _).mono;rintro a _ ⟨_,_,rfl,e,d⟩)|go_in);all_goals
   go_ret2;first
    |exact⟨_,_,R,e,d⟩
    |(go_tidy
      simp only[xE,rq,apw,awy,akI,akJ,aiC,apx,apy,aiD,apz,akK,att,atu,akL,ak0,atv,ak1,atw,atx,awz,aiE,ak2,ak4,awA,ak5,ak6,apA,ak7,ak8,apB,aiF,awB,awC,ieq, *];simp[*];first|exact uB w _ _ I|exact LD w _|(by_cases a:t=21<;>simp_all<;>(try rw[show(t==46||t==21)=false by simp[*]])<;>exact uB w _ _ I)|(by_cases a:t=44<;>simp_all<;>exact uB w _ _ (Z:2<=100)))
def LH(w s t)(c:100<=s)(b:s<=133):A0 T 130 #[zI s,zI t] w (mF w<|xE s t):=by
 by_cases a:s=100
 .subst a;exact G5 w t
 .exact acb w s t O b
def ale:(T.info? 179).map (λi=>(i.zero,i.size,i.bytes))=N (N<|.agg #[zI 0,zI 0],2,16):=J
def cCl(C:List (Int×Int)):zLV:=C.flatMap λa=>[zI a.1,zI a.2]
def apK(C):M (cCl C)=M C*2:=by
 induction C with
 |nil=>rfl|cons b c a=>simp only[cCl,Cb,aG,dD,jl]at a⊢;omega
def agB(C D):cCl (C++D)=cCl C++cCl D:=by simp[cCl]
theorem alf:∀(C)(i)(c),C[i]?=N c->(cCl C)[i*2]?=N (zI c.1)/\(cCl C)[i*2+1]?=N (zI c.2)
 |[],i,c,h=>U|a::r,0,c,h=>by
  obtain rfl:a=c:=U;exact rr
 |a::r,i+1,c,h=>by
  have e:=alf r i c U;have d:∀b,(cCl (a::r))[b+2]?=(cCl r)[b]?:=λb=>rfl;grind
structure AF (W:Q) (base mb:Nat) (C:List (Int×Int)):Prop where
 ex:∃v,W.heap[mb]?=N (.cells #[v] 96 (0,0))/\W.ownsRow base 179 2 v (M C) (cCl C)
 lo:base<=mb
structure Kp (mb:Nat) (w w':Q):Prop where
 os:w'.os=w.os
 tape:w'.tape=w.tape
 output:w'.output=w.output
 size:w.heap.size<=w'.heap.size
 block:∀k,k<w.heap.size->k≠mb->(∀cs fr,w.heap[k]?≠N (.cells cs 179 fr))->w'.heap[k]?=w.heap[k]?
def Kp.refl(mb w):Kp mb w w:=⟨R,R,R,eE,λ_ _ _ _=>rfl⟩
theorem Kp.trans{x e z}(h:Kp mb x e)(k:Kp mb e z):Kp mb x z:=
 ⟨k.os.trans h.os,k.tape.trans h.tape,k.output.trans h.output,bK h.size k.size,λc a b d=>
  (k.block c (jm a h.size) b (λ_ _=>by rw[h.block c a b d];grind)).trans (h.block c a b d)⟩
def Kp.of_below(h:V w.heap.size w w'):Kp mb w w':=⟨h.os,h.tape,h.output,h.size,λb a _ _=>h.block b a⟩
theorem Kp.blk(h:Kp mb w w'){cs:zAV}{t fr}(a:w.heap[k]?=N (Ax cs t fr))(c:t≠179)(b:k≠mb):w'.heap[k]?=N (Ax cs t fr):=
 (h.block k (ai a) b (λ_ _ _=>U)).trans a
theorem Kp.row(h:Kp mb w w'){l b}(m:w.heap[mb]?=N (Ax #[l] 96 b)){e size:Nat}{v}{xs:zLV}(o:w.ownsRow base e size v n xs)(g:e≠179)(p:e≠96):w'.ownsRow base e size v n xs:=by
 obtain⟨d,a⟩:=o;refine⟨d,?_⟩;obtain a|⟨c,_,_,j,i,f,k⟩:=a
 .grind
 .refine .inr ⟨c,_,_,j,i,h.blk f g ?_,k⟩;grind
theorem AF.below{a}(h:AF W base mb C)(b:V W.heap.size W a):AF a base mb C:=by
 have⟨e,c,d⟩:=h.ex;exact⟨⟨e,(b.block _ U).trans c,cj d b⟩,h.lo⟩
def rf(C:List (Int×Int)):Int->zLI->Prop|top,[]=>top= -1|top,s::r=>∃(i:Nat) (b:Int),top=(i:Int)/\C[i]?=N (s,b)/\rf C b r
theorem rf.app(D):∀{c}{a},rf C a c->rf (C++D) a c|[],a,h=>h|s::r,a,⟨i,b,d,f,e⟩=>⟨i,b,d,U,e.app D⟩
theorem rf.push{b a}(h:rf C a b)(s):rf (C++[(s,a)]) (M C:Int) (s::b):=
 ⟨M C,a,R,U,h.app _⟩
theorem G6(w c mb C u t)(h:AF w c mb C)(K:M C<=100000000):
  A0 T 131 #[be mb 0,zI u,zI t] w λe w'=>e= .returned (zI (M C:Nat))/\AF w' c mb (C++[(t,u)])/\Kp mb w w'/\V c w w':=by
 have⟨_,q,i⟩:=h.ex;have z:=h.lo;have⟨p,A⟩:=aw<|M C;rw[A]at i K⊢;obtain⟨k,l,rfl⟩:=aF i;have⟨_,af,ak,al,am⟩:=dw ale;have L:=ai q;have an:w.cell? (aj mb 0)=N (X k p l):=crV q;have B:∀d,(A1 k p l).ownBlock=N d->d≠mb/\c<=d:=λd g=>by
  refine⟨?_,(i.lt d g).1⟩;rintro rfl;obtain⟨a,_⟩|⟨n,v,x,a,_,y,_⟩:=i.2
  .rw[a]at g;simp[S]at g
  .rw[a]at g;obtain rfl:n=d:=by simpa [S] using g
   grind
 have j:=jG i q A;go_in;go_wp2_with (at_builtin;apply nJ _ R _ _ _ R _ 179 _ _ 2 _ Tryz.underlying94 af ak al am R Z _ _ _ R (j.1.alloc _) _ 1 1 [A3 _ _,A3 _ _] rfl R (Y (cs:=#[A3 _ _,A3 _ _])<|au w _) (by intro _ F;simp at F;obtain rfl|rfl:=F<;>rfl) byM O lr;intro _ G s b _;obtain⟨H,_,rfl⟩:=A2 s;have r:=(b.block _ lr (λe=>(B _ e.symm).1 R)).trans<|(alO L).trans j.2.1;have ap:G.cell? (aj mb 0)=N (X k p l):=(crV r);have ao:G.frozen? (aj mb 0)=false:=frR r);go_ret;have ad:=b.size;rw[dC]at ad;refine⟨by go_num,⟨⟨_,aD _ _ 0 _ _ _ r,?_⟩,z⟩,?_,?_⟩
 .rw[aG,j.out.2.2,agB];refine s.kept (row:=N mb) ⟨R,R,R,byS,λf o E=>jg U⟩ ?_;refine .inr ?_;intro e;obtain rfl:H=mb:=by simpa [S] using e
  obtain⟨a,_⟩|⟨n,v,x,a,_,y,_⟩:=s.2;all_goals grind
 .refine⟨b.os,b.tape,b.output,by simp[World.setCell];omega,λf o E _=>?_⟩;rw[jg E];refine(b.block f lr (λe=>?_)).trans<|alO o;have m:(A1 k p l).ownBlock=N f:=e.symm;obtain⟨a,_⟩|⟨n,v,x,a,_,y,_⟩:=j.1.2
  .rw[a]at m;simp[S]at m
  .rw[a]at m;obtain rfl:n=f:=by simpa [S] using m
   grind
 .have m:c<=w.heap.size:=O;have a:V c w (w.alloc<|Ax #[zI t,zI u] 179):=(ay _ w).alloc m _;exact(a.grown b lr (λf o=>(B f o).2)).setCell z _
def Dy:∀{f}{e}{t}{n}{a}{b}{m},fJ f e t n=N (a,b,m)->n<=m
 |0,_,_,_,_,_,_,h=>by simp[fJ]at h|f+1,[],t,n,a,b,m,h=>by
  simp only[fJ,mw,oI]at h;omega|f+1,s::r,t,n,a,b,m,h=>by
  by_cases d:s<100
  .have:=(qx h d).2.2;omega
  .rcases kF h O with⟨_,c⟩|⟨_,_,_,c⟩
   .have:=Dy c;omega
   .omega
structure G7 (w:Q) (base mb:Nat) (C:List (Int×Int)) (t:Int) (Res:zLI×Bool) (k:Nat) (stk:zLI) (top:Int) (D:List (Int×Int)) (W:Q):Prop where
 m:AF W base mb (C++D)
 s:rf (C++D) top stk
 o:By stk
 kp:Kp mb w W
 bl:V base w W
 d:M D<=20
 ph:(D=[]/\feedL stk t=Res/\M stk+9<=k)\/∃cur r f lo b m,stk=cur++r/\fJ f cur t (M D)=N (lo,N b,m)/\(lo++r,b)=Res/\m<=20/\f<=k
def G7.nil{w d mb C t a k j D W}(h:G7 w d mb C t a k [] j D W):a=([],false):=by
 obtain⟨_,f,_⟩|⟨e,_,c,_,_,_,g,b,_⟩:=h.ph
 .rw[<-f];rfl
 .have i:e=[]:=(List.append_eq_nil_iff.1 g.symm).1;subst i;cases c with
  |zero=>simp[fJ]at b|succ c=>simp[fJ]at b
theorem G7.tok{w g mb C t c k s}{f:zLI}{l D W}(h:G7 w g mb C t c k (s::f) l D W)(e:s<100):c=(f,decide (s=t)):=by
 obtain⟨_,i,_⟩|⟨d,_,b,_,_,_,j,a,_,_⟩:=h.ph
 .rw[<-i];exact iK e
 .cases d with
  |nil=>
   cases b with
   |zero=>simp[fJ]at a|succ b=>simp[fJ]at a
  |cons m d=>
   obtain⟨rfl,rfl⟩:=mD j;cases b with
   |zero=>simp[fJ]at a|succ b=>
    obtain⟨rfl,_,_⟩:=qx a e;grind
theorem G7.no{t d s}{g:zLI}{v D}(h:G7 w base mb C t d k (s::g) v D W)(r:0<=t)(u:t<=78)(c:100<=s)(x:(xE s t).2=false):d=(g,false):=by
 obtain⟨_,j,_⟩|⟨e,_,b,q,i,_,l,a,_,_⟩:=h.ph
 .have f:¬((xE s t).1=[]/\(xE s t).2=true):=U;have⟨q,i,_,a,_⟩:=uh c (h.o s U) r u f;rw[<-j,lD c f a];obtain⟨m,_⟩|⟨_,n,p,_⟩:=kF a c;all_goals grind
 .cases e with
  |nil=>
   cases b with
   |zero=>simp[fJ]at a|succ b=>simp[fJ]at a
  |cons f e=>
   obtain⟨rfl,rfl⟩:=mD l;cases b with
   |zero=>simp[fJ]at a|succ b=>
    obtain⟨m,_⟩|⟨_,n,p,_⟩:=kF a c;all_goals grind
theorem G7.step{t v s}{f:zLI}{an D}(h:G7 w base mb C t v k (s::f) an D W)(y:0<=t)(z:t<=78)(d:100<=s)(hx:(xE s t).2=true){E u e}(K:M E=(xE s t).1.length)
  (b:AF e base mb (C++D++E)) (c:rf (C++D++E) u ((xE s t).1++f)) (q:Kp mb w e) (p:V base w e):M D+(xE s t).1.length<=20/\∃a,a<k/\G7 w base mb C t v a ((xE s t).1++f) u (D++E) e:=by
 have x:=h.o s U;have ap:=(ab5 d x y z).1;have j:By ((xE s t).1++f):=λao hx=>by
  obtain hx|hx:=dg.1 hx
  .grind
  .exact h.o ao U
 have r:AF e base mb (C++(D++E)):=U;have i:rf (C++(D++E)) u ((xE s t).1++f):=U;have H:M (D++E)=M D+(xE s t).1.length:=U;obtain⟨G,n,_⟩|⟨m,am,b,af,l,ak,A,a,B,F,_⟩:=h.ph
 .subst G;by_cases g:(xE s t).1=[]/\(xE s t).2=true
  .rw[g.1]at K i j H⊢;have c:E=[]:=U;subst c;refine⟨I,_,U,r,i,j,q,p,I,.inl ⟨R,?_,eE⟩⟩;rw[ga,<-n,kC d g]
  .have⟨af,l,al,a,ad⟩:=uh d x y z g;rw[lD d g a]at n;obtain⟨_,c⟩|⟨c,_⟩:=kF a d
   .rw[fp]at c;have L:=Dy c;refine⟨U,7,O,r,i,j,q,p,U,.inr ⟨_,_,7,_,l,al,R,?_,n,ad,O⟩⟩;grind
   grind
 .cases m with
  |nil=>
   cases b with
   |zero=>simp[fJ]at a|succ b=>simp[fJ]at a
  |cons g m=>
   obtain⟨rfl,rfl⟩:=mD A;cases b with
   |zero=>simp[fJ]at a|succ b=>
    obtain⟨_,c⟩|⟨c,_⟩:=kF a d
    .have L:=Dy c;refine⟨O,b,O,r,i,j,q,p,O,.inr ⟨(xE s t).1++m,am,b,_,l,ak,U,?_,B,F,O⟩⟩;grind
    grind
def xJ(w:Q)(c mb:Nat)(C:List (Int×Int))(b:zLI×Bool)(e:Ending)(a:Q):Prop:=
 ∃(d:Int) (D:List (Int×Int)),e= .returned (.tuple #[zI d,.bool b.2])/\AF a c mb (C++D)/\rf (C++D) d b.1/\M D<=20/\Kp mb w a/\V c w a
theorem Cp(w f mb C n ar t)(h:AF w f mb C)(cl:rf C ar n)(bx:By n)(an:0<=t)(ao:t<=78)(cg:M C<=50000000:=by omega):
  A0 T 42 #[be mb 0,zI ar,zI t] w (xJ w f mb C<|feedL n t):=by
 have⟨y,bj⟩:=aw<|feedL n t;rw[bj];have b4:Br (G7 w f mb C t y (M n+9) n ar [] w):=⟨U,U,bx,Kp.refl _ _,blR,I,U⟩;go_in;go_wp2;go_loopg [1] (M n+9) (λbE ax wr=>∃am r D,ax=zI r/\Br (G7 w f mb C t y bE am r D wr))
 .grind
 .
  obtain⟨am,r,D,rfl,a⟩:=hrel;cases am with
  |nil=>
   have H:=a.s;subst H;have b:=ah a.nil;go_wp2;go_ret2;refine⟨-1,D,?_,a.m,?_,a.d,a.kp,a.bl⟩
   .rw[b.out];rfl
   .rw[b.out];rfl|cons e ap=>
   have⟨g,k,bt,a2,B⟩:=a.s;subst bt;have⟨bc,L,ad⟩:=a.m.ex;have bw:=(dr.1 a2).1;obtain⟨l,a1,rfl⟩:∃l a1,bc=X _ _ _:=by
    obtain⟨hz,_⟩|hz:=aC ad;all_goals omega
   have ca:=alf _ g _ a2;have⟨ak,a4⟩:=aw<|M<|C++D;have cb:=a.d;have ck:ak<=50000020:=U;rw[a4]at L bw;have bd:wr.cell? (aj mb 0)=N (bI l ak a1):=crV L;obtain⟨s,K⟩:∃s:Addr,(⟨l,0,A5⟩)=s:=⟨_,R⟩;have b7:wr.cell? (s.add<|g*2)=N (A3 .i64 e):=by rw[<-K,show((⟨l,0,A5⟩:Addr).add<|g*2)=⟨l,g*2,A5⟩ by unfold Addr.add;grind];exact by rw[ad.cellAt _ O];grind
   have b8:wr.cell? ⟨(s.add<|g*2).block,(s.add<|g*2).off+1,A5⟩=N (A3 .i64 k):=by rw[<-K,show((⟨l,0,A5⟩:Addr).add<|g*2)=⟨l,g*2,A5⟩ by unfold Addr.add;grind];exact by rw[ad.cellAt (g*2+1) O];grind
   unfold bI at bd;rw[K]at bd;have cd:(g:Int)<(ak:Int):=O;have cc:(0:Int)<=(g:Int):=O;have b9:f<=wr.heap.size:=bK (by have⟨bc,bh,_⟩:=h.ex;have:=ai bh;have:=h.lo;omega) a.bl.size;have b3:=jG a4 L B;by_cases bA:e<100
   .have b:Br (y=(ap,decide (e=t))):=a.tok bA;have i:∀c,V f wr (wr.alloc c).drew:=λc=>eC<|blR.alloc O c;have o:(wr.alloc<|Ax #[zI e,zI k] 179).cell? ⟨wr.heap.size,0,A5⟩=N (zI e):=byS;go_wp2_with fail;go_region_held3 (λj=>j.cell? (aj wr.heap.size 0)=N (zI e)) (go_keep) (fail)
    go_wp2;go_ret2;have u:V wr.heap.size wr (wr.alloc<|Ax #[zI e,zI k] 179).drew:=eC<|dj _ _;refine⟨k,D,?_,a.m.below u,?_,a.d,a.kp.trans<|Kp.of_below u,a.bl.trans<|i _⟩
    .rw[b.out];rfl
    .rw[b.out];omega
   .have A:100<=e:=O;have a7:e<=133:=a.o e U;have E:=λw=>LH w e t A a7;have a9:=(ab5 A a7 an ao).2;have⟨q,af⟩:=aw<|(xE e t).1;have⟨bF,a6⟩:=aw<|(xE e t).2;unfold mF at E;rw[af,a6]at E;rw[af]at a9;have⟨i,a5⟩:=aw<|M q;rw[a5]at E a9;have p:=jG af a6 a5;have u:=dj wr<|Ax #[zI e,zI k] 179;go_wp2_with fail;apply(E _).mono;rintro H v ⟨al,rc,rfl,bz,bn⟩;have G:V wr.heap.size wr v:=u.trans<|bn.mono u.size;have j:Br (AF v f mb (C++D)/\Kp mb w v/\V f w v/\v.ownsRow f 3 1 (X al i rc) i (q.map zI)):=
     ⟨a.m.below G,a.kp.trans<|Kp.of_below G,a.bl.trans<|G.mono O,pL bz lr⟩
    cases bF with
    |false=>
     have b:Br (y=(ap,false)):=a.no an ao A p.2.1;go_wp2;go_ret2;refine⟨k,D,?_,j.1,?_,a.d,j.2.1,j.2.2.1⟩
     .rw[b.out];rfl
     .rw[b.out];omega|true=>
     have ch:M (C++D)<=50000020:=O;go_wp2;go_loopw [1,11] (λax av F=>∃b r o,b<=i/\av=zI (b-1)/\ax=zI r/\Br (M o=i-b/\AF F f mb (C++D++o)/\rf (C++D++o) r (q.drop b++ap)/\Kp mb w F/\V f w F/\F.ownsRow f 3 1 (X al i rc) i (q.map zI))) (λ_ av _=>(B1 av+1).toNat)
     .
      refine⟨_,k,[],O,R,R,I,?_,?_,j.2.1,j.2.2.1,j.2.2.2⟩
      .rw[fp];exact j.1
      grind
     .
      obtain⟨b,bb,o,_,rfl,rfl,c⟩:=hrel;cases b with
      |zero=>
       have B:=c.2.2.1;rw[iq,<-p.out.1]at B;have⟨_,x,_,z⟩:=a.step an ao A p.2.1 (by rw[p.out.1,p.out.2.2];exact c.1) c.2.1 B c.2.2.2.1 c.2.2.2.2.1;go_wp2;go_roundg x
       case measure=>omega
       exact⟨_,_,_,R,ah z⟩
      |succ b=>
       have bf:(((b+1:Nat)):Int)-1=(b:Int):=O;rw[bf];have ce:(0:Int)<=(b:Int):=O;have cf:(b:Int)<(i:Int):=O;have⟨x,hz⟩:=bg p.2.2 (O:b<i);obtain⟨z,bs⟩:∃z,al=N (aj z 0):=by
        obtain⟨h,_⟩|⟨z,_,h⟩:=aC O;all_goals grind
       subst bs;have b6:wr.cell? (aj z b)=N (zI x):=by rw[c.out.2.2.2.2.2.cellAt b O,cJ,hz];rfl
       have ba:=G6 _ _ _ _ bb x c.2.1 (by rw[aG,c.out.1];omega);have a8:=c.2.2.1.push x;have br:q.drop b=x::q.drop (b+1):=by
        have a0:=dr.1 hz;rw[my a0.1,a0.2]
       have b0:=ah br;obtain⟨a0,bk⟩:∃a0:Int,((M<|C++D++o))=a0:=⟨_,R⟩;rw[bk]at ba a8;have b5:=ah a8;go_wp2_with (go_at_call 131;apply ba.mono;rintro H _ ⟨rfl,_,a3,bo⟩);refine⟨⟨b,_,o++[(x,bb)],O,R,R,?_,?_,?_,c.2.2.2.1.trans a3,c.2.2.2.2.1.trans bo,?_⟩,by simp[B1]⟩
       .rw[aG,c.out.1];grind
       .grind
       .grind
       .obtain⟨_,bD,_⟩:=c.2.1.ex;exact a3.row bD c.2.2.2.2.2 Z Z
theorem agC{e size g a d}{xs b:zLV}(p:M xs=n*size)
  (h:w.ownsRow base e size (bI g (n+d) a) (n+d) (xs++b)):w.ownsRow base e size (bI g n a) n xs:=by
 obtain⟨_,i⟩:=h;obtain⟨f,_⟩|⟨_,_,c,o,k,l,_,j,m,_⟩:=i
 .cases f
 .cases o;refine⟨p,.inr ⟨g,_,_,R,k,l,O,j,m,?_⟩⟩;have q:(c.toList.take<|(n+d)*size).take (n*size)=(xs++b).take (n*size):=U;grind
theorem agD{e size g a}{xs:zLV}(h:w.ownsRow base e size (bI g n a) n xs):n<=a:=by
 obtain⟨_,_⟩|⟨_,_,_,_,_,_,_,_,_,_⟩:=h.2;all_goals grind
def oB(a:zLI):Nat->zLI|0=>[]|j+1=>if(feedL a<|(j:Int)+1).2=true then oB a j++[(j:Int)+1] else oB a j
def Cs(a:zLI):zLI:=oB a 78
theorem zv(a):∀j,M (oB a j)<=j
 |0=>fG _|j+1=>by
  have:=zv a j;rw[oB];grind
theorem AF.put{g}(e:W.heap[mb]?=N (Ax #[g] 96 (0,0)))(f:base<=mb){v}(a:W.ownsRow base 179 2 v (M C) (cCl C)):AF (W.setCell (aj mb 0) v) base mb C:=by
 refine⟨⟨v,aD _ _ 0 _ _ _ e,?_⟩,f⟩;refine a.kept (row:=N mb) ⟨R,R,R,byS,λ_ _ _=>jg U⟩ ?_;obtain⟨_,rfl⟩|⟨c,_,rfl⟩:=aC a
 .exact .inl R
 .refine .inr ?_;intro b;obtain rfl:c=mb:=by simpa [S] using b
  obtain⟨d,_⟩|⟨_,_,_,d,_,_,_⟩:=a.2;all_goals grind
theorem Kp.put(h:Kp mb w W)(j v):Kp mb w (W.setCell (aj mb j) v):=
 h.trans ⟨R,R,R,byS,λ_ _ a _=>jg a⟩
def aja(w a mb)(h:AF w a mb []):
  A0 T 125 #[be mb 0] w λe w'=>e= .returned (zI 1)/\AF w' a mb [(6, -1),(100,0)]/\Kp mb w w'/\V a w w':=by
 go_in;go_wp2_with fail;apply(G6 w _ _ _ _ 6 h I).mono;rintro e w1 ⟨rfl,d,g,b⟩;simp[Int.natCast_zero];go_wp2_with fail;apply(G6 _ _ _ [(6, -1)] 0 _ d I).mono;rintro e _ ⟨rfl,f,p2,c⟩;simp[Int.natCast_one];go_wp2;go_ret;exact⟨R,f,g.trans p2,b.trans c⟩
structure apL (w:Q) (base mb:Nat) (C:List (Int×Int)) (st:zLI) (j:Nat) (vo:A9) (W:Q):Prop where
 m:AF W base mb C
 kp:Kp mb w W
 bl:V base w W
 row:W.ownsRow w.heap.size 3 1 vo (M<|oB st j) ((oB st j).map zI)
theorem agE(w j mb C d a2)(h:AF w j mb C)(bE:rf C a2 d)(bs:By d)(bf:0<M C)(bn:M C<=50000000:=by omega):
  A0 T 129 #[be mb 0,zI a2] w λe w'=>∃a c,e= .returned (X a (M<|Cs d) c)/\w'.ownsRow w.heap.size 3 1 (X a (M<|Cs d) c) (M<|Cs d) ((Cs d).map zI)/\AF w' j mb C/\Kp mb w w'/\V j w w':=by
 have⟨ck,ao,bA⟩:=h.ex;have cy:j<=w.heap.size:=by have:=ai ao;have:=h.lo;omega
 have K:=h.lo;have⟨k,ap⟩:=aw<|M C;obtain⟨z,v,rfl⟩:∃z v,ck=bI z k v:=by
  obtain⟨hz,_⟩|hz:=aC bA;all_goals grind
 have cr:w.cell? (aj mb 0)=N (bI z k v):=crV ao;have ch:apL w j mb C d 0 fe w:=⟨h,Kp.refl _ _,blR,onN⟩;have p:=jG ap bE bs;have cp:=ah ch;rw[ap]at bf bn;have⟨_,b4,b5,b6,b7⟩:=dw tD;go_in;go_wp21
 go_loopw [5,7] (λa3 af wr=>∃(b:Nat),b<=78/\af=zI (b+1)/\(∃a c,∃b9:Nat,a3=X a b9 c)/\Br (apL w j mb C d b a3 wr)) (λ_ af _=>(79-B1 af).toNat)
 .grind
 .
  obtain⟨b,_,rfl,⟨u,x,mv,rfl⟩,i⟩:=hrel;by_cases cx:b<78
  .have ax:((b:Int)+1)<=78:=O;have t:=Cp _ _ _ C _ _ _ i.m p.2.1 p.2.2 O ax;have⟨a4,bj⟩:=aw<|feedL d<|b+1;rw[bj]at t;have⟨a1,bx⟩:=aw a4.2;unfold xJ at t;rw[bx]at t;have ak:Br ((feedL d<|(b:Int)+1).2=a1):=U;obtain⟨l,an⟩:∃l:Int,b+1=l:=⟨_,R⟩;have cq:=ah an;have cu:l<=78:=O;have ct:1<=l:=O;rw[an]at t⊢;go_wp21
   apply t.mono;rintro e o ⟨_,D,rfl,ca,_,_,p2,a7⟩;have⟨cl,A,ad⟩:=ca.ex;rw[aG,p.out.1,agB]at ad;obtain⟨s,r,rfl⟩:∃z v,cl=X _ _ _:=by
    obtain⟨hz,_⟩|hz:=aC ad;all_goals omega
   have hcut:=agC (by rw[apK,p.out.1]) ad;have cw:=agD hcut;have z0:o.cell? (aj mb 0)=N (bI s (k+M D) r):=crV A;have cz:o.frozen? (aj mb 0)=false:=frR A;have cb:=AF.put A K (by rw[p.out.1];omega);have⟨_,b1,_⟩:=i.m.ex;have ce:=p2.row b1 i.row Z Z;have cf:(o.setCell (aj mb 0)<|bI s k r).ownsRow w.heap.size 3 1 (X u mv x) (M<|oB d b) ((oB d b).map zI):=
    ((Kp.refl _ _).put 0 _).row A ce Z Z
   have g:Br (apL w j mb C d b (X u mv x)<|o.setCell (aj mb 0)<|bI s k r):=
    ⟨cb,(i.kp.trans p2).put _ _,(i.bl.trans a7).setCell K _,cf⟩
   have⟨_,bh⟩:=aw<|k+M D;rw[bh]at z0;have bo:=zv d b;cases a1 with
   |false=>
    have e:oB d (b+1)=oB d b:=by rw[oB,ak.out,Bw]
    go_wp21
    refine⟨⟨b+1,O,?_,U,⟨g.m,g.kp,g.bl,U⟩⟩,?_⟩
    .grind
    .simp[B1];omega|true=>
    have e:oB d (b+1)=oB d b++[(b:Int)+1]:=by rw[oB,ak.out,ae rfl]
    have cm:Br (oB d (b+1)=oB d b++[l]):=U;have⟨a6,a8,F⟩:=aF g.row;cases F;have⟨mv,L⟩:=aw<|M<|oB d b;have cn:=ah L;rw[L]at bo⊢;have ar:=g.row;rw[L]at ar;have q:=ah ar;have bF:=g.kp.size;have am:Br ((o.setCell ⟨mb,0,A5⟩<|X (N ⟨s,0,A5⟩) k r).heap.size=o.heap.size):=byS;go_wp2_with (at_builtin;rw[<-am.out];generalize o.setCell (aj mb 0) (bI s k r)=a5 at g q bF⊢;apply nJ _ R _ _ _ R _ 3 _ _ 1 8 Tryz.underlying35 b4 b5 b6 b7 R Z _ _ _ R (q.alloc _) _ 1 1 [A3 _ l] rfl R (Y (cs:=#[A3 _ l])<|au _ _) (by intro _ a0;simp at a0;subst a0;rfl) byM O lr;intro _ E bt m _;obtain⟨bd,ba,rfl⟩:=A2 bt);have⟨_,b3,bD⟩:=g.m.ex;have bw:∀f,(A1 u mv x).ownBlock=N f->w.heap.size<=f:=λf n=>(q.out.lt f n).1;have bz:∀(f:Nat)(cs:zAV)(B:B0)(G:Nat×Nat),a5.heap[f]?=N (Ax cs B G)->B≠3->E.heap[f]?=N (Ax cs B G):=λf cs B G n ax=>by
     refine(m.block f (by simp;grind) (λe=>?_)).trans<|(alO U).trans n;have y:(A1 u mv x).ownBlock=N f:=e.symm;obtain⟨H,_⟩|⟨al,bb,bc,H,_,am,_⟩:=q.2
     .rw[H]at y;simp[S]at y
     .rw[H]at y;obtain rfl:al=f:=by simpa [S] using y
      grind
    have b8:Kp mb w E:=⟨m.os.trans g.kp.os,m.tape.trans g.kp.tape,m.output.trans g.kp.output,by have:=m.size;simp at this;omega,λf n br y=>
     (m.block f lr (λe=>by have:=bw f e.symm;omega)).trans ((alO O).trans<|g.kp.block f n br y)⟩
    have cc:AF E j mb C:=by
     refine⟨⟨_,bz _ _ _ _ b3 Z,?_⟩,K⟩;obtain⟨cd,H⟩:=bD;refine⟨cd,?_⟩;obtain H|⟨al,bb,bc,b0,bk,y,cg⟩:=H
     .omega
     .exact .inr ⟨_,_,_,b0,bk,U,cg⟩
    have al:apL w j mb C d (b+1) (bI bd (mv+1) ba) E:=by
     refine⟨cc,b8,?_,?_⟩
     .exact(g.bl.alloc O _).grown m lr (λf n=>by have:=(q.out.lt f n).1;omega)
     grind
    have H:=ah al;refine⟨⟨_,O,?_,U,H⟩,?_⟩
    .grind
    .simp[B1];omega
  .obtain rfl:b=78:=O;have⟨a6,a8,F⟩:=aF i.row;cases F;go_wp21
   go_ret;exact⟨_,_,R,i.row,i.m,i.kp,i.bl⟩
