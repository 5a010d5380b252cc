import Derived.Test.YtiaechpcebhcdaaGreatDoorHYk02
import Derived.WalkSmall
set_option linter.all false
set_option maxRecDepth 100000
set_option maxHeartbeats 25600000
open List renaming length->M
open Option renaming some->N,none->R
open Go.IntKind renaming i64->Q
open Go.Value renaming int->S,slice->T,ownBlock->X,slice->A5,int->A6,pointer->B0
open Go renaming World->V,Value->A3,ownsRow_succ->A9,Calls->Br,TypeId->B2
open Go.RowKit renaming Below->Y,Hid->B1,intOf->B3
open Go.Proofs.Tryz renaming prog->Ax
open Go.World renaming news_of_block->A0
open Go.Obj renaming cells->A2
namespace Go.Proofs.YtiaechpcebhcdaaGreatDoor
open Go.RowKit
variable{C:List (Int×Int)}{W w w':World}{base k mb n:Nat}{xs:List Value}
def af6{w1:V}{r:List Int×Bool}{e:Ending}(a:Y w.heap.size w w1)(h:lJ w1 r e w'):lJ w r e w':=by
 obtain⟨b,c,rfl,f,d⟩:=h;exact⟨b,c,rfl,nK f a.size,a.trans (d.mono a.size)⟩
def alG{p:Prop}[Decidable p] {a b:List Int×Bool}(c:M a.1<=6) (d:M b.1<=6):(if p then a else b).1.length<=6:=U
def af7(t:Int):(jv t).1.length<=6:=by
 unfold jv
 repeat' (first|(apply alG<;>skip)|exact Nat.le_of_ble_eq_true rfl)
def Em(w:V)(t:Int):Br Ax 57 #[S Q 100,S Q t] w (lJ w (afr t)):=by
 unfold afr;by_cases f:t=5
 .subst f;show Br _ _ _ _ (lJ w ([5,100],true));go_in;go_wp2_with (go_at_call 102;apply eE (xm _ _));go_ret2;exact sH w [5,100] true I
 .rw[aa f];have a:=λw=>abA w t;have d:=af7 t;generalize jv t=y at a d⊢;obtain⟨x,j⟩:=y;simp only at d⊢;have⟨C,c⟩:=aw (M x);have⟨q,r,s,u,v⟩:=eC tL;cases j with
  |true=>
   rw[ab rfl];unfold lJ at a⊢;simp only at a⊢;rw[aB,fy];rw[c]at a d⊢;clear c;go_in;go_wp2_with (first|(go_at_call 103;apply(a _).mono;rintro l w1 ⟨i,k,rfl,e,b⟩;have p:=b.size)|(at_builtin;apply pF _ rfl _ _ 98 rfl w.heap.size 3 q _ 1 8 Tryz.underlying98 r s u v rfl Z _ _ _ rfl (e.alloc _) ⟨w1.heap.size,0,R⟩ 1 1 [S Q 101] rfl rfl (A0 (cs:=#[S Q 101]) (fr:=(0,0)) (ay w1 _)) (by intro E h;simp at h;subst h;rfl) py O byT;intro F G g o B;obtain⟨A,z,rfl⟩:=A9 g));go_ret2;exact⟨_,_,rfl,g,(b.alloc p _).grown o byT (λm n=>(e.lt m n).1)⟩
  |false=>
   rw[Ga];unfold lJ at a;simp only at a;rw[c]at a;clear c;go_in;go_wp2_with (go_at_call 103;apply(a _).mono;rintro l w1 ⟨i,k,rfl,e,b⟩);go_ret2;exact af6 b (De _ true)
theorem aac(w:V)(s t:Int)(b:101<=s)(c:s<=133):Br Ax 57 #[S Q s,S Q t] w (lJ w (xE s t)):=by
 have f:=λw=>ud w t;have g:=λw=>BD w t;have h:=λw=>abB w t;obtain rfl|rfl|rfl|rfl|rfl|rfl|rfl|rfl|rfl|rfl|rfl|rfl|rfl|rfl|rfl|rfl|rfl|rfl|rfl|rfl|rfl|rfl|rfl|rfl|rfl|rfl|rfl|rfl|rfl|rfl|rfl|rfl|rfl:s=101\/s=102\/s=103\/s=104\/s=105\/s=106\/s=107\/s=108\/s=109\/s=110\/s=111\/s=112\/s=113\/s=114\/s=115\/s=116\/s=117\/s=118\/s=119\/s=120\/s=121\/s=122\/s=123\/s=124\/s=125\/s=126\/s=127\/s=128\/s=129\/s=130\/s=131\/s=132\/s=133:=O;all_goals
  clear b c;go_in;go_wp2_with (first|(go_at_call 102;apply eE (xm _ _))|(go_at_call 104;apply eE (f _))|(go_at_call 166;apply eE (g _))|(go_at_call 165;apply(h _).mono;rintro a k ⟨i,j,rfl,e,d⟩)|go_in);all_goals
   go_ret2;first
    |exact⟨_,_,rfl,e,d⟩
    |(go_tidy
      simp only[xE,ry,ak6,aro,ak7,ak8,ag8,ak9,ala,alb,alc,ag9,aou,aov,aha,ahb,aow,ahc,aox,aoy,arp,ald,ale,alf,arq,alg,ahd,alh,ahe,ali,alj,ahf,ars,art,ieq, *];simp[*];first|exact sH w _ _ I|exact De w _|(by_cases a:t=21<;>simp_all<;>(try rw[show(t==46||t==21)=false by simp[*]])<;>exact sH w _ _ I)|(by_cases a:t=44<;>simp_all<;>exact sH w _ _ (Z:2<=100)))
def Jd(w:V)(s t:Int)(c:100<=s)(b:s<=133):Br Ax 57 #[S Q s,S Q t] w (lJ w (xE s t)):=by
 by_cases a:s=100
 .subst a;exact Em w t
 .exact aac w s t O b
def aia:(Tryz.prog.info? 76).map (λi=>(i.zero,i.size,i.bytes))=N (N (.agg #[S Q 0,S Q 0]),2,16):=J
def cCl(C:List (Int×Int)):List A3:=C.flatMap λa=>[S Q a.1,S Q a.2]
def alH(C:List (Int×Int)):M (cCl C)=M C*2:=by
 induction C with
 |nil=>rfl
 |cons b c a=>simp only[cCl,zv,aB,db,fx]at a⊢;omega
def ad5(C D:List (Int×Int)):cCl (C++D)=cCl C++cCl D:=by simp[cCl]
theorem acf:∀(C:List (Int×Int))(i:Nat)(c:Int×Int),C[i]?=N c->(cCl C)[i*2]?=N (S Q c.1)/\(cCl C)[i*2+1]?=N (S Q c.2)
 |[],i,c,h=>U
 |a::r,0,c,h=>by
  obtain rfl:a=c:=U;exact rr
 |a::r,i+1,c,h=>by
  have e:=acf r i c U;have d:∀b,(cCl (a::r))[b+2]?=(cCl r)[b]?:=λb=>rfl;grind
structure sj (W:V) (base mb:Nat) (C:List (Int×Int)):Prop where
 ex:∃v,W.heap[mb]?=N (.cells #[v] 66 (0,0))/\W.ownsRow base 76 2 v (M C) (cCl C)
 lo:base<=mb
structure Kp (mb:Nat) (w w':V):Prop where
 os:w'.os=w.os
 tape:w'.tape=w.tape
 output:w'.output=w.output
 size:w.heap.size<=w'.heap.size
 block:∀k,k<w.heap.size->k≠mb->(∀cs fr,w.heap[k]?≠N (.cells cs 76 fr))->w'.heap[k]?=w.heap[k]?
def Kp.refl(mb:Nat)(w:V):Kp mb w w:=⟨rfl,rfl,rfl,cJ,λ_ _ _ _=>rfl⟩
theorem Kp.trans{x e z:V}(h:Kp mb x e)(k:Kp mb e z):Kp mb x z:=
 ⟨k.os.trans h.os,k.tape.trans h.tape,k.output.trans h.output,aK h.size k.size,λc a b d=>
  (k.block c (gF a h.size) b (λf g=>by rw[h.block c a b d];grind)).trans (h.block c a b d)⟩
def Kp.of_below(h:Y w.heap.size w w'):Kp mb w w':=⟨h.os,h.tape,h.output,h.size,λb a _ _=>h.block b a⟩
def Kp.blk(h:Kp mb w w'){cs:Array A3}{t:B2}{fr:Nat×Nat}(a:w.heap[k]?=N (A2 cs t fr))(ht:t≠76)(b:k≠mb):w'.heap[k]?=N (A2 cs t fr):=
 (h.block k (ah a) b (λc e d=>U)).trans a
theorem Kp.row(h:Kp mb w w'){p:A3}{d:Nat×Nat}(q:w.heap[mb]?=N (A2 #[p] 66 d)){e size:Nat}{v:A3}(o:w.ownsRow base e size v n xs)(j:e≠76)(r:e≠66):w'.ownsRow base e size v n xs:=by
 obtain⟨g,a⟩:=o;refine⟨g,?_⟩;rcases a with a|⟨f,b,c,l,k,i,m⟩
 .grind
 .refine .inr ⟨f,b,c,l,k,h.blk i j ?_,m⟩;grind
def sj.below{a:V}(h:sj W base mb C)(c:Y W.heap.size W a):sj a base mb C:=by
 have⟨e,b,d⟩:=h.ex;exact⟨⟨e,(c.block _ (ah b)).trans b,bz d c⟩,h.lo⟩
def sj.alloc(h:sj W base mb C)(o:Obj):sj (W.alloc o) base mb C:=h.below (de W o)
def kH(C:List (Int×Int)):Int->List Int->Prop
 |top,[]=>top= -1
 |top,s::r=>∃(i:Nat) (b:Int),top=(i:Int)/\C[i]?=N (s,b)/\kH C b r
def kH.app(D:List (Int×Int)):∀{st:List Int}{a:Int},kH C a st->kH (C++D) a st
 |[],a,h=>h
 |s::r,a,⟨i,b,c,d,h3⟩=>⟨i,b,c,U,h3.app D⟩
def kH.push{st:List Int}{a:Int}(h:kH C a st)(s:Int):kH (C++[(s,a)]) (M C:Int) (s::st):=
 ⟨M C,a,rfl,U,h.app _⟩
def kH.lt:∀{st:List Int}{a:Int},kH C a st-> -1<=a/\a<(M C:Int)
 |[],a,h=>by obtain rfl:a= -1:=h;omega
 |s::g,a,⟨f,b,c,d,e⟩=>U
theorem En(w:V)(base mb:Nat)(C:List (Int×Int))(k j:Int)(h:sj w base mb C)(ad:M C<=100000000):
  Br Ax 48 #[B0 (N ⟨mb,0,R⟩),S Q k,S Q j] w λe w'=>e= .returned (S Q (M C:Nat))/\sj w' base mb (C++[(j,k)])/\Kp mb w w'/\Y base w w':=by
 have⟨a1,r,g⟩:=h.ex;have A:=h.lo;have⟨i,B⟩:=aw (M C);rw[B]at g ad⊢;obtain⟨m,n,rfl⟩:=cG g;have⟨ak,al,am,an,ao⟩:=eC aia;have af:=ah r;have ap:w.cell? ⟨mb,0,R⟩=N (T m i n):=by rw[au _ _ _ _ _ _ r];rfl
 have E:∀c,(A5 m i n).ownBlock=N c->c≠mb/\base<=c:=λc f=>by
  refine⟨?_,(g.lt c f).1⟩;rintro rfl;rcases g.2 with⟨a,_⟩|⟨p,v,x,a,_,z,_⟩
  .rw[a]at f;simp[X]at f
  .rw[a]at f;obtain rfl:p=c:=by simpa [X] using f
   grind
 have l:=jB g r B;go_in;go_wp2_with (at_builtin;refine pF _ rfl _ _ 64 rfl base 76 ak _ 2 16 Tryz.underlying64 al am an ao rfl Z _ _ _ rfl (l.1.alloc _) ⟨w.heap.size,0,R⟩ 1 1 [S Q j,S Q k] rfl rfl (A0 (cs:=#[S Q j,S Q k]) (fr:=(0,0)) (ay w _)) (by intro a0 F;simp at F;rcases F with rfl|rfl<;>rfl) py O byT ?_;intro a2 G u b aL;obtain⟨y,K,rfl⟩:=A9 u;have s:=(b.block mb byT (λe=>(E mb e.symm).1 rfl)).trans ((dG _ _ _ af).trans l.2.1);have a3:G.cell? ⟨mb,0,R⟩=N (T m i n):=(by rw[au _ _ _ _ _ _ s];rfl);have ar:G.frozen? ⟨mb,0,R⟩=false:=cD _ _ _ _ _ s);go_ret;have ag:=b.size;rw[fp]at ag;refine⟨by go_num,⟨⟨T (N ⟨y,0,R⟩) (i+1) K,aI _ mb 0 _ _ _ s,?_⟩,A⟩,?_,?_⟩
 .rw[aB,l.out.2.2,ad5];refine u.kept (row:=N mb) ⟨rfl,rfl,rfl,byS,λd q t=>az _ _ _ _ (λe=>t (by rw[e]))⟩ ?_;refine .inr ?_;intro e;obtain rfl:y=mb:=by simpa [X] using e
  rcases u.2 with⟨a,_⟩|⟨p,v,x,a,_,z,_⟩;all_goals grind
 .refine⟨b.os,b.tape,b.output,by simp[World.setCell];omega,λd q t av=>?_⟩;rw[az _ _ _ _ t];refine(b.block d byT (λe=>?_)).trans (dG _ _ _ q);have o:(A5 m i n).ownBlock=N d:=e.symm;rcases l.1.2 with⟨a,_⟩|⟨p,v,x,a,_,z,_⟩
  .rw[a]at o;simp[X]at o
  .rw[a]at o;obtain rfl:p=d:=by simpa [X] using o
   grind
 .have L:base<=w.heap.size:=O;have H:Y base w (w.alloc (A2 #[S Q j,S Q k] 76)):=(ai _ w).alloc L _;exact(H.grown b byT (λd q=>(E d q).2)).setCell A _
def Bg:∀{f:Nat}{st:List Int}{t:Int}{n:Nat}{lo:List Int}{b:Option Bool}{m:Nat},fi f st t n=N (lo,b,m)->n<=m
 |0,_,_,_,_,_,_,h=>by simp[fi]at h
 |f+1,[],t,n,lo,b,m,h=>by
  simp only[fi,iL,pA]at h;omega
 |f+1,s::r,t,n,lo,b,m,h=>by
  by_cases c:s<100
  .have:=(sF h c).2.2;omega
  .rcases lI h O with⟨_,a⟩|⟨_,_,_,a⟩
   .have:=Bg a;omega
   .omega
structure Eo (w:V) (base mb:Nat) (C:List (Int×Int)) (t:Int) (Res:List Int×Bool) (k:Nat) (stk:List Int) (top:Int) (D:List (Int×Int)) (W:V):Prop where
 m:sj W base mb (C++D)
 s:kH (C++D) top stk
 o:yu stk
 kp:Kp mb w W
 bl:Y base w W
 d:M D<=20
 ph:(D=[]/\feedL stk t=Res/\M stk+9<=k)\/∃cur r f lo b m,stk=cur++r/\fi f cur t (M D)=N (lo,N b,m)/\(lo++r,b)=Res/\m<=20/\f<=k
def Eo.nil{t:Int}{a:List Int×Bool}{i:Int}{D:List (Int×Int)}(h:Eo w base mb C t a k [] i D W):a=([],false):=by
 rcases h.ph with⟨_,e,_⟩|⟨d,n,c,l,j,m,f,b,_⟩
 .rw[<-e];rfl
 .have g:d=[]:=(List.append_eq_nil_iff.1 f.symm).1;subst g;cases c with
  |zero=>simp[fi]at b
  |succ c=>simp[fi]at b
theorem Eo.tok{w:V}{base mb:Nat}{C:List (Int×Int)}{t:Int}{c:List Int×Bool}{k:Nat}{s:Int}{f:List Int}{j:Int}{D:List (Int×Int)}{W:V}(h:Eo w base mb C t c k (s::f) j D W)(e:s<100):c=(f,decide (s=t)):=by
 rcases h.ph with⟨_,g,_⟩|⟨d,q,b,o,l,p,i,a,m,_⟩
 .rw[<-g];exact jw e
 .cases d with
  |nil=>
   cases b with
   |zero=>simp[fi]at a
   |succ b=>simp[fi]at a
  |cons r d=>
   obtain⟨rfl,rfl⟩:=rh i;cases b with
   |zero=>simp[fi]at a
   |succ b=>
    obtain⟨rfl,n,_⟩:=sF a e;grind
theorem Eo.no{t:Int}{d:List Int×Bool}{s:Int}{g:List Int}{v:Int}{D:List (Int×Int)}(h:Eo w base mb C t d k (s::g) v D W)(r:0<=t)(u:t<=78)(c:100<=s)(y:(xE s t).2=false):d=(g,false):=by
 rcases h.ph with⟨_,j,_⟩|⟨e,B,b,q,i,z,l,a,x,_⟩
 .have f:¬((xE s t).1=[]/\(xE s t).2=true):=U;have⟨q,i,A,a,_⟩:=vC c (h.o s (bH ..)) r u f;rw[<-j,mC c f a];rcases lI a c with⟨m,_⟩|⟨_,n,p,_⟩;all_goals grind
 .cases e with
  |nil=>
   cases b with
   |zero=>simp[fi]at a
   |succ b=>simp[fi]at a
  |cons E e=>
   obtain⟨rfl,rfl⟩:=rh l;cases b with
   |zero=>simp[fi]at a
   |succ b=>
    rcases lI a c with⟨m,_⟩|⟨_,n,p,_⟩;all_goals grind
theorem Eo.step{w:V}{base mb:Nat}{C:List (Int×Int)}{t:Int}{x:List Int×Bool}{k:Nat}{s:Int}{b:List Int}{ao:Int}{D:List (Int×Int)}{W:V}(h:Eo w base mb C t x k (s::b) ao D W)(A:0<=t)(B:t<=78)(e:100<=s)(hx:(xE s t).2=true){E:List (Int×Int)}{v:Int}{f:V}(ad:M E=(xE s t).1.length)
  (aL:sj f base mb (C++D++E)) (a0:kH (C++D++E) v ((xE s t).1++b)) (q:Kp mb w f) (p:Y base w f):M D+(xE s t).1.length<=20/\∃z,z<k/\Eo w base mb C t x z ((xE s t).1++b) v (D++E) f:=by
 have y:=h.o s (bH ..);have a1:=(adz e y A B).1;have j:yu ((xE s t).1++b):=λap hx=>by
  rcases List.mem_append.1 hx with hx|hx
  .grind
  .exact h.o ap (dC _ hx)
 have r:sj f base mb (C++(D++E)):=U;have i:kH (C++(D++E)) v ((xE s t).1++b):=U;have L:M (D++E)=M D+(xE s t).1.length:=U;rcases h.ph with⟨K,n,av⟩|⟨m,an,c,u,l,al,F,a,G,H,ar⟩
 .subst K;by_cases g:(xE s t).1=[]/\(xE s t).2=true
  .rw[g.1]at ad i j L⊢;have af:E=[]:=tG O;subst af;refine⟨I,M b+9,U,r,i,j,q,p,I,.inl ⟨rfl,?_,cJ⟩⟩;rw[dI,<-n,mA e g]
  .have⟨u,l,am,a,ak⟩:=vC e y A B g;rw[mC e g a]at n;rcases lI a e with⟨_,d⟩|⟨d,_⟩
   .rw[dD]at d;have ag:=Bg d;refine⟨U,7,O,r,i,j,q,p,U,.inr ⟨(xE s t).1,b,7,u,l,am,rfl,?_,n,ak,cJ⟩⟩;grind
   grind
 .cases m with
  |nil=>
   cases c with
   |zero=>simp[fi]at a
   |succ c=>simp[fi]at a
  |cons a2 m=>
   obtain⟨rfl,rfl⟩:=rh F;cases c with
   |zero=>simp[fi]at a
   |succ c=>
    rcases lI a e with⟨_,d⟩|⟨d,_⟩
    .have ag:=Bg d;refine⟨O,c,O,r,i,j,q,p,O,.inr ⟨(xE s t).1++m,an,c,u,l,al,U,?_,G,H,cJ⟩⟩;grind
    grind
def oK(w:V)(base mb:Nat)(C:List (Int×Int))(b:List Int×Bool)(e:Ending)(a:V):Prop:=
 ∃(c:Int) (D:List (Int×Int)),e= .returned (.tuple #[S Q c,.bool b.2])/\sj a base mb (C++D)/\kH (C++D) c b.1/\M D<=20/\Kp mb w a/\Y base w a
theorem qA(w:V)(base mb:Nat)(C:List (Int×Int))(st:List Int)(av t:Int)(h:sj w base mb C)(cu:kH C av st)(bv:yu st)(ao:0<=t)(ap:t<=78)(cq:M C<=50000000:=by omega):
  Br Ax 25 #[B0 (N ⟨mb,0,R⟩),S Q av,S Q t] w (oK w base mb C (feedL st t)):=by
 have⟨x,a2⟩:=aw (feedL st t);rw[a2];have b7:B1 (Eo w base mb C t x (M st+9) st av [] w):=⟨U,U,bv,Kp.refl _ _,ai _ _,I,.inl ⟨rfl,a2,cJ⟩⟩;go_in;go_wp2;go_loopg [1] (M st+9) (λbD a1 wr=>∃(an:List Int) (q:Int) (D:List (Int×Int)),a1= S Q q/\B1 (Eo w base mb C t x bD an q D wr))
 case atStart=>grind
 case round=>
  obtain⟨an,q,D,rfl,a⟩:=hrel;cases an with
  |nil=>
   have K:=a.s;subst K;have i:=aj a.nil;go_wp2;go_ret2;refine⟨-1,D,?_,a.m,?_,a.d,a.kp,a.bl⟩
   .rw[i.out];rfl
   .rw[i.out];rfl
  |cons e ar=>
   have⟨f,n,bs,a3,A⟩:=a.s;subst bs;have⟨bd,ad,af⟩:=a.m.ex;have bt:=(List.getElem?_eq_some_iff.1 a3).1;obtain⟨j,H,rfl⟩:∃j H,bd= T (N ⟨j,0,R⟩) (M (C++D)) H:=by
    rcases bm af with⟨hz,_⟩|hz;all_goals omega
   have ce:=acf _ f _ a3;have⟨ak,a6⟩:=aw (M (C++D));have cg:=a.d;have ct:ak<=50000020:=U;rw[a6]at ad bt;have bf:wr.cell? ⟨mb,0,R⟩=N (T (N ⟨j,0,R⟩) ak H):=by rw[au _ _ _ _ _ _ ad];rfl
   obtain⟨r,L⟩:∃r:Addr,(⟨j,0,R⟩:Addr)=r:=⟨_,rfl⟩;have cb:wr.cell? (r.add (f*2))=N (S Q e):=by rw[<-L,show((⟨j,0,R⟩:Addr).add (f*2))=⟨j,f*2,R⟩ by unfold Addr.add;grind];exact by rw[af.cellAt (f*2) O];grind
   have cc:wr.cell? ⟨(r.add (f*2)).block,(r.add (f*2)).off+1,R⟩=N (S Q n):=by rw[<-L,show((⟨j,0,R⟩:Addr).add (f*2))=⟨j,f*2,R⟩ by unfold Addr.add;grind];exact by rw[af.cellAt (f*2+1) O];grind
   rw[L]at bf;have ck:(f:Int)<(ak:Int):=O;have ch:(0:Int)<=(f:Int):=O;have cd:base<=wr.heap.size:=aK (by obtain⟨bd,bh,_⟩:=h.ex;have:=ah bh;have:=h.lo;omega) a.bl.size;have b6:=jB a6 ad A;by_cases bx:e<100
   .have i:B1 (x=(ar,decide (e=t))):=a.tok bx;have bo:∀al,Y base wr (wr.alloc al).drew:=λal=>bu ((ai _ wr).alloc O al);have cf:(wr.alloc (A2 #[S Q e,S Q n] 76)).cell? ⟨wr.heap.size,0,R⟩=N (S Q e):=byS;go_wp2_with fail;go_region_held3 (λb4=>b4.cell? ⟨wr.heap.size,0,R⟩=N (S Q e)) (go_keep) (fail)
    go_wp2;go_ret2;have s:Y wr.heap.size wr (wr.alloc (A2 #[S Q e,S Q n] 76)).drew:=bu (de wr _);refine⟨n,D,?_,a.m.below s,?_,a.d,a.kp.trans (Kp.of_below s),a.bl.trans (bo _)⟩
    .rw[i.out];rfl
    .rw[i.out];omega
   .have z:100<=e:=O;have a9:e<=133:=a.o e (bH ..);have B:=λw=>Jd w e t z a9;have bb:=(adz z a9 ao ap).2;have⟨p,ag⟩:=aw ((xE e t).1);have⟨b0,a8⟩:=aw ((xE e t).2);unfold lJ at B;rw[ag,a8]at B;rw[ag]at bb;have⟨g,a7⟩:=aw (M p);rw[a7]at B bb;have o:=jB ag a8 a7;have s:=de wr (A2 #[S Q e,S Q n] 76);go_wp2_with fail;apply(B _).mono;rintro K u ⟨am,rc,rfl,bw,bk⟩;have G:Y wr.heap.size wr u:=s.trans (bk.mono s.size);have l:B1 (sj u base mb (C++D)/\Kp mb w u/\Y base w u/\u.ownsRow base 3 1 (T am g rc) g (p.map (A6 Q))):=
     ⟨a.m.below G,a.kp.trans (Kp.of_below G),a.bl.trans (G.mono O),nK bw byT⟩
    cases b0 with
    |false=>
     have i:B1 (x=(ar,false)):=a.no ao ap z o.2.1;go_wp2;go_ret2;refine⟨n,D,?_,l.1,?_,a.d,l.2.1,l.2.2.1⟩
     .rw[i.out];rfl
     .rw[i.out];omega
    |true=>
     have cs:M (C++D)<=50000020:=O;go_wp2;go_loopw [1,11] (λa1 a0 E=>∃(b:Nat) (q:Int) (k:List (Int×Int)),b<=g/\a0= S Q ((b:Int)-1)/\a1= S Q q/\B1 (M k=g-b/\sj E base mb (C++D++k)/\kH (C++D++k) q (p.drop b++ar)/\Kp mb w E/\Y base w E/\E.ownsRow base 3 1 (T am g rc) g (p.map (A6 Q)))) (λ_ a0 _=>(B3 a0+1).toNat)
     case atStart=>
      refine⟨g,n,[],cJ,rfl,rfl,I,?_,?_,l.2.1,l.2.2.1,l.2.2.2⟩
      .rw[dD];exact l.1
      grind
     case round=>
      obtain⟨b,aL,k,cl,rfl,rfl,c⟩:=hrel;cases b with
      |zero=>
       have A:=c.2.2.1;rw[ni,<-o.out.1]at A;have⟨_,bE,cp,b3⟩:=a.step ao ap z o.2.1 (by rw[o.out.1,o.out.2.2];exact c.1) c.2.1 A c.2.2.2.1 c.2.2.2.2.1;go_wp2;go_roundg bE
       case measure=>omega
       case rel=>exact⟨_,aL,_,rfl,aj b3⟩
      |succ b=>
       have bg:(((b+1:Nat)):Int)-1=(b:Int):=O;rw[bg];have cm:(0:Int)<=(b:Int):=O;have cn:(b:Int)<(g:Int):=O;have⟨v,hz⟩:=dh o.2.2 (O:b<g);obtain⟨y,br⟩:∃y,am=N ⟨y,0,R⟩:=by
        rcases bm c.2.2.2.2.2 with⟨h,_⟩|⟨y,b9,h⟩;all_goals grind
       subst br;have ca:wr.cell? ⟨y,b,R⟩=N (S Q v):=by rw[c.out.2.2.2.2.2.cellAt b O,dw,hz];rfl
       have bc:=En wr base mb (C++D++k) aL v c.2.1 (by rw[aB,c.out.1];omega);have ba:=c.2.2.1.push v;have bp:p.drop b=v::p.drop (b+1):=by
        have a4:=List.getElem?_eq_some_iff.1 hz;rw[ja a4.1,a4.2]
       have b5:=aj bp;obtain⟨F,bj⟩:∃F:Int,((M (C++D++k):Nat):Int)=F:=⟨_,rfl⟩;rw[bj]at bc ba;have b8:=aj ba;go_wp2_with (go_at_call 48;apply bc.mono;rintro K cw ⟨rfl,cr,a5,bn⟩);refine⟨⟨b,F,k++[(v,aL)],O,rfl,rfl,?_,?_,?_,c.2.2.2.1.trans a5,c.2.2.2.2.1.trans bn,?_⟩,by simp[B3]⟩
       .rw[aB,c.out.1];grind
       .grind
       .grind
       .obtain⟨cv,bA,_⟩:=c.2.1.ex;exact a5.row bA c.2.2.2.2.2 Z Z
theorem ad6{e:B2}{size g cap d:Nat}{b:List A3}(o:M xs=n*size)
  (h:w.ownsRow base e size (T (N ⟨g,0,R⟩) (n+d) cap) (n+d) (xs++b)):w.ownsRow base e size (T (N ⟨g,0,R⟩) n cap) n xs:=by
 obtain⟨_,f⟩:=h;rcases f with⟨c,_⟩|⟨q,p,a,m,j,k,s,i,l,t⟩
 .cases c
 .cases m;refine⟨o,.inr ⟨g,cap,a,rfl,j,k,O,i,l,?_⟩⟩;have r:(a.toList.take ((n+d)*size)).take (n*size)=(xs++b).take (n*size):=U;grind
theorem ad7{e:B2}{size g cap:Nat}(h:w.ownsRow base e size (T (N ⟨g,0,R⟩) n cap) n xs):n<=cap:=by
 rcases h.2 with⟨d,_⟩|⟨c,a,b,o,i,j,k,f,l,m⟩;all_goals grind
def lA(st:List Int):Nat->List Int
 |0=>[]
 |j+1=>if(feedL st ((j:Int)+1)).2=true then lA st j++[(j:Int)+1] else lA st j
def jH(st:List Int):List Int:=lA st 78
theorem tq(st:List Int):∀j,M (lA st j)<=j
 |0=>ix _
 |j+1=>by
  have:=tq st j;rw[lA];grind
theorem sj.put{W:V}{base mb:Nat}{C:List (Int×Int)}{g:A3}(e:W.heap[mb]?=N (A2 #[g] 66 (0,0)))(lo:base<=mb){v:A3}(b:W.ownsRow base 76 2 v (M C) (cCl C)):sj (W.setCell ⟨mb,0,R⟩ v) base mb C:=by
 refine⟨⟨v,aI _ mb 0 _ _ _ e,?_⟩,lo⟩;refine b.kept (row:=N mb) ⟨rfl,rfl,rfl,byS,λn m f=>az _ _ _ _ (λa=>f (by rw[a]))⟩ ?_;rcases bm b with⟨_,rfl⟩|⟨c,h,rfl⟩
 .exact .inl rfl
 .refine .inr ?_;intro a;obtain rfl:c=mb:=by simpa [X] using a
  rcases b.2 with⟨d,_⟩|⟨k,i,j,d,_,l,_⟩;all_goals grind
def Kp.put{mb:Nat}{w W:V}(h:Kp mb w W)(j:Nat)(v:A3):Kp mb w (W.setCell ⟨mb,j,R⟩ v):=
 h.trans ⟨rfl,rfl,rfl,byS,λb _ a _=>az _ _ _ _ a⟩
def Hd(w:V)(base mb:Nat)(h:sj w base mb []):
  Br Ax 22 #[B0 (N ⟨mb,0,R⟩)] w λe w'=>e= .returned (S Q 1)/\sj w' base mb [(6, -1),(100,0)]/\Kp mb w w'/\Y base w w':=by
 go_in;go_wp2_with fail;apply(En w base mb [] (-1) 6 h I).mono;rintro e w1 ⟨rfl,c,f,a⟩;simp only[fx,Int.natCast_zero];go_wp2_with fail;apply(En w1 base mb [(6, -1)] 0 100 c I).mono;rintro e g ⟨rfl,d,p2,b⟩;simp only[db,fx,ny,Int.natCast_one];go_wp2;go_ret;exact⟨rfl,d,f.trans p2,a.trans b⟩
structure alI (w:V) (base mb:Nat) (C:List (Int×Int)) (st:List Int) (j:Nat) (vo:A3) (W:V):Prop where
 m:sj W base mb C
 kp:Kp mb w W
 bl:Y base w W
 row:W.ownsRow w.heap.size 3 1 vo (M (lA st j)) ((lA st j).map (A6 .i64))
theorem Je(w:V)(base mb:Nat)(C:List (Int×Int))(st:List Int)(ag:Int)(h:sj w base mb C)(bA:kH C ag st)(br:yu st)(bg:0<M C)(bn:M C<=50000000:=by omega):
  Br Ax 58 #[B0 (N ⟨mb,0,R⟩),S Q ag] w λe w'=>∃a c,e= .returned (T a (M (jH st)) c)/\w'.ownsRow w.heap.size 3 1 (T a (M (jH st)) c) (M (jH st)) ((jH st).map (A6 Q))/\sj w' base mb C/\Kp mb w w'/\Y base w w':=by
 have⟨cl,ar,bw⟩:=h.ex;have c1:base<=w.heap.size:=by have:=ah ar;have:=h.lo;omega
 have L:=h.lo;have⟨i,aL⟩:=aw (M C);obtain⟨s,q,rfl⟩:∃s q,cl= T (N ⟨s,0,R⟩) i q:=by
  rcases bm bw with⟨hz,_⟩|hz;all_goals grind
 have cw:w.cell? ⟨mb,0,R⟩=N (T (N ⟨s,0,R⟩) i q):=by rw[au _ _ _ _ _ _ ar];rfl
 have ch:alI w base mb C st 0 (T R 0 0) w:=⟨h,Kp.refl _ _,ai _ _,dA _ _ _ _⟩;have o:=jB aL bA br;have cr:=aj ch;rw[aL]at bg bn;have⟨b3,b4,b5,b6,b7⟩:=eC tL;go_in;go_wp21
 go_loopw [5,7] (λa6 ak wr=>∃(b:Nat),b<=78/\ak= S Q ((b:Int)+1)/\(∃a c,∃b9:Nat,a6= T a b9 c)/\B1 (alI w base mb C st b a6 wr)) (λ_ ak _=>(79-B3 ak).toNat)
 case atStart=>grind
 case round=>
  obtain⟨b,cB,rfl,⟨v,x,n,rfl⟩,g⟩:=hrel;by_cases cF:b<78
  .have a2:((b:Int)+1)<=78:=O;have u:=qA wr base mb C st ag ((b:Int)+1) g.m o.2.1 o.2.2 O a2;have⟨a8,bj⟩:=aw (feedL st ((b:Int)+1));rw[bj]at u;have⟨a4,bv⟩:=aw a8.2;unfold oK at u;rw[bv]at u;have al:B1 ((feedL st ((b:Int)+1)).2=a4):=U;obtain⟨l,ap⟩:∃l:Int,(b:Int)+1=l:=⟨_,rfl⟩;have ct:=aj ap;have cz:l<=78:=O;have cy:1<=l:=O;rw[ap]at u⊢;go_wp21
   refine u.mono ?_;rintro e k ⟨c2,D,rfl,ca,_,cx,p2,bb⟩;have⟨cm,z,af⟩:=ca.ex;rw[aB,o.out.1,ad5]at af;obtain⟨t,r,rfl⟩:∃s q,cm= T (N ⟨s,0,R⟩) (i+M D) q:=by
    rcases bm af with⟨hz,_⟩|hz;all_goals omega
   have hcut:=ad6 (by rw[alH,o.out.1]) af;have cA:=ad7 hcut;have z0:k.cell? ⟨mb,0,R⟩=N (T (N ⟨t,0,R⟩) (i+M D) r):=by rw[au _ _ _ _ _ _ z];rfl
   have c6:k.frozen? ⟨mb,0,R⟩=false:=cD _ _ _ _ _ z;have cb:=sj.put z L (by rw[o.out.1];omega);have⟨c5,b0,_⟩:=g.m.ex;have ce:=p2.row b0 g.row Z Z;have cf:(k.setCell ⟨mb,0,R⟩ (T (N ⟨t,0,R⟩) i r)).ownsRow w.heap.size 3 1 (T v n x) (M (lA st b)) ((lA st b).map (A6 Q)):=
    ((Kp.refl mb k).put 0 _).row z ce Z Z
   have f:B1 (alI w base mb C st b (T v n x) (k.setCell ⟨mb,0,R⟩ (T (N ⟨t,0,R⟩) i r))):=
    ⟨cb,(g.kp.trans p2).put _ _,(g.bl.trans bb).setCell L _,cf⟩
   have⟨cu,bh⟩:=aw (i+M D);rw[bh]at z0;have bo:=tq st b;cases a4 with
   |false=>
    have e:lA st (b+1)=lA st b:=by rw[lA,al.out,Ga]
    go_wp21
    refine⟨⟨b+1,O,?_,⟨_,_,_,rfl⟩,⟨f.m,f.kp,f.bl,U⟩⟩,?_⟩
    .grind
    .simp[B3];omega
   |true=>
    have e:lA st (b+1)=lA st b++[(b:Int)+1]:=by rw[lA,al.out,ab rfl]
    have cp:B1 (lA st (b+1)=lA st b++[l]):=U;have⟨ba,bc,F⟩:=cG f.row;cases F;have⟨n,ad⟩:=aw (M (lA st b));have cq:=aj ad;rw[ad]at bo⊢;have a1:=f.row;rw[ad]at a1;have p:=aj a1;have bD:=f.kp.size;have ao:B1 ((k.setCell ⟨mb,0,R⟩ (T (N ⟨t,0,R⟩) i r)).heap.size=k.heap.size):=byS;go_wp2_with (at_builtin;rw[<-ao.out];generalize k.setCell ⟨mb,0,R⟩ (T (N ⟨t,0,R⟩) i r)=E at f p bD⊢;refine pF _ rfl _ _ 98 rfl w.heap.size 3 b3 _ 1 8 Tryz.underlying98 b4 b5 b6 b7 rfl Z _ _ _ rfl (p.alloc _) ⟨E.heap.size,0,R⟩ 1 1 [S Q l] rfl rfl (A0 (cs:=#[S Q l]) (fr:=(0,0)) (ay E _)) (by intro c3 a3;simp at a3;subst a3;rfl) py O byT ?_;intro c4 B bs m cI;obtain⟨bf,bd,rfl⟩:=A9 bs);have⟨cn,b1,bx⟩:=f.m.ex;have bt:∀d,(A5 v n x).ownBlock=N d->w.heap.size<=d:=λd j=>(p.out.lt d j).1;have a0:∀(d:Nat)(cs:Array A3)(A:B2)(fr:Nat×Nat),E.heap[d]?=N (A2 cs A fr)->A≠3->B.heap[d]?=N (A2 cs A fr):=λd cs A fr j a2=>by
     refine(m.block d (by simp;grind) (λe=>?_)).trans ((dG _ _ _ (ah j)).trans j);have y:(A5 v n x).ownBlock=N d:=e.symm;rcases p.2 with⟨H,_⟩|⟨G,am,an,H,_,ao,_⟩
     .rw[H]at y;simp[X]at y
     .rw[H]at y;obtain rfl:G=d:=by simpa [X] using y
      grind
    have b8:Kp mb w B:=⟨m.os.trans f.kp.os,m.tape.trans f.kp.tape,m.output.trans f.kp.output,by have:=m.size;simp at this;omega,λd j bp K=>
     (m.block d byT (λe=>by have:=bt d e.symm;omega)).trans ((dG _ _ _ O).trans (f.kp.block d j bp K))⟩
    have cc:sj B base mb C:=by
     refine⟨⟨cn,a0 _ _ _ _ b1 Z,?_⟩,L⟩;obtain⟨cd,a5⟩:=bx;refine⟨cd,?_⟩;rcases a5 with a5|⟨G,am,an,bE,bk,K,cg⟩
     .omega
     .exact .inr ⟨G,am,an,bE,bk,a0 _ _ _ _ K Z,cg⟩
    have ck:alI w base mb C st (b+1) (T (N ⟨bf,0,R⟩) (n+1) bd) B:=by
     refine⟨cc,b8,?_,?_⟩
     .exact(f.bl.alloc O _).grown m byT (λd j=>by have:=(p.out.lt d j).1;omega)
     grind
    have a7:=aj ck;refine⟨⟨b+1,O,?_,⟨_,_,_,rfl⟩,a7⟩,?_⟩
    .grind
    .simp[B3];omega
  .obtain rfl:b=78:=O;have⟨ba,bc,F⟩:=cG g.row;cases F;go_wp21
   go_ret;exact⟨_,_,rfl,g.row,g.m,g.kp,g.bl⟩
