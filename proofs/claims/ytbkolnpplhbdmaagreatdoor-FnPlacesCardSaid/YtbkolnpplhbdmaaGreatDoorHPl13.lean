import Derived.Test.YtbkolnpplhbdmaaGreatDoorHPl11
import Derived.Test.YtbkolnpplhbdmaaGreatDoorHPl05
import Derived.WalkSmall
set_option linter.all false
set_option maxRecDepth 100000
set_option maxHeartbeats 25600000
open Go.Proofs.Tryz
open Option renaming some->M,none->Y
open Go.Value renaming int->O,slice->Z,ownBlock->Ad,pointer->Bn,int->Br,string->B1,string->B3,slice->B6,bool->Ce,agg->C2,tuple->Ex
open Go.IntKind renaming i64->U,u8->E1
open Go renaming World->Ak,Value->Ax,Calls->A5,TypeId->B0,ownsRow_succ->B7,maxLen->Ck
open Go.Proofs.Tryz renaming prog->A0
open Go.Obj renaming cells->A1
open Go.Ending renaming returned->A2
open Go.World renaming setCell->A3,news_of_block->Bk
open Go.RowKit renaming Hid->A9,Below->B2
open Bool renaming false->Bc,true->B4
namespace Go.Proofs.YtbkolnpplhbdmaaGreatDoor
open Go.RowKit
variable{C:List (Int×Int)}{L L1:List Mb}{W w w':World}{base g gb mb n s:Nat}{p r:Nat×TypeId×Array Value}{v:Value}{xs:List Value}
def lK(w:Ak)(r:List Int×Bool)(e:Ending)(c:Ak):Prop:=
 ∃a b,e= A2 (Ex #[Z a r.1.length b,Ce r.2])/\c.ownsRow w.heap.size 3 1 (Z a r.1.length b) r.1.length (r.1.map (Br U))/\cg w c
def agH(w:Ak)(l:List Int)(n:Nat)(a:l.length=n)(b:n<=100):(w.alloc (A1 (l.map (Br U)).toArray 3)).ownsRow w.heap.size 3 1 (Z (M ⟨w.heap.size,0,Y⟩) n n) n (l.map (Br U)):=by
 have:=vw (base:=w.heap.size) (e:=3) (size:=1) w (l.map (Br U)).toArray n (ag _) (by unfold Ck;omega) (by simp[a]);simpa using this
def sr(w:Ak)(l:List Int)(b:Bool)(a:l.length<=100):lK w (l,b) (A2 (Ex #[Z (M ⟨w.heap.size,0,Y⟩) l.length l.length,Ce b])) (w.alloc (A1 (l.map (Br U)).toArray 3)):=
 ⟨_,_,rfl,agH w l _ rfl a,dC w _⟩
def CG(w:Ak)(b:Bool):lK w ([],b) (A2 (Ex #[Z Y 0 0,Ce b])) w:=⟨_,_,rfl,fs _ _ _ _,ah _ w⟩
def wm(v:Ax)(w:Ak):A5 A0 136 #[v] w (jt w v):=by
 go_in;go_wp2;go_ret;exact⟨rfl,rfl⟩
def tu(w:Ak)(t:Int):A5 A0 200 #[O U t] w (jt w (Ce (jE t))):=by
 by_cases b:t=25\/t=50\/t=62\/t=69
 .have a:jE t=B4:=be b;rw[a];rcases b with rfl|rfl|rfl|rfl;all_goals
   go_in;go_wp2;go_ret;exact⟨rfl,rfl⟩
 .have a:jE t=Bc:=az b;rw[a];have c:¬t=25:=by omega
  have d:¬t=50:=by omega
  have e:¬t=62:=by omega
  have f:¬t=69:=by omega
  have g:(t==25)=Bc:=beq_eq_false_iff_ne.2 c;have h:(t==50)=Bc:=beq_eq_false_iff_ne.2 d;have i:(t==62)=Bc:=beq_eq_false_iff_ne.2 e;have j:(t==69)=Bc:=beq_eq_false_iff_ne.2 f;go_in;go_wp2;go_ret;exact⟨rfl,rfl⟩
def Bm(w:Ak)(t:Int):A5 A0 203 #[O U t] w (jt w (Ce (gG t))):=by
 by_cases b:t=10\/t=26
 .have a:gG t=B4:=be (by omega);rw[a];rcases b with rfl|rfl;all_goals
   go_in;go_wp2;go_ret;exact⟨rfl,rfl⟩
 .have c:¬t=10:=by omega
  have d:¬t=26:=by omega
  have e:(t==10)=Bc:=beq_eq_false_iff_ne.2 c;have f:(t==26)=Bc:=beq_eq_false_iff_ne.2 d;by_cases g:60<t
  .have a:gG t=B4:=be (by omega);rw[a];go_in;go_wp2;go_ret;exact⟨rfl,rfl⟩
  .have a:gG t=Bc:=az (by omega);rw[a];go_in;go_wp2;go_ret;exact⟨rfl,rfl⟩
def tw(w:Ak)(t:Int):A5 A0 138 #[O U t] w (jt w (Ce (eE t))):=by
 by_cases a:t=1\/t=2\/t=3\/t=4\/t=24\/t=29\/t=17\/t=49\/t=18\/t=40\/t=42
 .have b:eE t=B4:=by unfold eE;rw[be a];rfl
  rw[b];rcases a with rfl|rfl|rfl|rfl|rfl|rfl|rfl|rfl|rfl|rfl|rfl;all_goals
   go_in;go_wp2;go_ret;exact⟨rfl,rfl⟩
 .have b:eE t=jE t:=by unfold eE;rw[az a];rfl
  rw[b];simp only[not_or]at a;obtain⟨_,_,_,_,_,_,_,_,_,_,_⟩:=a;have c:=λw=>tu w t;generalize jE t=d at c⊢;go_in;go_wp2_with (go_at_call 200;refine fC (c _) ?_);go_ret;exact⟨rfl,rfl⟩
open Go.Maps Go.WideMaps
def gC{e size:Nat}(o:W.ownsRow base e size v n xs){cs:Array Ax}{t:B0}{fr:Nat×Nat}(c:W.heap[g]?=M (A1 cs t fr))(ht:t≠e):v.ownBlock≠M g:=λa=>by
 rcases o.2 with⟨b,_⟩|⟨d,h,i,b,_,f,_⟩
 .rw[b]at a;simp[Ad]at a
 .rw[b]at a;obtain rfl:d=g:=by simpa [Ad] using a
  rw[f]at c;cases c;exact ht rfl
def tz{e size:Nat}(o:W.ownsRow base e size v n xs)(a:v.ownBlock≠M g)(q:Nat)(u:Ax):(W.setCell ⟨g,q,Y⟩ u).ownsRow base e size v n xs:=
 o.kept (row:=M g) ⟨rfl,rfl,rfl,by simp[A3],λf d b=>ay _ _ _ _ (λe=>b (by rw[e]))⟩ (by
  cases hv:v.ownBlock with
  |none=>exact .inl rfl
  |some c=>exact .inr (λe=>a (by rw[hv,e])))
def za:(Tryz.prog.info? 34).map (λi=>(i.zero,i.size,i.bytes))=M (M (C2 #[O U 0,O U 0,O U 0,O U 0,O U 0,O U 0,B1 ⟨#[]⟩,Z Y 0 0,Z Y 0 0]),9,112):=by kernel_rfl
abbrev wA(N:Nd)(vn vk:Ax):Array Ax:=#[O U N.k,O U N.f,O U N.t,O U N.l,O U N.op,O U N.n,B1 N.x,vn,vk]
def ieq(t c:Int):(t=c)=((t==c)=B4):=by simp
def aa8(w:Ak)(t:Int):A5 A0 137 #[O U t] w (lK w (DH t)):=by
 go_in;go_wp2_with (go_at_call 136;refine fC (wm _ _) ?_);all_goals
  go_ret2;go_tidy
  simp only[DH,ieq, *];simp[*];first|exact sr w _ _ (by simp)|exact CG w _
def aa9(w:Ak)(t:Int):A5 A0 202 #[O U t] w (lK w (DI t)):=by
 have b:=λw=>tu w t;have a:=λw=>tw w t;go_in;go_wp2_with (first|(go_at_call 136;refine fC (wm _ _) ?_)|(go_at_call 200;refine fC (b _) ?_)|(go_at_call 138;refine fC (a _) ?_));all_goals
  go_ret2;go_tidy
  simp only[DI,ieq, *];simp[*];first|exact sr w _ _ (by simp)|exact CG w _
def aeK{w1:Ak}{r:List Int×Bool}{e:Ending}(a:cg w w1)(h:lK w1 r e w'):lK w r e w':=by
 obtain⟨b,c,rfl,f,d⟩:=h;exact⟨b,c,rfl,zL f a.size,a.trans (d.mono a.size)⟩
def akg{p:Prop}[Decidable p] {a b:List Int×Bool}(c:a.1.length<=6) (d:b.1.length<=6):(if p then a else b).1.length<=6:=by split<;>assumption
def aeL(t:Int):(DH t).1.length<=6:=by
 unfold DH
 repeat' (first|(apply akg<;>skip)|exact Nat.le_of_ble_eq_true rfl)
def D3(w:Ak)(t:Int):A5 A0 72 #[O U 100,O U t] w (lK w (ann t)):=by
 unfold ann;by_cases f:t=5
 .subst f;show A5 _ _ _ _ (lK w ([5,100],B4));go_in;go_wp2_with (go_at_call 136;refine fC (wm _ _) ?_);go_ret2;exact sr w [5,100] B4 (by simp)
 .rw[aa f];have a:=λw=>aa8 w t;have d:=aeL t;generalize DH t=y at a d⊢;obtain⟨x,j⟩:=y;simp only at d⊢;have⟨C,c⟩:=aC x.length;have⟨q,r,s,u,v⟩:=fh yy;cases j with
  |true=>
   rw[ab rfl];unfold lK at a⊢;simp only at a⊢;rw[aG,eJ];rw[c]at a d⊢;clear c;go_in;go_wp2_with (first|(go_at_call 137;refine(a _).mono ?_;rintro l w1 ⟨i,k,rfl,e,b⟩;have p:=b.size)|(at_builtin;refine vz _ rfl _ _ 32 rfl w.heap.size 3 q _ 1 8 underlying32 r s u v rfl (by decide) _ _ _ rfl (e.alloc _) ⟨w1.heap.size,0,Y⟩ 1 1 [O U 101] rfl rfl (Bk (cs:=#[O U 101]) (fr:=(0,0)) (aA w1 _)) (by intro E h;simp at h;subst h;rfl) (by unfold Ck;omega) (by omega) (by simp;omega) ?_;intro F w5 g o B;obtain⟨A,z,rfl⟩:=B7 g));go_ret2;exact⟨_,_,rfl,g,(b.alloc p _).grown o (by simp;omega) (λm n=>(e.lt m n).1)⟩
  |false=>
   rw[aa (by decide)];unfold lK at a;simp only at a;rw[c]at a;clear c;go_in;go_wp2_with (go_at_call 137;refine(a _).mono ?_;rintro l w1 ⟨i,k,rfl,e,b⟩);go_ret2;exact aeK b (CG _ B4)
def KF(w:Ak)(s t:Int)(b:101<=s)(c:s<=133):A5 A0 72 #[O U s,O U t] w (lK w (xE s t)):=by
 have f:=λw=>tw w t;have g:=λw=>Bm w t;have h:=λw=>aa9 w t;obtain rfl|rfl|rfl|rfl|rfl|rfl|rfl|rfl|rfl|rfl|rfl|rfl|rfl|rfl|rfl|rfl|rfl|rfl|rfl|rfl|rfl|rfl|rfl|rfl|rfl|rfl|rfl|rfl|rfl|rfl|rfl|rfl|rfl:s=101\/s=102\/s=103\/s=104\/s=105\/s=106\/s=107\/s=108\/s=109\/s=110\/s=111\/s=112\/s=113\/s=114\/s=115\/s=116\/s=117\/s=118\/s=119\/s=120\/s=121\/s=122\/s=123\/s=124\/s=125\/s=126\/s=127\/s=128\/s=129\/s=130\/s=131\/s=132\/s=133:=by omega
 all_goals
  clear b c;go_in;go_wp2_with (first|(go_at_call 136;refine fC (wm _ _) ?_)|(go_at_call 138;refine fC (f _) ?_)|(go_at_call 203;refine fC (g _) ?_)|(go_at_call 202;refine(h _).mono ?_;rintro a k ⟨i,j,rfl,e,d⟩)|go_in);all_goals
   go_ret2;first
    |exact⟨_,_,rfl,e,d⟩
    |(go_tidy
      simp only[xE,If,aqa,aqb,ano,anp,anq,aqc,aqd,aj2,aqe,aqf,aqg,aqh,aqi,aqj,aqk,aql,aqm,aqn,anr,aj3,ant,anu,anv,anw,aqp,aqq,aqr,anx,aqs,anz,aqt,aqu,ieq, *];simp[*];first|exact sr w _ _ (by simp)|exact CG w _|(by_cases a:t=21<;>simp_all<;>(try rw[show(t==46||t==21)=Bc by simp[*]])<;>exact sr w _ _ (by simp))|(by_cases a:t=44<;>simp_all<;>exact sr w _ _ (show 2<=100 by decide)))
def Ir(w:Ak)(s t:Int)(c:100<=s)(b:s<=133):A5 A0 72 #[O U s,O U t] w (lK w (xE s t)):=by
 by_cases a:s=100
 .subst a;exact D3 w t
 .exact KF w s t (by omega) b
def agI:(Tryz.prog.info? 170).map (λi=>(i.zero,i.size,i.bytes))=M (M (C2 #[O U 0,O U 0]),2,16):=by kernel_rfl
def cCl(C:List (Int×Int)):List Ax:=C.flatMap λa=>[O U a.1,O U a.2]
def akh(C D:List (Int×Int)):cCl (C++D)=cCl C++cCl D:=by simp[cCl]
def agJ:∀(C:List (Int×Int))(i:Nat)(c:Int×Int),C[i]?=M c->(cCl C)[i*2]?=M (O U c.1)/\(cCl C)[i*2+1]?=M (O U c.2)
 |[],i,c,h=>by simp at h
 |a::r,0,c,h=>by
  obtain rfl:a=c:=by simpa using h
  exact⟨rfl,rfl⟩
 |a::r,i+1,c,h=>by
  have e:=agJ r i c (by simpa using h);have d:∀b,(cCl (a::r))[b+2]?=(cCl r)[b]?:=λb=>rfl;rw[show(i+1)*2=i*2+2 by omega,show i*2+2+1=(i*2+1)+2 by omega,d,d];exact e
structure CH (W:Ak) (base mb:Nat) (C:List (Int×Int)):Prop where
 ex:∃v,W.heap[mb]?=M (.cells #[v] 102 (0,0))/\W.ownsRow base 170 2 v C.length (cCl C)
 lo:base<=mb
structure Kp (mb:Nat) (w w':Ak):Prop where
 os:w'.os=w.os
 tape:w'.tape=w.tape
 output:w'.output=w.output
 size:w.heap.size<=w'.heap.size
 block:∀k,k<w.heap.size->k≠mb->(∀cs fr,w.heap[k]?≠M (.cells cs 170 fr))->w'.heap[k]?=w.heap[k]?
def Kp.refl(mb:Nat)(w:Ak):Kp mb w w:=⟨rfl,rfl,rfl,ag _,λ_ _ _ _=>rfl⟩
def Kp.trans{x e z:Ak}(h:Kp mb x e)(k:Kp mb e z):Kp mb x z:=
 ⟨k.os.trans h.os,k.tape.trans h.tape,k.output.trans h.output,bG h.size k.size,λd b c a=>
  (k.block d (iB b h.size) c (λf g=>by rw[h.block d b c a];exact a f g)).trans (h.block d b c a)⟩
def Kp.of_below(h:cg w w'):Kp mb w w':=⟨h.os,h.tape,h.output,h.size,λb a _ _=>h.block b a⟩
def Kp.blk(h:Kp mb w w'){k:Nat}{cs:Array Ax}{t:B0}{fr:Nat×Nat}(a:w.heap[k]?=M (A1 cs t fr))(ht:t≠170)(c:k≠mb):w'.heap[k]?=M (A1 cs t fr):=
 (h.block k (ai a) c (λd e b=>by rw[a]at b;cases b;exact ht rfl)).trans a
def Kp.row(h:Kp mb w w'){r:Ax}{f:Nat×Nat}(j:w.heap[mb]?=M (A1 #[r] 102 f)){e size:Nat}(o:w.ownsRow base e size v n xs)(k:e≠170)(l:e≠102):w'.ownsRow base e size v n xs:=by
 obtain⟨i,b⟩:=o;refine⟨i,?_⟩;rcases b with b|⟨g,c,d,p,m,a,q⟩
 .exact .inl b
 .refine .inr ⟨g,c,d,p,m,h.blk a k ?_,q⟩;rintro rfl;rw[j]at a;simp only[fw,lF]at a;exact l a.2.1.symm
def CH.below{a:Ak}(h:CH W base mb C)(c:cg W a):CH a base mb C:=by
 have⟨e,b,d⟩:=h.ex;exact⟨⟨e,(c.block _ (ai b)).trans b,dA d c⟩,h.lo⟩
def qu(C:List (Int×Int)):Int->List Int->Prop
 |top,[]=>top= -1
 |top,s::r=>∃(i:Nat) (b:Int),top=(i:Int)/\C[i]?=M (s,b)/\qu C b r
def qu.app(D:List (Int×Int)):∀{st:List Int}{a:Int},qu C a st->qu (C++D) a st
 |[],a,h=>h
 |s::r,a,⟨i,b,d,c,e⟩=>⟨i,b,d,by rw[gw (List.getElem?_eq_some_iff.1 c).1];exact c,e.app D⟩
def qu.push{st:List Int}{a:Int}(h:qu C a st)(s:Int):qu (C++[(s,a)]) (C.length:Int) (s::st):=
 ⟨C.length,a,rfl,by rw[eD (ag _),fx];rfl,h.app _⟩
def D4(w:Ak)(base mb:Nat)(C:List (Int×Int))(m l:Int)(h:CH w base mb C)(K:C.length<=100000000):
  A5 A0 73 #[Bn (M ⟨mb,0,Y⟩),O U m,O U l] w λe w'=>e= A2 (O U (C.length:Nat))/\CH w' base mb (C++[(l,m)])/\Kp mb w w'/\B2 base w w':=by
 have⟨a0,g,j⟩:=h.ex;have A:=h.lo;have⟨k,B⟩:=aC C.length;rw[B]at j K⊢;obtain⟨o,p,rfl⟩:=di j;have⟨af,ak,al,an,ao⟩:=fh agI;have L:=ai g;have ap:w.cell? ⟨mb,0,Y⟩=M (Z o k p):=by rw[aj _ _ _ _ _ _ g];rfl
 have E:∀c,(B6 o k p).ownBlock=M c->c≠mb/\base<=c:=λc i=>by
  refine⟨?_,(j.lt c i).1⟩;rintro rfl;rcases j.2 with⟨a,_⟩|⟨r,x,y,a,_,d,_⟩
  .rw[a]at i;simp[Ad]at i
  .rw[a]at i;obtain rfl:r=c:=by simpa [Ad] using i
   rw[d]at g;cases g
 have n:=kK j g B;go_in;go_wp2_with (at_builtin;refine vz _ rfl _ _ 100 rfl base 170 af _ 2 16 underlying100 ak al an ao rfl (by decide) _ _ _ rfl (n.1.alloc _) ⟨w.heap.size,0,Y⟩ 1 1 [O U l,O U m] rfl rfl (Bk (cs:=#[O U l,O U m]) (fr:=(0,0)) (aA w _)) (by intro aK F;simp at F;rcases F with rfl|rfl<;>rfl) (by unfold Ck;omega) (by omega) (by simp;omega) ?_;intro a1 w5 v b av;obtain⟨z,H,rfl⟩:=B7 v;have s:=(b.block mb (by simp;omega) (λe=>(E mb e.symm).1 rfl)).trans ((eI _ _ _ L).trans n.2.1);have a2:w5.cell? ⟨mb,0,Y⟩=M (Z o k p):=(by rw[aj _ _ _ _ _ _ s];rfl);have ar:w5.frozen? ⟨mb,0,Y⟩=Bc:=cH _ _ _ _ _ s);go_ret;have ad:=b.size;rw[fe]at ad;refine⟨by go_num,⟨⟨Z (M ⟨z,0,Y⟩) (k+1) H,bp _ mb 0 _ _ _ s,?_⟩,A⟩,?_,?_⟩
 .rw[aG,n.out.2.2,akh];refine v.kept (row:=M mb) ⟨rfl,rfl,rfl,by simp[A3],λf t u=>ay _ _ _ _ (λe=>u (by rw[e]))⟩ ?_;refine .inr ?_;intro e;obtain rfl:z=mb:=by simpa [Ad] using e
  rcases v.2 with⟨a,_⟩|⟨r,x,y,a,_,d,_⟩
  .cases a
  .cases a;rw[s]at d;cases d
 .refine⟨b.os,b.tape,b.output,by simp[A3];omega,λf t u J=>?_⟩;rw[ay _ _ _ _ u];refine(b.block f (by simp;omega) (λe=>?_)).trans (eI _ _ _ t);have q:(B6 o k p).ownBlock=M f:=e.symm;rcases n.1.2 with⟨a,_⟩|⟨r,x,y,a,_,d,_⟩
  .rw[a]at q;simp[Ad]at q
  .rw[a]at q;obtain rfl:r=f:=by simpa [Ad] using q
   exact J _ _ d
 .have I:base<=w.heap.size:=by omega
  have G:B2 base w (w.alloc (A1 #[O U l,O U m] 170)):=(ah _ w).alloc I _;exact(G.grown b (by simp;omega) (λf t=>(E f t).2)).setCell A _
def As:∀{f:Nat}{st:List Int}{t:Int}{n:Nat}{lo:List Int}{b:Option Bool}{m:Nat},gB f st t n=M (lo,b,m)->n<=m
 |0,_,_,_,_,_,_,h=>by simp[gB]at h
 |f+1,[],t,n,lo,b,m,h=>by
  simp only[gB,fw,jo]at h;omega
 |f+1,s::r,t,n,lo,b,m,h=>by
  by_cases c:s<100
  .have:=(sf h c).2.2;omega
  .rcases lJ h (by omega) with⟨_,a⟩|⟨_,_,_,a⟩
   .have:=As a;omega
   .omega
structure D5 (w:Ak) (base mb:Nat) (C:List (Int×Int)) (t:Int) (Res:List Int×Bool) (k:Nat) (stk:List Int) (top:Int) (D:List (Int×Int)) (W:Ak):Prop where
 m:CH W base mb (C++D)
 s:qu (C++D) top stk
 o:yG stk
 kp:Kp mb w W
 bl:B2 base w W
 d:D.length<=20
 ph:(D=[]/\dm stk t=Res/\stk.length+9<=k)\/∃cur r f lo b m,stk=cur++r/\gB f cur t D.length=M (lo,M b,m)/\(lo++r,b)=Res/\m<=20/\f<=k
def D5.nil{w:Ak}{base mb:Nat}{C:List (Int×Int)}{t:Int}{a:List Int×Bool}{k:Nat}{i:Int}{D:List (Int×Int)}{W:Ak}(h:D5 w base mb C t a k [] i D W):a=([],Bc):=by
 rcases h.ph with⟨_,e,_⟩|⟨d,n,c,l,j,m,f,b,_⟩
 .rw[<-e];rfl
 .have g:d=[]:=(List.append_eq_nil_iff.1 f.symm).1;subst g;cases c with
  |zero=>simp[gB]at b
  |succ c=>simp[gB]at b
def D5.tok{w:Ak}{base mb:Nat}{C:List (Int×Int)}{t:Int}{c:List Int×Bool}{k:Nat}{s:Int}{tl:List Int}{l:Int}{D:List (Int×Int)}{W:Ak}(h:D5 w base mb C t c k (s::tl) l D W)(e:s<100):c=(tl,decide (s=t)):=by
 rcases h.ph with⟨_,f,_⟩|⟨d,p,b,n,m,o,g,a,i,_⟩
 .rw[<-f];exact lI e
 .cases d with
  |nil=>
   cases b with
   |zero=>simp[gB]at a
   |succ b=>simp[gB]at a
  |cons q d=>
   obtain⟨rfl,rfl⟩:=gL g;cases b with
   |zero=>simp[gB]at a
   |succ b=>
    obtain⟨rfl,j,_⟩:=sf a e;rw[<-i,aJ j];rfl
def D5.no{t:Int}{i:List Int×Bool}{k:Nat}{s:Int}{tl:List Int}{x:Int}{D:List (Int×Int)}(h:D5 w base mb C t i k (s::tl) x D W)(u:1<=t)(v:t<=78)(d:100<=s)(g:(xE s t).2=Bc):i=(tl,Bc):=by
 rcases h.ph with⟨_,n,_⟩|⟨j,A,c,r,m,y,p,a,q,_⟩
 .have l:¬((xE s t).1=[]/\(xE s t).2=B4):=by rw[g];simp
  have⟨r,m,z,a,_⟩:=Ah d (h.o s (aI ..)) u v l;rw[<-n,qg d l a];rcases lJ a d with⟨b,_⟩|⟨_,e,f,_⟩
  .rw[g]at b;cases b
  .rw[e,aJ f];rfl
 .cases j with
  |nil=>
   cases c with
   |zero=>simp[gB]at a
   |succ c=>simp[gB]at a
  |cons B j=>
   obtain⟨rfl,rfl⟩:=gL p;cases c with
   |zero=>simp[gB]at a
   |succ c=>
    rcases lJ a d with⟨b,_⟩|⟨_,e,f,_⟩
    .rw[g]at b;cases b
    .rw[<-q,e,aJ f];rfl
def D5.step{w:Ak}{base mb:Nat}{C:List (Int×Int)}{t:Int}{y:List Int×Bool}{k:Nat}{s:Int}{tl:List Int}{aK:Int}{D:List (Int×Int)}{W:Ak}(h:D5 w base mb C t y k (s::tl) aK D W)(B:1<=t)(F:t<=78)(d:100<=s)(hx:(xE s t).2=B4){E:List (Int×Int)}{x:Int}{e:Ak}(p:E.length=(xE s t).1.length)
  (af:CH e base mb (C++D++E)) (an:qu (C++D++E) x ((xE s t).1++tl)) (r:Kp mb w e) (q:B2 base w e):D.length+(xE s t).1.length<=20/\∃A,A<k/\D5 w base mb C t y A ((xE s t).1++tl) x (D++E) e:=by
 have z:=h.o s (aI ..);have ao:=(acx d z B F).1;have j:yG ((xE s t).1++tl):=λG hx=>by
  rcases List.mem_append.1 hx with hx|hx
  .exact ao G hx
  .exact h.o G (cG _ hx)
 have u:CH e base mb (C++(D++E)):=by rw[<-bC];exact af
 have i:qu (C++(D++E)) x ((xE s t).1++tl):=by rw[<-bC];exact an
 have f:(D++E).length=D.length+(xE s t).1.length:=by rw[aG,p]
 rcases h.ph with⟨K,n,ad⟩|⟨m,av,c,v,l,ap,H,b,I,J,a0⟩
 .subst K;by_cases g:(xE s t).1=[]/\(xE s t).2=B4
  .rw[g.1]at p i j f⊢;have L:E=[]:=lD (by simpa using p);subst L;refine⟨by simp,tl.length+9,by simp only[bc]at ad;omega,u,i,j,r,q,by simp,.inl ⟨rfl,?_,ag _⟩⟩;rw[dI,<-n,qe d g]
  .obtain⟨v,l,ar,b,al⟩:=Ah d z B F g;rw[qg d g b]at n;rcases lJ b d with⟨_,a⟩|⟨a,_⟩
   .rw[dk]at a;have ak:=As a;refine⟨by simp only[dE];omega,7,by omega,u,i,j,r,q,by rw[f];simp only[dE];omega,.inr ⟨(xE s t).1,tl,7,v,l,ar,rfl,?_,n,al,ag _⟩⟩;rw[f];exact a
   .rw[hx]at a;cases a
 .cases m with
  |nil=>
   cases c with
   |zero=>simp[gB]at b
   |succ c=>simp[gB]at b
  |cons a1 m=>
   obtain⟨rfl,rfl⟩:=gL H;cases c with
   |zero=>simp[gB]at b
   |succ c=>
    rcases lJ b d with⟨_,a⟩|⟨a,_⟩
    .have ak:=As a;refine⟨by omega,c,by omega,u,i,j,r,q,by rw[f];omega,.inr ⟨(xE s t).1++m,av,c,v,l,ap,by rw[bC];rfl,?_,I,J,ag _⟩⟩;rw[f];exact a
    .rw[hx]at a;cases a
def zb(w:Ak)(base mb:Nat)(C:List (Int×Int))(b:List Int×Bool)(e:Ending)(a:Ak):Prop:=
 ∃(c:Int) (D:List (Int×Int)),e= A2 (Ex #[O U c,Ce b.2])/\CH a base mb (C++D)/\qu (C++D) c b.1/\D.length<=20/\Kp mb w a/\B2 base w a
def D6(w:Ak)(base mb:Nat)(C:List (Int×Int))(st:List Int)(F t:Int)(h:CH w base mb C)(cc:qu C F st)(ca:yG st)(av:1<=t)(aK:t<=78)(c2:C.length<=50000000):
  A5 A0 37 #[Bn (M ⟨mb,0,Y⟩),O U F,O U t] w (zb w base mb C (dm st t)):=by
 have⟨y,a4⟩:=aC (dm st t);rw[a4];have cf:base<=w.heap.size:=by obtain⟨bj,bx,_⟩:=h.ex;have:=ai bx;have:=h.lo;omega
 have bo:A9 (D5 w base mb C t y (st.length+9) st F [] w):=⟨by rw[dk];exact h,by rw[dk];exact cc,ca,Kp.refl _ _,ah _ _,by simp,.inl ⟨rfl,a4,ag _⟩⟩;go_in;go_wp2;go_loopg [1] (st.length+9) (λck a3 wr=>∃(ar:List Int) (q:Int) (D:List (Int×Int)),a3= O U q/\A9 (D5 w base mb C t y ck ar q D wr))
 case atStart=>exact⟨st,F,[],rfl,bo⟩
 case round=>
  obtain⟨ar,q,D,rfl,a⟩:=hrel;cases ar with
  |nil=>
   have K:=a.s;subst K;have k:=am a.nil;go_wp2;go_ret2;refine⟨-1,D,?_,a.m,?_,a.d,a.kp,a.bl⟩
   .rw[k.out];rfl
   .rw[k.out];exact a.s
  |cons e a0=>
   have⟨f,l,b6,a5,B⟩:=a.s;subst b6;have⟨bj,ad,ak⟩:=a.m.ex;have b7:=(List.getElem?_eq_some_iff.1 a5).1;obtain⟨g,J,rfl⟩:∃g J,bj= Z (M ⟨g,0,Y⟩) (C++D).length J:=by
    rcases bJ ak with⟨hz,_⟩|hz
    .omega
    .exact hz
   have a6:=agJ _ f _ a5;have bt:wr.cell? ⟨g,f*2,Y⟩=M (O U e):=by rw[ak.cellAt (f*2) (by omega)];exact a6.1
   have bv:wr.cell? ⟨g,f*2+1,Y⟩=M (O U l):=by rw[ak.cellAt (f*2+1) (by omega)];exact a6.2
   have⟨an,af⟩:=aC ((C++D).length);have cx:=a.d;have c4:an<=50000020:=by rw[<-af,aG];omega
   rw[af]at ad b7;have bs:wr.cell? ⟨mb,0,Y⟩=M (Z (M ⟨g,0,Y⟩) an J):=by rw[aj _ _ _ _ _ _ ad];rfl
   obtain⟨r,L⟩:∃r:Addr,(⟨g,0,Y⟩:Addr)=r:=⟨_,rfl⟩;have ct:wr.cell? (r.add (f*2))=M (O U e):=by rw[<-L,show((⟨g,0,Y⟩:Addr).add (f*2))=⟨g,f*2,Y⟩ by unfold Addr.add;split<;>simp_all];exact bt
   have cu:wr.cell? ⟨(r.add (f*2)).block,(r.add (f*2)).off+1,Y⟩=M (O U l):=by rw[<-L,show((⟨g,0,Y⟩:Addr).add (f*2))=⟨g,f*2,Y⟩ by unfold Addr.add;split<;>simp_all];exact bv
   rw[L]at bs;have cB:(f:Int)<(an:Int):=by omega
   have cy:(0:Int)<=(f:Int):=by omega
   have cv:base<=wr.heap.size:=bG cf a.bl.size;have x:=kK af ad B;by_cases cd:e<100
   .have k:A9 (y=(a0,decide (e=t))):=a.tok cd;have b3:∀ao,B2 base wr (wr.alloc ao).drew:=λao=>bF ((ah _ wr).alloc (by omega) ao);have cw:(wr.alloc (A1 #[O U e,O U l] 170)).cell? ⟨wr.heap.size,0,Y⟩=M (O U e):=by rw[aj _ _ _ _ _ _ (aA wr _)];rfl
    go_wp2_with fail;go_region_held3 (λcq=>cq.cell? ⟨wr.heap.size,0,Y⟩=M (O U e)) (go_keep) (fail)
    go_wp2;go_ret2;have s:cg wr (wr.alloc (A1 #[O U e,O U l] 170)).drew:=bF (dC wr _);refine⟨l,D,?_,a.m.below s,?_,a.d,a.kp.trans (Kp.of_below s),a.bl.trans (b3 _)⟩
    .rw[k.out];rfl
    .rw[k.out];exact x.2.2
   .have A:100<=e:=by omega
    have bb:e<=133:=a.o e (aI ..);have E:=λw=>Ir w e t A bb;have bf:=(acx A bb av aK).2;have⟨p,al⟩:=aC ((xE e t).1);have⟨cn,ba⟩:=aC ((xE e t).2);unfold lK at E;rw[al,ba]at E;rw[al]at bf;have⟨i,a9⟩:=aC p.length;rw[a9]at E bf;have o:=kK al ba a9;have s:=dC wr (A1 #[O U e,O U l] 170);go_wp2_with fail;refine(E _).mono ?_;rintro K u ⟨ap,rc,rfl,cb,bE⟩;have I:cg wr u:=s.trans (bE.mono s.size);have n:A9 (CH u base mb (C++D)/\Kp mb w u/\B2 base w u/\u.ownsRow base 3 1 (Z ap i rc) i (p.map (Br U))):=
     ⟨a.m.below I,a.kp.trans (Kp.of_below I),a.bl.trans (I.mono (by omega)),zL cb (by simp;omega)⟩
    cases cn with
    |false=>
     have k:A9 (y=(a0,Bc)):=a.no av aK A o.2.1;go_wp2;go_ret2;refine⟨l,D,?_,n.1,?_,a.d,n.2.1,n.2.2.1⟩
     .rw[k.out];rfl
     .rw[k.out];exact x.2.2
    |true=>
     have c3:(C++D).length<=50000020:=by rw[x.out.1];omega
     go_wp2;go_loopw [1,11] (λa3 a2 G=>∃(b:Nat) (q:Int) (j:List (Int×Int)),b<=i/\a2= O U ((b:Int)-1)/\a3= O U q/\A9 (j.length=i-b/\CH G base mb (C++D++j)/\qu (C++D++j) q (p.drop b++a0)/\Kp mb w G/\B2 base w G/\G.ownsRow base 3 1 (Z ap i rc) i (p.map (Br U)))) (λ_ a2 _=>(intOf a2+1).toNat)
     case atStart=>
      refine⟨i,l,[],ag _,rfl,rfl,by simp,?_,?_,n.2.1,n.2.2.1,n.2.2.2⟩
      .rw[dk];exact n.1
      .rw[dk,lE (by rw[o.out.2.2];exact ag _)];exact x.2.2
     case round=>
      obtain⟨b,a1,j,cF,rfl,rfl,c⟩:=hrel;cases b with
      |zero=>
       have B:=c.2.2.1;rw[kC,<-o.out.1]at B;have⟨_,cl,b8,cp⟩:=a.step av aK A o.2.1 (by rw[o.out.1,o.out.2.2];exact c.1) c.2.1 B c.2.2.2.1 c.2.2.2.2.1;have bn:=am cp;go_wp2;go_roundg cl
       case measure=>exact b8
       case rel=>exact⟨_,a1,_,rfl,bn⟩
      |succ b=>
       have bw:(((b+1:Nat)):Int)-1=(b:Int):=by omega
       rw[bw];have cI:(0:Int)<=(b:Int):=by omega
       have c1:(b:Int)<(i:Int):=by omega
       have⟨v,hz⟩:=cJ o.2.2 (show b<i by omega);obtain⟨z,b5⟩:∃z,ap=M ⟨z,0,Y⟩:=by
        rcases bJ c.2.2.2.2.2 with⟨h,_⟩|⟨z,cr,h⟩
        .omega
        .cases h;exact⟨_,rfl⟩
       subst b5;have cs:wr.cell? ⟨z,b,Y⟩=M (O U v):=by rw[c.out.2.2.2.2.2.cellAt b (by omega),cD,hz];rfl
       have bA:(C++D++j).length<=100000000:=by rw[aG,c.out.1];omega
       have bh:=D4 wr base mb (C++D++j) a1 v c.2.1 bA;have bd:=c.2.2.1.push v;have b4:p.drop b=v::p.drop (b+1):=by
        have a7:=List.getElem?_eq_some_iff.1 hz;rw[kL a7.1,a7.2]
       have bk:=am b4;obtain⟨H,bD⟩:∃H:Int,(((C++D++j).length:Nat):Int)=H:=⟨_,rfl⟩;rw[bD]at bh bd;have br:=am bd;go_wp2_with (go_at_call 73;refine bh.mono ?_;rintro K c7 ⟨rfl,b9,a8,b0⟩);refine⟨⟨b,H,j++[(v,a1)],by omega,rfl,rfl,?_,?_,?_,c.2.2.2.1.trans a8,c.2.2.2.2.1.trans b0,?_⟩,by simp[intOf]⟩
       .rw[aG,c.out.1];simp;omega
       .rw[<-bC];exact b9
       .rw[<-bC,bk.out];exact br
       .obtain⟨c6,ce,_⟩:=c.2.1.ex;exact a8.row ce c.2.2.2.2.2 (by decide) (by decide)
def aki{e:B0}{size a d:Nat}{i:List Ax}(f:xs.length=n*size)
  (h:w.ownsRow base e size (Z (M ⟨g,0,Y⟩) (n+d) a) (n+d) (xs++i)):w.ownsRow base e size (Z (M ⟨g,0,Y⟩) n a) n xs:=by
 obtain⟨_,k⟩:=h;rcases k with⟨j,_⟩|⟨t,s,b,r,m,o,u,l,p,q⟩
 .cases j
 .cases r;refine⟨f,.inr ⟨g,a,b,rfl,m,o,by omega,l,p,?_⟩⟩;have c:(b.toList.take ((n+d)*size)).take (n*size)=(xs++i).take (n*size):=by rw[q]
  rw[List.take_take,vH (Nat.mul_le_mul_right _ (by omega))]at c;rw[c,<-f];exact take_len _ _
def akj{e:B0}{size a:Nat}(h:w.ownsRow base e size (Z (M ⟨g,0,Y⟩) n a) n xs):n<=a:=by
 rcases h.2 with⟨b,_⟩|⟨j,f,i,d,l,m,c,k,o,p⟩
 .cases b
 .cases d;exact c
def agK(st:List Int):Nat->List Int
 |0=>[]
 |j+1=>if(dm st ((j:Int)+1)).2=B4 then agK st j++[(j:Int)+1] else agK st j
def asp(st:List Int):List Int:=agK st 78
def ae0(w:Ak)(base mb:Nat)(h:CH w base mb []):
  A5 A0 67 #[Bn (M ⟨mb,0,Y⟩)] w λe w'=>e= A2 (O U 1)/\CH w' base mb [(6, -1),(100,0)]/\Kp mb w w'/\B2 base w w':=by
 have c:=D4 w base mb [] (-1) 6 h (by simp);go_in;go_wp2_with fail;refine c.mono ?_;rintro e w1 ⟨rfl,f,i,a⟩;have d:=D4 w1 base mb [(6, -1)] 0 100 f (by simp);simp only[dE,Int.natCast_zero];go_wp2_with fail;refine d.mono ?_;rintro e j ⟨rfl,g,p2,b⟩;simp only[bc,dE,dv,Int.natCast_one];go_wp2;go_ret;exact⟨rfl,g,i.trans p2,a.trans b⟩
structure TkC (cs:Array Ax) (T:Tk) (q:Nat) (l:Int):Prop where
 c0:cs[q*6]?=M (.int .i64 T.k)
 c1:cs[q*6+1]?=M (.int .i64 T.f)
 c2:cs[q*6+2]?=M (.int .i64 T.t)
 c3:cs[q*6+3]?=M (.int .i64 l)
 c4:cs[q*6+4]?=M (.int .i64 T.n)
 c5:cs[q*6+5]?=M (.string T.x)
 hl:T.k≠6->l=T.l
def TkR(cs:Array Ax)(tk:Nat->Tk)(n:Nat):Prop:=∀q,q<n->∃l,TkC cs (tk q) q l
structure Pe where
 base:Nat
 pb:Nat
 tb:Nat
 cap:Nat
 n:Nat
 tk:Nat->Tk
abbrev pV(E:Pe):Ax:= Bn (M ⟨E.pb,0,Y⟩)
abbrev s0:Ax:= Z Y 0 0
abbrev qh(k:Int)(T:Tk):Array Ax:=#[O U k,O U T.f,O U T.t,O U T.l,O U T.n,B1 T.x]
abbrev Bxs:=List (Nat×B0×Array Ax)
abbrev Rws:=List (B0×Ax×List Ax)
abbrev TOw(t:B0):Prop:=t=9\/t=3
abbrev iv:Int->Ax:= O U
def Ac(s:Nat)(L b:List Mb)(R:Fo):Prop:=∃a,b=L++a/\a.map Mb.N=R.flat L.length/\∀x∈a,∀g,x.vn.ownBlock=M g\/x.vk.ownBlock=M g->s<=g
def Ac.nil(s:Nat)(L:List Mb):Ac s L L .nil:=⟨[],(dk L).symm,rfl,λb a=>by cases a⟩
def Ac.len{b:List Mb}{R:Fo}(h:Ac s L b R):b.length=L.length+R.sz:=by
 obtain⟨c,rfl,a,_⟩:=h;have a:=congrArg List.length a;rw[bq,Fo.flat_len]at a;rw[aG,a]
def Ac.app{t:Nat}{a:List Mb}{x d:Fo}(h:Ac s L L1 x)(k:Ac t L1 a d)(ht:s<=t):Ac s L a (x.app d):=by
 have n:=h.len;obtain⟨f,rfl,i,l⟩:=h;obtain⟨g,rfl,j,m⟩:=k;refine⟨f++g,by rw[bC],by rw[eJ,i,j,Fo.flat_app,n],λe hz b c=>?_⟩;rcases List.mem_append.1 hz with hz|hz
 .exact l e hz b c
 .exact bG ht (m e hz b c)
def Ac.add{R:Fo}(h:Ac s L L1 R)(N:Nd){vn vk:Ax}(f:N.ks=R.tops L.length)(e:∀g,vn.ownBlock=M g\/vk.ownBlock=M g->s<=g):Ac s L (L1++[⟨N,vn,vk⟩]) (one {N with ks:=[]} R):=by
 obtain⟨b,rfl,c,d⟩:=h;refine⟨b++[⟨N,vn,vk⟩],by rw[bC],by rw[eJ,c,uD,<-f];rfl,λi hz g a=>?_⟩;rcases List.mem_append.1 hz with hz|hz
 .exact d i hz g a
 .obtain rfl:=List.mem_singleton.1 hz;exact e g a
def Ap(a b:B0×Ax×List Ax):Prop:=∀g,a.2.1.ownBlock=M g->b.2.1.ownBlock≠M g
def Ng(E:Pe)(w:Ak)(g:Nat):Prop:=∃v,w.cell? ⟨E.pb,2,Y⟩=M v/\v.ownBlock=M g
abbrev pC(E:Pe)(i:Int)(v:Ax):Obj:= A1 #[Z (M ⟨E.tb,0,Y⟩) E.n E.cap,O U i,v] 109 (0,0)
def nbI{E:Pe}{i:Int}(h:w.heap[E.pb]?=M (pC E i v)):Ng E w g↔v.ownBlock=M g:=by
 have a:w.cell? ⟨E.pb,2,Y⟩=M v:=by rw[aj _ _ _ _ _ _ h];rfl
 exact⟨λ⟨d,b,c⟩=>by rw[a]at b;cases b;exact c,λh=>⟨v,a,h⟩⟩
structure Sq (E:Pe) (W:Ak) (G:Option Nat) (L:List Mb) (w:Ak) (i:Nat) (L1:List Mb) (D:Fo) (zs:List Int) (B:Bxs) (R:Rws):Prop where
 lo:E.base<=E.pb/\E.pb<W.heap.size/\E.tb<W.heap.size/\E.n<=1048576
 tks:∃cs fr,w.heap[E.tb]?=M (.cells cs 49 fr)/\TkR cs E.tk E.n
 row:∃v,w.heap[E.pb]?=M (pC E i v)/\w.ownsRow E.base 34 9 v L1.length (oE L1)
 nb:(∀g,Ng E w g->G=M g\/W.heap.size<=g)/\∀p∈B,¬Ng E w p.1
 each:∀x∈L1,w.ownsRow E.base 9 1 x.vn x.N.nm.length (x.N.nm.map B3)/\w.ownsRow E.base 3 1 x.vk x.N.ks.length (x.N.ks.map iv)
 ac:Ac W.heap.size L L1 D
 tp:D.tops L.length=zs
 bl:B2 E.base W w
 fz:∀k,k<W.heap.size->k≠E.pb->G≠M k->w.heap[k]?=W.heap[k]?
 bx:∀p∈B,W.heap.size<=p.1/\¬TOw p.2.1/\w.heap[p.1]?=M (.cells p.2.2 p.2.1 (0,0))
 bd:(B.map Prod.fst).Nodup
 rw:∀r∈R,TOw r.1/\w.ownsRow W.heap.size r.1 1 r.2.1 r.2.2.length r.2.2/\∀x∈L1,∀g,r.2.1.ownBlock=M g->x.vn.ownBlock≠M g/\x.vk.ownBlock≠M g
 rs:R.Pairwise Ap
section
variable {E : Pe} {W w w' : World} {G o : Option Nat} {L L1 L2 : List Mb} {i j b : Nat} {D X : Fo} {zs ys : List Int} {B : Bxs} {R R2 : Rws} {t : TypeId} {cs : Array Value} {v : Value} {xs : List Value}
def TOw.ne{t u:B0}(h:TOw t)(a:u=34\/u=109\/u=49):u≠t:=by
 rcases h with rfl|rfl<;>rcases a with rfl|rfl|rfl<;>decide
def Sq.to(S:Sq E W G L w i L1 D zs B R)(K:B2 E.base w w')(h:∀k,k<w.heap.size->k≠E.pb->M k≠o->w'.heap[k]?=w.heap[k]?)(ak:∀v,w.heap[E.pb]?=M (pC E i v)->w'.heap[E.pb]?=M (pC E j v))
  (d:∀k,o=M k->W.heap.size<=k/\¬Ng E w k/\(∀x∈L1,x.vn.ownBlock≠M k/\x.vk.ownBlock≠M k)/\(∀p∈B,p.1≠k)/\∀r∈R,r.2.1.ownBlock≠M k):Sq E W G L w' j L1 D zs B R:=by
 have⟨H,I,n,al⟩:=S.tks;have⟨v,e,p2⟩:=S.row;have u:=S.lo;have an:=S.bl.size;have C:=ak v e;have m:∀{y b size z:Nat}{q:Ax}{F:List Ax},w.ownsRow y b size q z F->b≠109->(∀k,o=M k->q.ownBlock≠M k)->w'.ownsRow y b size q z F:=λs ad af=>kH s λc t f g=>⟨h c g (λb=>gC s e (dB ad) (b ▸ t)) λb=>af c b.symm t,f⟩;have A:∀k,k<W.heap.size->M k≠o:=λk a b=>by have:=(d k b.symm).1;omega
 have b:∀c,Ng E w' c↔Ng E w c:=λc=>(nbI C).trans (nbI e).symm;exact⟨u,⟨H,I,(h _ (by omega) (λb=>by rw[b,e]at n;cases n) (A _ u.2.2.1)).trans n,al⟩,⟨v,C,m p2 (by decide) λk a=>λb=>(d k a).2.1 ((nbI e).2 b)⟩,⟨λc a=>S.nb.1 c ((b c).1 a),λp a=>λk=>S.nb.2 p a ((b _).1 k)⟩,λx l=>⟨m (S.each x l).1 (by decide) λk a=>((d k a).2.2.1 x l).1,m (S.each x l).2 (by decide) λk a=>((d k a).2.2.1 x l).2⟩,S.ac,S.tp,S.bl.trans K,λk f g J=>(h k (by omega) g (A k f)).trans (S.fz k f g J),λp a=>⟨(S.bx p a).1,(S.bx p a).2.1,(h _ (ai (S.bx p a).2.2) (by have:=(S.bx p a).1;omega) λb=>(d _ b.symm).2.2.2.1 p a rfl).trans (S.bx p a).2.2⟩,S.bd,λr a=>⟨(S.rw r a).1,m (S.rw r a).2.1 ((S.rw r a).1.ne (.inr (.inl rfl))).symm λk b=>(d k b).2.2.2.2 r a,(S.rw r a).2.2⟩,S.rs⟩
def Sq.low(S:Sq E W G L w i L1 D zs B R):E.base<=W.heap.size/\W.heap.size<=w.heap.size:=by have:=S.lo;have:=S.bl.size;omega
def Sq.below(S:A9 (Sq E W G L w i L1 D zs B R))(b:cg w w'):A9 (Sq E W G L w' i L1 D zs B R):=
 S.to (o:=Y) (b.mono (by have:=S.low;omega)) (λc a _ _=>b.block c a) (λd a=>(b.block _ (ai a)).trans a) λc a=>by cases a
def Sq.sub(S:Sq E W G L w i L1 D zs B R){a:Bxs}(c:∀p∈a,p∈B)(d:(a.map Prod.fst).Nodup):Sq E W G L w i L1 D zs a R:=
 {S with nb:=⟨S.nb.1,λp b=>S.nb.2 p (c p b)⟩,bx:=λp b=>S.bx p (c p b),bd:=d}
def Sq.less(S:A9 (Sq E W G L w i L1 D zs B R)){a:Rws}(h:a.Sublist R):A9 (Sq E W G L w i L1 D zs B a):={S.out with rw:=λc b=>S.rw c (h.subset b),rs:=S.rs.sublist h}
def Sq.with(S:Sq E W G L w i L1 D zs B R)(e:w.heap[b]?=M (A1 cs t (0,0)))(a:W.heap.size<=b)(ht:¬TOw t)(g:¬Ng E w b)(f:∀p∈B,p.1≠b):Sq E W G L w i L1 D zs ((b,t,cs)::B) R:=
 {S with
  nb:=⟨S.nb.1,λp h=>by rcases List.mem_cons.1 h with rfl|h;exact g;exact S.nb.2 p h⟩
  bx:=λp h=>by rcases List.mem_cons.1 h with rfl|h;exact⟨a,ht,e⟩;exact S.bx p h
  bd:=by rw[dw,List.nodup_cons];exact⟨λh=>by obtain⟨p,c,d⟩:=List.mem_map.1 h;exact f p c d,S.bd⟩}
def Sq.nlt(S:Sq E W G L w i L1 D zs B R)(h:Ng E w g):g<w.heap.size/\∃cs fr,w.heap[g]?=M (A1 cs 34 fr):=by
 have⟨k,e,p2⟩:=S.row;have a:=(nbI e).1 h;refine⟨(p2.lt g a).2,?_⟩;rcases p2.2 with⟨b,_⟩|⟨c,f,j,b,_,d,_⟩
 .rw[b]at a;simp[Ad]at a
 .rw[b]at a;obtain rfl:c=g:=by simpa [Ad] using a
  exact⟨_,_,d⟩
def Sq.box(S:A9 (Sq E W G L w i L1 D zs B R))(ht:¬TOw t:=by decide):A9 (Sq E W G L (w.alloc (A1 cs t)) i L1 D zs ((w.heap.size,t,cs)::B) R):=by
 have d:=Sq.below S (dC w (A1 cs t));have⟨e,b,p2⟩:=S.row;exact d.with (aA w _) S.low.2 ht (λa=>by have:=(p2.lt _ ((nbI (((dC w (A1 cs t)).block _ (ai b)).trans b)).1 a)).2;omega) λc a=>by have:=ai (S.bx c a).2.2;omega
def Sq.set{q:Nat}{u:Ax}(S:A9 (Sq E W G L w i L1 D zs ((b,t,cs)::B) R)):A9 (Sq E W G L (w.setCell ⟨b,q,Y⟩ u) i L1 D zs ((b,t,cs.setIfInBounds q u)::B) R):=by
 obtain⟨h,j,k⟩:=S.bx _ (.head _);have⟨v,x⟩:=List.nodup_cons.1 S.bd;have K:=S.lo;have J:=S.low;have g:∀d,d≠b->(w.setCell ⟨b,q,Y⟩ u).heap[d]?=w.heap[d]?:=λd a=>ay _ _ _ _ a;have l:∀e∈B,e.1≠b:=λe a c=>v (List.mem_map.2 ⟨e,a,c⟩);have f:∀{z c F A:Nat}{u:Ax}{I:List Ax},w.ownsRow z c F u A I->TOw c->u.ownBlock≠M b:=λs y=>gC s k λc=>j (c ▸ y);have C:Sq E W G L (w.setCell ⟨b,q,Y⟩ u) i L1 D zs B R:=(S.sub (λe a=> .tail _ a) x).to (o:=M b) ((ah _ w).setCell (show E.base<=b by omega) _) (λd _ _ a=>g d λc=>a (by rw[c])) (λH a=>(g _ (by omega)).trans a) λd a=>by
  cases a;exact⟨h,S.nb.2 _ (.head _),λr m=>⟨f (S.each r m).1 (.inl rfl),f (S.each r m).2 (.inr rfl)⟩,l,λp a=>f (S.rw p a).2.1 (S.rw p a).1⟩
 have⟨H,n,p2⟩:=S.row;exact C.with (bp _ b q _ _ _ k) h j (λa=>S.nb.2 _ (.head _) ((nbI n).2 ((nbI ((g _ (by omega)).trans n)).1 a))) l
def Sq.hd(S:A9 (Sq E W G L w i L1 D zs ((b,t,cs)::B) R)):w.heap[b]?=M (A1 cs t (0,0)):=(S.bx _ (.head _)).2.2
def Sq.tail(S:A9 (Sq E W G L w i L1 D zs (p::B) R)):A9 (Sq E W G L w i L1 D zs B R):=S.sub (λp a=> .tail _ a) (List.nodup_cons.1 S.bd).2
def Sq.drop1(S:A9 (Sq E W G L w i L1 D zs (p::r::B) R)):A9 (Sq E W G L w i L1 D zs (p::B) R):=S.sub (λa h=>by rcases List.mem_cons.1 h with rfl|h;exact .head _;exact .tail _ (.tail _ h)) (by have:=S.bd;simp only[dw,List.nodup_cons,gK,not_or]at this⊢;exact⟨this.1.2,this.2.2⟩)
def Sq.swapB(S:A9 (Sq E W G L w i L1 D zs (p::r::B) R)):A9 (Sq E W G L w i L1 D zs (r::p::B) R):=S.sub (λa h=>by simp only[gK]at h⊢;rcases h with h|h|h<;>simp[h]) (by
 have h:=S.bd;simp only[dw,List.nodup_cons,gK,not_or]at h⊢;exact⟨⟨dB h.1.1,h.2.1⟩,h.1.2,h.2.2⟩)
def Sq.rowA(S:Sq E W G L w i L1 D zs B R)(ht:TOw t)(o:w.ownsRow W.heap.size t 1 v xs.length xs)(h:∀x∈L1,∀g,v.ownBlock=M g->x.vn.ownBlock≠M g/\x.vk.ownBlock≠M g)(a:∀r∈R,Ap (t,v,xs) r):Sq E W G L w i L1 D zs B ((t,v,xs)::R):=
 {S with rw:=λr k=>by rcases List.mem_cons.1 k with rfl|k;exact⟨ht,o,h⟩;exact S.rw r k,rs:=List.pairwise_cons.2 ⟨a,S.rs⟩}
def Sq.nil(S:A9 (Sq E W G L w i L1 D zs B R))(ht:TOw t:=by decide):A9 (Sq E W G L w i L1 D zs B ((t,s0,[])::R)):=S.rowA ht (fs _ _ _ _) (λf d b a=>by simp[Ad]at a) λe c b a=>by simp[Ad]at a
def Sq.elt(S:Sq E W G L w i L1 D zs B R){x:Mb}(b:x∈L1)(h:w.heap.size<=g):x.vn.ownBlock≠M g/\x.vk.ownBlock≠M g:=
 ⟨λa=>by have:=((S.each x b).1.lt g a).2;omega,λa=>by have:=((S.each x b).2.lt g a).2;omega⟩
def Sq.lit(S:A9 (Sq E W G L w i L1 D zs B R))(ht:TOw t:=by decide)(d:Nat.ble xs.length 100=B4:=by rfl):A9 (Sq E W G L (w.alloc (A1 xs.toArray t)) i L1 D zs B ((t,Z (M ⟨w.heap.size,0,Y⟩) xs.length xs.length,xs)::R)):=by
 have h:=vw (base:=W.heap.size) (e:=t) (size:=1) w xs.toArray xs.length S.low.2 (by have:=Nat.le_of_ble_eq_true d;unfold Ck;omega) (by simp);have e:∀{a},(B6 (M ⟨w.heap.size,0,Y⟩) xs.length xs.length).ownBlock=M a->w.heap.size=a:=λb=>by simpa [Ad] using b
 exact(Sq.below S (dC w (A1 xs.toArray t))).rowA ht (by simpa using h) (λk g a c=>S.elt g (Nat.le_of_eq (e c))) λj f a c b=>by have:=e c;have:=((S.rw j f).2.1.lt a b).2;omega
def Sq.lit1{V:Ak}{o:Obj}(S:A9 (Sq E W G L (V.alloc o) i L1 D zs B R))(ht:TOw t:=by decide)(a:Nat.ble xs.length 100=B4:=by rfl):A9 (Sq E W G L ((V.alloc o).alloc (A1 xs.toArray t)) i L1 D zs B ((t,Z (M ⟨V.heap.size+1,0,Y⟩) xs.length xs.length,xs)::R)):=fe V o ▸ Sq.lit S ht a
def Sq.lit2{V:Ak}{a:Addr}{u:Ax}(S:A9 (Sq E W G L (V.setCell a u) i L1 D zs B R))(ht:TOw t:=by decide)(b:Nat.ble xs.length 100=B4:=by rfl):A9 (Sq E W G L ((V.setCell a u).alloc (A1 xs.toArray t)) i L1 D zs B ((t,Z (M ⟨V.heap.size,0,Y⟩) xs.length xs.length,xs)::R)):=(show(V.setCell a u).heap.size=V.heap.size by simp[A3]) ▸ Sq.lit S ht b
def Sq.litm{m:Nat}(S:A9 (Sq E W G L w i L1 D zs B R))(a:w.heap.size=m)(ht:TOw t:=by decide)(b:Nat.ble xs.length 100=B4:=by rfl):A9 (Sq E W G L (w.alloc (A1 xs.toArray t)) i L1 D zs B ((t,Z (M ⟨m,0,Y⟩) xs.length xs.length,xs)::R)):=a ▸ Sq.lit S ht b
def Sq.put{c:Ax}{h:List Ax}(S:Sq E W G L w i L1 D zs B ((t,v,xs)::R))(k:w.grownBy w' v.ownBlock)(A:w'.ownsRow W.heap.size t 1 c h.length h)(q:c.ownBlock=v.ownBlock\/c.ownBlock=M w.heap.size):Sq E W G L w' i L1 D zs B ((t,c,h)::R):=by
 obtain⟨l,m,u⟩:=S.rw _ (.head _);have J:=S.lo;have I:=S.low;have n:=λb a=>(m.lt b a).1;have x:=(List.pairwise_cons.1 S.rs).1;refine((Sq.less S (List.sublist_cons_self _ _)).to (o:=v.ownBlock) ((ah _ w).grown k (by omega) λb a=>by have:=n b a;omega) (λb a _ y=>k.block b a y) (λK a=>(k.block _ (by omega) λe=>by have:=n _ e.symm;omega).trans a) λb a=>⟨n b a,λz=>?_,λp f=>u p f b a,λs r e=>?_,λg d=>x g d b a⟩).rowA l A (λp f j a=>?_) λg d j a=>?_
 .obtain⟨_,F,H,C⟩:=S.nlt z;exact gC m C (l.ne (.inl rfl)) a
 .exact gC m (S.bx s r).2.2 (λe=>(S.bx s r).2.1 (e ▸ l)) (e ▸ a)
 .rcases q with e|e
  .exact u p f j (e ▸ a)
  .rw[e]at a;cases a;exact S.elt f (ag _)
 .rcases q with e|e
  .exact x g d j (e ▸ a)
  .rw[show(t,c,h).2.1.ownBlock=_ from e]at a;cases a;exact λe=>by have:=((S.rw g (.tail _ d)).2.1.lt _ e).2;omega
def Sq.swap{r a:B0×Ax×List Ax}(S:A9 (Sq E W G L w i L1 D zs B (r::a::R))):A9 (Sq E W G L w i L1 D zs B (a::r::R)):=
 {S.out with
  rw:=λe h=>S.rw e (by simp only[gK]at h⊢;rcases h with h|h|h<;>simp[h])
  rs:=by
   have h:=S.rs;simp only[List.pairwise_cons,gK,forall_eq_or_imp]at h⊢;exact⟨⟨λd b c=>h.1.1 d c b,h.2.1⟩,h.1.2,h.2.2⟩}
def Sq.here(S:Sq E W G L w i L1 D zs B R):∃c,(∀g,c=M g->Ng E w g)/\Sq E w c L1 w i L1 .nil [] [] []:=by
 have⟨f,b,p2⟩:=S.row;have d:=S.lo;have h:=S.low;exact⟨f.ownBlock,λg a=>(nbI b).2 a,⟨d.1,by omega,by omega,d.2.2.2⟩,S.tks,⟨f,b,p2⟩,⟨λg a=> .inl ((nbI b).1 a),λe a=>(by cases a)⟩,S.each,Ac.nil _ _,rfl,ah _ _,λ_ _ _ _=>rfl,λe a=>(by cases a),vF,λe a=>(by cases a),.nil⟩
def Sq.join{p:Option Nat}(S:Sq E W G L w i L1 D zs B R)(m:∀g,p=M g->Ng E w g)(s:Sq E w p L1 w' j L2 X ys [] R2):Sq E W G L w' j L2 (D.app X) (zs++ys) B (R2++R):=by
 have A:=S.lo;have r:=S.low;have ak:=s.bl.size;have t:∀a,W.heap.size<=a->a<w.heap.size->¬Ng E w a->w'.heap[a]?=w.heap[a]?:=λa h f l=>s.fz a f (by omega) λe=>l (m a e);have F:∀b∈R,∀g,b.2.1.ownBlock=M g->¬Ng E w g:=λb hr g k C=>by
  have⟨_,ad,af,H⟩:=S.nlt C;exact gC (S.rw b hr).2.1 H ((S.rw b hr).1.ne (.inl rfl)) k
 refine⟨A,s.tks,s.row,⟨λg k=>?_,λd c k=>?_⟩,s.each,S.ac.app s.ac r.2,by rw[Fo.tops_app,S.tp,<-S.ac.len,s.tp],S.bl.trans s.bl,λa h f l=>(s.fz a (by omega) f λe=>?_).trans (S.fz a h f l),λd c=>⟨(S.bx d c).1,(S.bx d c).2.1,(t _ (S.bx d c).1 (ai (S.bx d c).2.2) (S.nb.2 d c)).trans (S.bx d c).2.2⟩,S.bd,λb hr=>?_,List.pairwise_append.2 ⟨s.rs,S.rs,λv y x z g h f=>by have:=((s.rw v y).2.1.lt g h).1;have:=((S.rw x z).2.1.lt g f).2;omega⟩⟩
 .rcases s.nb.1 g k with e|e
  .exact S.nb.1 g (m g e)
  .exact .inr (by omega)
 .rcases s.nb.1 _ k with e|e
  .exact S.nb.2 d c (m _ e)
  .have:=ai (S.bx d c).2.2;omega
 .rcases S.nb.1 a (m a e) with e|e
  .exact l e
  .omega
 .rcases List.mem_append.1 hr with hr|hr
  .exact⟨(s.rw b hr).1,zL (s.rw b hr).2.1 r.2,(s.rw b hr).2.2⟩
  .obtain⟨I,u,J⟩:=S.rw b hr;refine⟨I,kH u λg n h f=>⟨t g h f (F b hr g n),h⟩,λo hx g n=>?_⟩;obtain⟨K,rfl,_,q⟩:=s.ac;have:=(u.lt g n).2;rcases List.mem_append.1 hx with hx|hx
   .exact J o hx g n
   .exact⟨λe=>by have:=q o hx g (.inl e);omega,λe=>by have:=q o hx g (.inr e);omega⟩
end
def CQ(E:Pe)(f:FuncId)(args:Array Ax)(i:Nat)(X:Fo)(j:Nat)(a:Ax->List Int->Rws->Prop):Prop:=
 ∀(W:Ak)(G:Option Nat)(L:List Mb),Sq E W G L W i L .nil [] [] []->L.length+X.sz<=50000000->A5 A0 f args W λb w'=>∃v L2 ys R2,b= A2 v/\a v ys R2/\A9 (Sq E W G L w' j L2 X ys [] R2)
abbrev CI(E:Pe)(f:FuncId)(args:Array Ax)(i:Nat)(X:Fo)(j:Nat):Prop:=CQ E f args i X j λv ys R2=>∃a,v= O U a/\ys=[a]/\R2=[]
abbrev CL(E:Pe)(f:FuncId)(args:Array Ax)(i:Nat)(X:Fo)(j:Nat):Prop:=CQ E f args i X j λv ys R2=>∃a b,v= Z a ys.length b/\R2=[(3,v,ys.map iv)]
abbrev CM(E:Pe)(i:Nat)(ns:List ByteArray)(j:Nat):Prop:=CQ E 145 #[pV E] i .nil j λv ys R2=>∃a b,v= Z a ns.length b/\ys=[]/\R2=[(9,v,ns.map B3)]
def Sq.cq{E:Pe}{a:Option Nat}{i j:Nat}{D X:Fo}{c:List Int}{B:Bxs}{R:Rws}{f:FuncId}{args:Array Ax}{b:Ax->List Int->Rws->Prop}{Q:Ending->Ak->Prop}(S:A9 (Sq E W a L w i L1 D c B R))(C:CQ E f args i X j b)(h:L1.length+X.sz<=50000000)(k:∀w' v L2 ys R2,b v ys R2->A9 (Sq E W a L w' j L2 (D.app X) (c++ys) B (R2++R))->Q (A2 v) w'):A5 A0 f args w Q:=by
 have⟨d,e,g⟩:=S.here;refine(C w d L1 g h).mono ?_;rintro n w' ⟨v,L2,ys,R2,rfl,l,m⟩;exact k w' v L2 ys R2 l (S.join e m)
section
variable {E : Pe} {W w w' : World} {G : Option Nat} {L L1 : List Mb} {i j b q : Nat} {D : Fo} {zs : List Int} {B : Bxs} {R : Rws} {k : Int}
def Sq.cells(S:Sq E W G L w i L1 D zs B R):w.cell? ⟨E.pb,0,Y⟩=M (Z (M ⟨E.tb,0,Y⟩) E.n E.cap)/\w.cell? ⟨E.pb,1,Y⟩=M (O U i)/\∀j,w.frozen? ⟨E.pb,j,Y⟩=Bc:=by
 have⟨b,a,_⟩:=S.row;exact⟨by rw[aj _ _ _ _ _ _ a];rfl,by rw[aj _ _ _ _ _ _ a];rfl,λj=>cH _ _ _ _ _ a⟩
def Sq.tok(S:Sq E W G L w i L1 D zs B R)(d:q<E.n):∃l,((E.tk q).k≠6->l=(E.tk q).l)/\w.cell? ⟨E.tb,q*6,Y⟩=M (O U (E.tk q).k)/\w.cell? ⟨E.tb,q*6+1,Y⟩=M (O U (E.tk q).f)/\w.cell? ⟨E.tb,q*6+2,Y⟩=M (O U (E.tk q).t)/\w.cell? ⟨E.tb,q*6+3,Y⟩=M (O U l)/\w.cell? ⟨E.tb,q*6+4,Y⟩=M (O U (E.tk q).n)/\w.cell? ⟨E.tb,q*6+5,Y⟩=M (B1 (E.tk q).x):=by
 have⟨e,g,b,c⟩:=S.tks;have⟨l,a⟩:=c q d;exact⟨l,a.hl,by rw[aj _ _ _ _ _ _ b];exact a.c0,by rw[aj _ _ _ _ _ _ b];exact a.c1,by rw[aj _ _ _ _ _ _ b];exact a.c2,by rw[aj _ _ _ _ _ _ b];exact a.c3,by rw[aj _ _ _ _ _ _ b];exact a.c4,by rw[aj _ _ _ _ _ _ b];exact a.c5⟩
def aqD(S:Sq E W G L w i L1 D zs B R)(a:i<E.n):A5 A0 74 #[pV E] w (jf w (O U (E.tk i).k)):=by
 have b:=S.cells;have⟨f,e,g⟩:=S.tok a;have d:(i:Int)<(E.n:Int):=by omega
 have c:(0:Int)<=(i:Int):=by omega
 go_in;go_wp2_with fail;go_quiet (fail)
 go_wp2;go_ret;exact⟨rfl,rfl,rfl,rfl,ag _,λ_ _=>rfl⟩
def Sq.kind(S:A9 (Sq E W G L w i L1 D zs B R))(c:(E.tk i).k=k)(b:i<E.n:=by omega):A5 A0 74 #[pV E] w λe w'=>e= A2 (O U k)/\A9 (Sq E W G L w' i L1 D zs B R):=c ▸ (aqD S b).mono λ_ _ a=>⟨a.1,Sq.below S a.2⟩
def TkW(E:Pe)(q:Nat)(w:Ak):Prop:=w.cell? ⟨E.tb,q*6,Y⟩=M (O U (E.tk q).k)/\w.cell? ⟨E.tb,q*6+1,Y⟩=M (O U (E.tk q).f)/\w.cell? ⟨E.tb,q*6+2,Y⟩=M (O U (E.tk q).t)/\w.cell? ⟨E.tb,q*6+3,Y⟩=M (O U (E.tk q).l)/\w.cell? ⟨E.tb,q*6+4,Y⟩=M (O U (E.tk q).n)/\w.cell? ⟨E.tb,q*6+5,Y⟩=M (B1 (E.tk q).x)
def Sq.tkw(S:Sq E W G L w i L1 D zs B R)(d:q<E.n)(b:(E.tk q).k≠6):TkW E q w:=by
 have⟨l,c,e,f,g,a,h,j⟩:=S.tok d;rw[c b]at a;exact⟨e,f,g,a,h,j⟩
def Sq.next(S:Sq E W G L w i L1 D zs B R):Sq E W G L (w.setCell ⟨E.pb,1,Y⟩ (O U ((i:Int)+1))) (i+1) L1 D zs B R:=
 S.to (o:=Y) ((ah _ w).setCell S.lo.1 _) (λb _ a _=>ay _ _ _ _ a) (λc a=>(bp _ E.pb 1 _ _ _ a).trans (by rw[show((i+1:Nat):Int)=(i:Int)+1 by omega];rfl)) λb a=>by cases a
def Sq.take(S:A9 (Sq E W G L w i L1 D zs B R))(s:(E.tk i).k=k)(r:i<E.n:=by omega)(p:k≠6:=by omega):A5 A0 143 #[pV E] w λe w'=>e= A2 (C2 (qh k (E.tk i)))/\A9 (Sq E W G L w' (i+1) L1 D zs B R):=by
 subst s;have j:=Sq.box (cs:=#[O U 0,O U 0,O U 0,O U 0,O U 0,B1 ⟨#[]⟩]) (t:=49) S;have y:=j.cells;have F:=S.lo;have C:=S.low;have b:=am j.next
 have h:=b.cells;have t:=b.tkw r p;unfold TkW at t;rw[show((i+1:Nat):Int)=(i:Int)+1 by omega]at h;have A:(i:Int)<(E.n:Int):=by omega
 have z:(0:Int)<=(i:Int):=by omega
 have J:IntKind.i64.wrap ((i:Int)+1-1)=(i:Int):=by rw[dr];omega
 have K:IntKind.i64.wrap (i:Int)=(i:Int):=by rw[dr];omega
 have ad:IntKind.i64.wrap ((i:Int)+1)=(i:Int)+1:=by rw[dr];omega
 go_in;go_wp2_with fail;generalize A3 _ _ _=g at b h t⊢;have af:=iw (Sq.hd b);have ak:=qk (Sq.hd b);have H:E.pb≠w.heap.size:=by omega
 have I:E.tb≠w.heap.size:=by omega
 have m:=λk (c:k≠w.heap.size) a=>yx (W:=g) c a;unfold six at m;go_region_held3 (λo=>∀k,k≠w.heap.size->∀a,o.cell? ⟨k,a,Y⟩=g.cell? ⟨k,a,Y⟩) (first|with_reducible exact λk c a=>m k c a _ _ _ _ _ _|exact λ_ _ _=>rfl) (fail)
 have d:=Sq.below (Sq.set (q:=5) (u:= B1 (E.tk i).x) (Sq.set (q:=4) (u:= O U (E.tk i).n) (Sq.set (q:=3) (u:= O U (E.tk i).l) (Sq.set (q:=2) (u:= O U (E.tk i).t) (Sq.set (q:=1) (u:= O U (E.tk i).f) (Sq.set (q:=0) (u:= O U (E.tk i).k) b)))))) (bF (ah _ _));generalize World.drew _=v at d⊢;go_wp2;exact aL (io rfl _ _ w.heap.size _ _ _ _ rfl (Sq.hd d) underlying49 rfl (by kernel_rfl)) rfl ⟨rfl,Sq.tail d⟩
def CJ(k c:Int)(T:Tk)(w:Ak):A5 A0 144 #[O U k,C2 (qh c T)] w (jf w (C2 #[O U k,O U T.f,O U 0,O U T.l,O U 0,O U 0,B1 ⟨#[]⟩,s0,s0])):=by
 go_in;go_wp2;exact aL (io rfl _ _ (w.heap.size+1) _ _ _ _ rfl (CD rfl).2.1 underlying34 rfl (by kernel_rfl)) rfl ⟨rfl,(dC w _).alloc (by simp) _⟩
def Sq.node(S:A9 (Sq E W G L w i L1 D zs B R)){c:Int}{T:Tk}:A5 A0 144 #[O U k,C2 (qh c T)] w λe w'=>e= A2 (C2 #[O U k,O U T.f,O U 0,O U T.l,O U 0,O U 0,B1 ⟨#[]⟩,s0,s0])/\A9 (Sq E W G L w' i L1 D zs B R):=(CJ k c T w).mono λ_ _ a=>⟨a.1,Sq.below S a.2⟩
def Sq.isY(S:A9 (Sq E W G L w i L1 D zs B R))(c:(E.tk i).k=k)(b:i<E.n:=by omega):A5 A0 75 #[pV E,O U k] w λe w'=>e= A2 (Ce B4)/\A9 (Sq E W G L w' (i+1) L1 D zs B R):=by
 have g:(k !=k)=Bc:=by simp
 have j:=S.lo.2.2.2;have d:=Sq.kind S c b;go_in;go_wp2_with fail;refine dt d λw1 a=>?_;have f:=a.cells;have h:=a.lo.1;go_wp2;go_ret;exact⟨rfl,a.next⟩
def Sq.isN(S:A9 (Sq E W G L w i L1 D zs B R))(b:(E.tk i).k≠k)(a:i<E.n:=by omega):A5 A0 75 #[pV E,O U k] w λe w'=>e= A2 (Ce Bc)/\A9 (Sq E W G L w' i L1 D zs B R):=by
 have f:((E.tk i).k !=k)=B4:=by simp[b]
 have c:=Sq.kind S rfl a;go_in;go_wp2_with fail;refine dt c λw1 d=>?_;go_wp2;go_ret;exact⟨rfl,d⟩
end
def Rin(R:Rws)(t:B0)(v:Ax)(xs:List Ax):Prop:=(v=s0/\xs=[])\/(t,v,xs)∈R
section
variable {E : Pe} {W w w' : World} {G : Option Nat} {L L1 : List Mb} {i j b q : Nat} {D : Fo} {zs : List Int} {B : Bxs} {R : Rws} {k f t l op n : Int} {x : ByteArray}
def Rin.own{u:B0}(h:Rin R u v xs)(S:Sq E W G L w i L1 D zs B R):w.ownsRow W.heap.size u 1 v xs.length xs:=by
 rcases h with⟨rfl,rfl⟩|h
 .exact fs _ _ _ _
 .exact(S.rw _ h).2.1
def Sq.push(S:Sq E W G L w i L1 D zs B R)(K:w.heap[E.pb]?=M (pC E i v)){w5:Ak}{r j:Nat}(a1:L1.length+1=r)(x:Mb)(ak:w5.ownsRow E.base 34 9 (Z (M ⟨g,0,Y⟩) r j) r (oE (L1++[x])))(n:w.grownBy w5 v.ownBlock)(I:v.ownBlock=M g\/g=w.heap.size)
  (on:Rin R 9 x.vn (x.N.nm.map B3)) (a3:Rin R 3 x.vk (x.N.ks.map iv)) (a0:x.N.ks=zs):
  Sq E W G L (w5.setCell ⟨E.pb,2,Y⟩ (Z (M ⟨g,0,Y⟩) r j)) i (L1++[x]) (one {x.N with ks:=[]} D) [(L1.length:Int)] B []/\w5.heap[E.pb]?=M (pC E i v):=by
 subst a1;have⟨a5,d,p2⟩:=S.row;obtain rfl:a5=v:=by rw[d]at K;cases K;rfl
 have J:=S.lo;have q:=S.low;have⟨ar,p,o,a4⟩:=S.tks;have H:∀a,a<w.heap.size->¬Ng E w a->w5.heap[a]?=w.heap[a]?:=λa h l=>n.block a h λe=>l ((nbI d).2 e.symm);have a2:¬Ng E w E.pb:=λh=>by obtain⟨_,C,p,f⟩:=S.nlt h;rw[d]at f;cases f
 have A:=(H _ (by omega) a2).trans d;have s:∀a,a<w.heap.size->a≠E.pb->¬Ng E w a->(w5.setCell ⟨E.pb,2,Y⟩ (Z (M ⟨g,0,Y⟩) (L1.length+1) j)).heap[a]?=w.heap[a]?:=λa m c k=>(ay _ _ _ _ c).trans (H a m k);have t:∀{ad af e size l:Nat}{an:Ax}{ao:List Ax},w.ownsRow ad e size an l ao->af<=ad->e≠34->e≠109->(w5.setCell ⟨E.pb,2,Y⟩ (Z (M ⟨g,0,Y⟩) (L1.length+1) j)).ownsRow af e size an l ao:=λu q m c=>kH u λg n k av=>⟨s g av (λe=>gC u d (dB c) (e ▸ n)) λl=>(by obtain⟨_,C,p,f⟩:=S.nlt l;exact gC u f (dB m) n),bG q k⟩;have al:=bp w5 E.pb 2 _ _ (Z (M ⟨g,0,Y⟩) (L1.length+1) j) A;have z:=on.own S;have y:=a3.own S;have F:∀{a},Ng E (w5.setCell ⟨E.pb,2,Y⟩ (Z (M ⟨g,0,Y⟩) (L1.length+1) j)) a->g=a:=λh=>by simpa [Ad] using(nbI al).1 h
 refine⟨⟨J,⟨ar,p,(s _ (ai o) (λe=>by rw[e,d]at o;cases o) λh=>?_).trans o,a4⟩,⟨_,al,by rw[aG];exact tz ak (gC ak A (by decide)) 2 _⟩,⟨λa h=>?_,λb h c=>?_⟩,λap hy=>?_,S.ac.add x.N (a0.trans S.tp.symm) λa h=>?_,by rw[Kx,S.ac.len],S.bl.trans (((ah _ w).grown n (by omega) λa aK=>(p2.lt a aK).1).setCell J.1 _),λa m c k=>(s a (by omega) c λh=>?_).trans (S.fz a m c k),λb h=>⟨(S.bx b h).1,(S.bx b h).2.1,(s _ (ai (S.bx b h).2.2) (by have:=(S.bx b h).1;omega) (S.nb.2 b h)).trans (S.bx b h).2.2⟩,S.bd,λr h=>(by cases h),.nil⟩,A⟩
 .obtain⟨_,C,p,f⟩:=S.nlt h;rw[o]at f;cases f
 .obtain rfl:=F h;rcases I with e|e
  .exact S.nb.1 g ((nbI d).2 e)
  .exact .inr (by omega)
 .obtain rfl:=F c;rcases I with e|e
  .exact S.nb.2 b h ((nbI d).2 e)
  .have:=ai (S.bx b h).2.2;omega
 .rcases List.mem_append.1 hy with hy|hy
  .exact⟨t (S.each ap hy).1 (ag _) (by decide) (by decide),t (S.each ap hy).2 (ag _) (by decide) (by decide)⟩
  .obtain rfl:=List.mem_singleton.1 hy;rw[bq]at z y;exact⟨t z q.1 (by decide) (by decide),t y q.1 (by decide) (by decide)⟩
 .rcases h with h|h
  .exact(z.lt a h).1
  .exact(y.lt a h).1
 .rcases S.nb.1 a h with e|e
  .exact k e
  .omega
def Sq.add(S:A9 (Sq E W G L w i L1 D zs B R)){vn vk:Ax}{nm:List ByteArray}(a9:(vn=s0/\nm=[])\/(9,vn,nm.map B3)∈R)(ad:Rin R 3 vk (zs.map iv))(bn:L1.length<=50000000)(b9:1<=i:=by omega)(cc:i<=E.n:=by omega):
  A5 A0 147 #[pV E,C2 #[O U k,O U f,O U t,O U l,O U op,O U n,B1 x,vn,vk]] w λe w'=>∃z,e= A2 (O U z)/\∃L2,A9 (Sq E W G L w' i L2 (one ⟨k,f,(E.tk (i-1)).t,l,op,n,x,nm,[]⟩ D) [z] B []):=by
 have al:Rin R 9 vn (nm.map B3):=a9.imp (λs=>⟨s.1,by rw[s.2];rfl⟩) id;clear a9;obtain⟨q,rfl⟩:∃q,i=q+1:=⟨i-1,by omega⟩;obtain⟨h,m,rfl⟩:=di (al.own S);obtain⟨g,j,rfl⟩:=di (ad.own S);simp only[bq]at al ad⊢;rw[lh];obtain⟨c,af⟩:=aC L1.length;obtain⟨p,bw⟩:=aC nm.length;obtain⟨o,bv⟩:=aC zs.length;rw[af]at bn;rw[bw]at al⊢;rw[bv]at ad⊢;have cf:=S.lo;have bt:=S.low;have bl:((q+1:Nat):Int)=(q:Int)+1:=by omega
 have a0:=λr=>(Sq.below S (dC w r)).cells;have a5:∀r,(w.alloc r).cell? ⟨E.tb,q*6+2,Y⟩=M (O U (E.tk q).t):=λr=>by
  obtain⟨l,bt,ct,cu,a5,cw,cx,cy⟩:=(Sq.below S (dC w r)).tok (q:=q) (by omega);exact a5
 rw[bl]at a0;have cb:(q:Int)<(E.n:Int):=by omega
 have ca:(0:Int)<=(q:Int):=by omega
 have cl:IntKind.i64.wrap ((q:Int)+1-1)=(q:Int):=by rw[dr];omega
 have cp:IntKind.i64.wrap (q:Int)=(q:Int):=by rw[dr];omega
 have b5:=Sq.box (cs:=wA ⟨k,f,(E.tk q).t,l,op,n,x,nm,zs⟩ (Z h p m) (Z g o j)) (t:=34) S;go_in;go_wp2_with fail;go_region_held3 (λw'=>w'.cell? ⟨E.pb,0,Y⟩=M (Z (M ⟨E.tb,0,Y⟩) E.n E.cap)/\w'.cell? ⟨E.pb,1,Y⟩=M (O U ((q:Int)+1))/\w'.cell? ⟨E.tb,q*6+2,Y⟩=M (O U (E.tk q).t)) (exact⟨(a0 _).1,(a0 _).2.1,a5 _⟩) (fail)
 have J:=Sq.below b5 (bF (ah _ _));have bb:(w.alloc (A1 (wA ⟨k,f,(E.tk q).t,l,op,n,x,nm,zs⟩ (Z h p m) (Z g o j)) 34)).drew.heap.size=w.heap.size+1:=fe _ _;generalize World.drew _=d at J bb⊢;obtain⟨v,K,a2⟩:=J.row;obtain⟨A,H,rfl⟩:=di a2;have a1:d.cell? ⟨E.pb,2,Y⟩=M (Z A L1.length H):=by rw[aj _ _ _ _ _ _ K];rfl
 rw[af]at a1 K a2;go_wp2_with fail;have a3:=Sq.hd J;refine wp_region_held_drew (S:=λar=>ar.heap[w.heap.size]?=M (A1 (wA ⟨k,f,(E.tk q).t,l,op,n,x,nm,zs⟩ (Z h p m) (Z g o j)) 34 (0,0))) (by kernel_rfl) a3 (λhS=>?_);simp only[iD,bc,dE,Nat.reduceAdd,jn,jA,jB,dI,dJ];refine dL 0 (Bn (M ⟨E.pb,0,Y⟩)) rfl rfl hS (λw' u=>by go_simp) ?_;simp only[List.set];refine dL 1 (Bn (M ⟨E.pb,0,Y⟩)) rfl rfl hS (λw' u=>by go_simp) ?_;simp only[List.set];refine dL 2 (Bn (M ⟨E.pb,0,Y⟩)) rfl rfl hS (λw' u=>by go_simp) ?_;simp only[List.set];refine dL 3 (Bn (M ⟨E.pb,2,Y⟩)) rfl rfl hS (λw' u=>by go_simp) ?_;simp only[List.set];refine Ih 5 23 (C2 (wA ⟨k,f,(E.tk q).t,l,op,n,x,nm,zs⟩ (Z h p m) (Z g o j))) rfl rfl (by kernel_rfl) (by kernel_rfl) (by kernel_rfl) (λ_ _ _ s=>s) (by rfl) hS (λw' u=>by have z:=bK (N:=⟨k,f,(E.tk q).t,l,op,n,x,nm,zs⟩) u;go_simp) ?_;simp only[Act.put,co,cA,cC];have bo:=a1;refine sa (S:=λar=>ar.cell? ⟨E.pb,2,Y⟩=M (Z A c H)) (C:=λI=>!(I==7||I==8||I==9||I==10)) (i:=4) (v:= Z A c H) rfl (ye (by kernel_rfl)) (λ_ _ _ s=>s) ?hC _ _ _ _ (yg rfl (by kernel_rfl)) (List.contains_iff_mem.1 (by kernel_rfl)) (Or.inl ⟨by rfl,λw' u=>by go_simp⟩) hS bo ?_
 case hC=>
  intro I cr a8 b;simp only[Bool.not_eq_false',sI,jD]at b;rcases b with((rfl|rfl)|rfl)|rfl
  .obtain rfl:=aJ a8;exact⟨{on:=4,ground:=Ground.data},by simp,rfl,rfl⟩
  all_goals
   obtain rfl:=aJ a8;exact⟨{on:=4,ground:=Ground.phase},by simp,rfl,rfl⟩
 simp only[Act.put,co,cA,cC];refine fj (i:=6) (by kernel_rfl) rfl (λy a=>?_);go_simp;have aK:∀r,cg d (d.drew.alloc r):=λr=>(bF (ah _ _)).alloc (by simp) _;refine a _ _ (((aK _).block _ (ai a3)).trans a3) (λ_=>cell_kept (aK _) a1) ?_;clear a y hS aK;try simp only[co,cA,cC]
 have F:=bF (dC d (A1 (wA ⟨k,f,(E.tk q).t,l,op,n,x,nm,zs⟩ (Z h p m) (Z g o j)) 34));have bf:(d.alloc (A1 (wA ⟨k,f,(E.tk q).t,l,op,n,x,nm,zs⟩ (Z h p m) (Z g o j)) 34)).drew.heap[d.heap.size]?=_:=aA d _;generalize World.drew (World.alloc _ _)=bj at F bf⊢;have b6:=Sq.below J F;have b2:=(F.block _ (ai K)).trans K;have cd:=J.low;obtain⟨bx,bA,bD,bE,b0⟩:=fh za;refine fj (i:=7) (by kernel_rfl) rfl (λy a=>?_);refine step_append_lies _ (by rfl) _ _ 24 (by rfl) E.base 34 bx _ 9 112 underlying24 bA bD bE b0 rfl (by decide) (Z A c H) c _ (by rfl) (dA a2 F) ⟨d.heap.size,0,Y⟩ 1 1 (wA ⟨k,f,(E.tk q).t,l,op,n,x,nm,zs⟩ (Z h p m) (Z g o j)).toList (by rw[bb];rfl) rfl (Bk bf) (by intro cz ba;simp at ba;rcases ba with rfl|rfl|rfl|rfl|rfl|rfl|rfl|rfl|rfl<;>rfl) (by decide) (by unfold Ck;omega) (by omega) (by have:=F.size;omega) bj.heap.size rfl ?_;intro a7 a6 w5 b1 bs br ce;obtain⟨bd,a4⟩:=b6.push b2 (by rw[af]) ⟨⟨k,f,(E.tk q).t,l,op,n,x,nm,zs⟩,Z h p m,Z g o j⟩ (by rw[uy];exact b1) bs br al ad rfl;have bh:=Sq.hd bd;have ao:=bh;rw[ay _ _ _ _ (by show w.heap.size≠E.pb;omega)]at ao;have c5:w5.cell? ⟨E.pb,2,Y⟩=M (Z A c H):=by rw[aj _ _ _ _ _ _ a4];rfl
 have b8:w5.frozen? ⟨E.pb,2,Y⟩=Bc:=cH _ _ _ _ _ a4;have ap:=Sq.tail bd;refine a _ _ ao (λb=>by cases b) ?_;simp only[Act.put,co,cA,cC];refine fj (i:=8) (by kernel_rfl) rfl (λy a=>?_);go_simp;refine a _ _ ao (λb=>by cases b) ?_;try simp only[co,cA,cC]
 refine fj (i:=9) (by kernel_rfl) rfl (λy a=>?_);go_simp;refine a _ _ ao (λb=>by cases b) ?_;try simp only[co,cA,cC]
 refine fj (i:=10) (by kernel_rfl) rfl (λy a=>?_);go_simp;refine a _ _ bh (λb=>by cases b) ?_;refine uz (by kernel_rfl) ?_ _;have bk:(w5.setCell ⟨E.pb,2,Y⟩ (Z (M ⟨a7,0,Y⟩) (c+1) a6)).cell? ⟨E.pb,2,Y⟩=M (Z (M ⟨a7,0,Y⟩) (c+1) a6):=by rw[aj _ _ _ _ _ _ (bp _ E.pb 2 _ _ _ a4)];rfl
 rw[af]at ap;generalize A3 _ _ _=b7 at ap bk⊢;have cq:IntKind.i64.wrap ((c:Int)+1-1)=(c:Int):=by rw[dr];omega
 go_wp2;go_ret;exact⟨c,by go_num,_,ap⟩
end
def akk:(Tryz.prog.info? 75).map (λi=>(i.zero,i.size,i.bytes))=M (M (O E1 0),1,1):=by kernel_rfl
def cSy(st:List Int):List Ax:=st.reverse.map (Br E1)
def KG(a:Int)(st:List Int):cSy (a::st)=cSy st++[O E1 a]:=by simp[cSy]
def Is(st:List Int):(cSy st).length=st.length:=by simp[cSy]
structure It (W:Ak) (base gb:Nat) (mv:Ax) (st:List Int):Prop where
 ex:∃v,W.heap[gb]?=M (.cells #[mv,v] 73 (0,0))/\W.ownsRow base 75 1 v st.length (cSy st)
 lo:base<=gb
def It.below{a:Ak}{d:Ax}{st:List Int}(h:It W base gb d st)(c:cg W a):It a base gb d st:=by
 have⟨f,b,e⟩:=h.ex;exact⟨⟨f,(c.block _ (ai b)).trans b,dA e c⟩,h.lo⟩
structure Gp (gb:Nat) (w w':Ak):Prop where
 os:w'.os=w.os
 tape:w'.tape=w.tape
 output:w'.output=w.output
 size:w.heap.size<=w'.heap.size
 block:∀k,k<w.heap.size->k≠gb->(∀cs fr,w.heap[k]?≠M (.cells cs 75 fr))->w'.heap[k]?=w.heap[k]?
def Gp.trans{x e z:Ak}(h:Gp gb x e)(k:Gp gb e z):Gp gb x z:=
 ⟨k.os.trans h.os,k.tape.trans h.tape,k.output.trans h.output,bG h.size k.size,λd b c a=>
  (k.block d (iB b h.size) c (λf g=>by rw[h.block d b c a];exact a f g)).trans (h.block d b c a)⟩
def Gp.of_below(h:cg w w'):Gp gb w w':=⟨h.os,h.tape,h.output,h.size,λb a _ _=>h.block b a⟩
def It.put{f i:Ax}(e:W.heap[gb]?=M (A1 #[f,i] 73 (0,0)))(lo:base<=gb){st:List Int}(c:W.ownsRow base 75 1 v st.length (cSy st)):It (W.setCell ⟨gb,1,Y⟩ v) base gb f st:=by
 refine⟨⟨v,bp _ gb 1 _ _ _ e,?_⟩,lo⟩;refine c.kept (row:=M gb) ⟨rfl,rfl,rfl,by simp[A3],λo n h=>ay _ _ _ _ (λa=>h (by rw[a]))⟩ ?_;rcases bJ c with⟨_,rfl⟩|⟨g,j,rfl⟩
 .exact .inl rfl
 .refine .inr ?_;intro a;obtain rfl:g=gb:=by simpa [Ad] using a
  rcases c.2 with⟨b,_⟩|⟨m,k,l,b,_,d,_⟩
  .cases b
  .cases b;rw[e]at d;cases d
def Au(w:Ak)(base b:Nat)(C:Ax)(st:List Int)(a:Int)(h:It w base b C st)(L:st.length<=100000000):
  A5 A0 24 #[Bn (M ⟨b,1,Y⟩),O E1 a] w λe w'=>e= A2 (Ex #[])/\It w' base b C (a::st)/\Gp b w w'/\B2 base w w':=by
 have⟨a3,i,k⟩:=h.ex;have x:=h.lo;have⟨g,y⟩:=aC st.length;rw[y]at k L;obtain⟨n,o,rfl⟩:=di k;have⟨al,an,ao,ap,ar⟩:=fh akk;have ad:=ai i;have aK:w.cell? ⟨b,1,Y⟩=M (Z n g o):=by rw[aj _ _ _ _ _ _ i];rfl
 have z:∀f,(B6 n g o).ownBlock=M f->f≠b/\base<=f:=λf j=>by
  refine⟨?_,(k.lt f j).1⟩;rintro rfl;rcases k.2 with⟨c,_⟩|⟨q,F,G,c,_,r,_⟩
  .rw[c]at j;simp[Ad]at j
  .rw[c]at j;obtain rfl:q=f:=by simpa [Ad] using j
   rw[r]at i;cases i
 have m:=kK k i y;go_in;go_wp2_with (at_builtin;refine vz _ rfl _ _ 69 rfl base 75 al _ 1 1 underlying69 an ao ap ar rfl (by decide) _ _ _ rfl (m.1.alloc _) ⟨w.heap.size,0,Y⟩ 1 1 [O E1 a] rfl rfl (Bk (cs:=#[O E1 a]) (fr:=(0,0)) (aA w _)) (by intro a2 B;simp at B;subst B;rfl) (by unfold Ck;omega) (by omega) (by simp;omega) ?_;intro a4 w5 A d a1;obtain⟨v,u,rfl⟩:=B7 A;have s:=(d.block b (by simp;omega) (λe=>(z b e.symm).1 rfl)).trans ((eI _ _ _ ad).trans m.2.1);have a5:w5.cell? ⟨b,1,Y⟩=M (Z n g o):=(by rw[aj _ _ _ _ _ _ s];rfl);have a0:w5.frozen? ⟨b,1,Y⟩=Bc:=cH _ _ _ _ _ s);have ak:=d.size;rw[fe]at ak;have J:=It.put s x (by rw[bc,m.out.2.2,KG];exact A);have I:Gp b w (w5.setCell ⟨b,1,Y⟩ (Z (M ⟨v,0,Y⟩) (g+1) u)):=by
  refine⟨d.os,d.tape,d.output,by simp[A3];omega,λl t af K=>?_⟩;rw[ay _ _ _ _ af];refine(d.block l (by simp;omega) (λe=>?_)).trans (eI _ _ _ t);have p:(B6 n g o).ownBlock=M l:=e.symm;rcases m.1.2 with⟨c,_⟩|⟨q,F,G,c,_,r,_⟩
  .rw[c]at p;simp[Ad]at p
  .rw[c]at p;obtain rfl:q=l:=by simpa [Ad] using p
   exact K _ _ r
 have H:B2 base w (w5.setCell ⟨b,1,Y⟩ (Z (M ⟨v,0,Y⟩) (g+1) u)):=by
  have E:B2 base w (w.alloc (A1 #[O E1 a] 75)):=(ah _ w).alloc (by omega) _;exact(E.grown d (by simp;omega) (λl t=>(z l t).2)).setCell x _
 go_end0
 exact⟨rfl,J,I,H⟩
def KH(w:Ak)(base b:Nat)(k:Ax)(st:List Int)(a:Int)(h:It w base b k (a::st))(o:st.length<=100000000):
  A5 A0 59 #[Bn (M ⟨b,1,Y⟩)] w λe w'=>e= A2 (O E1 a)/\It w' base b k st/\Gp b w w'/\B2 base w w':=by
 have⟨y,f,d⟩:=h.ex;have j:=h.lo;have⟨g,c⟩:=aC st.length;rw[bc,KG,c]at d;rw[c]at o;obtain⟨i,m,rfl⟩:=B7 d;have hcut:=aki (by rw[Is,c,sH]) d;have u:=akj d;have q:w.cell? ⟨b,1,Y⟩=M (Z (M ⟨i,0,Y⟩) (g+1) m):=by rw[aj _ _ _ _ _ _ f];rfl
 have r:w.cell? ⟨i,g,Y⟩=M (O E1 a):=by
  rw[d.cellAt g (by omega),eD (by rw[Is];omega),Is,c,fx];rfl
 have s:w.frozen? ⟨b,1,Y⟩=Bc:=cH _ _ _ _ _ f;have n:=It.put f j (by rw[c];exact hcut);have l:=am n;go_in;go_wp21
 go_ret;refine⟨rfl,l,⟨rfl,rfl,rfl,by simp[A3],λx v p t=>ay _ _ _ _ p⟩,(ah _ w).setCell j _⟩
