import Derived.Test.YtoahhnnflblfaaaGreatDoorHVk07
import Derived.Test.YtoahhnnflblfaaaGreatDoorHVk14
set_option linter.all false
set_option maxRecDepth 100000
set_option maxHeartbeats 25600000
open Option renaming some->M,none->Q
open Go renaming World->O,Value->X,Calls->A0,ownsRow_succ->A7,TypeId->A9,maxLen->B1
open Bool renaming false->R,true->A6
open Go.Value renaming ownBlock->S,int->U,slice->A3,int->A4,slice->A5,bool->A8,agg->B0
open Go.IntKind renaming i64->T
open Go.Proofs.Tryz renaming prog->V
open Go.RowKit renaming Below->Y,Hid->A2,intOf->Br
open Go.World renaming setCell->Z,news_of_block->Ax
open Go.Ending renaming returned->A1
namespace Go.Proofs.YtoahhnnflblfaaaGreatDoor
open Go.RowKit Go.Maps Go.WideMaps
theorem ahb{w:O}{h:X}{ns:List Nd}{N:Nd}{vn vk:X}(d:gn w h ns N vn vk)(g:N.k=2):
  A0 V 45 #[B0 #[h],dy N vn vk] w fun e f=>e= A1 (A8 (aD N R R R A6&&ez N 1 200&&iF ns N N.ks.length 0))/\Y w.heap.size w f:=by
 obtain⟨z,C,rfl⟩:=d.t.form;obtain⟨A,E,rfl⟩:=d.n.form;obtain⟨B,F,rfl⟩:=d.k.form;have b:=St.start d;have G:=d.lx;have y:A2 (N.x.size<=1100000):=by show _<=_;omega
 clear d;have H:=ci g;have I:=kH g 2 rfl;clear g;cases t0:aD N R R R A6
 case' true=>
  cases t1:ez N 1 200
  case' true=>
   cases t2:iF ns N N.ks.length 0
 all_goals
  unfold dy;go_in;go_wp2_with (first|(go_at_call 97;refine(lp _ N _ _ b.a.n b.a.k b.a.l1).mono ?_;rintro e f ⟨rfl,c⟩;replace b:=b.below c;clear c;obtain⟨i,j,l,m,o,p,q,r,s,u⟩:=aq b.bn;have v:=b.bt)|(go_at_call 98;refine(jy _ N _ _ 1 200 b.a.n b.a.k b.a.l1 b.a.ls).mono ?_;rintro e f ⟨rfl,c⟩;replace b:=b.below c;clear c;obtain⟨i,j,l,m,o,p,q,r,s,u⟩:=aq b.bn;have v:=b.bt)|(go_at_call 99;refine(dz _ _ ns N _ _ 0 N.ks.length b.a.t b.a.n b.a.k b.a.ok (ag _) b.a.ln b.a.l2).mono ?_;rintro e f ⟨rfl,c⟩;replace b:=b.below c;clear c;obtain⟨i,j,l,m,o,p,q,r,s,u⟩:=aq b.bn;have v:=b.bt));go_ret;exact⟨rfl,b.bel⟩
theorem ahc{w:O}{h:X}{ns:List Nd}{N:Nd}{vn vk:X}(d:gn w h ns N vn vk)(g:N.k=4):
  A0 V 45 #[B0 #[h],dy N vn vk] w fun e f=>e= A1 (A8 (aD N R R R A6&&ez N 1 1&&((N.ks.length:Int)==1)&&(eu ns N 0==36)))/\Y w.heap.size w f:=by
 obtain⟨C,G,rfl⟩:=d.t.form;obtain⟨E,H,rfl⟩:=d.n.form;obtain⟨F,I,rfl⟩:=d.k.form;have b:=St.start d;have J:=d.lx;have B:A2 (N.x.size<=1100000):=by show _<=_;omega
 clear d;have K:=ci g;have L:=kH g 4 rfl;clear g;cases t0:aD N R R R A6
 case' true=>
  cases t1:ez N 1 1
  case' true=>
   cases t2:((N.ks.length:Int)==1)
   case' true=>
    have y:N.ks.length=1:=by have:=ga t2;omega
    have A:A2 (1<=N.ks.length):=by show _<=_;omega
    have z:A2 (0<N.ks.length):=by show _<_;omega
    clear y;cases t3:(eu ns N 0==36)
 all_goals
  unfold dy;go_in;go_wp2_with (first|(go_at_call 97;refine(lp _ N _ _ b.a.n b.a.k b.a.l1).mono ?_;rintro e f ⟨rfl,c⟩;replace b:=b.below c;clear c;obtain⟨i,j,l,m,o,p,q,r,s,u⟩:=aq b.bn;have v:=b.bt)|(go_at_call 98;refine(jy _ N _ _ 1 1 b.a.n b.a.k b.a.l1 b.a.ls).mono ?_;rintro e f ⟨rfl,c⟩;replace b:=b.below c;clear c;obtain⟨i,j,l,m,o,p,q,r,s,u⟩:=aq b.bn;have v:=b.bt)|(go_at_call 96;with_reducible refine(vF b.a z.out).mono ?_;rintro e f ⟨rfl,c⟩;replace b:=b.below c;clear c;obtain⟨i,j,l,m,o,p,q,r,s,u⟩:=aq b.bn;have v:=b.bt));go_ret;exact⟨rfl,b.bel⟩
theorem ahd{w:O}{h:X}{ns:List Nd}{N:Nd}{vn vk:X}(c:gn w h ns N vn vk)(f:N.k=6):
  A0 V 45 #[B0 #[h],dy N vn vk] w fun e g=>e= A1 (A8 (aD N R R R R&&((N.ks.length:Int)==1)&&(eu ns N 0==34)))/\Y w.heap.size w g:=by
 obtain⟨C,G,rfl⟩:=c.t.form;obtain⟨E,H,rfl⟩:=c.n.form;obtain⟨F,I,rfl⟩:=c.k.form;have b:=St.start c;have J:=c.lx;have B:A2 (N.x.size<=1100000):=by show _<=_;omega
 clear c;have K:=ci f;have L:=kH f 6 rfl;clear f;cases t0:aD N R R R R
 case' true=>
  cases t1:((N.ks.length:Int)==1)
  case' true=>
   have i:N.ks.length=1:=by have:=ga t1;omega
   have A:A2 (1<=N.ks.length):=by show _<=_;omega
   have j:A2 (0<N.ks.length):=by show _<_;omega
   clear i;cases t2:(eu ns N 0==34)
 all_goals
  unfold dy;go_in;go_wp2_with (first|(go_at_call 97;refine(de _ N _ _ b.a.n b.a.k b.a.l1).mono ?_;rintro e g ⟨rfl,d⟩;replace b:=b.below d;clear d;obtain⟨l,m,o,p,q,r,s,u,v,y⟩:=aq b.bn;have z:=b.bt)|(go_at_call 96;with_reducible refine(vF b.a j.out).mono ?_;rintro e g ⟨rfl,d⟩;replace b:=b.below d;clear d;obtain⟨l,m,o,p,q,r,s,u,v,y⟩:=aq b.bn;have z:=b.bt));go_ret;exact⟨rfl,b.bel⟩
theorem adG{w:O}{h:X}{ns:List Nd}{N:Nd}{vn vk:X}(c:gn w h ns N vn vk)(f:N.k=16):
  A0 V 45 #[B0 #[h],dy N vn vk] w fun e g=>e= A1 (A8 (aD N R R R R&&((N.ks.length:Int)==1)&&(eu ns N 0==34)))/\Y w.heap.size w g:=by
 obtain⟨C,G,rfl⟩:=c.t.form;obtain⟨E,H,rfl⟩:=c.n.form;obtain⟨F,I,rfl⟩:=c.k.form;have b:=St.start c;have J:=c.lx;have B:A2 (N.x.size<=1100000):=by show _<=_;omega
 clear c;have K:=ci f;have L:=kH f 16 rfl;clear f;cases t0:aD N R R R R
 case' true=>
  cases t1:((N.ks.length:Int)==1)
  case' true=>
   have i:N.ks.length=1:=by have:=ga t1;omega
   have A:A2 (1<=N.ks.length):=by show _<=_;omega
   have j:A2 (0<N.ks.length):=by show _<_;omega
   clear i;cases t2:(eu ns N 0==34)
 all_goals
  unfold dy;go_in;go_wp2_with (first|(go_at_call 97;refine(de _ N _ _ b.a.n b.a.k b.a.l1).mono ?_;rintro e g ⟨rfl,d⟩;replace b:=b.below d;clear d;obtain⟨l,m,o,p,q,r,s,u,v,y⟩:=aq b.bn;have z:=b.bt)|(go_at_call 96;with_reducible refine(vF b.a j.out).mono ?_;rintro e g ⟨rfl,d⟩;replace b:=b.below d;clear d;obtain⟨l,m,o,p,q,r,s,u,v,y⟩:=aq b.bn;have z:=b.bt));go_ret;exact⟨rfl,b.bel⟩
theorem abq{w w1:O}{r:List Int×Bool}{e:Ending}{b:O}(a:Y w.heap.size w w1)(h:jJ w1 r e b):jJ w r e b:=by
 obtain⟨c,d,rfl,g,f⟩:=h;exact⟨c,d,rfl,my g a.size,a.trans (f.mono a.size)⟩
theorem ahe{p:Prop}[Decidable p] {a b:List Int×Bool}(c:a.1.length<=6) (d:b.1.length<=6):(if p then a else b).1.length<=6:=by split<;>assumption
theorem abr(t:Int):(Ab t).1.length<=6:=by
 unfold Ab
 repeat' (first|(apply ahe<;>skip)|exact Nat.le_of_ble_eq_true rfl)
theorem Au(w:O)(t:Int):A0 V 39 #[.int .i64 100,.int .i64 t] w (jJ w (aju t)):=by
 unfold aju;by_cases d:t=5
 ·subst d;show A0 _ _ _ _ (jJ w ([5,100],A6));go_in;go_wp2_with (go_at_call 79;refine fc (ti _ _) ?_);go_ret2;exact qB w [5,100] A6 (by simp)
 ·rw[aa d];have a:=fun w=>IJ w t;have e:=abr t;have z:(t==5)=R:=beq_eq_false_iff_ne.2 d;generalize Ab t=y at a e⊢;obtain⟨x,j⟩:=y;simp only at e⊢;obtain⟨E,c⟩:=aA x.length;obtain⟨q,r,s,u,v⟩:=fl pJ;cases j with
  |true=>
   rw[ab rfl];unfold jJ at a⊢;simp only at a⊢;rw[aF,fK];rw[c]at a e⊢;clear c;go_in;go_wp2_with (first|(go_at_call 80;refine(a _).mono ?_;rintro l w1 ⟨i,k,rfl,f,b⟩;have p:=b.size)|(at_builtin;refine pH _ rfl _ _ 31 rfl w.heap.size 3 q _ 1 8 Tryz.underlying31 r s u v rfl (by decide) _ _ _ rfl (f.alloc _) ⟨w1.heap.size,0,Q⟩ 1 1 [.int .i64 101] rfl rfl (Ax (cs:=#[.int .i64 101]) (fr:=(0,0)) (ar w1 _)) (by intro F h;simp at h;subst h;rfl) (by unfold B1;omega) (by omega) (by simp;omega) ?_;intro G H g o C;obtain⟨B,A,rfl⟩:=A7 g));go_ret2;exact⟨_,_,rfl,g,(b.alloc p _).grown o (by simp;omega) (fun m n=>(f.lt m n).1)⟩
  |false=>
   rw[aa (by decide)];unfold jJ at a;simp only at a;rw[c]at a;clear c;go_in;go_wp2_with (go_at_call 80;refine(a _).mono ?_;rintro l w1 ⟨i,k,rfl,f,b⟩);go_ret2;exact abq b (zm _ A6)
theorem GC(w:O)(s t:Int)(b:101<=s)(c:s<=133):A0 V 39 #[U T s,U T t] w (jJ w (xE s t)):=by
 have f:=fun w=>rh w t;have g:=fun w=>xK w t;have h:=fun w=>IK w t;obtain rfl|rfl|rfl|rfl|rfl|rfl|rfl|rfl|rfl|rfl|rfl|rfl|rfl|rfl|rfl|rfl|rfl|rfl|rfl|rfl|rfl|rfl|rfl|rfl|rfl|rfl|rfl|rfl|rfl|rfl|rfl|rfl|rfl:s=101\/s=102\/s=103\/s=104\/s=105\/s=106\/s=107\/s=108\/s=109\/s=110\/s=111\/s=112\/s=113\/s=114\/s=115\/s=116\/s=117\/s=118\/s=119\/s=120\/s=121\/s=122\/s=123\/s=124\/s=125\/s=126\/s=127\/s=128\/s=129\/s=130\/s=131\/s=132\/s=133:=by omega
 all_goals
  clear b c;go_in;go_wp2_with (first|(go_at_call 79;refine fc (ti _ _) ?_)|(go_at_call 81;refine fc (f _) ?_)|(go_at_call 129;refine fc (g _) ?_)|(go_at_call 128;refine(h _).mono ?_;rintro a k ⟨i,j,rfl,e,d⟩)|go_in);all_goals
   go_ret2;first
    |exact⟨_,_,rfl,e,d⟩
    |(go_tidy
      simp only[xE,Ec,alI,alJ,ajv,ajw,ajx,alK,alL,agD,al0,al1,al2,al3,al4,al5,al6,al7,al8,al9,ajy,agE,ajz,ajA,ajB,ajC,amb,amc,amd,ajD,ame,ajE,amf,amg,ieq, *];simp[*];first|exact qB w _ _ (by simp)|exact zm w _|(by_cases a:t=21<;>simp_all<;>(try rw[show(t==46||t==21)=R by simp[*]])<;>exact qB w _ _ (by simp))|(by_cases a:t=44<;>simp_all<;>exact qB w _ _ (show 2<=100 by decide)))
theorem Ez(w:O)(s t:Int)(c:100<=s)(b:s<=133):A0 V 39 #[U T s,U T t] w (jJ w (xE s t)):=by
 by_cases a:s=100
 ·subst a;exact Au w t
 ·exact GC w s t (by omega) b
theorem adH:(Tryz.prog.info? 101).map (fun i=>(i.zero,i.size,i.bytes))=M (M (B0 #[U T 0,U T 0]),2,16):=by kernel_rfl
def cCl(C:List (Int×Int)):List X:=C.flatMap fun a=>[U T a.1,U T a.2]
theorem Le(C:List (Int×Int)):(cCl C).length=C.length*2:=by
 induction C with
 |nil=>rfl
 |cons b c a=>simp only[cCl,yL,aF,cC,gq]at a⊢;omega
theorem Lg(C D:List (Int×Int)):cCl (C++D)=cCl C++cCl D:=by simp[cCl]
theorem adI:∀(C:List (Int×Int))(i:Nat)(c:Int×Int),C[i]?=M c->(cCl C)[i*2]?=M (U T c.1)/\(cCl C)[i*2+1]?=M (U T c.2)
 |[],i,c,h=>by simp at h
 |a::r,0,c,h=>by
  obtain rfl:a=c:=by simpa using h
  exact⟨rfl,rfl⟩
 |a::r,i+1,c,h=>by
  have e:=adI r i c (by simpa using h);have d:∀b,(cCl (a::r))[b+2]?=(cCl r)[b]?:=fun b=>rfl;rw[show(i+1)*2=i*2+2 by omega,show i*2+2+1=(i*2+1)+2 by omega,d,d];exact e
structure uh (W:O) (base mb:Nat) (C:List (Int×Int)):Prop where
 ex:∃v,W.heap[mb]?=M (.cells #[v] 66 (0,0))/\W.ownsRow base 101 2 v C.length (cCl C)
 lo:base<=mb
structure Kp (mb:Nat) (w w':O):Prop where
 os:w'.os=w.os
 tape:w'.tape=w.tape
 output:w'.output=w.output
 size:w.heap.size<=w'.heap.size
 block:∀k,k<w.heap.size->k≠mb->(∀cs fr,w.heap[k]?≠M (.cells cs 101 fr))->w'.heap[k]?=w.heap[k]?
theorem Kp.refl(mb:Nat)(w:O):Kp mb w w:=⟨rfl,rfl,rfl,ag _,fun _ _ _ _=>rfl⟩
theorem Kp.trans{mb:Nat}{x y e:O}(h:Kp mb x y)(k:Kp mb y e):Kp mb x e:=
 ⟨k.os.trans h.os,k.tape.trans h.tape,k.output.trans h.output,dh h.size k.size,fun d b c a=>
  (k.block d (jq b h.size) c (fun f g=>by rw[h.block d b c a];exact a f g)).trans (h.block d b c a)⟩
theorem Kp.of_below{mb:Nat}{w a:O}(h:Y w.heap.size w a):Kp mb w a:=⟨h.os,h.tape,h.output,h.size,fun c b _ _=>h.block c b⟩
theorem Kp.blk{mb:Nat}{w c:O}(h:Kp mb w c){k:Nat}{cs:Array X}{t:A9}{fr:Nat×Nat}(a:w.heap[k]?=M (.cells cs t fr))(e:t≠101)(d:k≠mb):c.heap[k]?=M (.cells cs t fr):=
 (h.block k (au a) d (fun f g b=>by rw[a]at b;cases b;exact e rfl)).trans a
theorem Kp.row{mb:Nat}{w c:O}(h:Kp mb w c){t:X}{i:Nat×Nat}(l:w.heap[mb]?=M (.cells #[t] 66 i)){base e size n:Nat}{v:X}{d:List X}(o:w.ownsRow base e size v n d)(m:e≠101)(p:e≠66):c.ownsRow base e size v n d:=by
 obtain⟨k,b⟩:=o;refine⟨k,?_⟩;rcases b with b|⟨j,f,g,r,q,a,s⟩
 ·exact .inl b
 ·refine .inr ⟨j,f,g,r,q,h.blk a m ?_,s⟩;rintro rfl;rw[l]at a;simp only[iq,lC]at a;exact p a.2.1.symm
theorem uh.below{a b:O}{base mb:Nat}{C:List (Int×Int)}(h:uh a base mb C)(d:Y a.heap.size a b):uh b base mb C:=by
 obtain⟨f,c,e⟩:=h.ex;exact⟨⟨f,(d.block _ (au c)).trans c,aI e d⟩,h.lo⟩
def ot(C:List (Int×Int)):Int->List Int->Prop
 |top,[]=>top= -1
 |top,s::r=>∃(i:Nat) (b:Int),top=(i:Int)/\C[i]?=M (s,b)/\ot C b r
theorem ot.app{C:List (Int×Int)}(D:List (Int×Int)):∀{st:List Int}{a:Int},ot C a st->ot (C++D) a st
 |[],a,h=>h
 |s::r,a,⟨i,b,d,c,e⟩=>⟨i,b,d,by rw[iD (List.getElem?_eq_some_iff.1 c).1];exact c,e.app D⟩
theorem ot.push{C:List (Int×Int)}{st:List Int}{a:Int}(h:ot C a st)(s:Int):ot (C++[(s,a)]) (C.length:Int) (s::st):=
 ⟨C.length,a,rfl,by rw[gF (ag _),gH];rfl,h.app _⟩
theorem Av(w:O)(base mb:Nat)(C:List (Int×Int))(o n:Int)(h:uh w base mb C)(af:C.length<=100000000):
  A0 V 40 #[.pointer (M ⟨mb,0,Q⟩),.int .i64 o,.int .i64 n] w fun e y=>e= .returned (.int .i64 (C.length:Nat))/\uh y base mb (C++[(n,o)])/\Kp mb w y/\Y base w y:=by
 obtain⟨a5,f,g⟩:=h.ex;have F:=h.lo;obtain⟨j,u⟩:=aA C.length;rw[u]at g af⊢;obtain⟨k,l,rfl⟩:=cH g;obtain⟨am,an,ao,ap,av⟩:=fl adH;have ak:=au f;have a2:mb≠w.heap.size:=by omega
 have a0:w.cell? ⟨mb,0,Q⟩=M (.slice k j l):=by rw[ay _ _ _ _ _ _ f];rfl
 have G:∀c,(A3 k j l).ownBlock=M c->c≠mb/\base<=c:=fun c m=>by
  refine⟨?_,(g.lt c m).1⟩;rintro rfl;rcases g.2 with⟨a,_⟩|⟨r,A,B,a,_,d,_⟩
  ·rw[a]at m;simp[S]at m
  ·rw[a]at m;obtain rfl:r=c:=by simpa [S] using m
   rw[d]at f;cases f
 have p:=jn g f u;clear g f u h;go_in;go_wp2_with (at_builtin;refine pH _ rfl _ _ 64 rfl base 101 am _ 2 16 Tryz.underlying64 an ao ap av rfl (by decide) _ _ _ rfl (p.out.1.alloc _) ⟨w.heap.size,0,Q⟩ 1 1 [.int .i64 n,.int .i64 o] rfl rfl (Ax (cs:=#[.int .i64 n,.int .i64 o]) (fr:=(0,0)) (ar w _)) (by intro a4 H;simp at H;rcases H with rfl|rfl<;>rfl) (by unfold B1;omega) (by omega) (by simp;omega) ?_;intro a6 z x b a3;obtain⟨E,J,rfl⟩:=A7 x;have s:z.heap[mb]?=M (.cells #[.slice k j l] 66 (0,0)):=(b.block mb (by simp;omega) (fun e=>(G mb e.symm).1 rfl)).trans ((dt _ _ _ ak).trans p.out.2.1);have a7:z.cell? ⟨mb,0,Q⟩=M (.slice k j l):=(by rw[ay _ _ _ _ _ _ s];rfl);have a1:z.frozen? ⟨mb,0,Q⟩=R:=dI _ _ _ _ _ s);go_ret;have al:=b.size;rw[bu]at al;refine⟨by go_num,⟨⟨.slice (M ⟨E,0,Q⟩) (j+1) J,cE _ mb 0 _ _ _ s,?_⟩,F⟩,?_,?_⟩
 ·rw[aF,p.out.2.2,Lg];refine x.kept (row:=M mb) ⟨rfl,rfl,rfl,by simp[Z],fun i t v=>bh _ _ _ _ (fun e=>v (by rw[e]))⟩ ?_;refine .inr ?_;intro e;obtain rfl:E=mb:=by simpa [S] using e
  rcases x.2 with⟨a,_⟩|⟨r,A,B,a,_,d,_⟩
  ·cases a
  ·cases a;rw[s]at d;cases d
 ·refine⟨b.os,b.tape,b.output,by simp[Z];omega,fun i t v L=>?_⟩;rw[bh _ _ _ _ v];refine(b.block i (by simp;omega) (fun e=>?_)).trans (dt _ _ _ t);have q:(A3 k j l).ownBlock=M i:=e.symm;rcases p.out.1.2 with⟨a,_⟩|⟨r,A,B,a,_,d,_⟩
  ·rw[a]at q;simp[S]at q
  ·rw[a]at q;obtain rfl:r=i:=by simpa [S] using q
   exact L _ _ d
 ·have K:base<=w.heap.size:=by omega
  have I:Y base w (w.alloc (.cells #[.int .i64 n,.int .i64 o] 101)):=(ai _ w).alloc K _;exact(I.grown b (by simp;omega) (fun i t=>(G i t).2)).setCell F _
theorem xg:∀{f:Nat}{st:List Int}{t:Int}{n:Nat}{a:List Int}{b:Option Bool}{m:Nat},jA f st t n=M (a,b,m)->n<=m
 |0,_,_,_,_,_,_,h=>by simp[jA]at h
 |f+1,[],t,n,a,b,m,h=>by
  simp only[jA,iq,pG]at h;omega
 |f+1,s::r,t,n,a,b,m,h=>by
  by_cases d:s<100
  ·have:=(sn h d).2.2;omega
  ·rcases lq h (by omega) with⟨_,c⟩|⟨_,_,_,c⟩
   ·have:=xg c;omega
   ·omega
structure Aw (w:O) (base mb:Nat) (C:List (Int×Int)) (t:Int) (Res:List Int×Bool) (k:Nat) (stk:List Int) (top:Int) (D:List (Int×Int)) (W:O):Prop where
 m:uh W base mb (C++D)
 s:ot (C++D) top stk
 o:De stk
 kp:Kp mb w W
 bl:Y base w W
 d:D.length<=20
 ph:(D=[]/\dB stk t=Res/\stk.length+9<=k)\/∃cur r f lo b m,stk=cur++r/\jA f cur t D.length=M (lo,M b,m)/\(lo++r,b)=Res/\m<=20/\f<=k
theorem Aw.nil{w:O}{base mb:Nat}{C:List (Int×Int)}{t:Int}{a:List Int×Bool}{k:Nat}{j:Int}{D:List (Int×Int)}{d:O}(h:Aw w base mb C t a k [] j D d):a=([],R):=by
 rcases h.ph with⟨_,f,_⟩|⟨e,o,c,m,l,n,g,b,_⟩
 ·rw[<-f];rfl
 ·have i:e=[]:=(List.append_eq_nil_iff.1 g.symm).1;subst i;cases c with
  |zero=>simp[jA]at b
  |succ c=>simp[jA]at b
theorem Aw.tok{w:O}{base mb:Nat}{C:List (Int×Int)}{t:Int}{c:List Int×Bool}{k:Nat}{s:Int}{f:List Int}{n:Int}{D:List (Int×Int)}{g:O}(h:Aw w base mb C t c k (s::f) n D g)(e:s<100):c=(f,decide (s=t)):=by
 rcases h.ph with⟨_,i,_⟩|⟨d,r,b,p,o,q,j,a,l,_⟩
 ·rw[<-i];exact oJ e
 ·cases d with
  |nil=>
   cases b with
   |zero=>simp[jA]at a
   |succ b=>simp[jA]at a
  |cons u d=>
   obtain⟨rfl,rfl⟩:=mH j;cases b with
   |zero=>simp[jA]at a
   |succ b=>
    obtain⟨rfl,m,_⟩:=sn a e;rw[<-l,db m];rfl
theorem Aw.no{w:O}{base mb:Nat}{C:List (Int×Int)}{t:Int}{i:List Int×Bool}{k:Nat}{s:Int}{m:List Int}{z:Int}{D:List (Int×Int)}{n:O}(h:Aw w base mb C t i k (s::m) z D n)(x:1<=t)(y:t<=78)(d:100<=s)(g:(xE s t).2=R):i=(m,R):=by
 rcases h.ph with⟨_,q,_⟩|⟨j,E,c,v,p,A,r,a,u,_⟩
 ·have l:¬((xE s t).1=[]/\(xE s t).2=A6):=by rw[g];simp
  obtain⟨v,p,B,a,_⟩:=Aq d (h.o s (bz ..)) x y l;rw[<-q,qD d l a];rcases lq a d with⟨b,_⟩|⟨_,e,f,_⟩
  ·rw[g]at b;cases b
  ·rw[e,db f];rfl
 ·cases j with
  |nil=>
   cases c with
   |zero=>simp[jA]at a
   |succ c=>simp[jA]at a
  |cons F j=>
   obtain⟨rfl,rfl⟩:=mH r;cases c with
   |zero=>simp[jA]at a
   |succ c=>
    rcases lq a d with⟨b,_⟩|⟨_,e,f,_⟩
    ·rw[g]at b;cases b
    ·rw[<-u,e,db f];rfl
theorem Aw.step{w:O}{base mb:Nat}{C:List (Int×Int)}{t:Int}{z:List Int×Bool}{k:Nat}{s:Int}{c:List Int}{a3:Int}{D:List (Int×Int)}{I:O}(h:Aw w base mb C t z k (s::c) a3 D I)(F:1<=t)(G:t<=78)(e:100<=s)(hx:(xE s t).2=A6){E:List (Int×Int)}{y:Int}{f:O}(q:E.length=(xE s t).1.length)
  (am:uh f base mb (C++D++E)) (ap:ot (C++D++E) y ((xE s t).1++c)) (u:Kp mb w f) (r:Y base w f):D.length+(xE s t).1.length<=20/\∃B,B<k/\Aw w base mb C t z B ((xE s t).1++c) y (D++E) f:=by
 have A:=h.o s (bz ..);have av:=(K9 e A F G).1;have l:De ((xE s t).1++c):=fun H hx=>by
  rcases List.mem_append.1 hx with hx|hx
  ·exact av H hx
  ·exact h.o H (dm _ hx)
 have v:uh f base mb (C++(D++E)):=by rw[<-dC];exact am
 have j:ot (C++(D++E)) y ((xE s t).1++c):=by rw[<-dC];exact ap
 have g:(D++E).length=D.length+(xE s t).1.length:=by rw[aF,q]
 rcases h.ph with⟨af,p,al⟩|⟨n,a2,d,x,m,a0,J,b,K,L,a4⟩
 ·subst af;by_cases i:(xE s t).1=[]/\(xE s t).2=A6
  ·rw[i.1]at q j l g⊢;have ak:E=[]:=jr (by simpa using q);subst ak;refine⟨by simp,c.length+9,by simp only[cC]at al;omega,v,j,l,u,r,by simp,.inl ⟨rfl,?_,ag _⟩⟩;rw[fx,<-p,qC e i]
  ·obtain⟨x,m,a1,b,ao⟩:=Aq e A F G i;rw[qD e i b]at p;rcases lq b e with⟨_,a⟩|⟨a,_⟩
   ·rw[fj]at a;have an:=xg a;refine⟨by simp only[gq];omega,7,by omega,v,j,l,u,r,by rw[g];simp only[gq];omega,.inr ⟨(xE s t).1,c,7,x,m,a1,rfl,?_,p,ao,ag _⟩⟩;rw[g];exact a
   ·rw[hx]at a;cases a
 ·cases n with
  |nil=>
   cases d with
   |zero=>simp[jA]at b
   |succ d=>simp[jA]at b
  |cons a5 n=>
   obtain⟨rfl,rfl⟩:=mH J;cases d with
   |zero=>simp[jA]at b
   |succ d=>
    rcases lq b e with⟨_,a⟩|⟨a,_⟩
    ·have an:=xg a;refine⟨by omega,d,by omega,v,j,l,u,r,by rw[g];omega,.inr ⟨(xE s t).1++n,a2,d,x,m,a0,by rw[dC];rfl,?_,K,L,ag _⟩⟩;rw[g];exact a
    ·rw[hx]at a;cases a
def sr(w:O)(base mb:Nat)(C:List (Int×Int))(b:List Int×Bool)(e:Ending)(a:O):Prop:=
 ∃(c:Int) (D:List (Int×Int)),e= A1 (.tuple #[U T c,A8 b.2])/\uh a base mb (C++D)/\ot (C++D) c b.1/\D.length<=20/\Kp mb w a/\Y base w a
theorem vL(w:O)(base mb:Nat)(C:List (Int×Int))(st:List Int)(L t:Int)(h:uh w base mb C)(bw:ot C L st)(bs:De st)(a6:1<=t)(a7:t<=78)(da:C.length<=50000000):
  A0 V 20 #[.pointer (M ⟨mb,0,Q⟩),U T L,U T t] w (sr w base mb C (dB st t)):=by
 obtain⟨B,an⟩:=aA (dB st t);rw[an];have ct:base<=w.heap.size:=by obtain⟨b3,cb,_⟩:=h.ex;have:=au cb;have:=h.lo;omega
 have bd:A2 (Aw w base mb C t B (st.length+9) st L [] w):=⟨by rw[fj];exact h,by rw[fj];exact bw,bs,Kp.refl _ _,ai _ _,by simp,.inl ⟨rfl,an,ag _⟩⟩;clear h bw bs an;go_in;go_wp2_with fail;go_loopg [1] (st.length+9) (fun cu bb wr=>∃(a5:List Int) (q:Int) (D:List (Int×Int)),bb= U T q/\A2 (Aw w base mb C t B cu a5 q D wr))
 case atStart=>exact⟨st,L,[],rfl,bd⟩
 case round=>
  obtain⟨a5,q,D,rfl,a⟩:=hrel;clear bd;cases a5 with
  |nil=>
   have am:q= -1:=a.out.s;subst am;have k:=aj a.out.nil;go_wp2_with fail;go_ret2;refine⟨-1,D,?_,a.out.m,?_,a.out.d,a.out.kp,a.out.bl⟩
   ·rw[k.out];rfl
   ·rw[k.out];exact a.out.s
  |cons e a8=>
   obtain⟨f,l,cm,ao,r⟩:=a.out.s;subst cm;obtain⟨b3,v,I⟩:=a.out.m.ex;have cn:=(List.getElem?_eq_some_iff.1 ao).1;obtain⟨g,al,rfl⟩:∃g al,b3= A5 (M ⟨g,0,Q⟩) (C++D).length al:=by
    rcases bK I with⟨hz,_⟩|hz
    ·omega
    ·exact hz
   have ap:=adI _ f _ ao;have cf:=Le (C++D);have bj:wr.cell? ⟨g,f*2,Q⟩=M (U T e):=by rw[I.cellAt (f*2) (by omega)];exact ap.1
   have bk:wr.cell? ⟨g,f*2+1,Q⟩=M (U T l):=by rw[I.cellAt (f*2+1) (by omega)];exact ap.2
   obtain⟨a2,H⟩:=aA ((C++D).length);have c4:=a.out.d;have dg:a2<=50000020:=by rw[<-H,aF];omega
   rw[H]at v cn;have bf:wr.cell? ⟨mb,0,Q⟩=M (A5 (M ⟨g,0,Q⟩) a2 al):=by rw[ay _ _ _ _ _ _ v];rfl
   obtain⟨u,G⟩:∃u:Addr,(⟨g,0,Q⟩:Addr)=u:=⟨_,rfl⟩;have b9:wr.cell? (u.add (f*2))=M (U T e):=by rw[<-G,show((⟨g,0,Q⟩:Addr).add (f*2))=⟨g,f*2,Q⟩ by unfold Addr.add;split<;>simp_all];exact bj
   have ca:wr.cell? ⟨(u.add (f*2)).block,(u.add (f*2)).off+1,Q⟩=M (U T l):=by rw[<-G,show((⟨g,0,Q⟩:Addr).add (f*2))=⟨g,f*2,Q⟩ by unfold Addr.add;split<;>simp_all];exact bk
   rw[G]at bf;have c6:(f:Int)<(a2:Int):=by omega
   have c5:(0:Int)<=(f:Int):=by omega
   have dc:=au v;have c2:base<=wr.heap.size:=dh ct a.out.bl.size;have A:=jn H v r;clear bj bk ap cf I v H G ao r;by_cases cr:e<100
   ·have k:A2 (B=(a8,decide (e=t))):=a.out.tok cr;have ck:∀a3,Y base wr (wr.alloc a3).drew:=fun a3=>be ((ai _ wr).alloc (by omega) a3);have c3:(wr.alloc (.cells #[U T e,U T l] 101)).cell? ⟨wr.heap.size,0,Q⟩=M (U T e):=by rw[ay _ _ _ _ _ _ (ar wr _)];rfl
    go_wp2_with fail;go_region_held3 (fun cy=>cy.cell? ⟨wr.heap.size,0,Q⟩=M (U T e)) (go_keep) (fail)
    go_wp2_with fail;go_ret2;have p:Y wr.heap.size wr (wr.alloc (.cells #[U T e,U T l] 101)).drew:=be (bI wr _);refine⟨l,D,?_,a.out.m.below p,?_,a.out.d,a.out.kp.trans (Kp.of_below p),a.out.bl.trans (ck _)⟩
    ·rw[k.out];rfl
    ·rw[k.out];exact A.out.2.2
   ·have K:100<=e:=by omega
    have bx:e<=133:=a.out.o e (bz ..);have x:=fun w=>Ez w e t K bx;have bA:=(K9 K bx a6 a7).2;obtain⟨s,J⟩:=aA ((xE e t).1);obtain⟨cx,a0⟩:=aA ((xE e t).2);unfold jJ at x;rw[J,a0]at x;rw[J]at bA;obtain⟨i,av⟩:=aA s.length;rw[av]at x bA;have o:=jn J a0 av;clear J a0 av;have p:=bI wr (.cells #[U T e,U T l] 101);go_wp2_with fail;have b5:=aj p;refine(x _).mono ?_;rintro am y ⟨a4,bE,rfl,bt,bo⟩;have E:Y wr.heap.size wr y:=p.trans (bo.mono p.size);have dj:=E.size;have n:A2 (uh y base mb (C++D)/\Kp mb w y/\Y base w y/\y.ownsRow base 3 1 (A5 a4 i bE) i (s.map (A4 T))):=
     ⟨a.out.m.below E,a.out.kp.trans (Kp.of_below E),a.out.bl.trans (E.mono (by omega)),my bt (by simp;omega)⟩
    clear x p b5 bt bo bf b9 ca;cases cx with
    |false=>
     have k:A2 (B=(a8,R)):=a.out.no a6 a7 K o.out.2.1;go_wp2_with fail;go_ret2;refine⟨l,D,?_,n.out.1,?_,a.out.d,n.out.2.1,n.out.2.2.1⟩
     ·rw[k.out];rfl
     ·rw[k.out];exact A.out.2.2
    |true=>
     have dd:(C++D).length<=50000020:=by rw[A.out.1];omega
     go_wp2_with fail;go_loopw [1,11] (fun bb ba af=>∃(b:Nat) (q:Int) (j:List (Int×Int)),b<=i/\ba= U T ((b:Int)-1)/\bb= U T q/\A2 (j.length=i-b/\uh af base mb (C++D++j)/\ot (C++D++j) q (s.drop b++a8)/\Kp mb w af/\Y base w af/\af.ownsRow base 3 1 (A5 a4 i bE) i (s.map (A4 T)))) (fun _ ba _=>(Br ba+1).toNat)
     case atStart=>
      refine⟨i,l,[],ag _,rfl,rfl,by simp,?_,?_,n.out.2.1,n.out.2.2.1,n.out.2.2.2⟩
      ·rw[fj];exact n.out.1
      ·rw[fj,lA (by rw[o.out.2.2];exact ag _)];exact A.out.2.2
     case round=>
      obtain⟨b,a9,j,c7,rfl,rfl,c⟩:=hrel;cases b with
      |zero=>
       have df:¬(0:Int)<=((0:Nat):Int)-1:=by omega
       have r:=c.out.2.2.1;rw[jt,<-o.out.1]at r;obtain⟨_,cv,cp,b0⟩:=a.out.step a6 a7 K o.out.2.1 (by rw[o.out.1,o.out.2.2];exact c.out.1) c.out.2.1 r c.out.2.2.2.1 c.out.2.2.2.2.1;have b6:=aj b0;clear b0 r;go_wp2_with fail;go_roundg cv
       case measure=>exact cp
       case rel=>exact⟨_,a9,_,rfl,b6⟩
      |succ b=>
       have b8:(((b+1:Nat)):Int)-1=(b:Int):=by omega
       rw[b8];have c8:(0:Int)<=(b:Int):=by omega
       have c9:(b:Int)<(i:Int):=by omega
       obtain⟨z,hz⟩:=bH o.out.2.2 (show b<i by omega);obtain⟨F,cl⟩:∃F,a4=M ⟨F,0,Q⟩:=by
        rcases bK c.out.2.2.2.2.2 with⟨h,_⟩|⟨F,cB,h⟩
        ·omega
        ·cases h;exact⟨_,rfl⟩
       subst cl;have c1:wr.cell? ⟨F,b,Q⟩=M (U T z):=by rw[c.out.2.2.2.2.2.cellAt b (by omega),cA,hz];rfl
       have cc:(C++D++j).length<=100000000:=by rw[aF,c.out.1];omega
       have bD:=Av wr base mb (C++D++j) a9 z c.out.2.1 cc;have a1:=c.out.2.2.1.push z;have bp:s.drop b=z::s.drop (b+1):=by
        have bq:=List.getElem?_eq_some_iff.1 hz;rw[ly bq.1,bq.2]
       have b4:=aj bp;obtain⟨ak,bn⟩:∃ak:Int,(((C++D++j).length:Nat):Int)=ak:=⟨_,rfl⟩;rw[bn]at bD a1;have b7:=aj a1;clear a1 bp bn hz;go_wp2_with (go_at_call 40;refine bD.mono ?_;rintro am dp ⟨rfl,cq,br,ce⟩);refine⟨⟨b,ak,j++[(z,a9)],by omega,rfl,rfl,?_,?_,?_,c.out.2.2.2.1.trans br,c.out.2.2.2.2.1.trans ce,?_⟩,by simp[Br]⟩
       ·rw[aF,c.out.1];simp;omega
       ·rw[<-dC];exact cq
       ·rw[<-dC,b4.out];exact b7.out
       ·obtain⟨dn,cs,_⟩:=c.out.2.1.ex;exact br.row cs c.out.2.2.2.2.2 (by decide) (by decide)
theorem ahf{w:O}{base:Nat}{e:A9}{size g cap n d:Nat}{a i:List X}(f:a.length=n*size)
  (h:w.ownsRow base e size (A5 (M ⟨g,0,Q⟩) (n+d) cap) (n+d) (a++i)):w.ownsRow base e size (A5 (M ⟨g,0,Q⟩) n cap) n a:=by
 obtain⟨_,k⟩:=h;rcases k with⟨j,_⟩|⟨t,s,b,r,m,o,u,l,p,q⟩
 ·cases j
 ·cases r;refine⟨f,.inr ⟨g,cap,b,rfl,m,o,by omega,l,p,?_⟩⟩;have c:(b.toList.take ((n+d)*size)).take (n*size)=(a++i).take (n*size):=by rw[q]
  rw[List.take_take,sI (Nat.mul_le_mul_right _ (by omega))]at c;rw[c,<-f];exact take_len _ _
theorem Lh{w:O}{base:Nat}{e:A9}{size g cap n:Nat}{d:List X}(h:w.ownsRow base e size (A5 (M ⟨g,0,Q⟩) n cap) n d):n<=cap:=by
 rcases h.2 with⟨a,_⟩|⟨j,f,i,c,l,m,b,k,o,p⟩
 ·cases a
 ·cases c;exact b
def mp(st:List Int):Nat->List Int
 |0=>[]
 |j+1=>if(dB st ((j:Int)+1)).2=A6 then mp st j++[(j:Int)+1] else mp st j
def GD(st:List Int):List Int:=mp st 78
theorem tm(st:List Int):∀j,(mp st j).length<=j
 |0=>ag _
 |j+1=>by
  have:=tm st j;rw[mp];split
  ·rw[aF];simp;omega
  ·omega
theorem uh.put{a:O}{base mb:Nat}{C:List (Int×Int)}{j:X}(f:a.heap[mb]?=M (.cells #[j] 66 (0,0)))(i:base<=mb){v:X}(d:a.ownsRow base 101 2 v C.length (cCl C)):uh (a.setCell ⟨mb,0,Q⟩ v) base mb C:=by
 refine⟨⟨v,cE _ mb 0 _ _ _ f,?_⟩,i⟩;refine d.kept (row:=M mb) ⟨rfl,rfl,rfl,by simp[Z],fun p o h=>bh _ _ _ _ (fun b=>h (by rw[b]))⟩ ?_;rcases bK d with⟨_,rfl⟩|⟨g,k,rfl⟩
 ·exact .inl rfl
 ·refine .inr ?_;intro b;obtain rfl:g=mb:=by simpa [S] using b
  rcases d.2 with⟨c,_⟩|⟨n,l,m,c,_,e,_⟩
  ·cases c
  ·cases c;rw[f]at e;cases e
theorem Kp.put{mb:Nat}{w a:O}(h:Kp mb w a)(j:Nat)(v:X):Kp mb w (a.setCell ⟨mb,j,Q⟩ v):=
 h.trans ⟨rfl,rfl,rfl,by simp[Z],fun c _ b _=>bh _ _ _ _ b⟩
theorem abt(w:O)(base mb:Nat)(h:uh w base mb []):
  A0 V 34 #[.pointer (M ⟨mb,0,Q⟩)] w fun e a=>e= A1 (U T 1)/\uh a base mb [(6, -1),(100,0)]/\Kp mb w a/\Y base w a:=by
 have b:=Av w base mb [] (-1) 6 h (by simp);go_in;go_wp2_with fail;refine b.mono ?_;rintro e w1 ⟨rfl,g,j,d⟩;have c:=Av w1 base mb [(6, -1)] 0 100 g (by simp);clear b;simp only[gq,Int.natCast_zero];go_wp2_with fail;refine c.mono ?_;rintro e k ⟨rfl,i,p2,f⟩;clear c;simp only[cC,gq,fE,Int.natCast_one];go_wp2_with fail;go_ret;exact⟨rfl,i,j.trans p2,d.trans f⟩
structure ahg (w:O) (base mb:Nat) (C:List (Int×Int)) (st:List Int) (j:Nat) (vo:X) (W:O):Prop where
 m:uh W base mb C
 kp:Kp mb w W
 bl:Y base w W
 row:W.ownsRow w.heap.size 3 1 vo (mp st j).length ((mp st j).map (A4 .i64))
theorem Li(w:O)(base mb:Nat)(C:List (Int×Int))(st:List Int)(a6:Int)(h:uh w base mb C)(bq:ot C a6 st)(bk:De st)(ck:0<C.length)(bj:C.length<=50000000):
  A0 V 38 #[.pointer (M ⟨mb,0,Q⟩),.int .i64 a6] w fun e I=>∃a c,e= .returned (.slice a (GD st).length c)/\I.ownsRow w.heap.size 3 1 (.slice a (GD st).length c) (GD st).length ((GD st).map (A4 .i64))/\uh I base mb C/\Kp mb w I/\Y base w I:=by
 obtain⟨c6,ao,bo⟩:=h.ex;have ds:base<=w.heap.size:=by have:=au ao;have:=h.lo;omega
 have a0:=h.lo;obtain⟨g,F⟩:=aA C.length;obtain⟨u,t,rfl⟩:∃u t,c6= .slice (M ⟨u,0,Q⟩) g t:=by
  rcases bK bo with⟨hz,_⟩|hz
  ·omega
  ·rw[<-F];exact hz
 have cb:w.cell? ⟨mb,0,Q⟩=M (.slice (M ⟨u,0,Q⟩) g t):=by rw[ay _ _ _ _ _ _ ao];rfl
 have b3:ahg w base mb C st 0 (.slice Q 0 0) w:=⟨h,Kp.refl _ _,ai _ _,bi _ _ _ _⟩;have p:=jn F bq bk;have ba:=aj b3;rw[F]at ck bj;obtain⟨cy,cz,cB,c1,c2⟩:=fl pJ;clear h bo ao b3 F bq bk;go_in;go_wp2_with fail;go_loopw [5,7] (fun b5 a7 wr=>∃(b:Nat),b<=78/\a7= .int .i64 ((b:Int)+1)/\(∃a c,∃c3:Nat,b5= .slice a c3 c)/\A2 (ahg w base mb C st b b5 wr)) (fun _ a7 _=>(79-Br a7).toNat)
 case atStart=>exact⟨0,aG _,rfl,⟨_,_,_,rfl⟩,ba⟩
 case round=>
  obtain⟨b,dg,rfl,⟨z,A,s,rfl⟩,i⟩:=hrel;clear ba cb;by_cases dj:b<78
  ·have G:((b:Int)+1)<=78:=by omega
   have r:=vL wr base mb C st a6 ((b:Int)+1) i.out.m p.out.2.1 p.out.2.2 (by omega) G (by rw[p.out.1];exact bj);obtain⟨b9,am⟩:=aA (dB st ((b:Int)+1));rw[am]at r;obtain⟨bE,a2⟩:=aA b9.2;unfold sr at r;rw[a2]at r;have a8:A2 ((dB st ((b:Int)+1)).2=bE):=by show _=_;rw[am];exact a2
   obtain⟨n,an⟩:∃n:Int,(b:Int)+1=n:=⟨_,rfl⟩;have K:=aj an;have dd:n<=78:=by omega
   have dc:1<=n:=by omega
   rw[an]at r⊢;clear am a2 an G;go_wp2_with fail;refine r.mono ?_;rintro e k ⟨dx,D,rfl,bx,_,cl,p2,bb⟩;obtain⟨c7,x,y⟩:=bx.ex;rw[aF,p.out.1,Lg]at y;obtain⟨o,l,rfl⟩:∃u t,c7= .slice (M ⟨u,0,Q⟩) (g+D.length) t:=by
    rcases bK y with⟨hz,_⟩|hz
    ·omega
    ·exact hz
   have hcut:=ahf (by rw[Le,p.out.1]) y;have df:=Lh hcut;have cn:=Lh y;have z0:k.cell? ⟨mb,0,Q⟩=M (.slice (M ⟨o,0,Q⟩) (g+D.length) l):=by rw[ay _ _ _ _ _ _ x];rfl
   have d3:k.frozen? ⟨mb,0,Q⟩=R:=dI _ _ _ _ _ x;have bA:uh (k.setCell ⟨mb,0,Q⟩ (.slice (M ⟨o,0,Q⟩) g l)) base mb C:=uh.put x a0 (by rw[p.out.1];exact hcut);obtain⟨d2,bs,_⟩:=i.out.m.ex;have b0:=p2.row bs i.out.row (by decide) (by decide);have b1:(k.setCell ⟨mb,0,Q⟩ (.slice (M ⟨o,0,Q⟩) g l)).ownsRow w.heap.size 3 1 (.slice z s A) (mp st b).length ((mp st b).map (A4 .i64)):=
    ((Kp.refl mb k).put 0 _).row x b0 (by decide) (by decide)
   have f:A2 (ahg w base mb C st b (.slice z s A) (k.setCell ⟨mb,0,Q⟩ (.slice (M ⟨o,0,Q⟩) g l))):=
    ⟨bA,(i.out.kp.trans p2).put _ _,(i.out.bl.trans bb).setCell a0 _,b1⟩
   have dn:(0:Int)<=(g:Int):=by omega
   have dp:(g:Int)<=(l:Int):=by omega
   obtain⟨da,cm⟩:=aA (g+D.length);rw[cm]at z0;clear r bx y x hcut bA b0 b1 bs p2 bb i cl cn;have cq:=tm st b;cases bE with
   |false=>
    have e:mp st (b+1)=mp st b:=by rw[mp,a8.out,aa (by decide)]
    go_wp2_with fail;refine⟨⟨b+1,by omega,?_,⟨_,_,_,rfl⟩,⟨f.out.m,f.out.kp,f.out.bl,by rw[e];exact f.out.row⟩⟩,?_⟩
    ·have:=K.out;congr 1;push_cast;omega
    ·simp[Br];omega
   |true=>
    have e:mp st (b+1)=mp st b++[(b:Int)+1]:=by rw[mp,a8.out,ab rfl]
    have b6:A2 (mp st (b+1)=mp st b++[n]):=by show _=_;rw[e,K.out]
    obtain⟨ca,cc,af⟩:=cH f.out.row;cases af;obtain⟨s,E⟩:=aA ((mp st b).length);have b7:=aj E;rw[E]at cq⊢;have a4:=f.out.row;rw[E]at a4;have q:=aj a4;clear e E a4;have cu:w.heap.size<=(k.setCell ⟨mb,0,Q⟩ (.slice (M ⟨o,0,Q⟩) g l)).heap.size:=f.out.kp.size;have v:A2 ((k.setCell ⟨mb,0,Q⟩ (.slice (M ⟨o,0,Q⟩) g l)).heap.size=k.heap.size):=by show _=_;simp[Z]
    go_wp2_with (at_builtin;rw[<-v.out];generalize k.setCell ⟨mb,0,Q⟩ (.slice (M ⟨o,0,Q⟩) g l)=L at f q cu⊢;refine pH _ rfl _ _ 31 rfl w.heap.size 3 cy _ 1 8 Tryz.underlying31 cz cB c1 c2 rfl (by decide) _ _ _ rfl (q.out.alloc _) ⟨L.heap.size,0,Q⟩ 1 1 [.int .i64 n] rfl rfl (Ax (cs:=#[.int .i64 n]) (fr:=(0,0)) (ar L _)) (by intro d0 br;simp at br;subst br;rfl) (by unfold B1;omega) (by omega) (by simp;omega) ?_;intro d1 J a1 m cr;obtain⟨cf,ce,rfl⟩:=A7 a1);obtain⟨c8,bt,bp⟩:=f.out.m.ex;have bn:∀d,(A3 z s A).ownBlock=M d->w.heap.size<=d:=fun d j=>(q.out.lt d j).1;have a3:∀(d:Nat)(cs:Array X)(H:A9)(fr:Nat×Nat),L.heap[d]?=M (.cells cs H fr)->H≠3->J.heap[d]?=M (.cells cs H fr):=fun d cs H fr j G=>by
     refine(m.block d (by simp;have:=au j;omega) (fun e=>?_)).trans ((dt _ _ _ (au j)).trans j);have B:(A3 z s A).ownBlock=M d:=e.symm;rcases q.out.2 with⟨al,_⟩|⟨ak,bd,bf,al,_,v,_⟩
     ·rw[al]at B;simp[S]at B
     ·rw[al]at B;obtain rfl:ak=d:=by simpa [S] using B
      rw[j]at v;simp only[iq,lC]at v;exact G v.2.1
    have bw:Kp mb w J:=⟨m.os.trans f.out.kp.os,m.tape.trans f.out.kp.tape,m.output.trans f.out.kp.output,by have:=m.size;simp at this;omega,fun d j ct ap=>
     (m.block d (by simp;omega) (fun e=>by have:=bn d e.symm;omega)).trans ((dt _ _ _ (by omega)).trans (f.out.kp.block d j ct ap))⟩
    have bD:uh J base mb C:=by
     refine⟨⟨c8,a3 _ _ _ _ bt (by decide),?_⟩,a0⟩;obtain⟨c4,a5⟩:=bp;refine⟨c4,?_⟩;rcases a5 with a5|⟨ak,bd,bf,cx,cp,ap,c5⟩
     ·exact .inl a5
     ·exact .inr ⟨ak,bd,bf,cx,cp,a3 _ _ _ _ ap (by decide),c5⟩
    have b4:ahg w base mb C st (b+1) (.slice (M ⟨cf,0,Q⟩) (s+1) ce) J:=by
     refine⟨bD,bw,?_,?_⟩
     ·exact(f.out.bl.alloc (by omega) _).grown m (by simp;omega) (fun d j=>by have:=(q.out.lt d j).1;omega)
     ·rw[b6.out,aF,b7.out,fK];exact a1
    have b8:=aj b4;clear b4 bD bw bt bp bn a3 a1 m cr f q;refine⟨⟨b+1,by omega,?_,⟨_,_,_,rfl⟩,b8⟩,?_⟩
    ·have:=K.out;congr 1;push_cast;omega
    ·simp[Br];omega
  ·obtain rfl:b=78:=by omega
   obtain⟨ca,cc,af⟩:=cH i.out.row;cases af;go_wp2_with fail;go_ret;exact⟨_,_,rfl,i.out.row,i.out.m,i.out.kp,i.out.bl⟩
