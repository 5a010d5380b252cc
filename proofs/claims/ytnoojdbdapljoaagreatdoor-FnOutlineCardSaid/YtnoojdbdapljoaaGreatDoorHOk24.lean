import Derived.Test.YtnoojdbdapljoaaGreatDoorHOk11
set_option linter.all false
set_option maxRecDepth 100000
set_option maxHeartbeats 25600000
open Option renaming some->M,none->N
open Go renaming World->O,Value->Y,ownsRow_succ->A1,Calls->A2,TypeId->A4,maxLen->A6
open Go.Value renaming ownBlock->Q,int->S,slice->Z,int->Ax,slice->A0
open Go.IntKind renaming i64->R
open Go.RowKit renaming Below->T,Hid->A3,intOf->A5
open Go.World renaming setCell->U,news_of_block->X
open Go.Proofs.Tryz renaming prog->V
namespace Go.Proofs.YtnoojdbdapljoaaGreatDoor
open Go.RowKit
theorem Lh{w w1:O}{r:List Int×Bool}{e:Ending}{b:O}(a:T w.heap.size w w1)(h:iJ w1 r e b):iJ w r e b:=by
 obtain⟨c,d,rfl,g,f⟩:=h;exact⟨c,d,rfl,jL g a.size,a.trans (f.mono a.size)⟩
theorem af3{p:Prop}[Decidable p] {a b:List Int×Bool}(c:a.1.length<=6) (d:b.1.length<=6):(if p then a else b).1.length<=6:=by split<;>assumption
theorem Li(t:Int):(gL t).1.length<=6:=by
 unfold gL
 repeat' (first|(apply af3<;>skip)|exact Nat.le_of_ble_eq_true rfl)
theorem zB(w:O)(t:Int):A2 V 50 #[.int .i64 100,.int .i64 t] w (iJ w (Kz t)):=by
 unfold Kz;by_cases d:t=5
 ·subst d;show A2 _ _ _ _ (iJ w ([5,100],true));go_in;go_wp2_with (go_at_call 85;refine ee (rF _ _) ?_);go_ret2;exact pl w [5,100] true (by simp)
 ·rw[aa d];have a:=fun w=>Hb w t;have e:=Li t;have z:(t==5)=false:=beq_eq_false_iff_ne.2 d;generalize gL t=y at a e⊢;obtain⟨x,j⟩:=y;simp only at e⊢;obtain⟨E,c⟩:=aA x.length;obtain⟨q,r,s,u,v⟩:=dC rz;cases j with
  |true=>
   rw[ab rfl];unfold iJ at a⊢;simp only at a⊢;rw[aC,en];rw[c]at a e⊢;clear c;go_in;go_wp2_with (first|(go_at_call 86;refine(a _).mono ?_;rintro l w1 ⟨i,k,rfl,f,b⟩;have p:=b.size)|(at_builtin;refine rm _ rfl _ _ 33 rfl w.heap.size 3 q _ 1 8 Tryz.underlying33 r s u v rfl (by decide) _ _ _ rfl (f.alloc _) ⟨w1.heap.size,0,N⟩ 1 1 [.int .i64 101] rfl rfl (X (cs:=#[.int .i64 101]) (fr:=(0,0)) (aw w1 _)) (by intro F h;simp at h;subst h;rfl) (by unfold A6;omega) (by omega) (by simp;omega) ?_;intro G H g o C;obtain⟨B,A,rfl⟩:=A1 g));go_ret2;exact⟨_,_,rfl,g,(b.alloc p _).grown o (by simp;omega) (fun m n=>(f.lt m n).1)⟩
  |false=>
   rw[aa (by decide)];unfold iJ at a;simp only at a;rw[c]at a;clear c;go_in;go_wp2_with (go_at_call 86;refine(a _).mono ?_;rintro l w1 ⟨i,k,rfl,f,b⟩);go_ret2;exact Lh b (yD _ true)
theorem Fc(w:O)(s t:Int)(b:101<=s)(c:s<=133):A2 V 50 #[S R s,S R t] w (iJ w (xE s t)):=by
 have f:=fun w=>pI w t;have g:=fun w=>wE w t;have h:=fun w=>Hc w t;obtain rfl|rfl|rfl|rfl|rfl|rfl|rfl|rfl|rfl|rfl|rfl|rfl|rfl|rfl|rfl|rfl|rfl|rfl|rfl|rfl|rfl|rfl|rfl|rfl|rfl|rfl|rfl|rfl|rfl|rfl|rfl|rfl|rfl:s=101\/s=102\/s=103\/s=104\/s=105\/s=106\/s=107\/s=108\/s=109\/s=110\/s=111\/s=112\/s=113\/s=114\/s=115\/s=116\/s=117\/s=118\/s=119\/s=120\/s=121\/s=122\/s=123\/s=124\/s=125\/s=126\/s=127\/s=128\/s=129\/s=130\/s=131\/s=132\/s=133:=by omega
 all_goals
  clear b c;go_in;go_wp2_with (first|(go_at_call 85;refine ee (rF _ _) ?_)|(go_at_call 87;refine ee (f _) ?_)|(go_at_call 146;refine ee (g _) ?_)|(go_at_call 145;refine(h _).mono ?_;rintro a k ⟨i,j,rfl,e,d⟩)|go_in);all_goals
   go_ret2;first
    |exact⟨_,_,rfl,e,d⟩
    |(go_tidy
      simp only[xE,oh,ae1,ajt,ae2,ae3,abj,ae4,ae5,ae6,ae7,abk,ahD,ahE,abl,abm,ahF,abn,ahG,ahH,ae8,ae9,afa,afb,ahI,afc,abo,afd,abp,afe,aff,abq,abr,afg,ieq, *];simp[*];first|exact pl w _ _ (by simp)|exact yD w _|(by_cases a:t=21<;>simp_all<;>(try rw[show(t==46||t==21)=false by simp[*]])<;>exact pl w _ _ (by simp))|(by_cases a:t=44<;>simp_all<;>exact pl w _ _ (show 2<=100 by decide)))
theorem Di(w:O)(s t:Int)(c:100<=s)(b:s<=133):A2 V 50 #[S R s,S R t] w (iJ w (xE s t)):=by
 by_cases a:s=100
 ·subst a;exact zB w t
 ·exact Fc w s t (by omega) b
theorem acy:(Tryz.prog.info? 114).map (fun i=>(i.zero,i.size,i.bytes))=M (M (.agg #[S R 0,S R 0]),2,16):=by kernel_rfl
def cCl(C:List (Int×Int)):List Y:=C.flatMap fun a=>[S R a.1,S R a.2]
theorem Jo(C:List (Int×Int)):(cCl C).length=C.length*2:=by
 induction C with
 |nil=>rfl
 |cons b c a=>simp only[cCl,rt,aC,di,fs]at a⊢;omega
theorem Jp(C D:List (Int×Int)):cCl (C++D)=cCl C++cCl D:=by simp[cCl]
theorem acz:∀(C:List (Int×Int))(i:Nat)(c:Int×Int),C[i]?=M c->(cCl C)[i*2]?=M (S R c.1)/\(cCl C)[i*2+1]?=M (S R c.2)
 |[],i,c,h=>by simp at h
 |a::r,0,c,h=>by
  obtain rfl:a=c:=by simpa using h
  exact⟨rfl,rfl⟩
 |a::r,i+1,c,h=>by
  have e:=acz r i c (by simpa using h);have d:∀b,(cCl (a::r))[b+2]?=(cCl r)[b]?:=fun b=>rfl;rw[show(i+1)*2=i*2+2 by omega,show i*2+2+1=(i*2+1)+2 by omega,d,d];exact e
structure qH (W:O) (base mb:Nat) (C:List (Int×Int)):Prop where
 ex:∃v,W.heap[mb]?=M (.cells #[v] 77 (0,0))/\W.ownsRow base 114 2 v C.length (cCl C)
 lo:base<=mb
structure Kp (mb:Nat) (w w':O):Prop where
 os:w'.os=w.os
 tape:w'.tape=w.tape
 output:w'.output=w.output
 size:w.heap.size<=w'.heap.size
 block:∀k,k<w.heap.size->k≠mb->(∀cs fr,w.heap[k]?≠M (.cells cs 114 fr))->w'.heap[k]?=w.heap[k]?
theorem Kp.refl(mb:Nat)(w:O):Kp mb w w:=⟨rfl,rfl,rfl,ah _,fun _ _ _ _=>rfl⟩
theorem Kp.trans{mb:Nat}{x y z:O}(h:Kp mb x y)(k:Kp mb y z):Kp mb x z:=
 ⟨k.os.trans h.os,k.tape.trans h.tape,k.output.trans h.output,bz h.size k.size,fun d b c a=>
  (k.block d (gh b h.size) c (fun e f=>by rw[h.block d b c a];exact a e f)).trans (h.block d b c a)⟩
theorem Kp.of_below{mb:Nat}{w a:O}(h:T w.heap.size w a):Kp mb w a:=⟨h.os,h.tape,h.output,h.size,fun c b _ _=>h.block c b⟩
theorem Kp.blk{mb:Nat}{w c:O}(h:Kp mb w c){k:Nat}{cs:Array Y}{t:A4}{fr:Nat×Nat}(a:w.heap[k]?=M (.cells cs t fr))(e:t≠114)(d:k≠mb):c.heap[k]?=M (.cells cs t fr):=
 (h.block k (ax a) d (fun f g b=>by rw[a]at b;cases b;exact e rfl)).trans a
theorem Kp.row{mb:Nat}{w c:O}(h:Kp mb w c){t:Y}{i:Nat×Nat}(l:w.heap[mb]?=M (.cells #[t] 77 i)){base e size n:Nat}{v:Y}{d:List Y}(r:w.ownsRow base e size v n d)(m:e≠114)(o:e≠77):c.ownsRow base e size v n d:=by
 obtain⟨k,b⟩:=r;refine⟨k,?_⟩;rcases b with b|⟨j,f,g,q,p,a,s⟩
 ·exact .inl b
 ·refine .inr ⟨j,f,g,q,p,h.blk a m ?_,s⟩;rintro rfl;rw[l]at a;simp only[gg,jh]at a;exact o a.2.1.symm
theorem qH.below{a b:O}{base mb:Nat}{C:List (Int×Int)}(h:qH a base mb C)(d:T a.heap.size a b):qH b base mb C:=by
 obtain⟨f,c,e⟩:=h.ex;exact⟨⟨f,(d.block _ (ax c)).trans c,aG e d⟩,h.lo⟩
theorem qH.alloc{a:O}{base mb:Nat}{C:List (Int×Int)}(h:qH a base mb C)(b:Obj):qH (a.alloc b) base mb C:=h.below (bel1 a b)
def jH(C:List (Int×Int)):Int->List Int->Prop
 |top,[]=>top= -1
 |top,s::r=>∃(i:Nat) (b:Int),top=(i:Int)/\C[i]?=M (s,b)/\jH C b r
theorem jH.app{C:List (Int×Int)}(D:List (Int×Int)):∀{st:List Int}{a:Int},jH C a st->jH (C++D) a st
 |[],a,h=>h
 |s::r,a,⟨i,b,d,c,e⟩=>⟨i,b,d,by rw[ie (List.getElem?_eq_some_iff.1 c).1];exact c,e.app D⟩
theorem jH.push{C:List (Int×Int)}{st:List Int}{a:Int}(h:jH C a st)(s:Int):jH (C++[(s,a)]) (C.length:Int) (s::st):=
 ⟨C.length,a,rfl,by rw[gc (ah _),gj];rfl,h.app _⟩
theorem jH.lt{C:List (Int×Int)}:∀{st:List Int}{a:Int},jH C a st-> -1<=a/\a<(C.length:Int)
 |[],a,h=>by obtain rfl:a= -1:=h;omega
 |s::g,a,⟨f,c,d,b,e⟩=>by have:=(List.getElem?_eq_some_iff.1 b).1;omega
theorem zC(w:O)(base mb:Nat)(C:List (Int×Int))(o n:Int)(h:qH w base mb C)(ad:C.length<=100000000):
  A2 V 51 #[.pointer (M ⟨mb,0,N⟩),.int .i64 o,.int .i64 n] w fun e y=>e= .returned (.int .i64 (C.length:Nat))/\qH y base mb (C++[(n,o)])/\Kp mb w y/\T base w y:=by
 obtain⟨a4,f,g⟩:=h.ex;have F:=h.lo;obtain⟨j,u⟩:=aA C.length;rw[u]at g ad⊢;obtain⟨k,l,rfl⟩:=bI g;obtain⟨am,an,ao,ap,ar⟩:=dC acy;have af:=ax f;have a1:mb≠w.heap.size:=by omega
 have av:w.cell? ⟨mb,0,N⟩=M (.slice k j l):=by rw[az _ _ _ _ _ _ f];rfl
 have G:∀c,(Z k j l).ownBlock=M c->c≠mb/\base<=c:=fun c m=>by
  refine⟨?_,(g.lt c m).1⟩;rintro rfl;rcases g.2 with⟨a,_⟩|⟨r,A,B,a,_,d,_⟩
  ·rw[a]at m;simp[Q]at m
  ·rw[a]at m;obtain rfl:r=c:=by simpa [Q] using m
   rw[d]at f;cases f
 have p:=gD g f u;clear g f u h;go_in;go_wp2_with (at_builtin;refine rm _ rfl _ _ 75 rfl base 114 am _ 2 16 Tryz.underlying75 an ao ap ar rfl (by decide) _ _ _ rfl (p.out.1.alloc _) ⟨w.heap.size,0,N⟩ 1 1 [.int .i64 n,.int .i64 o] rfl rfl (X (cs:=#[.int .i64 n,.int .i64 o]) (fr:=(0,0)) (aw w _)) (by intro a3 H;simp at H;rcases H with rfl|rfl<;>rfl) (by unfold A6;omega) (by omega) (by simp;omega) ?_;intro a5 z x b a2;obtain⟨E,J,rfl⟩:=A1 x;have s:z.heap[mb]?=M (.cells #[.slice k j l] 77 (0,0)):=(b.block mb (by simp;omega) (fun e=>(G mb e.symm).1 rfl)).trans ((dr _ _ _ af).trans p.out.2.1);have a6:z.cell? ⟨mb,0,N⟩=M (.slice k j l):=(by rw[az _ _ _ _ _ _ s];rfl);have a0:z.frozen? ⟨mb,0,N⟩=false:=du _ _ _ _ _ s);go_ret;have ak:=b.size;rw[ba]at ak;refine⟨by go_num,⟨⟨.slice (M ⟨E,0,N⟩) (j+1) J,cD _ mb 0 _ _ _ s,?_⟩,F⟩,?_,?_⟩
 ·rw[aC,p.out.2.2,Jp];refine x.kept (row:=M mb) ⟨rfl,rfl,rfl,by simp[U],fun i t v=>bh _ _ _ _ (fun e=>v (by rw[e]))⟩ ?_;refine .inr ?_;intro e;obtain rfl:E=mb:=by simpa [Q] using e
  rcases x.2 with⟨a,_⟩|⟨r,A,B,a,_,d,_⟩
  ·cases a
  ·cases a;rw[s]at d;cases d
 ·refine⟨b.os,b.tape,b.output,by simp[U];omega,fun i t v L=>?_⟩;rw[bh _ _ _ _ v];refine(b.block i (by simp;omega) (fun e=>?_)).trans (dr _ _ _ t);have q:(Z k j l).ownBlock=M i:=e.symm;rcases p.out.1.2 with⟨a,_⟩|⟨r,A,B,a,_,d,_⟩
  ·rw[a]at q;simp[Q]at q
  ·rw[a]at q;obtain rfl:r=i:=by simpa [Q] using q
   exact L _ _ d
 ·have K:base<=w.heap.size:=by omega
  have I:T base w (w.alloc (.cells #[.int .i64 n,.int .i64 o] 114)):=(aj _ w).alloc K _;exact(I.grown b (by simp;omega) (fun i t=>(G i t).2)).setCell F _
theorem vI:∀{f:Nat}{st:List Int}{t:Int}{n:Nat}{a:List Int}{b:Option Bool}{m:Nat},iH f st t n=M (a,b,m)->n<=m
 |0,_,_,_,_,_,_,h=>by simp[iH]at h
 |f+1,[],t,n,a,b,m,h=>by
  simp only[iH,gg,oc]at h;omega
 |f+1,s::r,t,n,a,b,m,h=>by
  by_cases d:s<100
  ·have:=(qz h d).2.2;omega
  ·rcases jo h (by omega) with⟨_,c⟩|⟨_,_,_,c⟩
   ·have:=vI c;omega
   ·omega
structure zD (w:O) (base mb:Nat) (C:List (Int×Int)) (t:Int) (Res:List Int×Bool) (k:Nat) (stk:List Int) (top:Int) (D:List (Int×Int)) (W:O):Prop where
 m:qH W base mb (C++D)
 s:jH (C++D) top stk
 o:OkS stk
 kp:Kp mb w W
 bl:T base w W
 d:D.length<=20
 ph:(D=[]/\ed stk t=Res/\stk.length+9<=k)\/∃cur r f lo b m,stk=cur++r/\iH f cur t D.length=M (lo,M b,m)/\(lo++r,b)=Res/\m<=20/\f<=k
theorem zD.nil{w:O}{base mb:Nat}{C:List (Int×Int)}{t:Int}{a:List Int×Bool}{k:Nat}{j:Int}{D:List (Int×Int)}{d:O}(h:zD w base mb C t a k [] j D d):a=([],false):=by
 rcases h.ph with⟨_,f,_⟩|⟨e,o,c,m,l,n,g,b,_⟩
 ·rw[<-f];rfl
 ·have i:e=[]:=(List.append_eq_nil_iff.1 g.symm).1;subst i;cases c with
  |zero=>simp[iH]at b
  |succ c=>simp[iH]at b
theorem zD.tok{w:O}{base mb:Nat}{C:List (Int×Int)}{t:Int}{c:List Int×Bool}{k:Nat}{s:Int}{f:List Int}{n:Int}{D:List (Int×Int)}{g:O}(h:zD w base mb C t c k (s::f) n D g)(e:s<100):c=(f,decide (s=t)):=by
 rcases h.ph with⟨_,i,_⟩|⟨d,r,b,p,o,q,j,a,l,_⟩
 ·rw[<-i];exact pf e
 ·cases d with
  |nil=>
   cases b with
   |zero=>simp[iH]at a
   |succ b=>simp[iH]at a
  |cons u d=>
   obtain⟨rfl,rfl⟩:=yc j;cases b with
   |zero=>simp[iH]at a
   |succ b=>
    obtain⟨rfl,m,_⟩:=qz a e;rw[<-l,db m];rfl
theorem zD.no{w:O}{base mb:Nat}{C:List (Int×Int)}{t:Int}{i:List Int×Bool}{k:Nat}{s:Int}{m:List Int}{z:Int}{D:List (Int×Int)}{n:O}(h:zD w base mb C t i k (s::m) z D n)(x:1<=t)(y:t<=78)(d:100<=s)(g:(xE s t).2=false):i=(m,false):=by
 rcases h.ph with⟨_,q,_⟩|⟨j,E,c,v,p,A,r,a,u,_⟩
 ·have l:¬((xE s t).1=[]/\(xE s t).2=true):=by rw[g];simp
  obtain⟨v,p,B,a,_⟩:=C7 d (h.o s (cH ..)) x y l;rw[<-q,rB d l a];rcases jo a d with⟨b,_⟩|⟨_,e,f,_⟩
  ·rw[g]at b;cases b
  ·rw[e,db f];rfl
 ·cases j with
  |nil=>
   cases c with
   |zero=>simp[iH]at a
   |succ c=>simp[iH]at a
  |cons F j=>
   obtain⟨rfl,rfl⟩:=yc r;cases c with
   |zero=>simp[iH]at a
   |succ c=>
    rcases jo a d with⟨b,_⟩|⟨_,e,f,_⟩
    ·rw[g]at b;cases b
    ·rw[<-u,e,db f];rfl
theorem zD.step{w:O}{base mb:Nat}{C:List (Int×Int)}{t:Int}{z:List Int×Bool}{k:Nat}{s:Int}{c:List Int}{a2:Int}{D:List (Int×Int)}{I:O}(h:zD w base mb C t z k (s::c) a2 D I)(F:1<=t)(G:t<=78)(e:100<=s)(hx:(xE s t).2=true){E:List (Int×Int)}{y:Int}{f:O}(q:E.length=(xE s t).1.length)
  (am:qH f base mb (C++D++E)) (ap:jH (C++D++E) y ((xE s t).1++c)) (u:Kp mb w f) (r:T base w f):D.length+(xE s t).1.length<=20/\∃B,B<k/\zD w base mb C t z B ((xE s t).1++c) y (D++E) f:=by
 have A:=h.o s (cH ..);have ar:=(Jb e A F G).1;have l:OkS ((xE s t).1++c):=fun H hx=>by
  rcases List.mem_append.1 hx with hx|hx
  ·exact ar H hx
  ·exact h.o H (dJ _ hx)
 have v:qH f base mb (C++(D++E)):=by rw[<-cI];exact am
 have j:jH (C++(D++E)) y ((xE s t).1++c):=by rw[<-cI];exact ap
 have g:(D++E).length=D.length+(xE s t).1.length:=by rw[aC,q]
 rcases h.ph with⟨ad,p,ak⟩|⟨n,a1,d,x,m,av,J,b,K,L,a3⟩
 ·subst ad;by_cases i:(xE s t).1=[]/\(xE s t).2=true
  ·rw[i.1]at q j l g⊢;have af:E=[]:=iE (by simpa using q);subst af;refine⟨by simp,c.length+9,by simp only[di]at ak;omega,v,j,l,u,r,by simp,.inl ⟨rfl,?_,ah _⟩⟩;rw[fd,<-p,rA e i]
  ·obtain⟨x,m,a0,b,ao⟩:=C7 e A F G i;rw[rB e i b]at p;rcases jo b e with⟨_,a⟩|⟨a,_⟩
   ·rw[dA]at a;have an:=vI a;refine⟨by simp only[fs];omega,7,by omega,v,j,l,u,r,by rw[g];simp only[fs];omega,.inr ⟨(xE s t).1,c,7,x,m,a0,rfl,?_,p,ao,ah _⟩⟩;rw[g];exact a
   ·rw[hx]at a;cases a
 ·cases n with
  |nil=>
   cases d with
   |zero=>simp[iH]at b
   |succ d=>simp[iH]at b
  |cons a4 n=>
   obtain⟨rfl,rfl⟩:=yc J;cases d with
   |zero=>simp[iH]at b
   |succ d=>
    rcases jo b e with⟨_,a⟩|⟨a,_⟩
    ·have an:=vI a;refine⟨by omega,d,by omega,v,j,l,u,r,by rw[g];omega,.inr ⟨(xE s t).1++n,a1,d,x,m,av,by rw[cI];rfl,?_,K,L,ah _⟩⟩;rw[g];exact a
    ·rw[hx]at a;cases a
def qI(w:O)(base mb:Nat)(C:List (Int×Int))(b:List Int×Bool)(e:Ending)(a:O):Prop:=
 ∃(c:Int) (D:List (Int×Int)),e= .returned (.tuple #[S R c,.bool b.2])/\qH a base mb (C++D)/\jH (C++D) c b.1/\D.length<=20/\Kp mb w a/\T base w a
theorem ux(w:O)(base mb:Nat)(C:List (Int×Int))(st:List Int)(L t:Int)(h:qH w base mb C)(bD:jH C L st)(bx:OkS st)(a5:1<=t)(a6:t<=78)(df:C.length<=50000000):
  A2 V 26 #[.pointer (M ⟨mb,0,N⟩),S R L,S R t] w (qI w base mb C (ed st t)):=by
 obtain⟨B,an⟩:=aA (ed st t);rw[an];have cu:base<=w.heap.size:=by obtain⟨b5,ce,_⟩:=h.ex;have:=ax ce;have:=h.lo;omega
 have bd:A3 (zD w base mb C t B (st.length+9) st L [] w):=⟨by rw[dA];exact h,by rw[dA];exact bD,bx,Kp.refl _ _,aj _ _,by simp,.inl ⟨rfl,an,ah _⟩⟩;clear h bD bx an;go_in;go_wp2_with fail;go_loopg [1] (st.length+9) (fun cv bb wr=>∃(a4:List Int) (q:Int) (D:List (Int×Int)),bb= S R q/\A3 (zD w base mb C t B cv a4 q D wr))
 case atStart=>exact⟨st,L,[],rfl,bd⟩
 case round=>
  obtain⟨a4,q,D,rfl,a⟩:=hrel;clear bd;cases a4 with
  |nil=>
   have am:q= -1:=a.out.s;subst am;have k:=aq a.out.nil;go_wp2_with fail;go_ret2;refine⟨-1,D,?_,a.out.m,?_,a.out.d,a.out.kp,a.out.bl⟩
   ·rw[k.out];rfl
   ·rw[k.out];exact a.out.s
  |cons e a7=>
   obtain⟨f,l,co,ao,r⟩:=a.out.s;subst co;obtain⟨b5,v,I⟩:=a.out.m.ex;have cp:=(List.getElem?_eq_some_iff.1 ao).1;obtain⟨g,ak,rfl⟩:∃g ak,b5= A0 (M ⟨g,0,N⟩) (C++D).length ak:=by
    rcases bq I with⟨hz,_⟩|hz
    ·omega
    ·exact hz
   have ap:=acz _ f _ ao;have cl:=Jo (C++D);have bn:wr.cell? ⟨g,f*2,N⟩=M (S R e):=by rw[I.cellAt (f*2) (by omega)];exact ap.1
   have bo:wr.cell? ⟨g,f*2+1,N⟩=M (S R l):=by rw[I.cellAt (f*2+1) (by omega)];exact ap.2
   obtain⟨a1,H⟩:=aA ((C++D).length);have c5:=a.out.d;have dq:a1<=50000020:=by rw[<-H,aC];omega
   rw[H]at v cp;have bf:wr.cell? ⟨mb,0,N⟩=M (A0 (M ⟨g,0,N⟩) a1 ak):=by rw[az _ _ _ _ _ _ v];rfl
   obtain⟨u,G⟩:∃u:Addr,(⟨g,0,N⟩:Addr)=u:=⟨_,rfl⟩;have cb:wr.cell? (u.add (f*2))=M (S R e):=by rw[<-G,show((⟨g,0,N⟩:Addr).add (f*2))=⟨g,f*2,N⟩ by unfold Addr.add;split<;>simp_all];exact bn
   have cc:wr.cell? ⟨(u.add (f*2)).block,(u.add (f*2)).off+1,N⟩=M (S R l):=by rw[<-G,show((⟨g,0,N⟩:Addr).add (f*2))=⟨g,f*2,N⟩ by unfold Addr.add;split<;>simp_all];exact bo
   rw[G]at bf;have c7:(f:Int)<(a1:Int):=by omega
   have c6:(0:Int)<=(f:Int):=by omega
   have dk:=ax v;have c3:base<=wr.heap.size:=bz cu a.out.bl.size;have A:=gD H v r;clear bn bo ap cl I v H G ao r;by_cases cs:e<100
   ·have k:A3 (B=(a7,decide (e=t))):=a.out.tok cs;have cm:∀a2,T base wr (wr.alloc a2).drew:=fun a2=>aL ((aj _ wr).alloc (by omega) a2);have c4:(wr.alloc (.cells #[S R e,S R l] 114)).cell? ⟨wr.heap.size,0,N⟩=M (S R e):=by rw[az _ _ _ _ _ _ (aw wr _)];rfl
    go_wp2_with fail;go_region_held3 (fun cB=>cB.cell? ⟨wr.heap.size,0,N⟩=M (S R e)) (go_keep) (fail)
    go_wp2_with fail;go_ret2;have p:T wr.heap.size wr (wr.alloc (.cells #[S R e,S R l] 114)).drew:=aL (bel1 wr _);refine⟨l,D,?_,a.out.m.below p,?_,a.out.d,a.out.kp.trans (Kp.of_below p),a.out.bl.trans (cm _)⟩
    ·rw[k.out];rfl
    ·rw[k.out];exact A.out.2.2
   ·have K:100<=e:=by omega
    have bE:e<=133:=a.out.o e (cH ..);have x:=fun w=>Di w e t K bE;have bF:=(Jb K bE a5 a6).2;obtain⟨s,J⟩:=aA ((xE e t).1);obtain⟨cy,av⟩:=aA ((xE e t).2);unfold iJ at x;rw[J,av]at x;rw[J]at bF;obtain⟨i,ar⟩:=aA s.length;rw[ar]at x bF;have o:=gD J av ar;clear J av ar;have p:=bel1 wr (.cells #[S R e,S R l] 114);go_wp2_with fail;have b7:=aq p;refine(x _).mono ?_;rintro am y ⟨a3,b3,rfl,bA,br⟩;have E:T wr.heap.size wr y:=p.trans (br.mono p.size);have ds:=E.size;have n:A3 (qH y base mb (C++D)/\Kp mb w y/\T base w y/\y.ownsRow base 3 1 (A0 a3 i b3) i (s.map (Ax R))):=
     ⟨a.out.m.below E,a.out.kp.trans (Kp.of_below E),a.out.bl.trans (E.mono (by omega)),jL bA (by simp;omega)⟩
    clear x p b7 bA br bf cb cc;cases cy with
    |false=>
     have k:A3 (B=(a7,false)):=a.out.no a5 a6 K o.out.2.1;go_wp2_with fail;go_ret2;refine⟨l,D,?_,n.out.1,?_,a.out.d,n.out.2.1,n.out.2.2.1⟩
     ·rw[k.out];rfl
     ·rw[k.out];exact A.out.2.2
    |true=>
     have dn:(C++D).length<=50000020:=by rw[A.out.1];omega
     go_wp2_with fail;go_loopw [1,11] (fun bb a9 ad=>∃(b:Nat) (q:Int) (j:List (Int×Int)),b<=i/\a9= S R ((b:Int)-1)/\bb= S R q/\A3 (j.length=i-b/\qH ad base mb (C++D++j)/\jH (C++D++j) q (s.drop b++a7)/\Kp mb w ad/\T base w ad/\ad.ownsRow base 3 1 (A0 a3 i b3) i (s.map (Ax R)))) (fun _ a9 _=>(A5 a9+1).toNat)
     case atStart=>
      refine⟨i,l,[],ah _,rfl,rfl,by simp,?_,?_,n.out.2.1,n.out.2.2.1,n.out.2.2.2⟩
      ·rw[dA];exact n.out.1
      ·rw[dA,pt (by rw[o.out.2.2];exact ah _)];exact A.out.2.2
     case round=>
      obtain⟨b,a8,j,c8,rfl,rfl,c⟩:=hrel;cases b with
      |zero=>
       have dp:¬(0:Int)<=((0:Nat):Int)-1:=by omega
       have r:=c.out.2.2.1;rw[jl,<-o.out.1]at r;obtain⟨_,cx,cq,b4⟩:=a.out.step a5 a6 K o.out.2.1 (by rw[o.out.1,o.out.2.2];exact c.out.1) c.out.2.1 r c.out.2.2.2.1 c.out.2.2.2.2.1;have b8:=aq b4;clear b4 r;go_wp2_with fail;go_roundg cx
       case measure=>exact cq
       case rel=>exact⟨_,a8,_,rfl,b8⟩
      |succ b=>
       have ca:(((b+1:Nat)):Int)-1=(b:Int):=by omega
       rw[ca];have c9:(0:Int)<=(b:Int):=by omega
       have dd:(b:Int)<(i:Int):=by omega
       obtain⟨z,hz⟩:=bj o.out.2.2 (show b<i by omega);obtain⟨F,cn⟩:∃F,a3=M ⟨F,0,N⟩:=by
        rcases bq c.out.2.2.2.2.2 with⟨h,_⟩|⟨F,c1,h⟩
        ·omega
        ·cases h;exact⟨_,rfl⟩
       subst cn;have c2:wr.cell? ⟨F,b,N⟩=M (S R z):=by rw[c.out.2.2.2.2.2.cellAt b (by omega),cj,hz];rfl
       have cf:(C++D++j).length<=100000000:=by rw[aC,c.out.1];omega
       have b0:=zC wr base mb (C++D++j) a8 z c.out.2.1 cf;have a0:=c.out.2.2.1.push z;have bs:s.drop b=z::s.drop (b+1):=by
        have bt:=List.getElem?_eq_some_iff.1 hz;rw[mg bt.1,bt.2]
       have b6:=aq bs;obtain⟨af,bp⟩:∃af:Int,(((C++D++j).length:Nat):Int)=af:=⟨_,rfl⟩;rw[bp]at b0 a0;have b9:=aq a0;clear a0 bs bp hz;go_wp2_with (go_at_call 51;refine b0.mono ?_;rintro am d0 ⟨rfl,cr,bw,ck⟩);refine⟨⟨b,af,j++[(z,a8)],by omega,rfl,rfl,?_,?_,?_,c.out.2.2.2.1.trans bw,c.out.2.2.2.2.1.trans ck,?_⟩,by simp[A5]⟩
       ·rw[aC,c.out.1];simp;omega
       ·rw[<-cI];exact cr
       ·rw[<-cI,b6.out];exact b9.out
       ·obtain⟨dz,ct,_⟩:=c.out.2.1.ex;exact bw.row ct c.out.2.2.2.2.2 (by decide) (by decide)
theorem af4{w:O}{base:Nat}{e:A4}{size g cap n d:Nat}{a i:List Y}(f:a.length=n*size)
  (h:w.ownsRow base e size (A0 (M ⟨g,0,N⟩) (n+d) cap) (n+d) (a++i)):w.ownsRow base e size (A0 (M ⟨g,0,N⟩) n cap) n a:=by
 obtain⟨_,k⟩:=h;rcases k with⟨j,_⟩|⟨t,s,b,r,m,o,u,l,p,q⟩
 ·cases j
 ·cases r;refine⟨f,.inr ⟨g,cap,b,rfl,m,o,by omega,l,p,?_⟩⟩;have c:(b.toList.take ((n+d)*size)).take (n*size)=(a++i).take (n*size):=by rw[q]
  rw[List.take_take,tH (Nat.mul_le_mul_right _ (by omega))]at c;rw[c,<-f];exact take_len _ _
theorem Jq{w:O}{base:Nat}{e:A4}{size g cap n:Nat}{d:List Y}(h:w.ownsRow base e size (A0 (M ⟨g,0,N⟩) n cap) n d):n<=cap:=by
 rcases h.2 with⟨a,_⟩|⟨j,f,i,c,l,m,b,k,o,p⟩
 ·cases a
 ·cases c;exact b
def jI(st:List Int):Nat->List Int
 |0=>[]
 |j+1=>if(ed st ((j:Int)+1)).2=true then jI st j++[(j:Int)+1] else jI st j
def Fe(st:List Int):List Int:=jI st 78
theorem rH(st:List Int):∀j,(jI st j).length<=j
 |0=>ah _
 |j+1=>by
  have:=rH st j;rw[jI];split
  ·rw[aC];simp;omega
  ·omega
theorem qH.put{a:O}{base mb:Nat}{C:List (Int×Int)}{j:Y}(f:a.heap[mb]?=M (.cells #[j] 77 (0,0)))(i:base<=mb){v:Y}(d:a.ownsRow base 114 2 v C.length (cCl C)):qH (a.setCell ⟨mb,0,N⟩ v) base mb C:=by
 refine⟨⟨v,cD _ mb 0 _ _ _ f,?_⟩,i⟩;refine d.kept (row:=M mb) ⟨rfl,rfl,rfl,by simp[U],fun p o h=>bh _ _ _ _ (fun b=>h (by rw[b]))⟩ ?_;rcases bq d with⟨_,rfl⟩|⟨g,k,rfl⟩
 ·exact .inl rfl
 ·refine .inr ?_;intro b;obtain rfl:g=mb:=by simpa [Q] using b
  rcases d.2 with⟨c,_⟩|⟨n,l,m,c,_,e,_⟩
  ·cases c
  ·cases c;rw[f]at e;cases e
theorem Kp.put{mb:Nat}{w a:O}(h:Kp mb w a)(j:Nat)(v:Y):Kp mb w (a.setCell ⟨mb,j,N⟩ v):=
 h.trans ⟨rfl,rfl,rfl,by simp[U],fun c _ b _=>bh _ _ _ _ b⟩
theorem Lj(w:O)(base mb:Nat)(h:qH w base mb []):
  A2 V 45 #[.pointer (M ⟨mb,0,N⟩)] w fun e a=>e= .returned (S R 1)/\qH a base mb [(6, -1),(100,0)]/\Kp mb w a/\T base w a:=by
 have b:=zC w base mb [] (-1) 6 h (by simp);go_in;go_wp2_with fail;refine b.mono ?_;rintro e w1 ⟨rfl,g,j,d⟩;have c:=zC w1 base mb [(6, -1)] 0 100 g (by simp);clear b;simp only[fs,Int.natCast_zero];go_wp2_with fail;refine c.mono ?_;rintro e k ⟨rfl,i,p2,f⟩;clear c;simp only[di,fs,od,Int.natCast_one];go_wp2_with fail;go_ret;exact⟨rfl,i,j.trans p2,d.trans f⟩
structure af5 (w:O) (base mb:Nat) (C:List (Int×Int)) (st:List Int) (j:Nat) (vo:Y) (W:O):Prop where
 m:qH W base mb C
 kp:Kp mb w W
 bl:T base w W
 row:W.ownsRow w.heap.size 3 1 vo (jI st j).length ((jI st j).map (Ax .i64))
theorem Jr(w:O)(base mb:Nat)(C:List (Int×Int))(st:List Int)(a5:Int)(h:qH w base mb C)(bt:jH C a5 st)(bo:OkS st)(cm:0<C.length)(bn:C.length<=50000000):
  A2 V 49 #[.pointer (M ⟨mb,0,N⟩),.int .i64 a5] w fun e I=>∃a c,e= .returned (.slice a (Fe st).length c)/\I.ownsRow w.heap.size 3 1 (.slice a (Fe st).length c) (Fe st).length ((Fe st).map (Ax .i64))/\qH I base mb C/\Kp mb w I/\T base w I:=by
 obtain⟨c7,ao,br⟩:=h.ex;have d1:base<=w.heap.size:=by have:=ax ao;have:=h.lo;omega
 have ar:=h.lo;obtain⟨g,F⟩:=aA C.length;obtain⟨u,t,rfl⟩:∃u t,c7= .slice (M ⟨u,0,N⟩) g t:=by
  rcases bq br with⟨hz,_⟩|hz
  ·omega
  ·rw[<-F];exact hz
 have ce:w.cell? ⟨mb,0,N⟩=M (.slice (M ⟨u,0,N⟩) g t):=by rw[az _ _ _ _ _ _ ao];rfl
 have b5:af5 w base mb C st 0 (.slice N 0 0) w:=⟨h,Kp.refl _ _,aj _ _,bk _ _ _ _⟩;have p:=gD F bt bo;have a8:=aq b5;rw[F]at cm bn;obtain⟨cz,cB,c1,c2,c3⟩:=dC rz;clear h br ao b5 F bt bo;go_in;go_wp2_with fail;go_loopw [5,7] (fun b7 a6 wr=>∃(b:Nat),b<=78/\a6= .int .i64 ((b:Int)+1)/\(∃a c,∃c4:Nat,b7= .slice a c4 c)/\A3 (af5 w base mb C st b b7 wr)) (fun _ a6 _=>(79-A5 a6).toNat)
 case atStart=>exact⟨0,be _,rfl,⟨_,_,_,rfl⟩,a8⟩
 case round=>
  obtain⟨b,dq,rfl,⟨z,A,s,rfl⟩,i⟩:=hrel;clear a8 ce;by_cases ds:b<78
  ·have G:((b:Int)+1)<=78:=by omega
   have r:=ux wr base mb C st a5 ((b:Int)+1) i.out.m p.out.2.1 p.out.2.2 (by omega) G (by rw[p.out.1];exact bn);obtain⟨cb,am⟩:=aA (ed st ((b:Int)+1));rw[am]at r;obtain⟨b1,a1⟩:=aA cb.2;unfold qI at r;rw[a1]at r;have a7:A3 ((ed st ((b:Int)+1)).2=b1):=by show _=_;rw[am];exact a1
   obtain⟨n,an⟩:∃n:Int,(b:Int)+1=n:=⟨_,rfl⟩;have K:=aq an;have dn:n<=78:=by omega
   have dk:1<=n:=by omega
   rw[an]at r⊢;clear am a1 an G;go_wp2_with fail;refine r.mono ?_;rintro e k ⟨d2,D,rfl,bE,_,cn,p2,bb⟩;obtain⟨c8,x,y⟩:=bE.ex;rw[aC,p.out.1,Jp]at y;obtain⟨o,l,rfl⟩:∃u t,c8= .slice (M ⟨u,0,N⟩) (g+D.length) t:=by
    rcases bq y with⟨hz,_⟩|hz
    ·omega
    ·exact hz
   have hcut:=af4 (by rw[Jo,p.out.1]) y;have dp:=Jq hcut;have cp:=Jq y;have z0:k.cell? ⟨mb,0,N⟩=M (.slice (M ⟨o,0,N⟩) (g+D.length) l):=by rw[az _ _ _ _ _ _ x];rfl
   have d6:k.frozen? ⟨mb,0,N⟩=false:=du _ _ _ _ _ x;have bF:qH (k.setCell ⟨mb,0,N⟩ (.slice (M ⟨o,0,N⟩) g l)) base mb C:=qH.put x ar (by rw[p.out.1];exact hcut);obtain⟨d5,bx,_⟩:=i.out.m.ex;have b3:=p2.row bx i.out.row (by decide) (by decide);have b4:(k.setCell ⟨mb,0,N⟩ (.slice (M ⟨o,0,N⟩) g l)).ownsRow w.heap.size 3 1 (.slice z s A) (jI st b).length ((jI st b).map (Ax .i64)):=
    ((Kp.refl mb k).put 0 _).row x b3 (by decide) (by decide)
   have f:A3 (af5 w base mb C st b (.slice z s A) (k.setCell ⟨mb,0,N⟩ (.slice (M ⟨o,0,N⟩) g l))):=
    ⟨bF,(i.out.kp.trans p2).put _ _,(i.out.bl.trans bb).setCell ar _,b4⟩
   have dz:(0:Int)<=(g:Int):=by omega
   have d0:(g:Int)<=(l:Int):=by omega
   obtain⟨df,co⟩:=aA (g+D.length);rw[co]at z0;clear r bE y x hcut bF b3 b4 bx p2 bb i cn cp;have cr:=rH st b;cases b1 with
   |false=>
    have e:jI st (b+1)=jI st b:=by rw[jI,a7.out,aa (by decide)]
    go_wp2_with fail;refine⟨⟨b+1,by omega,?_,⟨_,_,_,rfl⟩,⟨f.out.m,f.out.kp,f.out.bl,by rw[e];exact f.out.row⟩⟩,?_⟩
    ·have:=K.out;congr 1;push_cast;omega
    ·simp[A5];omega
   |true=>
    have e:jI st (b+1)=jI st b++[(b:Int)+1]:=by rw[jI,a7.out,ab rfl]
    have b8:A3 (jI st (b+1)=jI st b++[n]):=by show _=_;rw[e,K.out]
    obtain⟨cc,cf,ad⟩:=bI f.out.row;cases ad;obtain⟨s,E⟩:=aA ((jI st b).length);have b9:=aq E;rw[E]at cr⊢;have a3:=f.out.row;rw[E]at a3;have q:=aq a3;clear e E a3;have cx:w.heap.size<=(k.setCell ⟨mb,0,N⟩ (.slice (M ⟨o,0,N⟩) g l)).heap.size:=f.out.kp.size;have v:A3 ((k.setCell ⟨mb,0,N⟩ (.slice (M ⟨o,0,N⟩) g l)).heap.size=k.heap.size):=by show _=_;simp[U]
    go_wp2_with (at_builtin;rw[<-v.out];generalize k.setCell ⟨mb,0,N⟩ (.slice (M ⟨o,0,N⟩) g l)=L at f q cx⊢;refine rm _ rfl _ _ 33 rfl w.heap.size 3 cz _ 1 8 Tryz.underlying33 cB c1 c2 c3 rfl (by decide) _ _ _ rfl (q.out.alloc _) ⟨L.heap.size,0,N⟩ 1 1 [.int .i64 n] rfl rfl (X (cs:=#[.int .i64 n]) (fr:=(0,0)) (aw L _)) (by intro d3 bw;simp at bw;subst bw;rfl) (by unfold A6;omega) (by omega) (by simp;omega) ?_;intro d4 J a0 m ct;obtain⟨cl,ck,rfl⟩:=A1 a0);obtain⟨dd,bA,bs⟩:=f.out.m.ex;have bp:∀d,(Z z s A).ownBlock=M d->w.heap.size<=d:=fun d j=>(q.out.lt d j).1;have a2:∀(d:Nat)(cs:Array Y)(H:A4)(fr:Nat×Nat),L.heap[d]?=M (.cells cs H fr)->H≠3->J.heap[d]?=M (.cells cs H fr):=fun d cs H fr j G=>by
     refine(m.block d (by simp;have:=ax j;omega) (fun e=>?_)).trans ((dr _ _ _ (ax j)).trans j);have B:(Z z s A).ownBlock=M d:=e.symm;rcases q.out.2 with⟨ak,_⟩|⟨af,bd,bf,ak,_,v,_⟩
     ·rw[ak]at B;simp[Q]at B
     ·rw[ak]at B;obtain rfl:af=d:=by simpa [Q] using B
      rw[j]at v;simp only[gg,jh]at v;exact G v.2.1
    have bD:Kp mb w J:=⟨m.os.trans f.out.kp.os,m.tape.trans f.out.kp.tape,m.output.trans f.out.kp.output,by have:=m.size;simp at this;omega,fun d j cu ap=>
     (m.block d (by simp;omega) (fun e=>by have:=bp d e.symm;omega)).trans ((dr _ _ _ (by omega)).trans (f.out.kp.block d j cu ap))⟩
    have b0:qH J base mb C:=by
     refine⟨⟨dd,a2 _ _ _ _ bA (by decide),?_⟩,ar⟩;obtain⟨c5,a4⟩:=bs;refine⟨c5,?_⟩;rcases a4 with a4|⟨af,bd,bf,cy,cq,ap,c6⟩
     ·exact .inl a4
     ·exact .inr ⟨af,bd,bf,cy,cq,a2 _ _ _ _ ap (by decide),c6⟩
    have b6:af5 w base mb C st (b+1) (.slice (M ⟨cl,0,N⟩) (s+1) ck) J:=by
     refine⟨b0,bD,?_,?_⟩
     ·exact(f.out.bl.alloc (by omega) _).grown m (by simp;omega) (fun d j=>by have:=(q.out.lt d j).1;omega)
     ·rw[b8.out,aC,b9.out,en];exact a0
    have ca:=aq b6;clear b6 b0 bD bA bs bp a2 a0 m ct f q;refine⟨⟨b+1,by omega,?_,⟨_,_,_,rfl⟩,ca⟩,?_⟩
    ·have:=K.out;congr 1;push_cast;omega
    ·simp[A5];omega
  ·obtain rfl:b=78:=by omega
   obtain⟨cc,cf,ad⟩:=bI i.out.row;cases ad;go_wp2_with fail;go_ret;exact⟨_,_,rfl,i.out.row,i.out.m,i.out.kp,i.out.bl⟩
