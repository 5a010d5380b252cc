import Derived.Test.YtnoembpaejlaeaaGreatDoorHLk04
import Derived.WalkSmall
set_option linter.all false
set_option maxRecDepth 100000
set_option maxHeartbeats 25600000
open Option renaming some->M,none->T
open Go.IntKind renaming i64->O
open Go.Value renaming int->Q,int->X,ownBlock->Y,slice->A3,slice->B4,bool->B6,tuple->Ce,pointer->C2
open Go renaming World->U,Calls->A2,Value->A9,ownsRow_succ->B3,maxLen->Ck,TypeId->Ex
open Go.Proofs.Tryz renaming prog->V
open Go.Ending renaming returned->Z
open Go.RowKit renaming Below->Ax,Hid->B5,intOf->B7
open Bool renaming false->A0,true->B0
open List renaming replicate->A5
open Go.World renaming setCell->Br,news_of_block->B2
open Go.Obj renaming cells->B1
namespace Go.Proofs.YtnoembpaejlaeaaGreatDoor
open Go.RowKit
variable{C:List (Int×Int)}{W W' w w':World}{base gb j k mb n:Nat}{tk:Nat->Tk}{xs:List Value}
def lF(w:U)(r:List Int×Bool)(e:Ending)(c:U):Prop:=
 ∃a b,e= Z (Ce #[A3 a r.1.length b,B6 r.2])/\c.ownsRow w.heap.size 3 1 (A3 a r.1.length b) r.1.length (r.1.map (X O))/\Ax w.heap.size w c
def afl(w:U)(l:List Int)(n:Nat)(a:l.length=n)(b:n<=100):(w.alloc (B1 (l.map (X O)).toArray 3)).ownsRow w.heap.size 3 1 (A3 (M ⟨w.heap.size,0,T⟩) n n) n (l.map (X O)):=by
 have:=uF (base:=w.heap.size) (e:=3) (size:=1) w (l.map (X O)).toArray n (ag _) (by unfold Ck;omega) (by simp[a]);simpa using this
def rD(w:U)(l:List Int)(b:Bool)(a:l.length<=100):lF w (l,b) (Z (Ce #[A3 (M ⟨w.heap.size,0,T⟩) l.length l.length,B6 b])) (w.alloc (B1 (l.map (X O)).toArray 3)):=
 ⟨_,_,rfl,afl w l _ rfl a,dE w _⟩
def BE(w:U)(b:Bool):lF w ([],b) (Z (Ce #[A3 T 0 0,B6 b])) w:=⟨_,_,rfl,eI _ _ _ _,ai _ w⟩
def vC(v:A9)(w:U):A2 V 140 #[v] w λe w'=>e= Z v/\w'=w:=by
 go_in;go_wp2;go_ret;exact⟨rfl,rfl⟩
def ss(w:U)(t:Int):A2 V 204 #[Q O t] w λe w'=>e= Z (B6 (jt t))/\w'=w:=by
 by_cases a:t=25\/t=50\/t=62\/t=69
 .have e:jt t=B0:=bp a;rw[e];rcases a with rfl|rfl|rfl|rfl;all_goals
   go_in;go_wp2;go_ret;exact⟨rfl,rfl⟩
 .have e:jt t=A0:=aD a;rw[e];have b:¬t=25:=by omega
  have c:¬t=50:=by omega
  have d:¬t=62:=by omega
  have f:¬t=69:=by omega
  have g:(t==25)=A0:=beq_eq_false_iff_ne.2 b;have h:(t==50)=A0:=beq_eq_false_iff_ne.2 c;have i:(t==62)=A0:=beq_eq_false_iff_ne.2 d;have j:(t==69)=A0:=beq_eq_false_iff_ne.2 f;clear a e;go_in;go_wp2;go_ret;exact⟨rfl,rfl⟩
def Au(w:U)(t:Int):A2 V 207 #[Q O t] w λe w'=>e= Z (B6 (gx t))/\w'=w:=by
 by_cases a:t=10\/t=26
 .have e:gx t=B0:=bp (by omega);rw[e];rcases a with rfl|rfl;all_goals
   go_in;go_wp2;go_ret;exact⟨rfl,rfl⟩
 .have b:¬t=10:=by omega
  have c:¬t=26:=by omega
  have d:(t==10)=A0:=beq_eq_false_iff_ne.2 b;have f:(t==26)=A0:=beq_eq_false_iff_ne.2 c;by_cases g:60<t
  .have e:gx t=B0:=bp (by omega);rw[e];clear a e;go_in;go_wp2;go_ret;exact⟨rfl,rfl⟩
  .have e:gx t=A0:=aD (by omega);rw[e];clear a e;go_in;go_wp2;go_ret;exact⟨rfl,rfl⟩
def su(w:U)(t:Int):A2 V 142 #[Q O t] w λe w'=>e= Z (B6 (eJ t))/\w'=w:=by
 by_cases a:t=1\/t=2\/t=3\/t=4\/t=24\/t=29\/t=17\/t=49\/t=18\/t=40\/t=42
 .have e:eJ t=B0:=by unfold eJ;rw[bp a];rfl
  rw[e];rcases a with rfl|rfl|rfl|rfl|rfl|rfl|rfl|rfl|rfl|rfl|rfl;all_goals
   go_in;go_wp2;go_ret;exact⟨rfl,rfl⟩
 .have e:eJ t=jt t:=by unfold eJ;rw[aD a];rfl
  rw[e];simp only[not_or]at a;obtain⟨_,_,_,_,_,_,_,_,_,_,_⟩:=a;have b:=λw=>ss w t;clear e;generalize jt t=c at b⊢;go_in;go_wp2_with (go_at_call 204;refine ft (b _) ?_);go_ret;exact⟨rfl,rfl⟩
def GG.pos{ns:List ByteArray}(h:GG tk n k ns j):k<=j/\j<n:=by
 induction h with
 |stop _ h=>exact⟨ag _,h⟩
 |go _ _ _ _ a=>omega
def Lx.pos{ns:List ByteArray}{r:Bool}(h:Lx tk n k ns r j):k+1<=j/\j<n:=by
 induction h with
 |close _ h=>omega
 |rest _ _ h=>omega
 |last _ _ h=>omega
 |go _ _ _ _ a=>omega
def eB:xz->Nat
 | .more _ _ _=>0
 | .post _ _=>0
 | .moreE=>0
 | .moreB=>0
 | .stats=>0
 | .entries=>0
 |_=>1
def slk:xz->Nat
 | .more _ _ _=>0
 | .post _ _=>0
 | .moreE=>0
 | .moreB=>0
 | .stats=>0
 | .entries=>0
 | .entry=>1
 | .stat=>1
 | .branch=>1
 |_=>2
def bas:xz->Nat
 | .more _ _ x=>x.sz
 | .post _ x=>x.sz
 |_=>0
def ai1(N:Nd)(ks:Fo)(s:Tk)(e:Int):(lJ N ks s e).sz<=(one N ks).sz+1:=by
 unfold lJ;split
 .rw[di];omega
 .omega
def P.pos{i:Nat}{t:xz}{R:Fo}(h:P tk n t i R j):i+eB t<=j/\j<n/\R.sz+slk t+3*i<=bas t+3*j:=by
 induction h
 case bopen i k j N ks R h1 h2 h3 h4 h5 h6 ih1 ih2=>
  have:=ai1 N ks (tk i) (tk k).t;simp only[eB,slk,bas,di,Fo.sz_app,Fo.sz]at *;omega
 case body h1 h2 h3 h4 ih=>
  have:=h3.pos;simp only[eB,slk,bas,di,Fo.sz_app,Fo.sz]at *;omega
 case tlet0 h1 h2 h3 h4 h5=>have:=h4.pos;simp only[eB,slk,bas,di,Fo.sz_app,Fo.sz]at *;omega
 case tlet h1 h2 h3 h4 h5 h6 ih=>have:=h4.pos;simp only[eB,slk,bas,di,Fo.sz_app,Fo.sz]at *;omega
 case tfor h1 h2 h3 h4 h5 h6 h7 ih1 ih2=>have:=h4.pos;simp only[eB,slk,bas,di,Fo.sz_app,Fo.sz]at *;omega
 case teach h1 h2 h3 h4 h5 h6 h7 h8 h9 ih1 ih2=>have:=h4.pos;simp only[eB,slk,bas,di,Fo.sz_app,Fo.sz]at *;omega
 case ttry h1 h2 h3 h4 h5 h6 h7 h8 ih1 ih2=>have:=h7.pos;simp only[eB,slk,bas,di,Fo.sz_app,Fo.sz]at *;omega
 all_goals
  simp only[eB,slk,bas,di,Fo.sz_app,Fo.sz]at *;omega
def ieq(t c:Int):(t=c)=((t==c)=B0):=by simp
def aab(w:U)(t:Int):A2 V 141 #[Q O t] w (lF w (CC t)):=by
 go_in;go_wp2_with (go_at_call 140;refine ft (vC _ _) ?_);all_goals
  go_ret2;go_tidy
  simp only[CC,ieq, *];simp[*];first|exact rD w _ _ (by simp)|exact BE w _
def aac(w:U)(t:Int):A2 V 206 #[Q O t] w (lF w (CD t)):=by
 have b:=λw=>ss w t;have a:=λw=>su w t;go_in;go_wp2_with (first|(go_at_call 140;refine ft (vC _ _) ?_)|(go_at_call 204;refine ft (b _) ?_)|(go_at_call 142;refine ft (a _) ?_));all_goals
  go_ret2;go_tidy
  simp only[CD,ieq, *];simp[*];first|exact rD w _ _ (by simp)|exact BE w _
def adF{w1:U}{r:List Int×Bool}{e:Ending}(a:Ax w.heap.size w w1)(h:lF w1 r e w'):lF w r e w':=by
 obtain⟨b,c,rfl,f,d⟩:=h;exact⟨b,c,rfl,qL f a.size,a.trans (d.mono a.size)⟩
def ai2{p:Prop}[Decidable p] {a b:List Int×Bool}(c:a.1.length<=6) (d:b.1.length<=6):(if p then a else b).1.length<=6:=by split<;>assumption
def adG(t:Int):(CC t).1.length<=6:=by
 unfold CC
 repeat' (first|(apply ai2<;>skip)|exact Nat.le_of_ble_eq_true rfl)
def CH(w:U)(t:Int):A2 V 77 #[.int .i64 100,.int .i64 t] w (lF w (alL t)):=by
 unfold alL;by_cases f:t=5
 .subst f;show A2 _ _ _ _ (lF w ([5,100],B0));go_in;go_wp2_with (go_at_call 140;refine ft (vC _ _) ?_);go_ret2;exact rD w [5,100] B0 (by simp)
 .rw[aa f];have a:=λw=>aab w t;have d:=adG t;generalize CC t=y at a d⊢;obtain⟨x,j⟩:=y;simp only at d⊢;obtain⟨C,c⟩:=aF x.length;obtain⟨q,r,s,u,v⟩:=eD vA;cases j with
  |true=>
   rw[ab rfl];unfold lF at a⊢;simp only at a⊢;rw[aJ,dK];rw[c]at a d⊢;clear c;go_in;go_wp2_with (first|(go_at_call 141;refine(a _).mono ?_;rintro l w1 ⟨i,k,rfl,e,b⟩;have p:=b.size)|(at_builtin;refine pd _ rfl _ _ 60 rfl w.heap.size 3 q _ 1 8 Tryz.underlying60 r s u v rfl (by decide) _ _ _ rfl (e.alloc _) ⟨w1.heap.size,0,T⟩ 1 1 [.int .i64 101] rfl rfl (B2 (cs:=#[.int .i64 101]) (fr:=(0,0)) (aB w1 _)) (by intro E h;simp at h;subst h;rfl) (by unfold Ck;omega) (by omega) (by simp;omega) ?_;intro F w5 g o B;obtain⟨A,z,rfl⟩:=B3 g));go_ret2;exact⟨_,_,rfl,g,(b.alloc p _).grown o (by simp;omega) (λm n=>(e.lt m n).1)⟩
  |false=>
   rw[aa (by decide)];unfold lF at a;simp only at a;rw[c]at a;clear c;go_in;go_wp2_with (go_at_call 141;refine(a _).mono ?_;rintro l w1 ⟨i,k,rfl,e,b⟩);go_ret2;exact adF b (BE _ B0)
def Jl(w:U)(s t:Int)(b:101<=s)(c:s<=133):A2 V 77 #[Q O s,Q O t] w (lF w (xE s t)):=by
 have f:=λw=>su w t;have g:=λw=>Au w t;have h:=λw=>aac w t;obtain rfl|rfl|rfl|rfl|rfl|rfl|rfl|rfl|rfl|rfl|rfl|rfl|rfl|rfl|rfl|rfl|rfl|rfl|rfl|rfl|rfl|rfl|rfl|rfl|rfl|rfl|rfl|rfl|rfl|rfl|rfl|rfl|rfl:s=101\/s=102\/s=103\/s=104\/s=105\/s=106\/s=107\/s=108\/s=109\/s=110\/s=111\/s=112\/s=113\/s=114\/s=115\/s=116\/s=117\/s=118\/s=119\/s=120\/s=121\/s=122\/s=123\/s=124\/s=125\/s=126\/s=127\/s=128\/s=129\/s=130\/s=131\/s=132\/s=133:=by omega
 all_goals
  clear b c;go_in;go_wp2_with (first|(go_at_call 140;refine ft (vC _ _) ?_)|(go_at_call 142;refine ft (f _) ?_)|(go_at_call 207;refine ft (g _) ?_)|(go_at_call 206;refine(h _).mono ?_;rintro a k ⟨i,j,rfl,e,d⟩)|go_in);all_goals
   go_ret2;first
    |exact⟨_,_,rfl,e,d⟩
    |(go_tidy
      simp only[xE,GD,aox,aoy,al0,al3,al4,aoz,aoA,aiF,aoB,aoC,aoD,aoE,aoF,aoG,aoH,aoI,aoJ,aoK,al5,aiG,al6,al7,al8,al9,ao0,ao1,ao2,ama,ao3,amb,ao4,ao5,ieq, *];simp[*];first|exact rD w _ _ (by simp)|exact BE w _|(by_cases a:t=21<;>simp_all<;>(try rw[show(t==46||t==21)=A0 by simp[*]])<;>exact rD w _ _ (by simp))|(by_cases a:t=44<;>simp_all<;>exact rD w _ _ (show 2<=100 by decide)))
def GL(w:U)(s t:Int)(c:100<=s)(b:s<=133):A2 V 77 #[Q O s,Q O t] w (lF w (xE s t)):=by
 by_cases a:s=100
 .subst a;exact CH w t
 .exact Jl w s t (by omega) b
def afm:(Tryz.prog.info? 173).map (λi=>(i.zero,i.size,i.bytes))=M (M (.agg #[Q O 0,Q O 0]),2,16):=by kernel_rfl
def cCl(C:List (Int×Int)):List A9:=C.flatMap λa=>[Q O a.1,Q O a.2]
def ai3(C D:List (Int×Int)):cCl (C++D)=cCl C++cCl D:=by simp[cCl]
def afn:∀(C:List (Int×Int))(i:Nat)(c:Int×Int),C[i]?=M c->(cCl C)[i*2]?=M (Q O c.1)/\(cCl C)[i*2+1]?=M (Q O c.2)
 |[],i,c,h=>by simp at h
 |a::r,0,c,h=>by
  obtain rfl:a=c:=by simpa using h
  exact⟨rfl,rfl⟩
 |a::r,i+1,c,h=>by
  have e:=afn r i c (by simpa using h);have d:∀b,(cCl (a::r))[b+2]?=(cCl r)[b]?:=λb=>rfl;rw[show(i+1)*2=i*2+2 by omega,show i*2+2+1=(i*2+1)+2 by omega,d,d];exact e
structure BF (W:U) (base mb:Nat) (C:List (Int×Int)):Prop where
 ex:∃v,W.heap[mb]?=M (.cells #[v] 105 (0,0))/\W.ownsRow base 173 2 v C.length (cCl C)
 lo:base<=mb
structure Kp (mb:Nat) (w w':U):Prop where
 os:w'.os=w.os
 tape:w'.tape=w.tape
 output:w'.output=w.output
 size:w.heap.size<=w'.heap.size
 block:∀k,k<w.heap.size->k≠mb->(∀cs fr,w.heap[k]?≠M (.cells cs 173 fr))->w'.heap[k]?=w.heap[k]?
def Kp.refl(mb:Nat)(w:U):Kp mb w w:=⟨rfl,rfl,rfl,ag _,λ_ _ _ _=>rfl⟩
def Kp.trans{x e z:U}(h:Kp mb x e)(k:Kp mb e z):Kp mb x z:=
 ⟨k.os.trans h.os,k.tape.trans h.tape,k.output.trans h.output,bG h.size k.size,λd b c a=>
  (k.block d (ip b h.size) c (λf g=>by rw[h.block d b c a];exact a f g)).trans (h.block d b c a)⟩
def Kp.of_below(h:Ax w.heap.size w w'):Kp mb w w':=⟨h.os,h.tape,h.output,h.size,λb a _ _=>h.block b a⟩
def Kp.blk(h:Kp mb w w'){cs:Array A9}{t:Ex}{fr:Nat×Nat}(a:w.heap[k]?=M (B1 cs t fr))(ht:t≠173)(c:k≠mb):w'.heap[k]?=M (B1 cs t fr):=
 (h.block k (aj a) c (λd e b=>by rw[a]at b;cases b;exact ht rfl)).trans a
def Kp.row(h:Kp mb w w'){r:A9}{f:Nat×Nat}(j:w.heap[mb]?=M (B1 #[r] 105 f)){e size:Nat}{v:A9}(o:w.ownsRow base e size v n xs)(k:e≠173)(l:e≠105):w'.ownsRow base e size v n xs:=by
 obtain⟨i,b⟩:=o;refine⟨i,?_⟩;rcases b with b|⟨g,c,d,p,m,a,q⟩
 .exact .inl b
 .refine .inr ⟨g,c,d,p,m,h.blk a k ?_,q⟩;rintro rfl;rw[j]at a;simp only[fi,jL]at a;exact l a.2.1.symm
def BF.below(h:BF W base mb C)(b:Ax W.heap.size W W'):BF W' base mb C:=by
 obtain⟨d,a,c⟩:=h.ex;exact⟨⟨d,(b.block _ (aj a)).trans a,cJ c b⟩,h.lo⟩
def pL(C:List (Int×Int)):Int->List Int->Prop
 |top,[]=>top= -1
 |top,s::r=>∃(i:Nat) (b:Int),top=(i:Int)/\C[i]?=M (s,b)/\pL C b r
def pL.app(D:List (Int×Int)):∀{st:List Int}{a:Int},pL C a st->pL (C++D) a st
 |[],a,h=>h
 |s::r,a,⟨i,b,d,c,e⟩=>⟨i,b,d,by rw[iq (List.getElem?_eq_some_iff.1 c).1];exact c,e.app D⟩
def pL.push{st:List Int}{a:Int}(h:pL C a st)(s:Int):pL (C++[(s,a)]) (C.length:Int) (s::st):=
 ⟨C.length,a,rfl,by rw[gh (ag _),fG];rfl,h.app _⟩
def CJ(w:U)(base mb:Nat)(C:List (Int×Int))(m l:Int)(h:BF w base mb C)(K:C.length<=100000000):
  A2 V 78 #[.pointer (M ⟨mb,0,T⟩),.int .i64 m,.int .i64 l] w λe w'=>e= .returned (.int .i64 (C.length:Nat))/\BF w' base mb (C++[(l,m)])/\Kp mb w w'/\Ax base w w':=by
 obtain⟨ax,f,g⟩:=h.ex;have B:=h.lo;obtain⟨k,u⟩:=aF C.length;rw[u]at g K⊢;obtain⟨o,p,rfl⟩:=bJ g;obtain⟨af,ak,al,an,ao⟩:=eD afm;have L:=aj f;have ap:w.cell? ⟨mb,0,T⟩=M (.slice o k p):=by rw[am _ _ _ _ _ _ f];rfl
 have E:∀c,(B4 o k p).ownBlock=M c->c≠mb/\base<=c:=λc j=>by
  refine⟨?_,(g.lt c j).1⟩;rintro rfl;rcases g.2 with⟨a,_⟩|⟨r,y,z,a,_,d,_⟩
  .rw[a]at j;simp[Y]at j
  .rw[a]at j;obtain rfl:r=c:=by simpa [Y] using j
   rw[d]at f;cases f
 have n:=kJ g f u;clear g f u h;go_in;go_wp2_with (at_builtin;refine pd _ rfl _ _ 103 rfl base 173 af _ 2 16 Tryz.underlying103 ak al an ao rfl (by decide) _ _ _ rfl (n.1.alloc _) ⟨w.heap.size,0,T⟩ 1 1 [.int .i64 l,.int .i64 m] rfl rfl (B2 (cs:=#[.int .i64 l,.int .i64 m]) (fr:=(0,0)) (aB w _)) (by intro av F;simp at F;rcases F with rfl|rfl<;>rfl) (by unfold Ck;omega) (by omega) (by simp;omega) ?_;intro a0 w5 x b au;obtain⟨A,H,rfl⟩:=B3 x;have s:=(b.block mb (by simp;omega) (λe=>(E mb e.symm).1 rfl)).trans ((dG _ _ _ L).trans n.2.1);have a1:w5.cell? ⟨mb,0,T⟩=M (.slice o k p):=(by rw[am _ _ _ _ _ _ s];rfl);have ar:w5.frozen? ⟨mb,0,T⟩=A0:=ch _ _ _ _ _ s);go_ret;have ad:=b.size;rw[de]at ad;refine⟨by go_num,⟨⟨.slice (M ⟨A,0,T⟩) (k+1) H,aL _ mb 0 _ _ _ s,?_⟩,B⟩,?_,?_⟩
 .rw[aJ,n.out.2.2,ai3];refine x.kept (row:=M mb) ⟨rfl,rfl,rfl,by simp[Br],λi t v=>aC _ _ _ _ (λe=>v (by rw[e]))⟩ ?_;refine .inr ?_;intro e;obtain rfl:A=mb:=by simpa [Y] using e
  rcases x.2 with⟨a,_⟩|⟨r,y,z,a,_,d,_⟩
  .cases a
  .cases a;rw[s]at d;cases d
 .refine⟨b.os,b.tape,b.output,by simp[Br];omega,λi t v J=>?_⟩;rw[aC _ _ _ _ v];refine(b.block i (by simp;omega) (λe=>?_)).trans (dG _ _ _ t);have q:(B4 o k p).ownBlock=M i:=e.symm;rcases n.1.2 with⟨a,_⟩|⟨r,y,z,a,_,d,_⟩
  .rw[a]at q;simp[Y]at q
  .rw[a]at q;obtain rfl:r=i:=by simpa [Y] using q
   exact J _ _ d
 .have I:base<=w.heap.size:=by omega
  have G:Ax base w (w.alloc (.cells #[.int .i64 l,.int .i64 m] 173)):=(ai _ w).alloc I _;exact(G.grown b (by simp;omega) (λi t=>(E i t).2)).setCell B _
def zq:∀{f:Nat}{st:List Int}{t:Int}{n:Nat}{lo:List Int}{b:Option Bool}{m:Nat},gj f st t n=M (lo,b,m)->n<=m
 |0,_,_,_,_,_,_,h=>by simp[gj]at h
 |f+1,[],t,n,lo,b,m,h=>by
  simp only[gj,fi,jc]at h;omega
 |f+1,s::r,t,n,lo,b,m,h=>by
  by_cases c:s<100
  .have:=(ru h c).2.2;omega
  .rcases lD h (by omega) with⟨_,a⟩|⟨_,_,_,a⟩
   .have:=zq a;omega
   .omega
structure C0 (w:U) (base mb:Nat) (C:List (Int×Int)) (t:Int) (Res:List Int×Bool) (k:Nat) (stk:List Int) (top:Int) (D:List (Int×Int)) (W:U):Prop where
 m:BF W base mb (C++D)
 s:pL (C++D) top stk
 o:yd stk
 kp:Kp mb w W
 bl:Ax base w W
 d:D.length<=20
 ph:(D=[]/\dy stk t=Res/\stk.length+9<=k)\/∃cur r f lo b m,stk=cur++r/\gj f cur t D.length=M (lo,M b,m)/\(lo++r,b)=Res/\m<=20/\f<=k
def C0.nil{w:U}{base mb:Nat}{C:List (Int×Int)}{t:Int}{a:List Int×Bool}{k:Nat}{i:Int}{D:List (Int×Int)}{W:U}(h:C0 w base mb C t a k [] i D W):a=([],A0):=by
 rcases h.ph with⟨_,e,_⟩|⟨d,n,c,l,j,m,f,b,_⟩
 .rw[<-e];rfl
 .have g:d=[]:=(List.append_eq_nil_iff.1 f.symm).1;subst g;cases c with
  |zero=>simp[gj]at b
  |succ c=>simp[gj]at b
def C0.tok{w:U}{base mb:Nat}{C:List (Int×Int)}{t:Int}{c:List Int×Bool}{k:Nat}{s:Int}{tl:List Int}{l:Int}{D:List (Int×Int)}{W:U}(h:C0 w base mb C t c k (s::tl) l D W)(e:s<100):c=(tl,decide (s=t)):=by
 rcases h.ph with⟨_,f,_⟩|⟨d,p,b,n,m,o,g,a,i,_⟩
 .rw[<-f];exact lC e
 .cases d with
  |nil=>
   cases b with
   |zero=>simp[gj]at a
   |succ b=>simp[gj]at a
  |cons q d=>
   obtain⟨rfl,rfl⟩:=kD g;cases b with
   |zero=>simp[gj]at a
   |succ b=>
    obtain⟨rfl,j,_⟩:=ru a e;rw[<-i,bc j];rfl
def C0.no{t:Int}{i:List Int×Bool}{s:Int}{tl:List Int}{x:Int}{D:List (Int×Int)}(h:C0 w base mb C t i k (s::tl) x D W)(u:1<=t)(v:t<=78)(d:100<=s)(g:(xE s t).2=A0):i=(tl,A0):=by
 rcases h.ph with⟨_,n,_⟩|⟨j,A,c,r,m,y,p,a,q,_⟩
 .have l:¬((xE s t).1=[]/\(xE s t).2=B0):=by rw[g];simp
  obtain⟨r,m,z,a,_⟩:=zl d (h.o s (bg ..)) u v l;rw[<-n,pG d l a];rcases lD a d with⟨b,_⟩|⟨_,e,f,_⟩
  .rw[g]at b;cases b
  .rw[e,bc f];rfl
 .cases j with
  |nil=>
   cases c with
   |zero=>simp[gj]at a
   |succ c=>simp[gj]at a
  |cons B j=>
   obtain⟨rfl,rfl⟩:=kD p;cases c with
   |zero=>simp[gj]at a
   |succ c=>
    rcases lD a d with⟨b,_⟩|⟨_,e,f,_⟩
    .rw[g]at b;cases b
    .rw[<-q,e,bc f];rfl
def C0.step{t:Int}{x:List Int×Bool}{s:Int}{tl:List Int}{au:Int}{D:List (Int×Int)}(h:C0 w base mb C t x k (s::tl) au D W)(A:1<=t)(B:t<=78)(d:100<=s)(hx:(xE s t).2=B0){E:List (Int×Int)}{v:Int}(n:E.length=(xE s t).1.length)
  (ad:BF W' base mb (C++D++E)) (al:pL (C++D++E) v ((xE s t).1++tl)) (q:Kp mb w W') (p:Ax base w W'):D.length+(xE s t).1.length<=20/\∃z,z<k/\C0 w base mb C t x z ((xE s t).1++tl) v (D++E) W':=by
 have y:=h.o s (bg ..);have an:=(abI d y A B).1;have i:yd ((xE s t).1++tl):=λF hx=>by
  rcases List.mem_append.1 hx with hx|hx
  .exact an F hx
  .exact h.o F (dm _ hx)
 have r:BF W' base mb (C++(D++E)):=by rw[<-cg];exact ad
 have g:pL (C++(D++E)) v ((xE s t).1++tl):=by rw[<-cg];exact al
 have e:(D++E).length=D.length+(xE s t).1.length:=by rw[aJ,n]
 rcases h.ph with⟨J,m,L⟩|⟨l,ar,c,u,j,ao,G,b,H,I,av⟩
 .subst J;by_cases f:(xE s t).1=[]/\(xE s t).2=B0
  .rw[f.1]at n g i e⊢;have K:E=[]:=jK (by simpa using n);subst K;refine⟨by simp,tl.length+9,by simp only[bm]at L;omega,r,g,i,q,p,by simp,.inl ⟨rfl,?_,ag _⟩⟩;rw[eu,<-m,pF d f]
  .obtain⟨u,j,ap,b,ak⟩:=zl d y A B f;rw[pG d f b]at m;rcases lD b d with⟨_,a⟩|⟨a,_⟩
   .rw[dr]at a;have af:=zq a;refine⟨by simp only[ej];omega,7,by omega,r,g,i,q,p,by rw[e];simp only[ej];omega,.inr ⟨(xE s t).1,tl,7,u,j,ap,rfl,?_,m,ak,ag _⟩⟩;rw[e];exact a
   .rw[hx]at a;cases a
 .cases l with
  |nil=>
   cases c with
   |zero=>simp[gj]at b
   |succ c=>simp[gj]at b
  |cons ax l=>
   obtain⟨rfl,rfl⟩:=kD G;cases c with
   |zero=>simp[gj]at b
   |succ c=>
    rcases lD b d with⟨_,a⟩|⟨a,_⟩
    .have af:=zq a;refine⟨by omega,c,by omega,r,g,i,q,p,by rw[e];omega,.inr ⟨(xE s t).1++l,ar,c,u,j,ao,by rw[cg];rfl,?_,H,I,ag _⟩⟩;rw[e];exact a
    .rw[hx]at a;cases a
def yj(w:U)(base mb:Nat)(C:List (Int×Int))(b:List Int×Bool)(e:Ending)(a:U):Prop:=
 ∃(c:Int) (D:List (Int×Int)),e= Z (Ce #[Q O c,B6 b.2])/\BF a base mb (C++D)/\pL (C++D) c b.1/\D.length<=20/\Kp mb w a/\Ax base w a
def C1(w:U)(base mb:Nat)(C:List (Int×Int))(st:List Int)(K t:Int)(h:BF w base mb C)(bs:pL C K st)(bo:yd st)(a3:1<=t)(a4:t<=78)(c1:C.length<=50000000):
  A2 V 43 #[C2 (M ⟨mb,0,T⟩),Q O K,Q O t] w (yj w base mb C (dy st t)):=by
 obtain⟨A,an⟩:=aF (dy st t);rw[an];have cl:base<=w.heap.size:=by obtain⟨bA,b6,_⟩:=h.ex;have:=aj b6;have:=h.lo;omega
 have a9:B5 (C0 w base mb C t A (st.length+9) st K [] w):=⟨by rw[dr];exact h,by rw[dr];exact bs,bo,Kp.refl _ _,ai _ _,by simp,.inl ⟨rfl,an,ag _⟩⟩;clear h bs bo an;go_in;go_wp2_with fail;go_loopg [1] (st.length+9) (λcn a8 wr=>∃(a2:List Int) (s:Int) (D:List (Int×Int)),a8= Q O s/\B5 (C0 w base mb C t A cn a2 s D wr))
 case atStart=>exact⟨st,K,[],rfl,a9⟩
 case round=>
  obtain⟨a2,s,D,rfl,a⟩:=hrel;clear a9;cases a2 with
  |nil=>
   have al:=a.s;subst al;have k:=aq a.nil;go_wp2_with fail;go_ret2;refine⟨-1,D,?_,a.m,?_,a.d,a.kp,a.bl⟩
   .rw[k.out];rfl
   .rw[k.out];exact a.s
  |cons e a5=>
   obtain⟨f,l,cb,ao,q⟩:=a.s;subst cb;obtain⟨bA,F,H⟩:=a.m.ex;have cc:=(List.getElem?_eq_some_iff.1 ao).1;obtain⟨g,ak,rfl⟩:∃g ak,bA= A3 (M ⟨g,0,T⟩) (C++D).length ak:=by
    rcases bB H with⟨hz,_⟩|hz
    .omega
    .exact hz
   have ap:=afn _ f _ ao;have bb:wr.cell? ⟨g,f*2,T⟩=M (Q O e):=by rw[H.cellAt (f*2) (by omega)];exact ap.1
   have bd:wr.cell? ⟨g,f*2+1,T⟩=M (Q O l):=by rw[H.cellAt (f*2+1) (by omega)];exact ap.2
   obtain⟨ax,G⟩:=aF ((C++D).length);have cw:=a.d;have c3:ax<=50000020:=by rw[<-G,aJ];omega
   rw[G]at F cc;have ba:wr.cell? ⟨mb,0,T⟩=M (A3 (M ⟨g,0,T⟩) ax ak):=by rw[am _ _ _ _ _ _ F];rfl
   obtain⟨u,E⟩:∃u:Addr,(⟨g,0,T⟩:Addr)=u:=⟨_,rfl⟩;have b4:wr.cell? (u.add (f*2))=M (Q O e):=by rw[<-E,show((⟨g,0,T⟩:Addr).add (f*2))=⟨g,f*2,T⟩ by unfold Addr.add;split<;>simp_all];exact bb
   have b5:wr.cell? ⟨(u.add (f*2)).block,(u.add (f*2)).off+1,T⟩=M (Q O l):=by rw[<-E,show((⟨g,0,T⟩:Addr).add (f*2))=⟨g,f*2,T⟩ by unfold Addr.add;split<;>simp_all];exact bd
   rw[E]at ba;have cy:(f:Int)<(ax:Int):=by omega
   have cx:(0:Int)<=(f:Int):=by omega
   have cu:base<=wr.heap.size:=bG cl a.bl.size;have z:=kJ G F q;clear bb bd ap H F G E ao q;by_cases cf:e<100
   .have k:B5 (A=(a5,decide (e=t))):=a.tok cf;have b9:∀a0,Ax base wr (wr.alloc a0).drew:=λa0=>bH ((ai _ wr).alloc (by omega) a0);have cv:(wr.alloc (B1 #[Q O e,Q O l] 173)).cell? ⟨wr.heap.size,0,T⟩=M (Q O e):=by rw[am _ _ _ _ _ _ (aB wr _)];rfl
    go_wp2_with fail;go_region_held3 (λcr=>cr.cell? ⟨wr.heap.size,0,T⟩=M (Q O e)) (go_keep) (fail)
    go_wp2_with fail;go_ret2;have p:Ax wr.heap.size wr (wr.alloc (B1 #[Q O e,Q O l] 173)).drew:=bH (dE wr _);refine⟨l,D,?_,a.m.below p,?_,a.d,a.kp.trans (Kp.of_below p),a.bl.trans (b9 _)⟩
    .rw[k.out];rfl
    .rw[k.out];exact z.2.2
   .have J:100<=e:=by omega
    have bt:e<=133:=a.o e (bg ..);have v:=λw=>GL w e t J bt;have bv:=(abI J bt a3 a4).2;obtain⟨r,I⟩:=aF ((xE e t).1);obtain⟨cq,au⟩:=aF ((xE e t).2);unfold lF at v;rw[I,au]at v;rw[I]at bv;obtain⟨i,ar⟩:=aF r.length;rw[ar]at v bv;have o:=kJ I au ar;clear I au ar;have p:=dE wr (B1 #[Q O e,Q O l] 173);go_wp2_with fail;refine(v _).mono ?_;rintro al x ⟨a1,rc,rfl,br,bh⟩;have af:Ax wr.heap.size wr x:=p.trans (bh.mono p.size);have n:B5 (BF x base mb (C++D)/\Kp mb w x/\Ax base w x/\x.ownsRow base 3 1 (A3 a1 i rc) i (r.map (X O))):=
     ⟨a.m.below af,a.kp.trans (Kp.of_below af),a.bl.trans (af.mono (by omega)),qL br (by simp;omega)⟩
    clear v p br bh ba b4 b5;cases cq with
    |false=>
     have k:B5 (A=(a5,A0)):=a.no a3 a4 J o.2.1;go_wp2_with fail;go_ret2;refine⟨l,D,?_,n.1,?_,a.d,n.2.1,n.2.2.1⟩
     .rw[k.out];rfl
     .rw[k.out];exact z.2.2
    |true=>
     have c2:(C++D).length<=50000020:=by rw[z.out.1];omega
     go_wp2_with fail;go_loopw [1,11] (λa8 a7 L=>∃(b:Nat) (s:Int) (j:List (Int×Int)),b<=i/\a7= Q O ((b:Int)-1)/\a8= Q O s/\B5 (j.length=i-b/\BF L base mb (C++D++j)/\pL (C++D++j) s (r.drop b++a5)/\Kp mb w L/\Ax base w L/\L.ownsRow base 3 1 (A3 a1 i rc) i (r.map (X O)))) (λ_ a7 _=>(B7 a7+1).toNat)
     case atStart=>
      refine⟨i,l,[],ag _,rfl,rfl,by simp,?_,?_,n.2.1,n.2.2.1,n.2.2.2⟩
      .rw[dr];exact n.1
      .rw[dr,lr (by rw[o.out.2.2];exact ag _)];exact z.2.2
     case round=>
      obtain⟨b,a6,j,cB,rfl,rfl,c⟩:=hrel;cases b with
      |zero=>
       have q:=c.2.2.1;rw[jC,<-o.out.1]at q;obtain⟨_,cp,cd,bx⟩:=a.step a3 a4 J o.2.1 (by rw[o.out.1,o.out.2.2];exact c.1) c.2.1 q c.2.2.2.1 c.2.2.2.2.1;have bE:=aq bx;clear bx q;go_wp2_with fail;go_roundg cp
       case measure=>exact cd
       case rel=>exact⟨_,a6,_,rfl,bE⟩
      |succ b=>
       have b3:(((b+1:Nat)):Int)-1=(b:Int):=by omega
       rw[b3];have cF:(0:Int)<=(b:Int):=by omega
       have cI:(b:Int)<(i:Int):=by omega
       obtain⟨y,hz⟩:=cA o.2.2 (show b<i by omega);obtain⟨B,ca⟩:∃B,a1=M ⟨B,0,T⟩:=by
        rcases bB c.2.2.2.2.2 with⟨h,_⟩|⟨B,cs,h⟩
        .omega
        .cases h;exact⟨_,rfl⟩
       subst ca;have ct:wr.cell? ⟨B,b,T⟩=M (Q O y):=by rw[c.out.2.2.2.2.2.cellAt b (by omega),cH,hz];rfl
       have b7:(C++D++j).length<=100000000:=by rw[aJ,c.out.1];omega
       have bw:=CJ wr base mb (C++D++j) a6 y c.2.1 b7;have av:=c.2.2.1.push y;have bj:r.drop b=y::r.drop (b+1):=by
        have bk:=List.getElem?_eq_some_iff.1 hz;rw[lp bk.1,bk.2]
       have bD:=aq bj;obtain⟨ad,bf⟩:∃ad:Int,(((C++D++j).length:Nat):Int)=ad:=⟨_,rfl⟩;rw[bf]at bw av;have b0:=aq av;clear av bj bf hz;go_wp2_with (go_at_call 78;refine bw.mono ?_;rintro al c6 ⟨rfl,ce,bn,b8⟩);refine⟨⟨b,ad,j++[(y,a6)],by omega,rfl,rfl,?_,?_,?_,c.2.2.2.1.trans bn,c.2.2.2.2.1.trans b8,?_⟩,by simp[B7]⟩
       .rw[aJ,c.out.1];simp;omega
       .rw[<-cg];exact ce
       .rw[<-cg,bD.out];exact b0
       .obtain⟨c4,ck,_⟩:=c.2.1.ex;exact bn.row ck c.2.2.2.2.2 (by decide) (by decide)
def ai4{e:Ex}{size g a d:Nat}{i:List A9}(f:xs.length=n*size)
  (h:w.ownsRow base e size (A3 (M ⟨g,0,T⟩) (n+d) a) (n+d) (xs++i)):w.ownsRow base e size (A3 (M ⟨g,0,T⟩) n a) n xs:=by
 obtain⟨_,k⟩:=h;rcases k with⟨j,_⟩|⟨t,s,b,r,m,o,u,l,p,q⟩
 .cases j
 .cases r;refine⟨f,.inr ⟨g,a,b,rfl,m,o,by omega,l,p,?_⟩⟩;have c:(b.toList.take ((n+d)*size)).take (n*size)=(xs++i).take (n*size):=by rw[q]
  rw[List.take_take,vv (Nat.mul_le_mul_right _ (by omega))]at c;rw[c,<-f];exact take_len _ _
def ai5{e:Ex}{size g a:Nat}(h:w.ownsRow base e size (A3 (M ⟨g,0,T⟩) n a) n xs):n<=a:=by
 rcases h.2 with⟨b,_⟩|⟨j,f,i,d,l,m,c,k,o,p⟩
 .cases b
 .cases d;exact c
def afo(st:List Int):Nat->List Int
 |0=>[]
 |j+1=>if(dy st ((j:Int)+1)).2=B0 then afo st j++[(j:Int)+1] else afo st j
def aqC(st:List Int):List Int:=afo st 78
def adH(w:U)(base mb:Nat)(h:BF w base mb []):
  A2 V 72 #[C2 (M ⟨mb,0,T⟩)] w λe w'=>e= Z (Q O 1)/\BF w' base mb [(6, -1),(100,0)]/\Kp mb w w'/\Ax base w w':=by
 have a:=CJ w base mb [] (-1) 6 h (by simp);go_in;go_wp2_with fail;refine a.mono ?_;rintro e w1 ⟨rfl,f,i,c⟩;have b:=CJ w1 base mb [(6, -1)] 0 100 f (by simp);clear a;simp only[ej,Int.natCast_zero];go_wp2_with fail;refine b.mono ?_;rintro e j ⟨rfl,g,p2,d⟩;clear b;simp only[bm,ej,iG,Int.natCast_one];go_wp2_with fail;go_ret;exact⟨rfl,g,i.trans p2,c.trans d⟩
def ua(S:List Int):List Int->Int->Option Int
 |[],a=>M a
 |k::r,a=>if k=a-1/\S.getD k.toNat 0≠0 then ua S r (a-S.getD k.toNat 0) else T
def qa(S:List Int)(i:Nat)(ks:List Int):Int:=match ua S ks.reverse i with|some a=>(i:Int)-a+1|none=>0
def il(ns:List Nd):List Int:=ns.foldl (λa b=>a++[qa a a.length b.ks]) []
def sw(ns:List Nd)(N:Nd):il (ns++[N])=il ns++[qa (il ns) (il ns).length N.ks]:=by simp[il]
def yk{α:Type}{p:List α->Prop}(h0:p [])(h1:∀a x,p a->p (a++[x]))(l:List α):p l:=by
 rw[<-List.reverse_reverse l]
 induction l.reverse with
 |nil=>exact h0
 |cons x r ih=>rw[List.reverse_cons];exact h1 _ x ih
def kG:∀(ns:List Nd),(il ns).length=ns.length:=by
 intro ns;refine yk (p:=λns=>(il ns).length=ns.length) rfl (λc b a=>?_) ns;rw[sw];simp[a]
structure ame (S:List Int) (l:List Int) (a:Int) (R:Option Int):Prop where
 out:ua S l a=R
def A4(S:List Int):Prop:=∀(j:Nat) z,S[j]?=M z->0<=z/\z<=(j:Int)+1
def aad{S:List Int}(hS:A4 S):∀(l:List Int)(a b:Int),(∀k∈l,0<=k)->0<=a->ua S l a=M b->0<=b/\b<=a
 |[],a,b,_,f,h=>by simp[ua]at h;omega
 |k::r,a,b,d,f,h=>by
  rw[ua]at h;split at h
  .rename_i g;have i:=d k (by simp);have e:0<=S.getD k.toNat 0/\S.getD k.toNat 0<=k+1:=by
    rw[aK];cases hs:S[k.toNat]? with
    |none=>simp;omega
    |some c=>have:=hS _ c hs;simp;omega
   have:=aad hS r _ b (λc e=>d c (by simp[e])) (by omega) h;omega
  .cases h
def ai6{S:List Int}(hS:A4 S)(i:Nat)(ks:List Int)(b:∀k∈ks,0<=k):0<=qa S i ks/\qa S i ks<=(i:Int)+1:=by
 unfold qa;cases h:ua S ks.reverse i with
 |none=>simp;omega
 |some a=>
  have:=aad hS ks.reverse i a (λk c=>b k (by simpa using c)) (by omega) h;simp;omega
def xe(ns:List Nd):(∀N∈ns,∀k∈N.ks,0<=k)->A4 (il ns):=by
 refine yk (p:=λns=>(∀N∈ns,∀k∈N.ks,0<=k)->A4 (il ns)) (λ_ b h a=>by simp[il]at a) (λc N n e=>?_) ns;have f:=n (λi l=>e i (by simp[l]));intro b h a;rw[sw]at a;rcases bC b (il c).length with g|g
 .rw[iq g]at a;exact f b h a
 .rw[gh g]at a;obtain⟨j,d⟩:=List.getElem?_eq_some_iff.1 a;simp at j d;subst d;obtain rfl:b=(il c).length:=by omega
  exact ai6 f _ _ (λk m=>e N (by simp) k m)
def Fq(a:List Int)(n k:Nat)(z:Int)(b:a.length=k)(d:k<n):(a.map (X O)++A5 (n-k) (X O 0)).set k (Q O z)=(a++[z]).map (X O)++A5 (n-(k+1)) (X O 0):=by
 have c:(a.map (X O)).length=k:=by rw[bi,b]
 rw[List.set_append_right _ _ (by omega),c,fG,show n-k=(n-(k+1))+1 by omega,List.replicate_succ,co];simp
def Jm(w:U)(v:A9)(ns:List Nd)(h:eK w v ns)(ca:ns.length<=3000)(G:∀N∈ns,N.ks.length<=1048576)(r:∀(i:Nat) N,ns[i]?=M N->∀k∈N.ks,0<=k/\k<(i:Int)):
  A2 V 46 #[.agg #[v]] w λe w'=>∃g,e= .returned (.slice (M ⟨g,0,T⟩) ns.length ns.length)/\w'.ownsRow w.heap.size 3 1 (.slice (M ⟨g,0,T⟩) ns.length ns.length) ns.length ((il ns).map (X .i64))/\Ax w.heap.size w w':=by
 obtain⟨E,F,rfl⟩:=h.form;obtain⟨a,L⟩:=aF ns.length;have af:=aq L;have bA:B5 (eK w (.slice E a F) ns):=by rw[<-L];exact h
 have an:B5 ((∀N∈ns,N.ks.length<=1048576)/\(∀(i:Nat) N,ns[i]?=M N->∀k∈N.ks,0<=k/\k<(i:Int))/\∀k,A4 (il (ns.take k))):=⟨G,r,λk=>xe _ (λN G a8 l=>by
  obtain⟨i,a1,e⟩:=gG (Bz G);exact(r i N (by rw[aA a1,e]) a8 l).1)⟩
 rw[L]at ca⊢;clear h L G r;obtain⟨cf,a1,cb,cd,ce⟩:=eD vA;go_in;go_wp2_with (at_make;refine Bw _ rfl _ _ 60 rfl w.heap.size 3 cf (.int .i64 0) 1 Tryz.underlying60 a1 cb cd .i64 .i64 _ _ a rfl rfl rfl rfl (by rw[ce];omega) (by unfold Ck;omega) (by simp) ?_;intro bx a4 q;have ax:Ax (w.alloc (.cells #[.slice E a F] 26)).heap.size (w.alloc (.cells #[.slice E a F] 26)) bx:=⟨q.os,q.tape,q.output,q.size,λk r=>q.block k r (by simp)⟩;have cp:bx.cell? ⟨w.heap.size,0,T⟩=M (.slice E a F):=by {rw[am _ _ _ _ _ _ ((ax.block _ (by simp)).trans (aB w _))];rfl});have bd:=((ai _ w).alloc (ag _) _).trans (ax.mono (by simp));rw[de,show(madeCells (X .i64 0).cells (a*1)).toList=A5 a (X .i64 0) by rw[sn];exact Bl _ a]at a4;clear cp ax q;go_loopw [17] (λa6 wr=>∃k:Nat,k<=a/\a6= .int .i64 k/\B5 (wr.ownsRow w.heap.size 3 1 (.slice (M ⟨w.heap.size+1,0,T⟩) a a) a ((il (ns.take k)).map (X .i64)++A5 (a-k) (.int .i64 0)))/\Ax w.heap.size w wr) (λa6 _=>a-(B7 a6).toNat)
 case atStart=>exact⟨0,aI _,rfl,a4,bd⟩
 case round=>
  obtain⟨k,r,rfl,A,y⟩:=hrel;clear a4 bd;by_cases bs:k<a
  .obtain⟨N,z⟩:=cA af.out bs;have b9:=an.1 N (dz z);have br:=an.2.1 k N z;have a3:=an.2.2 k;obtain⟨cr,rfl,dn,dg,b7⟩:=(bA.below y).get z;obtain⟨b0,b1,b2,b3,b4,c5,b5,bf,bh,bt,a2⟩:=b7;obtain⟨cs,cu,rfl⟩:=bt.form;obtain⟨bb,bj,rfl⟩:=a2.form;obtain⟨c,H⟩:=aF (il (ns.take k));have au:c.length=k:=by rw[<-H,kG,gC,af.out];omega
   have bv:il (ns.take (k+1))=c++[qa c k N.ks]:=by
    rw[ie,z];show il (ns.take k++[N])=_;rw[sw,H,au]
   rw[H]at A a3;obtain⟨p,x⟩:=aF N.ks.length;rw[x]at bh b9;have bo:dB wr (.slice bb p bj) N.ks:=by rw[<-x];exact a2
   have j:=alF x bo br a3 au bv;have ao:ame c (N.ks.take p).reverse k (ua c N.ks.reverse k):=⟨by rw[<-x,Bt]⟩;obtain⟨ba,ar⟩:=aF (ua c N.ks.reverse k);rw[ar]at ao;have a9:=aq ar;generalize N.nm.length=cq at bf;clear z bt a2 bo br a3 au bv H x ar;go_wp2_with fail;generalize bl:wr.alloc _=C;obtain⟨bk,I, -⟩:=al1 bl;replace bk:C.cell? ⟨wr.heap.size,8,T⟩=M (.slice bb p bj):=(am _ _ _ _ _ _ bk).trans rfl;have ad:=cJ A.out I;clear bl;have bD:=j.2.1.below I;have al:=aq ad;have a0:=y.trans (I.mono y.size);have cI:=ad.frozenAt k;have cz:C.cell? ⟨w.heap.size+1,k,T⟩=M (.int .i64 0):=by
    rw[ad.cellAt k (by omega),gh (by rw[bi,j.out.2.2.2.2.1];exact ag _),bi,j.out.2.2.2.2.1,fG,Gi,ab (by omega)]
   clear A ad b0 b1 b2 b3 b4 c5 b5 bf bh y I;go_loop [6,7,8] (λcl cn a7=>∃(d:Nat) (f:Int),cl= .int .i64 f/\cn= .bool B0/\a7= .int .i64 ((d:Int)-1)/\d<=p/\0<=f/\f<=(k:Int)/\ame c (N.ks.take d).reverse f ba) (λ_ _ a7=>(B7 a7+1).toNat)
   case atStart=>exact⟨p,k,rfl,rfl,rfl,ag _,by omega,by omega,ao⟩
   case round=>
    obtain⟨d,f,rfl,rfl,rfl,c9,cw,cx,t⟩:=hrel;clear ao;have b:=t.out;cases d with
    |zero=>
     have l:qa c k N.ks=(k:Int)-f+1:=by
      unfold qa;rw[a9.out];rw[Bk,List.reverse_nil,ua]at b;rw[<-b]
     have ap:=aq l;have a5:=(al.stored k (.int .i64 ((k:Int)-f+1))).1;rw[Fq c a k _ j.out.2.2.2.2.1 bs]at a5;have B:=aq a5;clear b t l a5;go_wp2_with fail;refine⟨⟨k+1,by omega,by go_num,?_,a0.setCell (by simp) _⟩,by simp[B7];omega⟩;show World.ownsRow _ _ _ _ _ _ _;rw[j.out.2.2.2.2.2,ap.out];exact B
    |succ d=>
     obtain⟨a8,l⟩:=cA j.1 (show d<p by omega);obtain⟨ct,b8,cF⟩:=bD.get l;subst b8;obtain⟨cc,df⟩:=j.2.2.1 a8 (dz l);rw[ie,l]at b;simp only[Gs,List.reverse_append,List.reverse_cons,List.reverse_nil,eu,uI]at b;rw[ua]at b;obtain⟨m,rfl⟩:=iw cc;have bw:m<k:=by omega
     obtain⟨o,s⟩:=cA j.2.2.2.2.1 bw;have cy:=j.2.2.2.1 m o s;have cB:C.cell? ⟨w.heap.size+1,m,T⟩=M (.int .i64 o):=by
      rw[al.out.cellAt m (by omega),iq (by rw[bi,j.out.2.2.2.2.1];exact bw),cH,s];rfl
     have K:c.getD m 0=o:=by rw[aK,s];rfl
     simp only[lA,K]at b;have b6:(((d+1:Nat)):Int)-1=(d:Int):=by omega
     rw[b6];have da:(0:Int)<=(d:Int):=by omega
     have dc:(d:Int)<(p:Int):=by omega
     have dd:(m:Int)<(a:Int):=by omega
     by_cases n:(m:Int)=f-1/\o≠0
     .rw[ab n]at b;have bE:ame c (N.ks.take d).reverse (f-o) ba:=⟨b⟩;have bn:=n.2;have J:=n.1;clear b t l s K n;obtain rfl:f=(m:Int)+1:=by omega
      clear J;go_wp2_with fail;go_round
      case rel=>exact⟨d,(m:Int)+1-o,by go_num,rfl,by go_num,by omega,by omega,by omega,bE⟩
      case measure=>simp[B7]
     .rw[aa n]at b;have ap:B5 (qa c k N.ks=0):=by
       show qa c k N.ks=0;unfold qa;rw[a9.out,<-b]
      have B:B5 (C.ownsRow w.heap.size 3 1 (.slice (M ⟨w.heap.size+1,0,T⟩) a a) a ((il (ns.take (k+1))).map (X .i64)++A5 (a-(k+1)) (.int .i64 0))):=by
       have u:=al.out;show World.ownsRow _ _ _ _ _ _ _;rw[j.out.2.2.2.2.2,ap.out,dK];rw[show a-k=(a-(k+1))+1 by omega,List.replicate_succ]at u;rw[cg];exact u
      by_cases J:(m:Int)=f-1
      .have bn:o=0:=by
        rcases Int.lt_trichotomy o 0 with g|g|g
        .omega
        .exact g
        .exact absurd ⟨J,by omega⟩ n
       subst bn;clear b t l s K n;obtain rfl:f=(m:Int)+1:=by omega
       clear J;go_wp2_with fail;exact⟨⟨k+1,by omega,by go_num,B,a0⟩,by simp[B7];omega⟩
      .clear b t l s K n;go_wp2_with fail;exact⟨⟨k+1,by omega,by go_num,B,a0⟩,by simp[B7];omega⟩
  .obtain rfl:k=a:=by omega
   go_wp2_with fail;go_ret;refine⟨_,rfl,?_,y⟩;have u:=A.out;rw[db (by rw[af.out];exact ag _),fG,List.replicate_zero,dr]at u;exact u
def zr(op:Int):Int×Int:=
 if 13<=op/\op<=18 then(3,4) else if op=12 then(4,4) else if op=8 then(5,6) else if op=9 then(6,7) else if op=7 then(7,8) else if op=10\/op=11 then(8,9) else if op=1\/op=2 then(9,10) else(10,11)
def Av(op:Int)(b:1<=op)(c:op<=18)(w:U):
  A2 V 209 #[Q O (60+op)] w λe w'=>e= Z (Ce #[Q O (zr op).1,Q O (zr op).2])/\w'=w:=by
 have a:op=1\/op=2\/op=3\/op=4\/op=5\/op=6\/op=7\/op=8\/op=9\/op=10\/op=11\/op=12\/op=13\/op=14\/op=15\/op=16\/op=17\/op=18:=by omega
 clear b c;rcases a with rfl|rfl|rfl|rfl|rfl|rfl|rfl|rfl|rfl|rfl|rfl|rfl|rfl|rfl|rfl|rfl|rfl|rfl<;>
  (go_in
   go_wp2;exact aH (results_tmp2 rfl _ _ _) rfl ⟨rfl,rfl⟩)
def im(k op:Int):Int:=if k=29 then 1 else if k=28 then 2 else if k=31 then(zr op).1 else if k=30 then 11 else 12
def tF(k op:Int):Int:=if k=29 then 2 else if k=28 then 3 else(zr op).2
def qc(k:Int):Bool:=k==26||k==32||k==33||k==34||k==37
def Aw(N:Nd)(vn vk:A9)(h:N.k=31->1<=N.op/\N.op<=18)(w:U):
  A2 V 169 #[jl N vn vk] w λe w'=>e= Z (Q O (im N.k N.op))/\Ax w.heap.size w w':=by
 have i:Ax w.heap.size w (w.alloc (B1 #[Q O N.k,Q O N.f,Q O N.t,Q O N.l,Q O N.op,Q O N.n,.string N.x,vn,vk] 62)):=(ai _ w).alloc (ag _) _;unfold jl;by_cases a:N.k=29
 .have o:(N.k==29)=B0:=by simpa using a
  have b:B5 (im N.k N.op=1):=by show _=_;unfold im;rw[ab a]
  clear a h;go_in;go_wp2;go_ret;exact⟨by rw[b.out];rfl,i⟩
 have o:(N.k==29)=A0:=by simpa using a
 by_cases c:N.k=28
 .have p:(N.k==28)=B0:=by simpa using c
  have b:B5 (im N.k N.op=2):=by show _=_;unfold im;rw[aa a,ab c]
  clear a c h;go_in;go_wp2;go_ret;exact⟨by rw[b.out];rfl,i⟩
 have p:(N.k==28)=A0:=by simpa using c
 by_cases d:N.k=31
 .have q:(N.k==31)=B0:=by simpa using d
  have b:B5 (im N.k N.op=(zr N.op).1):=by show _=_;unfold im;rw[aa a,aa c,ab d]
  obtain⟨s,u⟩:=h d;have j:=Av N.op s u;generalize zr N.op=m at j b;obtain⟨v,y⟩:=m;simp only at j b;clear a c d h;go_in;go_wp2_with (go_at_call 209;refine ft (j _) ?_);go_ret;exact⟨by rw[b.out];rfl,i⟩
 have q:(N.k==31)=A0:=by simpa using d
 by_cases g:N.k=30
 .have r:(N.k==30)=B0:=by simpa using g
  have b:B5 (im N.k N.op=11):=by show _=_;unfold im;rw[aa a,aa c,aa d,ab g]
  clear a c d g h;go_in;go_wp2;go_ret;exact⟨by rw[b.out];rfl,i⟩
 have r:(N.k==30)=A0:=by simpa using g
 have b:B5 (im N.k N.op=12):=by show _=_;unfold im;rw[aa a,aa c,aa d,aa g]
 clear a c d g h;go_in;go_wp2;go_ret;exact⟨by rw[b.out];rfl,i⟩
def Jn(N:Nd)(vn vk:A9)(d:N.k≠29->N.k≠28->1<=N.op/\N.op<=18)(w:U):
  A2 V 213 #[jl N vn vk] w λe w'=>e= Z (Q O (tF N.k N.op))/\Ax w.heap.size w w':=by
 have g:Ax w.heap.size w (w.alloc (B1 #[Q O N.k,Q O N.f,Q O N.t,Q O N.l,Q O N.op,Q O N.n,.string N.x,vn,vk] 62)):=(ai _ w).alloc (ag _) _;unfold jl;by_cases a:N.k=29
 .have j:(N.k==29)=B0:=by simpa using a
  have b:B5 (tF N.k N.op=2):=by show _=_;unfold tF;rw[ab a]
  clear a d;go_in;go_wp2;go_ret;exact⟨by rw[b.out];rfl,g⟩
 have j:(N.k==29)=A0:=by simpa using a
 by_cases c:N.k=28
 .have m:(N.k==28)=B0:=by simpa using c
  have b:B5 (tF N.k N.op=3):=by show _=_;unfold tF;rw[aa a,ab c]
  clear a c d;go_in;go_wp2;go_ret;exact⟨by rw[b.out];rfl,g⟩
 have m:(N.k==28)=A0:=by simpa using c
 have b:B5 (tF N.k N.op=(zr N.op).2):=by show _=_;unfold tF;rw[aa a,aa c]
 obtain⟨o,p⟩:=d a c;have h:=Av N.op o p;generalize zr N.op=i at h b;obtain⟨q,r⟩:=i;simp only at h b;clear a c d;go_in;go_wp2_with (go_at_call 209;refine ft (h _) ?_);go_ret;exact⟨by rw[b.out];rfl,g⟩
def aae(k:Int)(w:U):A2 V 214 #[Q O k] w λe w'=>e= Z (B6 (qc k))/\w'=w:=by
 unfold qc;cases f1:(k==26)<;>cases f2:(k==32)<;>cases f3:(k==33)<;>cases f4:(k==34)<;>cases f5:(k==37)<;>
  (go_in
   go_wp2;go_ret;exact⟨rfl,rfl⟩)
inductive D (tk:Nat->Tk) (n:Nat):Nat->List Int->Nat->Nat->Prop where
 |nil {i:Nat}:D tk n 0 [] i i
 |tok {m:Nat}{s:Int}{r:List Int}{i j:Nat}:s<100->(tk i).k=s->i<n->D tk n m r (i+1) j->D tk n (m+1) (s::r) i j
 |exp {m:Nat}{s:Int}{r:List Int}{i j:Nat}:100<=s->i<n->(xE s (tk i).k).2=true->D tk n m ((xE s (tk i).k).1++r) i j->D tk n (m+1) (s::r) i j
def ai7:(Tryz.prog.info? 77).map (λi=>(i.zero,i.size,i.bytes))=M (M (Q .u8 0),1,1):=by kernel_rfl
def cSy(st:List Int):List A9:=st.reverse.map (X .u8)
def Jo(a:Int)(st:List Int):cSy (a::st)=cSy st++[Q .u8 a]:=by simp[cSy]
def G1(st:List Int):(cSy st).length=st.length:=by simp[cSy]
structure G4 (W:U) (base gb:Nat) (mv:A9) (st:List Int):Prop where
 ex:∃v,W.heap[gb]?=M (.cells #[mv,v] 75 (0,0))/\W.ownsRow base 77 1 v st.length (cSy st)
 lo:base<=gb
def G4.below{c:A9}{st:List Int}(h:G4 W base gb c st)(b:Ax W.heap.size W W'):G4 W' base gb c st:=by
 obtain⟨e,a,d⟩:=h.ex;exact⟨⟨e,(b.block _ (aj a)).trans a,cJ d b⟩,h.lo⟩
structure Gp (gb:Nat) (w w':U):Prop where
 os:w'.os=w.os
 tape:w'.tape=w.tape
 output:w'.output=w.output
 size:w.heap.size<=w'.heap.size
 block:∀k,k<w.heap.size->k≠gb->(∀cs fr,w.heap[k]?≠M (.cells cs 77 fr))->w'.heap[k]?=w.heap[k]?
def Gp.trans{x e z:U}(h:Gp gb x e)(k:Gp gb e z):Gp gb x z:=
 ⟨k.os.trans h.os,k.tape.trans h.tape,k.output.trans h.output,bG h.size k.size,λd b c a=>
  (k.block d (ip b h.size) c (λf g=>by rw[h.block d b c a];exact a f g)).trans (h.block d b c a)⟩
def Gp.of_below(h:Ax w.heap.size w w'):Gp gb w w':=⟨h.os,h.tape,h.output,h.size,λb a _ _=>h.block b a⟩
def G4.put{f i:A9}(e:W.heap[gb]?=M (B1 #[f,i] 75 (0,0)))(lo:base<=gb){v:A9}{st:List Int}(c:W.ownsRow base 77 1 v st.length (cSy st)):G4 (W.setCell ⟨gb,1,T⟩ v) base gb f st:=by
 refine⟨⟨v,aL _ gb 1 _ _ _ e,?_⟩,lo⟩;refine c.kept (row:=M gb) ⟨rfl,rfl,rfl,by simp[Br],λo n h=>aC _ _ _ _ (λa=>h (by rw[a]))⟩ ?_;rcases bB c with⟨_,rfl⟩|⟨g,j,rfl⟩
 .exact .inl rfl
 .refine .inr ?_;intro a;obtain rfl:g=gb:=by simpa [Y] using a
  rcases c.2 with⟨b,_⟩|⟨m,k,l,b,_,d,_⟩
  .cases b
  .cases b;rw[e]at d;cases d
def zt(w:U)(base b:Nat)(C:A9)(st:List Int)(a:Int)(h:G4 w base b C st)(L:st.length<=100000000):
  A2 V 27 #[.pointer (M ⟨b,1,T⟩),.int .u8 a] w λe w'=>e= .returned (.tuple #[])/\G4 w' base b C (a::st)/\Gp b w w'/\Ax base w w':=by
 obtain⟨a2,g,i⟩:=h.ex;have y:=h.lo;obtain⟨j,u⟩:=aF st.length;rw[u]at i L;obtain⟨n,o,rfl⟩:=bJ i;obtain⟨al,an,ao,ap,ar⟩:=eD ai7;have ad:=aj g;have au:w.cell? ⟨b,1,T⟩=M (.slice n j o):=by rw[am _ _ _ _ _ _ g];rfl
 have z:∀f,(B4 n j o).ownBlock=M f->f≠b/\base<=f:=λf k=>by
  refine⟨?_,(i.lt f k).1⟩;rintro rfl;rcases i.2 with⟨c,_⟩|⟨q,F,G,c,_,r,_⟩
  .rw[c]at k;simp[Y]at k
  .rw[c]at k;obtain rfl:q=f:=by simpa [Y] using k
   rw[r]at g;cases g
 have m:=kJ i g u;clear i g u h;go_in;go_wp2_with (at_builtin;refine pd _ rfl _ _ 71 rfl base 77 al _ 1 1 Tryz.underlying71 an ao ap ar rfl (by decide) _ _ _ rfl (m.1.alloc _) ⟨w.heap.size,0,T⟩ 1 1 [.int .u8 a] rfl rfl (B2 (cs:=#[.int .u8 a]) (fr:=(0,0)) (aB w _)) (by intro a1 B;simp at B;subst B;rfl) (by unfold Ck;omega) (by omega) (by simp;omega) ?_;intro a3 w5 A d a0;obtain⟨x,v,rfl⟩:=B3 A;have s:=(d.block b (by simp;omega) (λe=>(z b e.symm).1 rfl)).trans ((dG _ _ _ ad).trans m.2.1);have a4:w5.cell? ⟨b,1,T⟩=M (.slice n j o):=(by rw[am _ _ _ _ _ _ s];rfl);have ax:w5.frozen? ⟨b,1,T⟩=A0:=ch _ _ _ _ _ s);have ak:=d.size;rw[de]at ak;have J:=G4.put s y (by rw[bm,m.out.2.2,Jo];exact A);have I:Gp b w (w5.setCell ⟨b,1,T⟩ (.slice (M ⟨x,0,T⟩) (j+1) v)):=by
  refine⟨d.os,d.tape,d.output,by simp[Br];omega,λl t af K=>?_⟩;rw[aC _ _ _ _ af];refine(d.block l (by simp;omega) (λe=>?_)).trans (dG _ _ _ t);have p:(B4 n j o).ownBlock=M l:=e.symm;rcases m.1.2 with⟨c,_⟩|⟨q,F,G,c,_,r,_⟩
  .rw[c]at p;simp[Y]at p
  .rw[c]at p;obtain rfl:q=l:=by simpa [Y] using p
   exact K _ _ r
 have H:Ax base w (w5.setCell ⟨b,1,T⟩ (.slice (M ⟨x,0,T⟩) (j+1) v)):=by
  have E:Ax base w (w.alloc (.cells #[.int .u8 a] 77)):=(ai _ w).alloc (by omega) _;exact(E.grown d (by simp;omega) (λl t=>(z l t).2)).setCell y _
 go_end0
 exact⟨rfl,J,I,H⟩
def Jp(w:U)(base b:Nat)(l:A9)(st:List Int)(a:Int)(h:G4 w base b l (a::st))(o:st.length<=100000000):
  A2 V 63 #[C2 (M ⟨b,1,T⟩)] w λe w'=>e= Z (Q .u8 a)/\G4 w' base b l st/\Gp b w w'/\Ax base w w':=by
 obtain⟨y,f,d⟩:=h.ex;have k:=h.lo;obtain⟨g,c⟩:=aF st.length;rw[bm,Jo,c]at d;rw[c]at o;obtain⟨j,n,rfl⟩:=B3 d;have hcut:=ai4 (by rw[G1,c,sn]) d;have u:=ai5 d;have q:w.cell? ⟨b,1,T⟩=M (A3 (M ⟨j,0,T⟩) (g+1) n):=by rw[am _ _ _ _ _ _ f];rfl
 have r:w.cell? ⟨j,g,T⟩=M (Q .u8 a):=by
  rw[d.cellAt g (by omega),gh (by rw[G1];omega),G1,c,fG];rfl
 have s:w.frozen? ⟨b,1,T⟩=A0:=ch _ _ _ _ _ f;have i:=G4.put f k (by rw[c];exact hcut);have m:=aq i;clear h d hcut i f c;go_in;go_wp21
 go_ret;refine⟨rfl,m,⟨rfl,rfl,rfl,by simp[Br],λx v p t=>aC _ _ _ _ p⟩,(ai _ w).setCell k _⟩
