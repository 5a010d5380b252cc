import Derived.Test.YtnoojdbdapljoaaGreatDoorHOk11
set_option linter.all false
set_option maxRecDepth 100000
set_option maxHeartbeats 25600000
open Go.IntKind renaming i64->O
open Go.Value renaming int->Q,slice->T,int->V,string->Ax,string->A9,ownBlock->B0,pointer->B2,slice->B4
open Go.Proofs.Tryz renaming prog->U
open Go.Ending renaming returned->X
open Option renaming some->Y,none->Z
open Go.RowKit renaming Below->A0,intOf->A6
open Go renaming World->A1,Value->A2,Calls->A3,TypeId->A7,wpList_append_own_at->Br,maxLen->B3
open Go.Obj renaming cells->A4
open Bool renaming false->A5
open Go.World renaming news_of_block->A8,setCell->B1
namespace Go.Proofs.YtnoojdbdapljoaaGreatDoor
open Go.RowKit Go.Maps Go.WideMaps
structure Bs where
 base:Nat
 cb:Nat
 bb:Nat
 a0:Option Addr
 len:Nat
 cap:Nat
 P:Int
abbrev bV(E:Bs):A2:= B2 (Y ⟨E.bb,0,Z⟩)
abbrev cV(E:Bs):A2:= B2 (Y ⟨E.cb,0,Z⟩)
structure Kb (w w':A1):Prop where
 size:w.heap.size<=w'.heap.size
 block:∀k,k<w.heap.size->(∀cs t fr,w.heap[k]?=Y (.cells cs t fr)->t≠35/\t≠123/\t≠50)->w'.heap[k]?=w.heap[k]?
theorem Kb.refl(w:A1):Kb w w:=⟨ah _,fun _ _ _=>rfl⟩
theorem Kb.trans{x y z:A1}(h:Kb x y)(k:Kb y z):Kb x z:=
 ⟨bz h.size k.size,fun d c b=>by
  have a:=h.block d c b;exact(k.block d (gh c h.size) (fun e i f g=>b e i f (by rw[<-a];exact g))).trans a⟩
theorem Kb.of_below{w a:A1}(h:A0 w.heap.size w a):Kb w a:=⟨h.size,fun c b _=>h.block c b⟩
theorem Kb.blk{w c:A1}(h:Kb w c){k:Nat}{cs:Array A2}{t:A7}{fr:Nat×Nat}(a:w.heap[k]?=Y (A4 cs t fr))(d:t≠35/\t≠123/\t≠50):c.heap[k]?=Y (A4 cs t fr):=
 (h.block k (ax a) (fun e g f b=>by rw[a]at b;cases b;exact d)).trans a
theorem Kb.row{w b:A1}(h:Kb w b){base e size n:Nat}{v:A2}{c:List A2}(q:w.ownsRow base e size v n c)(j:e≠35/\e≠123/\e≠50):b.ownsRow base e size v n c:=by
 obtain⟨i,a⟩:=q;refine⟨i,?_⟩;rcases a with a|⟨g,d,f,p,o,k,s⟩
 ·exact .inl a
 ·exact .inr ⟨g,d,f,p,o,h.blk k j,s⟩
theorem Kb.grown{w c:A1}{b:Nat}{cs:Array A2}{t:A7}{fr:Nat×Nat}(a:w.grownBy c (Y b))(f:w.heap[b]?=Y (A4 cs t fr))(h:t=35\/t=123\/t=50):Kb w c:=
 ⟨a.size,fun i g e=>a.block i g (fun d=>by cases d;have:=e _ _ _ f;rcases h with rfl|rfl|rfl<;>simp at this)⟩
theorem Kb.set{w:A1}{k:Nat}{cs:Array A2}{t:A7}{fr:Nat×Nat}(c:w.heap[k]?=Y (A4 cs t fr))(d:t=35\/t=123\/t=50)(q:Nat)(u:A2):Kb w (w.setCell ⟨k,q,Z⟩ u):=
 ⟨by simp[B1],fun f e b=>bh _ _ _ _ (fun a=>by subst a;have:=b _ _ _ c;rcases d with rfl|rfl|rfl<;>simp at this)⟩
structure Je (N:Nd):Prop where
 nm:N.nm.length<=8
 ks:N.ks.length<=64
 x:N.x.size<=4001
 s:∀s∈N.nm,s.size<=16
 int:qA N
abbrev TO(t:A7):Prop:=t≠35/\t≠123/\t≠50
theorem EJ:TO 9:=by decide
theorem toI:TO 3:=by decide
structure Rwx where
 t:A7
 v:A2
 xs:List A2
def bR(R:List Rwx):List Nat:=R.flatMap fun r=>r.v.ownBlock.toList
def bL(L:List Mb):List Nat:=L.flatMap fun y=>y.vn.ownBlock.toList++y.vk.ownBlock.toList
structure Bd (E:Bs) (W:A1) (L:List Mb) (l x:Int) (R:List Rwx):Prop where
 lo:E.base<=E.cb/\E.base<=E.bb
 hl:E.len<=1048576/\E.P<=100
 code:Code E.base W E.a0 E.len
 cur:∃p q r,eL E.cb W E.a0 E.len E.cap p q r/\0<=p/\p<=E.P+400*L.length+x/\0<=r/\r<=3
 row:∃v,W.heap[E.bb]?=Y (.cells #[cV E,v,.int .i64 l] 123 (0,0))/\W.ownsRow E.base 35 9 v L.length (jn L)
 each:∀y∈L,(W.ownsRow E.base 9 1 y.vn y.N.nm.length (y.N.nm.map Ax)/\W.ownsRow E.base 3 1 y.vk y.N.ks.length (y.N.ks.map (Q .i64)))/\Je y.N
 rows:∀r∈R,TO r.t/\W.ownsRow E.base r.t 1 r.v r.xs.length r.xs
 sep:(bR R++bL L).Nodup
theorem tNo{t:A7}(h:TO t):t≠35/\t≠123/\t≠50:=h
section
variable {E : Bs} {W W' : World} {L : List Mb} {l x y : Int} {R : List Rwx} {r : Rwx}
theorem Bd.lt(h:Bd E W L l x R):E.cb<W.heap.size/\E.bb<W.heap.size/\E.base<=W.heap.size/\E.cb≠E.bb:=by
 obtain⟨i,b,_⟩:=h.row;obtain⟨f,g,r,a,_⟩:=h.cur;have d:=ax b;have e:=a.lt;have:=h.lo;refine⟨e,d,by omega,fun c=>?_⟩;unfold eL at a;rw[c,b]at a;simp only[gg,jh]at a;exact absurd a.2.1 (by decide)
theorem Bd.wide(h:Bd E W L l x R)(g:x<=y):Bd E W L l y R:=by
 obtain⟨d,e,r,a,b,f,c⟩:=h.cur;exact⟨h.lo,h.hl,h.code,⟨d,e,r,a,b,by omega,c⟩,h.row,h.each,h.rows,h.sep⟩
theorem Bd.below(h:Bd E W L l x R)(a:A0 W.heap.size W W'):Bd E W' L l x R:=by
 have d:=h.lt;obtain⟨n,e,f⟩:=h.row;obtain⟨j,k,r,g,i⟩:=h.cur;exact⟨h.lo,h.hl,h.code.below (a.mono d.2.2.1),⟨j,k,r,g.below a d.1,i⟩,⟨n,(a.block _ d.2.1).trans e,aG f a⟩,fun c b=>⟨⟨aG (h.each c b).1.1 a,aG (h.each c b).1.2 a⟩,(h.each c b).2⟩,fun c b=>⟨(h.rows c b).1,aG (h.rows c b).2 a⟩,h.sep⟩
theorem Bd.ltR(h:Bd E W L l x R):∀b∈bR R++bL L,b<W.heap.size:=by
 intro b hb;rcases List.mem_append.1 hb with hb|hb
 ·obtain⟨c,a,e⟩:=List.mem_flatMap.1 hb;exact((h.rows c a).2.lt b (Option.mem_toList.1 e)).2
 ·obtain⟨c,a,e⟩:=List.mem_flatMap.1 hb;rcases List.mem_append.1 e with e|e
  ·exact((h.each c a).1.1.lt b (Option.mem_toList.1 e)).2
  ·exact((h.each c a).1.2.lt b (Option.mem_toList.1 e)).2
theorem Bd.went(h:Bd E W L l x R)(d:W.grownBy W' (Y E.cb)){p q r:Int}(z:eL E.cb W' E.a0 E.len E.cap p q r)(j:0<=p/\p<=E.P+400*L.length+y)(B:0<=r/\r<=3):Bd E W' L l y R/\Kb W W'/\A0 E.base W W':=by
 have f:=h.lt;obtain⟨C,u,v⟩:=h.row;obtain⟨F,G,H,g,_⟩:=h.cur;have i:A0 E.base W W':=ua d h.lo.1 f.2.2.1;have e:∀{c o k:Nat}{s:A2}{t:List A2},W.ownsRow E.base c o s k t->c≠50->W'.ownsRow E.base c o s k t:=fun n A=>n.kept d (.inr (fl n g (gI A)));exact⟨⟨h.lo,h.hl,h.code.below i,⟨p,q,r,z,j.1,j.2,B⟩,⟨C,(d.block _ f.2.1 (fun c=>f.2.2.2 (db c).symm)).trans u,e v (by decide)⟩,fun b a=>⟨⟨e (h.each b a).1.1 (by decide),e (h.each b a).1.2 (by decide)⟩,(h.each b a).2⟩,fun b a=>⟨(h.rows b a).1,e (h.rows b a).2 (tNo (h.rows b a).1).2.2⟩,h.sep⟩,Kb.grown d g (.inr (.inr rfl)),i⟩
theorem Bd.hot{r':Rwx}(h:Bd E W L l x (r::R))(o:W.grownBy W' r.v.ownBlock)(p:TO r'.t)(ao:W'.ownsRow E.base r'.t 1 r'.v r'.xs.length r'.xs)(ak:∀b,r'.v.ownBlock=Y b->r.v.ownBlock=Y b\/W.heap.size<=b):Bd E W' L l x (r'::R)/\A0 E.base W W':=by
 have am:=h.lt;obtain⟨v,K,F⟩:=h.row;obtain⟨ar,q,av,ad,af⟩:=h.cur;have i:=h.rows r cH;have u:=tNo i.1;have d:A0 E.base W W':=(aj _ W).grown o am.2.2.1 (fun j e=>(i.2.lt j e).1);have G:=h.sep;have B:bR (r::R)=r.v.ownBlock.toList++bR R:=rfl;rw[B,cI,ye]at G;obtain⟨a5,a0,a1⟩:=G;have n:∀b∈bR R++bL L,r.v.ownBlock≠Y b:=fun b d a=>a1 b (Option.mem_toList.2 a) b d rfl;have k:∀{a size s:Nat}{f:A2}{z:List A2},W.ownsRow E.base a size f s z->(∀b,f.ownBlock=Y b->r.v.ownBlock≠Y b)->W'.ownsRow E.base a size f s z:=fun {a size s f z} ap an=>by
  refine ap.kept o ?_;cases hu:f.ownBlock with
  |none=>exact .inl rfl
  |some b=>exact .inr (fun a=>an b hu a.symm)
 have H:∀{j:Nat}{A:Array A2}{t:A7}{C:Nat×Nat},W.heap[j]?=Y (A4 A t C)->t≠r.t->W'.heap[j]?=Y (A4 A t C):=fun e p=>(o.block _ (ax e) (fun a=>fl i.2 e p a.symm)).trans e;refine⟨⟨h.lo,h.hl,h.code.below d,⟨ar,q,av,H ad (gI u.2.2),af⟩,⟨v,H K (gI u.2.1),k F (fun b a I=>?_)⟩,fun c hz=>⟨⟨k (h.each c hz).1.1 (fun b a=>n b (List.mem_append.2 (.inr (List.mem_flatMap.2 ⟨c,hz,List.mem_append.2 (.inl (Option.mem_toList.2 a))⟩)))),k (h.each c hz).1.2 (fun b a=>n b (List.mem_append.2 (.inr (List.mem_flatMap.2 ⟨c,hz,List.mem_append.2 (.inr (Option.mem_toList.2 a))⟩))))⟩,(h.each c hz).2⟩,fun c hz=>?_,?_⟩,d⟩
 ·rcases F.2 with⟨q,_⟩|⟨J,a3,a4,q,_,g,_⟩
  ·rw[q]at a;simp[B0]at a
  ·rw[q]at a;obtain rfl:J=b:=by simpa [B0] using a
   exact fl i.2 g (gI u.1) I
 ·rcases List.mem_cons.1 hz with rfl|hz
  ·exact⟨p,ao⟩
  ·have:=h.rows c (dJ _ hz);exact⟨this.1,k this.2 (fun b a=>n b (List.mem_append.2 (.inl (List.mem_flatMap.2 ⟨c,hz,Option.mem_toList.2 a⟩))))⟩
 ·show(r'.v.ownBlock.toList++bR R++bL L).Nodup;rw[cI,ye];refine⟨?_,a0,fun b d a2 g a=>?_⟩
  ·cases r'.v.ownBlock<;>simp
  ·subst a;rcases ak b (Option.mem_toList.1 d) with q|q
   ·exact n b g q
   ·have:=h.ltR b (by rw[B,cI];exact List.mem_append.2 (.inr g));omega
theorem Bd.new(h:Bd E W L l x R){t:A7}(j:TO t)(cs:Array A2)(r':Rwx)(f:r'.t=t)(i:(W.alloc (A4 cs t)).ownsRow E.base t 1 r'.v r'.xs.length r'.xs)(b:r'.v.ownBlock=Y W.heap.size):Bd E (W.alloc (A4 cs t)) L l x (r'::R):=by
 have a:=h.below (bel1 W (A4 cs t));refine⟨a.lo,a.hl,a.code,a.cur,a.row,a.each,fun k hz=>?_,?_⟩
 ·rcases List.mem_cons.1 hz with rfl|hz
  ·rw[f];exact⟨j,i⟩
  ·exact a.rows k hz
 ·show(r'.v.ownBlock.toList++bR R++bL L).Nodup;rw[cI,ye];refine⟨by rw[b];simp,h.sep,fun d c e g n=>?_⟩;rw[b]at c;have:d=W.heap.size:=by simpa using c
  have:=h.ltR e g;omega
theorem Bd.nil(h:Bd E W L l x R){t:A7}(a:TO t):Bd E W L l x (⟨t,T Z 0 0,[]⟩::R):=
 ⟨h.lo,h.hl,h.code,h.cur,h.row,h.each,fun b hz=>by
  rcases List.mem_cons.1 hz with rfl|hz
  ·exact⟨a,bk _ _ _ _⟩
  ·exact h.rows b hz,h.sep⟩
theorem Bd.drop(h:Bd E W L l x (r::R)):Bd E W L l x R:=by
 have a:=h.sep;have b:bR (r::R)=r.v.ownBlock.toList++bR R:=rfl;rw[b,cI,ye]at a;exact⟨h.lo,h.hl,h.code,h.cur,h.row,h.each,fun d c=>h.rows d (dJ _ c),a.2.1⟩
theorem Bd.swap{a:Rwx}(h:Bd E W L l x (r::a::R)):Bd E W L l x (a::r::R):=by
 refine⟨h.lo,h.hl,h.code,h.cur,h.row,h.each,fun e hz=>h.rows e ?_,?_⟩
 ·simp only[iF]at hz⊢;rcases hz with hz|hz|hz<;>simp[hz]
 ·have b:=h.sep;have c:bR (r::a::R)=r.v.ownBlock.toList++(a.v.ownBlock.toList++bR R):=rfl;have d:bR (a::r::R)=a.v.ownBlock.toList++(r.v.ownBlock.toList++bR R):=rfl;rw[c]at b;rw[d];refine List.Perm.nodup_iff ?_ |>.1 b
  rw[<-cI,<-cI (a.v.ownBlock.toList)];exact(List.perm_append_comm.append_right _).append_right _
theorem Bd.c0(h:Bd E W L l x R):W.cell? ⟨E.bb,0,Z⟩=Y (cV E):=by
 obtain⟨c,a,b⟩:=h.row;rw[az _ _ _ _ _ _ a];rfl
theorem Bd.c2(h:Bd E W L l x R):W.cell? ⟨E.bb,2,Z⟩=Y (V O l):=by
 obtain⟨c,a,b⟩:=h.row;rw[az _ _ _ _ _ _ a];rfl
theorem mI(h:Bd E W L l x R)(k:Int)(g:2<=k)(i:k<=200)(s:L.length<=25000)(t:x<=20000000):
  A3 U 58 #[cV E,V O k] W fun e a=>∃z:Int,0<=z/\z<k/\e= X (V O z)/\Bd E a L l (x+1) R/\Kb W a/\A0 E.base W a:=by
 obtain⟨n,p,r,b,o,u,j⟩:=h.cur;have:=h.hl;refine(Ed k g i E.cb E.base W E.a0 E.len E.cap n p r b h.code o (by omega) this.1).mono ?_;rintro e a ⟨z,z0,q,d,v,c,f⟩;exact⟨z,z0,q,d,h.went f c (by omega) j⟩
end
section
variable {E : Bs} {W : World} {L : List Mb} {l x : Int} {R : List Rwx}
theorem Bd.less(h:Bd E W L l x R)(c:Int):Bd E (W.setCell ⟨E.bb,2,Z⟩ (V O c)) L c x R/\A0 E.base W (W.setCell ⟨E.bb,2,Z⟩ (V O c)):=by
 have u:=h.lt;obtain⟨A,f,p⟩:=h.row;obtain⟨v,z,r,q,s⟩:=h.cur;have g:A0 E.base W (W.setCell ⟨E.bb,2,Z⟩ (V O c)):=(aj _ W).setCell h.lo.2 _;have d:∀{e k i:Nat}{n:A2}{o:List A2},W.ownsRow E.base e k n i o->e≠123->(W.setCell ⟨E.bb,2,Z⟩ (V O c)).ownsRow E.base e k n i o:=fun j t=>jA j (fl j f (gI t)) 2 _;exact⟨⟨h.lo,h.hl,h.code.below g,⟨v,z,r,(bh _ _ _ _ u.2.2.2).trans q,s⟩,⟨A,cD _ E.bb 2 _ _ _ f,d p (by decide)⟩,fun b a=>⟨⟨d (h.each b a).1.1 (by decide),d (h.each b a).1.2 (by decide)⟩,(h.each b a).2⟩,fun b a=>⟨(h.rows b a).1,d (h.rows b a).2 (tNo (h.rows b a).1).2.1⟩,h.sep⟩,g⟩
theorem Bd.push{N:Nd}{vn vk:A2}(h:Bd E W L l x (⟨9,vn,N.nm.map Ax⟩::⟨3,vk,N.ks.map (Q O)⟩::R)){v:A2}(C:W.heap[E.bb]?=Y (A4 #[cV E,v,V O l] 123 (0,0))){a:A1}{g r cap:Nat}(a1:L.length+1=r)(H:a.ownsRow E.base 35 9 (T (Y ⟨g,0,Z⟩) r cap) r (jn (L++[⟨N,vn,vk⟩])))(i:W.grownBy a v.ownBlock)(n:Je N):
  Bd E (a.setCell ⟨E.bb,1,Z⟩ (T (Y ⟨g,0,Z⟩) r cap)) (L++[⟨N,vn,vk⟩]) l (x-400) R/\A0 E.base W (a.setCell ⟨E.bb,1,Z⟩ (T (Y ⟨g,0,Z⟩) r cap))/\a.heap[E.bb]?=Y (A4 #[cV E,v,V O l] 123 (0,0)):=by
 subst a1;obtain⟨a7,j,z⟩:=h.row;obtain rfl:a7=v:=by rw[j]at C;cases C;rfl
 obtain⟨K,e,r,k,ar,a9,av⟩:=h.cur;have B:=h.lt;have o:∀{b:Nat}{t:Array A2}{s:A7}{u:Nat×Nat},W.heap[b]?=Y (A4 t s u)->s≠35->a.heap[b]?=Y (A4 t s u):=fun c a2=>(i.block _ (ax c) (fun d=>fl z c a2 d.symm)).trans c;have p:=o j (by decide);have a6:∀b,b≠E.bb->(a.setCell ⟨E.bb,1,Z⟩ (T (Y ⟨g,0,Z⟩) (L.length+1) cap)).heap[b]?=a.heap[b]?:=fun b c=>bh _ _ _ _ c;have f:∀{base d ad G:Nat}{af:A2}{ak:List A2},W.ownsRow base d ad af G ak->d≠35->d≠123->(a.setCell ⟨E.bb,1,Z⟩ (T (Y ⟨g,0,Z⟩) (L.length+1) cap)).ownsRow base d ad af G ak:=fun J ap k=>by
  refine jA ?_ ?_ 1 _
  ·obtain⟨a4,q⟩:=J;refine⟨a4,?_⟩;rcases q with q|⟨g,cap,am,a3,i,a0,a5⟩
   ·exact .inl q
   ·exact .inr ⟨g,cap,am,a3,i,o a0 ap,a5⟩
  ·exact fl J j (gI k)
 have A:A0 E.base W (a.setCell ⟨E.bb,1,Z⟩ (T (Y ⟨g,0,Z⟩) (L.length+1) cap)):=((aj _ W).grown i B.2.2.1 (fun b c=>(z.lt b c).1)).setCell h.lo.2 _;have on:=(h.rows _ cH).2;have I:=(h.rows _ (dJ _ cH)).2;simp only[dv]at on I;refine⟨⟨h.lo,h.hl,h.code.below A,⟨K,e,r,(a6 _ B.2.2.2).trans (o k (by decide)),ar,?_,av⟩,⟨_,cD _ E.bb 1 _ _ _ p,?_⟩,fun y hy=>?_,fun a8 n=>?_,?_⟩,A,p⟩
 ·rw[aC];show K<=E.P+400*((L.length+1:Nat):Int)+(x-400);omega
 ·rw[aC];exact jA H (fl H p (by decide)) 1 _
 ·rcases List.mem_append.1 hy with hy|hy
  ·exact⟨⟨f (h.each y hy).1.1 (by decide) (by decide),f (h.each y hy).1.2 (by decide) (by decide)⟩,(h.each y hy).2⟩
  ·obtain rfl:=List.mem_singleton.1 hy;exact⟨⟨f on (by decide) (by decide),f I (by decide) (by decide)⟩,n⟩
 ·have e:=h.rows a8 (dJ _ (dJ _ n));exact⟨e.1,f e.2 (tNo e.1).1 (tNo e.1).2.1⟩
 ·have F:=h.sep;have an:bR (⟨9,vn,N.nm.map Ax⟩::⟨3,vk,N.ks.map (Q O)⟩::R)++bL L=(vn.ownBlock.toList++vk.ownBlock.toList)++(bR R++bL L):=by unfold bR;simp[rt]
  have ao:bR R++bL (L++[⟨N,vn,vk⟩])=(bR R++bL L)++(vn.ownBlock.toList++vk.ownBlock.toList):=by unfold bL;simp[mj]
  rw[an]at F;rw[ao];exact List.perm_append_comm.nodup_iff.1 F
theorem ajx{N:Nd}{an a:Option Addr}{mn cn mk ck:Nat}(h:Bd E W L l x (⟨9,.slice an mn cn,N.nm.map Ax⟩::⟨3,.slice a mk ck,N.ks.map (Q .i64)⟩::R))(cp: -100000<=l/\l<=100000)(b3:Je N)(b2:L.length<=25000):
  A3 U 114 #[bV E,.agg (dw N (.slice an mn cn) (.slice a mk ck))] W fun e o=>e= .returned (.int .i64 (L.length:Nat))/\Bd E o (L++[⟨N,.slice an mn cn,.slice a mk ck⟩]) (l-1) (x-400) R/\A0 E.base W o:=by
 obtain⟨m,a5⟩:=aA L.length;rw[a5]at b2⊢;have cr:=h.lt;have cs:IntKind.i64.wrap (l-1)=l-1:=by rw[cJ];omega
 have a3:=bel1 W (.cells (dw N (.slice an mn cn) (.slice a mk ck)) 35);have bE:=(h.below a3).c2;have b0:(W.alloc (.cells (dw N (.slice an mn cn) (.slice a mk ck)) 35)).frozen? ⟨E.bb,2,Z⟩=A5:=by
  obtain⟨v,q,af⟩:=(h.below a3).row;exact du _ _ _ _ _ q
 clear a3;go_in;go_wp2_with fail;obtain⟨ar,a2⟩:=aA (W.setCell ⟨E.bb,2,Z⟩ (.int .i64 (l-1)));have am:=h.less (l-1);have a6:(W.setCell ⟨E.bb,2,Z⟩ (.int .i64 (l-1))).heap.size=W.heap.size:=by simp[B1]
 obtain⟨a9,bn,bo⟩:=h.row;have ap:(W.setCell ⟨E.bb,2,Z⟩ (.int .i64 (l-1))).heap[E.bb]?=Y (.cells #[cV E,a9,.int .i64 (l-1)] 123 (0,0)):=cD W E.bb 2 _ _ _ bn;rw[a2]at am a6 ap;rw[a2];have I:=bel1 ar (.cells (dw N (.slice an mn cn) (.slice a mk ck)) 35);have j:=aw ar (.cells (dw N (.slice an mn cn) (.slice a mk ck)) 35);obtain⟨b,ao⟩:=aA (ar.alloc (.cells (dw N (.slice an mn cn) (.slice a mk ck)) 35));have u:Hid (Bd E b L (l-1) x (⟨9,.slice an mn cn,N.nm.map Ax⟩::⟨3,.slice a mk ck,N.ks.map (Q .i64)⟩::R)/\A0 E.base W b/\b.heap[W.heap.size]?=Y (.cells (dw N (.slice an mn cn) (.slice a mk ck)) 35 (0,0))/\b.heap.size=W.heap.size+1):=by
  rw[ao]at I j;rw[a6]at j;exact⟨am.1.below I,am.2.trans (I.mono (by omega)),j,by rw[<-ao];simp[a6]⟩
 have K:=(I.block _ (ax ap)).trans ap;rw[ao]at K⊢;clear ao a2 am I j ap bE b0;have bx:a9.ownBlock≠Y W.heap.size:=fun e=>by have:=(bo.lt _ e).2;omega
 obtain⟨v,q,af⟩:=u.out.1.row;obtain rfl:a9=v:=by
  rw[q]at K;simp at K;exact K.symm
 obtain⟨F,G,rfl⟩:=bI af;have bl:b.cell? ⟨E.bb,1,Z⟩=Y (.slice F L.length G):=by rw[az _ _ _ _ _ _ q];rfl
 rw[a5]at bl q af bx;clear bn bo K;have j:=u.out.2.2.1;refine wp_region_held_drew (S:=fun W'=>W'.heap[W.heap.size]?=Y (.cells (dw N (.slice an mn cn) (.slice a mk ck)) 35 (0,0))) (by kernel_rfl) j (fun hS=>?_);simp only[ip,di,fs,Nat.reduceAdd,jt,ju,jw,fd,fF];refine dg 0 (.pointer (Y ⟨E.bb,0,Z⟩)) rfl rfl (by kernel_rfl) (fun _ _ _=>id) hS (fun o B=>by go_simp) ?_;simp only[List.set];refine dg 1 (.pointer (Y ⟨E.bb,0,Z⟩)) rfl rfl (by kernel_rfl) (fun _ _ _=>id) hS (fun o B=>by go_simp) ?_;simp only[List.set];refine dg 2 (.pointer (Y ⟨E.bb,0,Z⟩)) rfl rfl (by kernel_rfl) (fun _ _ _=>id) hS (fun o B=>by go_simp) ?_;simp only[List.set];refine dg 3 (.pointer (Y ⟨E.bb,1,Z⟩)) rfl rfl (by kernel_rfl) (fun _ _ _=>id) hS (fun o B=>by go_simp) ?_;simp only[List.set];refine jz 5 17 (.agg #[.int .i64 N.k,.int .i64 N.f,.int .i64 N.t,.int .i64 N.l,.int .i64 N.op,.int .i64 N.n,.string N.x,.slice an mn cn,.slice a mk ck]) rfl rfl (by kernel_rfl) (by kernel_rfl) (by kernel_rfl) (fun _ _ _ h=>h) (by rfl) hS (fun o B=>by obtain⟨z0,cy,cz,cB,c0,ad,bD,c1,c3,c4⟩:=au (N:=N) (vn:= .slice an mn cn) (vk:= .slice a mk ck) B;go_simp) ?_;simp only[Act.put,bJ,bK,ci];have br:=bl;refine rC (S:=fun W'=>W'.cell? ⟨E.bb,1,Z⟩=Y (.slice F m G)) (C:=fun J=>!(J==7||J==8||J==9||J==10)) (i:=4) (v:= .slice F m G) rfl (yi (by kernel_rfl)) (fun _ _ _ h=>h) ?hC _ _ _ _ (yj rfl (by kernel_rfl)) (List.contains_iff_mem.1 (by kernel_rfl)) (Or.inl ⟨by rfl,fun o B=>by go_simp⟩) hS br ?_
 case hC=>
  intro J cu bs d;simp only[Bool.not_eq_false',yo,gn]at d;rcases d with((rfl|rfl)|rfl)|rfl
  ·obtain rfl:=db bs;exact⟨{on:=4,ground:=Ground.data},by simp,rfl,rfl⟩
  all_goals
   obtain rfl:=db bs;exact⟨{on:=4,ground:=Ground.phase},by simp,rfl,rfl⟩
 simp only[Act.put,bJ,bK,ci];refine fi (i:=6) (by kernel_rfl) rfl (fun g c=>?_);go_simp;have a1:A0 b.heap.size b (b.drew.alloc (.cells (dw N (.slice an mn cn) (.slice a mk ck)) 35)):=(aL (aj _ _)).alloc (by simp) _;refine c.out _ _ ((a1.block _ (ax j)).trans j) (fun _=>cell_kept a1 br) ?_;clear c g;try simp only[bJ,bK,ci]
 obtain⟨a0,H⟩:=aA ((b.alloc (.cells (dw N (.slice an mn cn) (.slice a mk ck)) 35)).drew);have s:A0 b.heap.size b a0:=by rw[<-H];exact aL (bel1 b _)
 have b7:a0.heap[b.heap.size]?=Y (.cells (dw N (.slice an mn cn) (.slice a mk ck)) 35 (0,0)):=by rw[<-H];exact aw b _
 simp only[dw]at H;rw[H];clear H a1 hS;have cf:=u.out.1.below s;have ce:=(s.block _ (ax q)).trans q;have b1:=aG af s;have bt:=u.out.1.lt;have b5:=u.out.2.2.2;obtain⟨b8,b9,ca,cb,cc⟩:=dC yE;refine fi (i:=7) (by kernel_rfl) rfl (fun g c=>?_);refine step_append_lies _ (by rfl) _ _ 23 (by rfl) E.base 35 b8 _ 9 112 Tryz.underlying23 b9 ca cb cc rfl (by decide) (.slice F m G) m _ (by rfl) b1 ⟨b.heap.size,0,Z⟩ 1 1 (dw N (.slice an mn cn) (.slice a mk ck)).toList (by rw[b5];rfl) rfl (A8 b7) (by intro cx bw;simp at bw;rcases bw with rfl|rfl|rfl|rfl|rfl|rfl|rfl|rfl|rfl<;>rfl) (by decide) (by unfold B3;omega) (by omega) (bz bt.2.2.1 s.size) a0.heap.size rfl ?_;intro A z p a7 a4 b4 cq;have bp:jn L++(dw N (.slice an mn cn) (.slice a mk ck)).toList=jn (L++[⟨N,.slice an mn cn,.slice a mk ck⟩]):=by rw[uq];show _=jn L++(cMb _++[]);rw[dA];rfl
 rw[bp]at a7;obtain⟨bA,bf,a8⟩:=cf.push ce (by rw[a5]) a7 a4 b3;have ad:p.heap[W.heap.size]?=Y (.cells (dw N (.slice an mn cn) (.slice a mk ck)) 35 (0,0)):=(a4.block _ (by have:=s.size;omega) (fun e=>bx e.symm)).trans ((s.block _ (by omega)).trans j);have bD:(p.setCell ⟨E.bb,1,Z⟩ (.slice (Y ⟨A,0,Z⟩) (m+1) z)).heap[W.heap.size]?=Y (.cells (dw N (.slice an mn cn) (.slice a mk ck)) 35 (0,0)):=(bh _ _ _ _ (by show W.heap.size≠E.bb;omega)).trans ad;have cm:p.cell? ⟨E.bb,1,Z⟩=Y (.slice F m G):=by rw[az _ _ _ _ _ _ a8];rfl
 have co:p.frozen? ⟨E.bb,1,Z⟩=A5:=du _ _ _ _ _ a8;have bd:Hid (Bd E (p.setCell ⟨E.bb,1,Z⟩ (.slice (Y ⟨A,0,Z⟩) (m+1) z)) (L++[⟨N,.slice an mn cn,.slice a mk ck⟩]) (l-1) (x-400) R/\A0 E.base W (p.setCell ⟨E.bb,1,Z⟩ (.slice (Y ⟨A,0,Z⟩) (m+1) z))):=
  ⟨bA,(u.out.2.1.trans (s.mono bt.2.2.1)).trans bf⟩
 clear bA bf bp a7 a4 b4;refine c.out _ _ ad (fun d=>by cases d) ?_;clear c g;simp only[Act.put,bJ,bK,ci];refine fi (i:=8) (by kernel_rfl) rfl (fun g c=>?_);go_simp;refine c.out _ _ ad (fun d=>by cases d) ?_;clear c g;try simp only[bJ,bK,ci]
 refine fi (i:=9) (by kernel_rfl) rfl (fun g c=>?_);go_simp;refine c.out _ _ ad (fun d=>by cases d) ?_;clear c g;try simp only[bJ,bK,ci]
 refine fi (i:=10) (by kernel_rfl) rfl (fun g c=>?_);go_simp;refine c.out _ _ bD (fun d=>by cases d) ?_;clear c g;refine uo (by kernel_rfl) ?_ _;have bF:(p.setCell ⟨E.bb,1,Z⟩ (.slice (Y ⟨A,0,Z⟩) (m+1) z)).cell? ⟨E.bb,1,Z⟩=Y (.slice (Y ⟨A,0,Z⟩) (m+1) z):=by rw[az _ _ _ _ _ _ (cD _ E.bb 1 _ _ _ a8)];rfl
 generalize p.setCell ⟨E.bb,1,Z⟩ (.slice (Y ⟨A,0,Z⟩) (m+1) z)=cl at bd bF⊢;have ct:IntKind.i64.wrap ((m:Int)+1-1)=(m:Int):=by rw[cJ];omega
 go_wp2_with fail;go_ret;exact⟨by go_num,bd.out⟩
end
section
variable {E : Bs} {W : World} {L : List Mb} {l x : Int} {R : List Rwx}
theorem Hd(h:Bd E W L l x R)(k:L.length<=25000)(u:x<=19000000):
  A3 U 151 #[bV E] W fun e i=>∃s:ByteArray,s.size<=16/\e= X (A9 s)/\Bd E i L l (x+1) R/\A0 E.base W i:=by
 have n:=h.lt;have b:=aq fun (p:Obj)=>mI (h.below (bel1 W p)) 8 (by decide) (by decide) k (by omega);have q:=h.c0;go_in;go_wp2_with fail;refine(b.out _).mono ?_;rintro e w1 ⟨a,z0,v,rfl,c,d,f⟩;have g:=d.blk (aw W _) (by decide);have t:=fun o=>az w1 W.heap.size o _ _ _ g;have j:=dx c (((bel1 W _).mono n.2.2.1).trans f);clear c d f g b;rcases(show a=0\/a=1\/a=2\/a=3\/a=4\/a=5\/a=6\/a=7 by omega) with rfl|rfl|rfl|rfl|rfl|rfl|rfl|rfl;all_goals
  go_wp2_with fail;go_ret;exact⟨_,by decide,rfl,j.out⟩
theorem EK{o:Array Oper}{p:List Oper}{f:Oper}{a:Act}{i:Exit->Act->A1->Prop}{v:A2}{m:Nat}{d:List ByteArray}(A:f.guard=Z)(s y:Operand)
  (G:f.op= .call {callee:= .builtin .append,args:=#[s,y],argTypes:=#[32,32]}) (h:Bd E W L l x (⟨9,v,d.map Ax⟩::R)) (H:a.eval s=v) (t:ByteArray) {w0:A1}(I:W=w0.alloc (.cells #[.string t] 9)) (J:a.eval y= .slice (Y ⟨w0.heap.size,0,Z⟩) 1 1) (F:d.length=m) (ao:m<=1000)
  (k:∀b c w1,Bd E w1 L l x (⟨9,.slice b (m+1) c,(d++[t]).map Ax⟩::R)->A0 E.base W w1->wpList U o i p (a.put f.dst (.slice b (m+1) c)) w1):
  wpList U o i (f::p) a W:=by
 subst F;obtain⟨ak,C,K,ad,af⟩:=dC ul;have n:=(h.rows _ cH).2;simp only[dv]at n;refine Br _ A s y 32 G E.base 9 ak _ 1 16 Tryz.underlying32 C K ad af rfl (by decide) v _ _ H n ⟨w0.heap.size,0,Z⟩ 1 1 [.string t] J (by simp) (A8 (cs:=#[.string t]) (by rw[I];exact aw w0 _)) (by simp[Value.oneCell']) (by unfold B3;omega) (by omega) h.lt.2.2.1 ?_;intro ap w1 j z _ u;obtain⟨b,c,rfl⟩:=bI j;have B:∀e,(B4 b (d.length+1) c).ownBlock=Y e->v.ownBlock=Y e\/W.heap.size<=e:=fun e g=>by
  rcases u with q|q
  ·exact .inl (q ▸ g)
  ·rw[q]at g;cases g;exact .inr (ah _)
 obtain⟨am,an⟩:=h.hot (r':=⟨9,.slice b (d.length+1) c,(d++[t]).map Ax⟩) z EJ (by simpa using j) B;exact k b c w1 am an
end
section
variable {E : Bs} {W : World} {L : List Mb} {l x : Int} {R : List Rwx}
theorem Bd.formS{v:A2}{d:List ByteArray}(h:Bd E W L l x (⟨9,v,d.map Ax⟩::R)):∃a c,v= T a d.length c:=by
 have b:=(h.rows _ cH).2;simp only[dv]at b;exact bI b
theorem ahK(h:Bd E W L l x R)(n:Nat)(am:n<=8)(C:L.length<=25000)(an:x<=18000000):
  A3 U 112 #[bV E,V O n] W fun e A=>∃a c,∃nm:List ByteArray,e= X (T a nm.length c)/\nm.length=n/\(∀s∈nm,s.size<=16)/\Bd E A L l (x+n) (⟨9,T a nm.length c,nm.map Ax⟩::R)/\A0 E.base W A:=by
 go_in;go_wp2_with fail;go_loopw [1,5] (fun p J wr=>∃(m b:Nat) (d:List ByteArray),p= V O m/\m+b=n/\d.length=b/\(∀s∈d,s.size<=16)/\Bd E wr L l (x+b) (⟨9,J,d.map Ax⟩::R)/\A0 E.base W wr) (fun p _ _=>(A6 p).toNat)
 case atStart=>exact⟨n,0,[],rfl,rfl,rfl,fun s hs=>(by cases hs),(h.nil (by decide)).wide (by omega),aj _ _⟩
 case round=>
  obtain⟨m,b,d,rfl,u,I,o,f,k⟩:=hrel;have ak:m<=n:=by omega
  by_cases af:0<m
  ·have v:=Hd f C (by omega);have i:=tI u o k I;clear u o k h;go_wp2_with fail;refine v.mono ?_;rintro e w1 ⟨z,H,rfl,q,t⟩;have g:=dx q t;clear f q t v;go_wp2_with (at_builtin;refine EK rfl _ _ rfl (g.out.1.below (bel1 w1 _)) rfl z rfl rfl i.out.2.2.2 (by have:=i.out.1;omega) ?_;intro K ad ao B F);go_roundw
   case rel=>
    have j:=i.out;have G:=g.out.1.lt;exact⟨m-1,b+1,d++[z],by go_num,by omega,by rw[aC,j.2.2.2];rfl,fun s hs=>by
     rcases List.mem_append.1 hs with hs|hs
     ·exact j.2.1 s hs
     ·rw[List.mem_singleton.1 hs];exact H,B.wide (by omega),((j.2.2.1.trans g.out.2).trans ((bel1 w1 _).mono G.2.2.1)).trans F⟩
   case measure=>simp[A6];omega
  ·obtain rfl:m=0:=by omega
   obtain⟨a,c,rfl⟩:=f.formS;go_wp2_with fail;go_ret;exact⟨a,c,d,rfl,by omega,o,by rw[show n=b by omega];exact f,k⟩
end
def dN(k op n:Int)(t:ByteArray)(nm:List ByteArray)(ks:List Int):Nd:=⟨k,0,0,0,op,n,t,nm,ks⟩
theorem mw{k op n:Int}{t:ByteArray}{nm:List ByteArray}{ks:List Int}(h:0<=k/\k<=1000)(i:0<=op/\op<=1000)(e: -9223372036854775808<=n/\n<=9223372036854775807)(f:t.size<=4001)(a:nm.length<=8)(b:∀s∈nm,s.size<=16)(c:ks.length<=64)(d:∀z∈ks,0<=z/\z<=100000):Je (dN k op n t nm ks):=by
 have z: -9223372036854775808<=(0:Int)/\(0:Int)<=9223372036854775807:=by decide
 exact⟨a,c,f,b,⟨⟨by show _<=k;omega,by show k<=_;omega⟩,z,z,z,⟨by show _<=op;omega,by show op<=_;omega⟩,e,fun z g=>by have:=d z g;omega⟩⟩
section
variable {E : Bs} {W : World} {L : List Mb} {l x : Int} {R : List Rwx}
theorem AJ{k op n:Int}{t:ByteArray}{nm:List ByteArray}{ks:List Int}{an a:Option Addr}{mn cn mk ck:Nat}(h:Bd E W L l x (⟨9,T an mn cn,nm.map Ax⟩::⟨3,T a mk ck,ks.map (Q O)⟩::R))(f: -100000<=l/\l<=100000)(d:Je (dN k op n t nm ks))(c:L.length<=25000):
  A3 U 114 #[bV E,.agg #[V O k,V O 0,V O 0,V O 0,V O op,V O n,A9 t,T an mn cn,T a mk ck]] W fun e b=>e= X (V O (L.length:Nat))/\Bd E b (L++[⟨dN k op n t nm ks,T an mn cn,T a mk ck⟩]) (l-1) (x-400) R/\A0 E.base W b:=ajx (N:=dN k op n t nm ks) h f d c
theorem abB{k:Int}{ks:List Int}{a:Option Addr}{mk ck:Nat}(h:Bd E W L l x (⟨3,T a mk ck,ks.map (Q O)⟩::R))(j: -100000<=l/\l<=100000)(i:0<=k/\k<=1000)(d:ks.length<=64)(f:∀z∈ks,0<=z/\z<=100000)(g:L.length<=25000):
  A3 U 111 #[bV E,V O k,T a mk ck] W fun e b=>e= X (V O (L.length:Nat))/\Bd E b (L++[⟨dN k 0 0 ⟨#[]⟩ [] ks,T Z 0 0,T a mk ck⟩]) (l-1) (x-400) R/\A0 E.base W b:=by
 have p:=AJ (k:=k) (op:=0) (n:=0) (t:=⟨#[]⟩) (nm:=[]) (an:=Z) (mn:=0) (cn:=0) (h.nil (by decide)) j (mw i (by decide) (by decide) (by decide) (by decide) (fun q o=>by cases o) d f) g;go_in;go_wp2_with fail;refine cd p fun w1 c=>?_;go_wp2_with fail;go_ret;exact⟨rfl,c⟩
theorem EL(k:Int)(H:200<k)(I:k<=100000)(b base:Nat)(w:A1)(c:Option Addr)(a cap:Nat)(p q r:Int)(o:base<=b)(n:base<=w.heap.size)(s:eL b w c a cap p q r)(f:Code base w c a)(A:0<=p)(J:p<=900000000)(g:a<=1048576):
  A3 U 58 #[B2 (Y ⟨b,0,Z⟩),V O k] w fun e i=>∃z:Int,0<=z/\z<k/\e= X (V O z)/\∃C,eL b i c a cap (p+2) C r/\w.grownBy i (Y b):=by
 have h:=ub b base w c a cap p q r s f A (by omega) g;go_in;go_wp2_with fail;refine h.mono ?_;rintro e w1 ⟨z,z0,an,rfl,F,t,d⟩;have B:=ub b base w1 c a cap (p+1) F r t (f.below (ua d o n)) (by omega) (by omega) g;have j:=aq d;clear d h;have K:IntKind.i64.wrap (z*256)=z*256:=by rw[cJ];omega
 go_wp2_with fail;refine B.mono ?_;rintro e af ⟨y,ak,am,rfl,G,u,v⟩;have ad:IntKind.i64.wrap (z*256+y)=z*256+y:=by rw[cJ];omega
 go_wp2_with fail;go_ret;exact⟨(z*256+y)%k,Int.emod_nonneg _ (by omega),Int.emod_lt_of_pos _ (by omega),rfl,G,by rw[show p+2=p+1+1 by omega];exact u,Ec j.out v⟩
theorem afo(h:Bd E W L l x R)(k:Int)(j:200<k)(n:k<=100000)(u:L.length<=25000)(v:x<=20000000):
  A3 U 58 #[cV E,V O k] W fun e a=>∃z:Int,0<=z/\z<k/\e= X (V O z)/\Bd E a L l (x+2) R/\A0 E.base W a:=by
 obtain⟨p,s,r,d,q,A,o⟩:=h.cur;have:=h.hl;refine(EL k j n E.cb E.base W E.a0 E.len E.cap p s r h.lo.1 h.lt.2.2.1 d h.code q (by omega) this.1).mono ?_;rintro e a ⟨z,z0,t,g,B,f,i⟩;obtain⟨b,_,c⟩:=h.went (y:=x+2) i f (by omega) o;exact⟨z,z0,t,g,b,c⟩
theorem ahL(h:Bd E W L l x R)(f:L.length<=25000)(H:x<=19000000):
  A3 U 177 #[cV E] W fun e v=>∃n:Int,(-9223372036854775808<=n/\n<=9223372036854775807)/\e= X (V O n)/\Bd E v L l (x+3) R/\A0 E.base W v:=by
 have u:=mI h 6 (by decide) (by decide) f (by omega);go_in;go_wp2_with fail;refine u.mono ?_;rintro e w1 ⟨a,z0,I,rfl,k,_,t⟩;have d:=aq t;clear t u h;have i:=mI k 3 (by decide) (by decide) f (by omega);have g:=mI k 12 (by decide) (by decide) f (by omega);have j:=afo k 70000 (by decide) (by decide) f (by omega);rcases(show a=0\/a=1\/a=2\/(a≠0/\a≠1/\a≠2) by omega) with rfl|rfl|rfl|⟨z,A,B⟩
 ·clear g j;go_wp2_with fail;refine i.mono ?_;rintro e p ⟨y,q,s,rfl,b,_,c⟩;have o:IntKind.i64.wrap (9223372036854775807-y)=9223372036854775807-y:=by rw[cJ];omega
  go_wp2_with fail;go_ret;exact⟨_,by omega,rfl,b.wide (by omega),d.out.trans c⟩
 ·clear g j;go_wp2_with fail;refine i.mono ?_;rintro e p ⟨y,q,s,rfl,b,_,c⟩;have o:IntKind.i64.wrap (-9223372036854775808+y)= -9223372036854775808+y:=by rw[cJ];omega
  go_wp2_with fail;go_ret;exact⟨_,by omega,rfl,b.wide (by omega),d.out.trans c⟩
 ·clear g i;go_wp2_with fail;refine j.mono ?_;rintro e p ⟨y,q,s,rfl,b,c⟩;have o:IntKind.i64.wrap (y-35000)=y-35000:=by rw[cJ];omega
  go_wp2_with fail;go_ret;exact⟨_,by omega,rfl,b.wide (by omega),d.out.trans c⟩
 ·clear j i;have C:(a==0)=A5:=by simpa using z
  have F:(a==1)=A5:=by simpa using A
  have G:(a==2)=A5:=by simpa using B
  go_wp2_with fail;refine g.mono ?_;rintro e p ⟨y,q,s,rfl,b,_,c⟩;have o:IntKind.i64.wrap (y-3)=y-3:=by rw[cJ];omega
  go_wp2_with fail;go_ret;exact⟨_,by omega,rfl,b.wide (by omega),d.out.trans c⟩
end
section
variable {E : Bs} {W : World} {L : List Mb} {l x : Int} {R : List Rwx}
theorem ah0(h:Bd E W L l x R)(n:Int)(j:0<=n)(u:n<=100)(t:L.length<=25000)(z:x<=18000000):
  A3 U 195 #[cV E,V O n] W fun e a=>∃s:ByteArray,s.size<=100/\e= X (A9 s)/\Bd E a L l (x+100) R/\A0 E.base W a:=by
 obtain⟨m,rfl⟩:=ir j;obtain⟨o,q,r,d,p,C,k⟩:=h.cur;have:=h.hl;refine(Kr m (by omega) E.cb E.base W E.a0 E.len E.cap o q r h.lo.1 h.lt.2.2.1 d h.code p (by omega) this.1).mono ?_;rintro e a ⟨s,v,g,A,G,B,F,f,i⟩;obtain⟨b,_,c⟩:=h.went (y:=x+100) i f (by omega) k;exact⟨s,by omega,g,b,c⟩
theorem akv(h:Bd E W L l x R)(g:L.length<=25000)(bb:x<=17000000):
  A3 U 178 #[cV E] W fun e J=>∃s:ByteArray,s.size<=4001/\e= X (A9 s)/\Bd E J L l (x+110) R/\A0 E.base W J:=by
 have H:=mI h 6 (by decide) (by decide) g (by omega);go_in;go_wp2_with fail;refine H.mono ?_;rintro e w1 ⟨f,z0,bx,rfl,n,_,z⟩;have a:=dx n z;clear z H h;rcases(show f=0\/f=1\/f=2\/f=3\/f=4\/f=5 by omega) with rfl|rfl|rfl|rfl|rfl|rfl
 ·go_wp2;go_ret;exact⟨_,by decide,rfl,a.out.1.wide (by omega),a.out.2⟩
 ·have j:=mI n 6 (by decide) (by decide) g (by omega);go_wp2_with fail;refine j.mono ?_;rintro e K ⟨y,an,ao,rfl,d,_,i⟩;have ak:=ah0 d y (by omega) (by omega) g (by omega);have c:=aq i;clear i j;go_wp2_with fail;refine ak.mono ?_;rintro e bt ⟨s,a8,rfl,ad,af⟩;go_wp2;go_ret;exact⟨_,by omega,rfl,ad.wide (by omega),(a.out.2.trans c.out).trans af⟩
 ·go_wp2;go_ret;exact⟨_,by decide,rfl,a.out.1.wide (by omega),a.out.2⟩
 ·have j:=mI n 20 (by decide) (by decide) g (by omega);go_wp2_with fail;refine j.mono ?_;rintro e K ⟨y,an,ao,rfl,d,_,i⟩;have c:=dx d (a.out.2.trans i);clear i j n;obtain⟨bf,bn,r,B,am,bl,bo,bp⟩:=d.cur;obtain⟨ap,ar,av,a0,a1,a2,a3⟩:=vq B;by_cases G:y=0
  ·subst G;by_cases a7:r<3
   ·have o:=d.went (y:=x+2) (vv (tL K E.cb) 3 (V O (r+1))) (B.set3 (r+1)) ⟨am,by omega⟩ ⟨by omega,by omega⟩;have t:=dx o.1 o.2.2;clear o d;have a9:IntKind.i64.wrap (r+1)=r+1:=by rw[cJ];omega
    go_wp2_with fail;go_loop [3] (fun p=>∃b:ByteArray,p= A9 b/\Ten b.size) (fun p=>6000-akp p)
    case atStart=>exact⟨_,rfl,.inl rfl⟩
    case round=>
     obtain⟨b,rfl,F⟩:=hrel;have k:=aq F;clear F;by_cases C:b.size<4000
     ·go_wp2;go_round
      case rel=>exact⟨_,rfl,Ks k.out C⟩
      case measure=>have a4:=aeF k.out;show 6000-(b++b).size<6000-b.size;rw[ag];omega
     ·have a5:4001<=b.size:=aeD k.out C;have a6:b.size<=5120:=aeE k.out;have I:=mI t.out.1 3 (by decide) (by decide) g (by omega);go_wp2_with fail;refine I.mono ?_;rintro e bw ⟨q,br,bs,rfl,v,_,A⟩;have u:=dx v ((c.out.2.trans t.out.2).trans A);clear v A I;rcases(show q=0\/q=1\/q=2 by omega) with rfl|rfl|rfl;all_goals
       go_wp2;go_ret;exact⟨_,by simp;omega,rfl,u.out.1.wide (by omega),u.out.2⟩
   ·go_wp2;go_ret;exact⟨_,by decide,rfl,c.out.1.wide (by omega),c.out.2⟩
  ·have bd:(y==0)=A5:=by simp[G]
   go_wp2;go_ret;exact⟨_,by decide,rfl,c.out.1.wide (by omega),c.out.2⟩
 ·go_wp2;go_ret;exact⟨_,by decide,rfl,a.out.1.wide (by omega),a.out.2⟩
 ·go_wp2;go_ret;exact⟨_,by decide,rfl,a.out.1.wide (by omega),a.out.2⟩
end
def Lf(s c l a:Int):Prop:=(l<5->l-s<=a)/\(5<=l->5-c<=a)
structure qr (E:Bs) (W:A1) (L:List Mb) (l x:Int) (R:List Rwx) (m:Int):Prop where
 bd:Bd E W L l x R
 sum:l+L.length<=1000
 lo: -20000+12*m<=l
 hx:x+1000*m<=4000000
 m0:0<=m/\m<=1300
def Ans(E:Bs)(W:A1)(L:List Mb)(l x:Int)(R:List Rwx)(s c:Int)(e:Ending)(a:A1):Prop:=
 ∃M:List Mb,0<M.length/\e= X (V O ((L.length:Int)+M.length-1))/\Bd E a (L++M) (l-M.length) x R/\A0 E.base W a/\Lf s c l (l-M.length)
section
variable {E : Bs} {W : World} {L : List Mb} {l x : Int} {R : List Rwx}
theorem He{a:A1}{y:Mb}{s c b:Int}(g:1<=s)(f:1<=c)(e:b-400<=x)(h:Bd E a (L++[y]) (l-1) (b-400) R)(d:A0 E.base W a):Ans E W L l x R s c (X (V O (L.length:Nat))) a:=
 ⟨[y],by simp,by congr 2;simp,h.wide e,d,⟨fun _=>by simp;omega,fun _=>by simp;omega⟩⟩
theorem ag8{m:Int}(h:qr E W L l x R m)(bp:1<=m):
  A3 U 152 #[bV E] W (Ans E W L l x R 1 1):=by
 obtain⟨B,bt,bo,bx,br⟩:=h;have c:L.length<=25000:=by omega
 have a7:=B.c0;have p: -100000<=l/\l<=100000:=by omega
 have J:=mI B 9 (by decide) (by decide) c (by omega);go_in;go_wp2_with fail;refine J.mono ?_;rintro z w1 ⟨b,z0,bA,rfl,j,_,H⟩;have i:=aq H;clear H J B;have s:∀{W:A1}{L:List Mb}{l x:Int}{R:List Rwx},Bd E W L l x R->Bd E W L l x (⟨9,T Z 0 0,([]:List ByteArray).map Ax⟩::⟨3,T Z 0 0,([]:List Int).map (Q O)⟩::R):=fun h=>(h.nil toI).nil EJ;have nB:∀{k n:Int}{t:ByteArray},0<=k->k<=1000-> -9223372036854775808<=n/\n<=9223372036854775807->t.size<=4001->Je (dN k 0 n t [] []):=fun K ad af ak=>mw ⟨K,ad⟩ (by decide) af ak (by decide) (fun o q=>by cases q) (by decide) (fun o q=>by cases q);rcases(show b=0\/b=1\/b=2\/b=3\/b=4\/b=5\/(b≠0/\b≠1/\b≠2/\b≠3/\b≠4/\b≠5) by omega) with rfl|rfl|rfl|rfl|rfl|rfl|⟨am,an,ao,ap,ar,av⟩
 ·have g:=mI j 3 (by decide) (by decide) c (by omega);go_wp2_with fail;refine g.mono ?_;rintro z A ⟨y,a5,a6,rfl,f,_,e⟩;have bw:IntKind.i64.wrap (20+y)=20+y:=by rw[cJ];omega
  have d:=AJ (k:=20+y) (op:=0) (n:=0) (t:=⟨#[]⟩) (s f) p (nB (by omega) (by omega) (by decide) (by decide)) c;go_wp2_with fail;refine cd d fun u a=>?_;go_wp2_with fail;go_ret;exact He (by decide) (by decide) (by omega) a.1 ((i.out.trans e).trans a.2)
 iterate 2
  ·have g:=ahL j c (by omega);go_wp2_with fail;refine g.mono ?_;rintro z A ⟨n,a2,rfl,f,e⟩;have d:=AJ (k:=23) (op:=0) (n:=n) (t:=⟨#[]⟩) (s f) p (nB (by decide) (by decide) a2 (by decide)) c;go_wp2_with fail;refine cd d fun u a=>?_;go_wp2_with fail;go_ret;exact He (by decide) (by decide) (by omega) a.1 ((i.out.trans e).trans a.2)
 ·have F:=aq fun (a4:Obj)=>mI (j.below (bel1 w1 a4)) 5 (by decide) (by decide) c (by omega);have a1:=j.lt;go_wp2_with fail;refine(F.out _).mono ?_;rintro z A ⟨y,a5,a6,rfl,f,G,e⟩;have I:=G.blk (aw w1 _) (by decide);have bs:=fun a3=>az A w1.heap.size a3 _ _ _ I;have v:=dx f (((bel1 w1 _).mono a1.2.2.1).trans e);clear f G e I F;have d:=fun (t:ByteArray) (C:t.size<=4001)=>AJ (k:=24) (op:=0) (n:=0) (t:=t) (s v.out.1) p (nB (by decide) (by decide) (by decide) C) c;rcases(show y=0\/y=1\/y=2\/y=3\/y=4 by omega) with rfl|rfl|rfl|rfl|rfl;all_goals
   go_wp2_with fail;refine cd (d _ (by decide)) fun u a=>?_;go_wp2_with fail;go_ret;exact He (by decide) (by decide) (by omega) a.1 ((i.out.trans v.out.2).trans a.2)
 ·have g:=akv j c (by omega);go_wp2_with fail;refine g.mono ?_;rintro z A ⟨o,q,rfl,f,e⟩;have d:=fun (t:ByteArray) (C:t.size<=4001)=>AJ (k:=25) (op:=0) (n:=0) (t:=t) (s f) p (nB (by decide) (by decide) (by decide) C) c;have v:=aq e;clear e g;by_cases bn:4000<o.size
  ·have a0:(4000:Int)<(o.size:Int):=by omega
   go_wp2_with fail;refine cd (d _ (by decide)) fun u a=>?_;go_wp2_with fail;go_ret;exact He (by decide) (by decide) (by omega) a.1 ((i.out.trans v.out).trans a.2)
  ·have a0:¬(4000:Int)<(o.size:Int):=by omega
   go_wp2_with fail;refine cd (d _ q) fun u a=>?_;go_wp2_with fail;go_ret;exact He (by decide) (by decide) (by omega) a.1 ((i.out.trans v.out).trans a.2)
 ·have d:=AJ (k:=27) (op:=0) (n:=0) (t:=⟨#[]⟩) (s j) p (nB (by decide) (by decide) (by decide) (by decide)) c;go_wp2_with fail;refine cd d fun u a=>?_;go_wp2_with fail;go_ret;exact He (by decide) (by decide) (by omega) a.1 (i.out.trans a.2)
 ·have a8:(b==0)=A5:=by simpa using am
  have a9:(b==1)=A5:=by simpa using an
  have bb:(b==2)=A5:=by simpa using ao
  have bd:(b==3)=A5:=by simpa using ap
  have bf:(b==4)=A5:=by simpa using ar
  have bl:(b==5)=A5:=by simpa using av
  have g:=Hd j c (by omega);go_wp2_with fail;refine g.mono ?_;rintro z A ⟨o,q,rfl,f,e⟩;have d:=AJ (k:=26) (op:=0) (n:=0) (t:=o) (s f) p (nB (by decide) (by decide) (by decide) (by omega)) c;go_wp2_with fail;refine cd d fun u a=>?_;go_wp2_with fail;go_ret;exact He (by decide) (by decide) (by omega) a.1 ((i.out.trans e).trans a.2)
end
def FB(a:FuncId)(d m s c:Int):Prop:=∀ ⦃E:Bs⦄ ⦃W:A1⦄ ⦃L:List Mb⦄ ⦃l x:Int⦄ ⦃R:List Rwx⦄,qr E W L l x R m->A3 U a #[bV E,V O d] W (Ans E W L l x R s c)
def vG(a:FuncId)(d m s c:Int):Prop:=∀ ⦃E:Bs⦄ ⦃W:A1⦄ ⦃L:List Mb⦄ ⦃l x:Int⦄ ⦃R:List Rwx⦄,qr E W L l x R m->A3 U a #[bV E,V O d] W (Ans E W L l (x-100) R s c)
theorem vG.weak{a:FuncId}{d m s c:Int}(h:vG a d m s c):FB a d m s c:=fun _ _ _ _ _ _ i=>(h i).mono fun j k ⟨M,b,e,f,g⟩=>⟨M,b,e,f.wide (by omega),g⟩
theorem qr.less{E:Bs}{W:A1}{L:List Mb}{l x m m':Int}{R:List Rwx}(p:qr E W L l x R m)(a:0<=m')(h:m'<=m):qr E W L l x R m':=⟨p.bd,p.sum,by have:=p.lo;omega,by have:=p.hx;omega,by have:=p.m0;omega⟩
theorem FB.up{b:FuncId}{d m m' s c e a:Int}(h:FB b d m s c)(f:0<=m)(n:m<=m')(u:s<=e)(t:c<=a):FB b d m' e a:=fun _ _ _ _ _ _ o=>(h (o.less f n)).mono fun p v ⟨M,g,i,j,k,q⟩=>⟨M,g,i,j,k,by unfold Lf at *;omega⟩
theorem vG.up{b:FuncId}{d m m' s c e a:Int}(h:vG b d m s c)(f:0<=m)(n:m<=m')(u:s<=e)(t:c<=a):vG b d m' e a:=fun _ _ _ _ _ _ o=>(h (o.less f n)).mono fun p v ⟨M,g,i,j,k,q⟩=>⟨M,g,i,j,k,by unfold Lf at *;omega⟩
section
variable {E : Bs} {W : World} {L M : List Mb} {l x y : Int} {R R' : List Rwx} {m m' : Int}
theorem qr.len(h:qr E W L l x R m):L.length<=25000/\ -100000<=l/\l<=100000:=by
 obtain⟨_,a,b,c,d⟩:=h;omega
theorem qr.next(h:qr E W L l x R m){w:A1}(a:Bd E w (L++M) (l-M.length) y R')(i:y<=x+900)(c:0<=m'/\m'+1<=m)(b: -20000+12*m'<=l-M.length):qr E w (L++M) (l-M.length) y R' m':=by
 obtain⟨_,d,e,f,g⟩:=h;exact⟨a,by rw[aC];simp;omega,b,by omega,⟨c.1,by omega⟩⟩
theorem Bd.newI(h:Bd E W L l x R)(ks:List Int)(b:ks.length<=100)(n:Nat)(a:ks.length=n):Bd E (W.alloc (A4 (ks.map (Q O)).toArray 3)) L l x (⟨3,T (Y ⟨W.heap.size,0,Z⟩) n n,ks.map (Q O)⟩::R):=by
 subst a;refine h.new toI _ _ rfl ?_ rfl;have:=Cl (base:=E.base) (e:=3) (size:=1) W (ks.map (Q O)).toArray ks.length h.lt.2.2.1 (by unfold B3;omega) (by simp);simpa using this
theorem afp{a:A1}{z:Mb}{s c d:Int}{r:Int}(i:d-400<=x)(h:Bd E a (L++M++[z]) (l-M.length-1) (d-400) R)(e:A0 E.base W a)(f:Lf s c l (l-M.length-1))(g:r=(L.length:Int)+M.length:=by simp):Ans E W L l x R s c (X (V O r)) a:=by
 subst g;have b:l-((M++[z]).length:Nat)=l-M.length-1:=by simp;omega
 refine⟨M++[z],by simp,by congr 2;simp;omega,?_,e,?_⟩
 ·rw[b,<-cI];exact h.wide i
 ·rw[b];exact f
theorem Bd.last(h:Bd E W (L++M) l x R)(f:0<M.length):∃(k g cap:Nat) (y:Mb),k+1=L.length+M.length/\W.cell? ⟨E.bb,1,Z⟩=Y (T (Y ⟨g,0,Z⟩) (k+1) cap)/\W.cell? ⟨g,k*9,Z⟩=Y (V O y.N.k):=by
 obtain⟨j,c,a⟩:=h.row;have d:(L++M).length=L.length+M.length:=aC;obtain⟨y,e⟩:∃y,(L++M)[L.length+M.length-1]?=Y y:=⟨_,aI (by omega)⟩;rcases bq a with⟨i,rfl⟩|⟨g,cap,rfl⟩
 ·omega
 ·refine⟨L.length+M.length-1,g,cap,y,by omega,?_,?_⟩
  ·rw[az _ _ _ _ _ _ c,d,show L.length+M.length-1+1=L.length+M.length by omega];rfl
  ·obtain⟨b,_⟩:=mD a e;exact b
end
theorem ag9{d me m ce:Int}(ad:0<=me/\me+1<=m)(F:0<=ce/\ce<=4000)(p:FB 115 d me 1 ce):FB 150 d m 2 (ce+1):=by
 intro E W L l x R a;have o:qr E W L l x R me:=⟨a.bd,a.sum,by have:=a.lo;omega,by have:=a.hx;omega,by have:=a.m0;omega⟩;have j:=p o;go_in;go_wp2_with fail;refine j.mono ?_;rintro z w1 ⟨M,g,rfl,c,h,q⟩;have J:=a.len;have ak:=a.sum;have K:=a.lo;have af:=a.m0;unfold Lf at q;obtain⟨k,B,v,y,I,u,n⟩:=c.last g;have e:((L.length:Int)+M.length-1)=(k:Int):=by omega
 rw[e];have b:=dx c h;clear c h j;have G:(0:Int)<=(k:Int):=by omega
 have H:(k:Int)<((k+1:Nat):Int):=by omega
 have C:(M.length:Int)<=22000:=by omega
 by_cases i:y.N.k=27
 ·rw[i]at n;have s:=b.out.1.newI [(k:Int)] (by simp) 1 rfl;have t:=abB (k:=37) s (by omega) (by decide) (by simp) (fun an e=>by rw[List.mem_singleton.1 e];omega) (by rw[aC];omega);go_wp2_with fail;refine cd t fun am f=>?_;go_wp2_with fail;go_ret;exact afp (by omega) f.1 ((b.out.2.trans ((bel1 w1 _).mono b.out.1.lt.2.2.1)).trans f.2) (by unfold Lf;omega)
 ·have A:(y.N.k==27)=A5:=by simpa using i
  go_wp2_with fail;go_ret;exact⟨M,g,congrArg (fun r=>Ending.returned (V O r)) (show(k:Int)=_ by omega),b.out.1,b.out.2,by unfold Lf;omega⟩
theorem ah1:(Tryz.prog.info? 3).map (fun i=>(i.zero,i.size,i.bytes))=Y (Y (V O 0),1,8):=by kernel_rfl
section
variable {E : Bs} {W : World} {L : List Mb} {l x : Int} {R : List Rwx}
theorem Bd.formI{v:A2}{ks:List Int}(h:Bd E W L l x (⟨3,v,ks.map (Q O)⟩::R)):∃a c,v= T a ks.length c:=by
 have b:=(h.rows _ cH).2;simp only[dv]at b;exact bI b
theorem qD{n:Array Oper}{o:List Oper}{e:Oper}{a:Act}{g:Exit->Act->A1->Prop}{v:A2}{m:Nat}{ks:List Int}(z:e.guard=Z)(s y:Operand)
  (F:e.op= .call {callee:= .builtin .append,args:=#[s,y],argTypes:=#[33,33]}) (h:Bd E W L l x (⟨3,v,ks.map (Q .i64)⟩::R)) (G:a.eval s=v) (t:Int) {w0:A1}(H:W=w0.alloc (.cells #[.int .i64 t] 3)) (I:a.eval y= .slice (Y ⟨w0.heap.size,0,Z⟩) 1 1) (C:ks.length=m) (an:m<=1000)
  (k:∀b c w1,Bd E w1 L l x (⟨3,.slice b (m+1) c,(ks++[t]).map (Q .i64)⟩::R)->A0 E.base W w1->wpList U n g o (a.put e.dst (.slice b (m+1) c)) w1):
  wpList U n g (e::o) a W:=by
 subst C;obtain⟨af,B,J,K,ad⟩:=dC ah1;have j:=(h.rows _ cH).2;simp only[dv]at j;refine Br _ z s y 33 F E.base 3 af _ 1 8 Tryz.underlying33 B J K ad rfl (by decide) v _ _ G j ⟨w0.heap.size,0,Z⟩ 1 1 [.int .i64 t] I (by simp) (A8 (cs:=#[.int .i64 t]) (by rw[H];exact aw w0 _)) (by simp[Value.oneCell']) (by unfold B3;omega) (by omega) h.lt.2.2.1 ?_;intro ao w1 i u _ p;obtain⟨b,c,rfl⟩:=bI i;have A:∀d,(B4 b (ks.length+1) c).ownBlock=Y d->v.ownBlock=Y d\/W.heap.size<=d:=fun d f=>by
  rcases p with q|q
  ·exact .inl (q ▸ f)
  ·rw[q]at f;cases f;exact .inr (ah _)
 obtain⟨ak,am⟩:=h.hot (r':=⟨3,.slice b (ks.length+1) c,(ks++[t]).map (Q .i64)⟩) u toI (by simpa using i) A;exact k b c w1 ak am
end
def Pl(ks:List Int):Prop:=∀a∈ks,0<=a/\a<=100000
theorem Pl.add{ks:List Int}(h:Pl ks){z:Int}(a:0<=z)(b:z<=100000):Pl (ks++[z]):=fun y hy=>by
 rcases List.mem_append.1 hy with hy|hy
 ·exact h y hy
 ·rw[List.mem_singleton.1 hy];exact⟨a,b⟩
def akw(E:Bs)(W:A1)(L:List Mb)(l x:Int)(R:List Rwx)(n:Nat)(s c:Int)(e:Ending)(f:A1):Prop:=
 ∃(M:List Mb) (a:List Int) (b:Option Addr) (d:Nat),e= X (T b n d)/\a.length=n/\Pl a/\Bd E f (L++M) (l-M.length) x (⟨3,T b n d,a.map (Q O)⟩::R)/\A0 E.base W f/\Lf s c l (l-M.length)
theorem abC{d me m ce:Int}(an:0<=me/\me+1<=m)(a5:0<=ce/\ce<=4000)(ad:FB 115 d me 1 ce){E:Bs}{W:A1}{L:List Mb}{l x:Int}{R:List Rwx}(h:qr E W L l x R m)(n:Nat)(bl:n<=8):
  A3 U 113 #[bV E,V O n,V O d] W (akw E W L l x R n n (ce+n)):=by
 have a9:=h.len;have F:=h.sum;have bb:=h.lo;have bf:=h.m0;have bn:=h.hx;go_in;go_wp2_with fail;go_loopw [1,7] (fun u a0 wr=>∃(b a:Nat) (M:List Mb) (c:List Int),u= V O b/\b+a=n/\c.length=a/\Pl c/\Bd E wr (L++M) (l-M.length) x (⟨3,a0,c.map (Q O)⟩::R)/\A0 E.base W wr/\Lf a (ce+a) l (l-M.length)) (fun u _ _=>(A6 u).toNat)
 case atStart=>exact⟨n,0,[],[],rfl,rfl,rfl,fun bo F=>(by cases F),by simpa using h.bd.nil toI,aj _ _,by unfold Lf;simp;omega⟩
 case round=>
  obtain⟨b,a,M,c,rfl,B,s,t,e,q,A⟩:=hrel;have a8:b<=n:=by omega
  have a6:a<=n:=by omega
  have H:=aq A;unfold Lf at A;have C:qr E wr (L++M) (l-M.length) x _ me:=h.next e (by omega) an (by omega)
  by_cases a7:0<b
  ·have G:=ad C;have k:=tI B t q s;clear B t q e;go_wp2_with fail;refine G.mono ?_;rintro o w1 ⟨f,a4,rfl,v,z,ak⟩;unfold Lf at ak;have ao:=C.sum;have j:=dx v z;clear v z G;obtain⟨i,g⟩:=aA (((L++M).length:Int)+f.length-1);rw[g];rw[aC]at g ao;have ap:0<=i:=by omega
   have ar:i<=100000:=by omega
   have a1:=aq g;clear g;go_wp2_with (at_builtin;refine qD rfl _ _ rfl (j.out.1.below (bel1 w1 _)) rfl i rfl rfl k.out.2.2.2 (by have:=k.out.1;omega) ?_;intro a2 a3 bp K af);go_roundw
   case rel=>
    have p:=k.out;have am:=j.out.1.lt;have o:l-((M++f).length:Nat)=l-M.length-f.length:=by simp;omega
    refine⟨b-1,a+1,M++f,c++[i],by go_num,by omega,by rw[aC,p.2.2.2];rfl,p.2.1.add ap ar,?_,((p.2.2.1.trans j.out.2).trans ((bel1 w1 _).mono am.2.2.1)).trans af,?_⟩
    ·rw[o,<-cI];exact K
    ·rw[o];unfold Lf;omega
   case measure=>simp[A6];omega
  ·obtain rfl:b=0:=by omega
   obtain⟨I,J,rfl⟩:=e.formI;obtain rfl:a=n:=by omega
   rw[s]at e⊢;go_wp2_with fail;go_ret;exact⟨M,c,I,J,rfl,s,t,e,q,H.out⟩
section
variable {E : Bs} {W : World} {L : List Mb} {l x : Int} {R : List Rwx}
theorem Bd.intAt{r:Rwx}{a:Option Addr}{n d:Nat}{ks:List Int}(h:Bd E W L l x (r::⟨3,T a n d,ks.map (Q O)⟩::R))(f:ks.length=n){i:Nat}(o:i<n):∃g z,a=Y ⟨g,0,Z⟩/\ks[i]?=Y z/\W.cell? ⟨g,i,Z⟩=Y (V O z):=by
 have b:=(h.rows _ (dJ _ cH)).2;simp only[dv,f]at b;obtain⟨z,c⟩:∃z,ks[i]?=Y z:=⟨_,aI (by omega)⟩;rcases bq b with⟨k,_⟩|⟨g,j,e⟩
 ·omega
 ·cases e;refine⟨g,z,rfl,c,?_⟩;rw[b.cellAt i (by omega),cj,c];rfl
end
theorem aha{d mb me m cb ce:Int}(ck:0<=mb/\mb+1<=m/\0<=me/\me+2<=m)(b6:0<=ce/\ce<=cb/\cb<=4000)(b7: -100<=d/\d<=100)(bb:FB 150 (d-1) mb 2 cb)(bl:FB 115 (d-1) me 1 ce):vG 110 d m 5 (cb+5):=by
 intro E W L l x R c;have ca:=c.len;have ao:=c.sum;have cc:=c.lo;have cl:=c.m0;have cn:=c.hx;have a9:qr E W L l x R mb:=⟨c.bd,c.sum,by omega,by omega,by omega⟩;have ar:=bb a9;have cm:IntKind.i64.wrap (d-1)=d-1:=by rw[cJ];omega
 go_in;go_wp2_with fail;refine ar.mono ?_;rintro i w1 ⟨a,b5,rfl,j,J,bo⟩;unfold Lf at bo;obtain⟨o,A⟩:=aA ((L.length:Int)+a.length-1);rw[A];have bw:0<=o/\o<=100000:=by omega
 have an:=j.newI [o] (by simp) 1 rfl;have af:A0 E.base W (w1.alloc (A4 ([o].map (Q O)).toArray 3)):=J.trans ((bel1 w1 _).mono j.lt.2.2.1);have b1:=j.c0;have cf:=j.lt;have a1:=mI an 3 (by decide) (by decide) (by rw[aC];omega) (by omega);have a4:=dx af A;clear an af j J ar A;go_wp2_with fail;refine a1.mono ?_;rintro i bF ⟨n,bD,co,rfl,F,_,K⟩;obtain⟨n,rfl⟩:=ir bD;have p2:qr E bF (L++a) (l-a.length) (x+1) _ (m-1):=c.next F (by omega) (by omega) (by omega)
 have a0:=abC (m:=m-1) (by omega) (by omega) bl p2 n (by omega);have a3:=aq (a4.out.1.trans K);clear F K a1;go_wp2_with fail;refine a0.mono ?_;rintro i cr ⟨f,bA,a5,a8,rfl,ak,am,G,ad,bp⟩;unfold Lf at bp;have bt:=p2.sum;have H:=G.swap;have s:=gD H (a3.out.trans ad) am;clear G ad a0 H p2 am;rw[aC]at bt;go_wp2_with fail;go_loopw [6,25] (fun bE B wr=>∃(b:Nat) (e:List Int),B= V O b/\b<=n/\e.length=b+1/\Pl e/\Bd E wr (L++a++f) (l-a.length-f.length) (x+1) (⟨3,bE,e.map (Q O)⟩::⟨3,T a5 n a8,bA.map (Q O)⟩::R)/\A0 E.base W wr) (fun _ B _=>n-(A6 B).toNat)
 case atStart=>exact⟨0,[o],rfl,be _,rfl,fun y z=>by rw[List.mem_singleton.1 z];exact bw,s.out.1,s.out.2.1⟩
 case round=>
  obtain⟨b,e,rfl,b9,u,v,g,q⟩:=hrel;by_cases br:b<n
  ·obtain⟨b4,y,rfl,z,b3⟩:=g.intAt ak br;have ap:=s.out.2.2 y (bC z);have b8:(0:Int)<=(b:Int):=by omega
   have bs:(b:Int)<(n:Int):=by omega
   have h:=tI g q v u;clear g q v u;go_wp2_with (at_builtin;refine qD rfl _ _ rfl (h.out.1.below (bel1 wr _)) rfl y rfl rfl h.out.2.2.2 (by omega) ?_;intro b0 b2 cs bf bn);go_roundw
   case rel=>
    have p:=h.out;exact⟨b+1,e++[y],by go_num,by omega,by rw[aC,p.2.2.2];rfl,p.2.2.1.add ap.1 ap.2,bf,(p.2.1.trans ((bel1 wr _).mono p.1.lt.2.2.1)).trans bn⟩
   case measure=>simp[A6];omega
  ·obtain⟨a6,a7,rfl⟩:=g.formI;have bs:¬(b:Int)<(n:Int):=by omega
   have i:l-((a++f).length:Nat)=l-a.length-f.length:=by simp;omega
   have I:Bd E wr (L++(a++f)) (l-((a++f).length:Nat)) (x+1) (⟨9,T Z 0 0,([]:List ByteArray).map Ax⟩::⟨3,T a6 e.length a7,e.map (Q O)⟩::R):=by
    rw[i,<-cI];exact(g.swap.drop).nil EJ
   have bx:=AJ (k:=34) (op:=0) (n:=0) (t:=⟨#[]⟩) I (by omega) (mw (by decide) (by decide) (by decide) (by decide) (by decide) (fun cq ao=>by cases ao) (by omega) v) (by simp;omega);have h:=aq q;clear g q I u ak;go_wp2_with fail;refine cd bx fun ct C=>?_;go_wp2_with fail;go_ret;exact afp (by omega) C.1 (h.out.trans C.2) (by unfold Lf;rw[i];omega)
structure At (E:Bs) (W:A1) (L:List Mb) (l x:Int) (w:A1) (M:List Mb) (y:Int) (R:List Rwx):Prop where
 bd:Bd E w (L++M) (l-M.length) y R
 bel:A0 E.base W w
 hy:y<=x+600
 lo: -20000<=l-M.length
section
variable {E : Bs} {W w : World} {L M : List Mb} {l x y : Int} {R R' : List Rwx} {m : Int}
theorem qr.at(p:qr E W L l x R m):At E W L l x W [] x R:=⟨by simpa using p.bd,aj _ _,by omega,by have:=p.lo;have:=p.m0;simp;omega⟩
theorem At.len(p:qr E W L l x R m)(a:At E W L l x w M y R'):(L++M).length<=25000/\(-100000<=l-M.length/\l-M.length<=100000)/\y<=5000000/\L.length+M.length<=25000:=by
 have b:=p.sum;have c:=a.lo;have d:=a.hy;have e:=p.hx;have f:=p.m0;rw[aC];omega
theorem At.low(a:At E W L l x w M y R'):E.base<=w.heap.size:=a.bd.lt.2.2.1
theorem At.c0(a:At E W L l x w M y R'):w.cell? ⟨E.bb,0,Z⟩=Y (cV E):=a.bd.c0
theorem At.c2(a:At E W L l x w M y R'):w.cell? ⟨E.bb,2,Z⟩=Y (V O (l-M.length)):=a.bd.c2
theorem At.pick(p:qr E W L l x R m)(a:At E W L l x w M y R')(i:y+1<=x+600)(k:Int)(f:2<=k)(g:k<=200):
  A3 U 58 #[cV E,V O k] w fun e b=>∃z:Int,e= X (V O z)/\(0<=z/\z<k)/\At E W L l x b M (y+1) R':=by
 have h:=a.len p;refine(mI a.bd k f g h.1 (by omega)).mono ?_;rintro e b ⟨z,z0,j,rfl,c,_,d⟩;exact⟨z,rfl,⟨z0,j⟩,c,a.bel.trans d,i,a.lo⟩
theorem At.short(p:qr E W L l x R m)(a:At E W L l x w M y R')(h:y+1<=x+600):
  A3 U 151 #[bV E] w fun e b=>∃s:ByteArray,e= X (A9 s)/\s.size<=16/\At E W L l x b M (y+1) R':=by
 have f:=a.len p;refine(Hd a.bd f.1 (by omega)).mono ?_;rintro e b ⟨s,g,rfl,c,d⟩;exact⟨s,rfl,g,c,a.bel.trans d,h,a.lo⟩
theorem At.names(p:qr E W L l x R m)(a:At E W L l x w M y R')(n:Nat)(i:n<=8)(k:y+n<=x+600):
  A3 U 112 #[bV E,V O n] w fun e f=>∃(v:Option Addr) (c:Nat) (nm:List ByteArray),e= X (T v n c)/\nm.length=n/\(∀s∈nm,s.size<=16)/\At E W L l x f M (y+n) (⟨9,T v n c,nm.map Ax⟩::R'):=by
 have h:=a.len p;refine(ahK a.bd n i h.1 (by omega)).mono ?_;rintro e f ⟨v,c,nm,rfl,d,j,b,g⟩;rw[d]at b⊢;exact⟨v,c,nm,rfl,d,j,b,a.bel.trans g,k,a.lo⟩
theorem At.newI(a:At E W L l x w M y R')(ks:List Int)(b:ks.length<=100)(n:Nat)(c:ks.length=n):At E W L l x (w.alloc (A4 (ks.map (Q O)).toArray 3)) M y (⟨3,T (Y ⟨w.heap.size,0,Z⟩) n n,ks.map (Q O)⟩::R'):=
 ⟨a.bd.newI ks b n c,a.bel.trans ((bel1 w _).mono a.low),a.hy,a.lo⟩
theorem At.nil(a:At E W L l x w M y R'){t:A7}(b:TO t):At E W L l x w M y (⟨t,T Z 0 0,[]⟩::R'):=⟨a.bd.nil b,a.bel,a.hy,a.lo⟩
theorem At.swap{r b:Rwx}(a:At E W L l x w M y (r::b::R')):At E W L l x w M y (b::r::R'):=⟨a.bd.swap,a.bel,a.hy,a.lo⟩
theorem At.drop{r:Rwx}(a:At E W L l x w M y (r::R')):At E W L l x w M y R':=⟨a.bd.drop,a.bel,a.hy,a.lo⟩
theorem At.below{c:A1}(a:At E W L l x w M y R')(b:A0 w.heap.size w c):At E W L l x c M y R':=⟨a.bd.below b,a.bel.trans (b.mono a.low),a.hy,a.lo⟩
theorem E2{M1:List Mb}(h:Bd E w (L++M++M1) (l-M.length-M1.length) y R'):Bd E w (L++(M++M1)) (l-((M++M1).length:Nat)) y R':=by
 have a:l-((M++M1).length:Nat)=l-M.length-M1.length:=by simp;omega
 rw[a,<-cI];exact h
theorem At.sub(p:qr E W L l x R m)(a:At E W L l x w M y R'){h:FuncId}{d m' s c:Int}(hF:FB h d m' s c)(u:1<=m'/\m'+1<=m)(q: -20000+12*m'<=l-M.length)(C:s<=12/\c<=4000):
  A3 U h #[bV E,V O d] w fun e j=>∃(f:List Mb) (z:Int),e= X (V O z)/\(0<=z/\z<=100000)/\M.length<f.length/\At E W L l x j f y R'/\Lf s c (l-M.length) (l-f.length):=by
 have B:=a.len p;have G:=p.hx;have H:=a.hy;have v:qr E w (L++M) (l-M.length) y R' m':=⟨a.bd,by have:=p.sum;rw[aC];simp;omega,q,by omega,⟨by omega,by have:=p.m0;omega⟩⟩;refine(hF v).mono ?_;rintro e j ⟨b,A,rfl,k,n,i⟩;have g:l-((M++b).length:Nat)=l-M.length-b.length:=by simp;omega
 have o:=i;unfold Lf at o;have t: -20000<=l-M.length-b.length:=by
  have:=u.1;omega
 have F:=p.sum;refine⟨M++b,_,rfl,⟨by omega,by rw[aC];simp;omega⟩,by rw[aC];omega,⟨E2 k,a.bel.trans n,a.hy,by rw[g];exact t⟩,by rw[g];exact i⟩
theorem At.add(p:qr E W L l x R m){k op n:Int}{t:ByteArray}{nm:List ByteArray}{ks:List Int}{an b:Option Addr}{mn cn mk ck:Nat}(a:At E W L l x w M y (⟨9,T an mn cn,nm.map Ax⟩::⟨3,T b mk ck,ks.map (Q O)⟩::R))(h:Je (dN k op n t nm ks)){x2:Int}(o:y<=x2+400){s c:Int}(j:Lf s c l (l-M.length-1)):
  A3 U 114 #[bV E,.agg #[V O k,V O 0,V O 0,V O 0,V O op,V O n,A9 t,T an mn cn,T b mk ck]] w fun e f=>∃z:Int,e= X (V O z)/\Ans E W L l x2 R s c (X (V O z)) f:=by
 have d:=a.len p;refine(AJ a.bd d.2.1 h d.1).mono ?_;rintro e f ⟨rfl,g,i⟩;exact⟨_,rfl,afp (by omega) g (a.bel.trans i) j⟩
theorem At.addM(p:qr E W L l x R m){k op n:Int}{t:ByteArray}{nm:List ByteArray}{ks:List Int}{an c:Option Addr}{mn cn mk ck:Nat}(a:At E W L l x w M y (⟨9,T an mn cn,nm.map Ax⟩::⟨3,T c mk ck,ks.map (Q O)⟩::R'))(i:Je (dN k op n t nm ks))(o: -20000<=l-M.length-1):
  A3 U 114 #[bV E,.agg #[V O k,V O 0,V O 0,V O 0,V O op,V O n,A9 t,T an mn cn,T c mk ck]] w fun e f=>∃(b:List Mb) (z:Int),e= X (V O z)/\(0<=z/\z<=100000)/\b.length=M.length+1/\At E W L l x f b (y-400) R':=by
 have d:=a.len p;refine(AJ a.bd d.2.1 i d.1).mono ?_;rintro e f ⟨rfl,h,j⟩;have g:∀z:Mb,l-((M++[z]).length:Nat)=l-M.length-1:=fun z=>by simp;omega
 exact⟨M++[_],_,rfl,⟨by omega,by omega⟩,by simp,⟨E2 (M1:=[_]) (by simpa using h),a.bel.trans j,by have:=a.hy;omega,by rw[g];exact o⟩⟩
theorem At.kids(p:qr E W L l x R m){k:Int}{ks:List Int}{b:Option Addr}{mk ck:Nat}(a:At E W L l x w M y (⟨3,T b mk ck,ks.map (Q O)⟩::R))(o:0<=k/\k<=1000)(g:ks.length<=64)(h:Pl ks){x2:Int}(q:y<=x2+400){s c:Int}(n:Lf s c l (l-M.length-1)):
  A3 U 111 #[bV E,V O k,T b mk ck] w fun e f=>∃z:Int,e= X (V O z)/\Ans E W L l x2 R s c (X (V O z)) f:=by
 have d:=a.len p;refine(abB a.bd d.2.1 o g h d.1).mono ?_;rintro e f ⟨rfl,i,j⟩;exact⟨_,rfl,afp (by omega) i (a.bel.trans j) n⟩
theorem At.kidsM(p:qr E W L l x R m){k:Int}{ks:List Int}{c:Option Addr}{mk ck:Nat}(a:At E W L l x w M y (⟨3,T c mk ck,ks.map (Q O)⟩::R'))(o:0<=k/\k<=1000)(h:ks.length<=64)(i:Pl ks)(q: -20000<=l-M.length-1):
  A3 U 111 #[bV E,V O k,T c mk ck] w fun e f=>∃(b:List Mb) (z:Int),e= X (V O z)/\(0<=z/\z<=100000)/\b.length=M.length+1/\At E W L l x f b (y-400) R':=by
 have d:=a.len p;refine(abB a.bd d.2.1 o h i d.1).mono ?_;rintro e f ⟨rfl,j,n⟩;have g:∀z:Mb,l-((M++[z]).length:Nat)=l-M.length-1:=fun z=>by simp;omega
 exact⟨M++[_],_,rfl,⟨by omega,by omega⟩,by simp,⟨E2 (M1:=[_]) (by simpa using j),a.bel.trans n,by have:=a.hy;omega,by rw[g];exact q⟩⟩
theorem At.exprs(p:qr E W L l x R m)(a:At E W L l x w M y R'){d me mx ce:Int}(k:FB 115 d me 1 ce)(F:0<=me/\me+1<=mx/\mx+1<=m)(B:0<=ce/\ce<=3900)(t: -20000+12*mx<=l-M.length)(n:Nat)(u:n<=8):
  A3 U 113 #[bV E,V O n,V O d] w fun e i=>∃(b:List Mb) (ks:List Int) (v:Option Addr) (c:Nat),e= X (T v n c)/\ks.length=n/\Pl ks/\M.length<=b.length/\At E W L l x i b y (⟨3,T v n c,ks.map (Q O)⟩::R')/\Lf n (ce+n) (l-M.length) (l-b.length):=by
 have C:=a.len p;have G:=p.hx;have H:=a.hy;have z:qr E w (L++M) (l-M.length) y R' mx:=⟨a.bd,by have:=p.sum;rw[aC];simp;omega,t,by omega,⟨by omega,by have:=p.m0;omega⟩⟩;refine(abC (m:=mx) (by omega) (by omega) k z n u).mono ?_;rintro e i ⟨f,ks,v,c,rfl,s,A,j,o,h⟩;have g:l-((M++f).length:Nat)=l-M.length-f.length:=by simp;omega
 have q:=h;unfold Lf at q;exact⟨M++f,ks,v,c,rfl,s,A,by rw[aC];omega,⟨E2 j,a.bel.trans o,a.hy,by rw[g];omega⟩,by rw[g];exact h⟩
end
theorem w1{d:Int}(a: -1000<=d/\d<=1000):IntKind.i64.wrap (d-1)=d-1:=by rw[cJ];omega
theorem Jf{z:Int}(h:0<=z/\z<=100000):Pl [z]:=fun y a=>by rw[List.mem_singleton.1 a];exact h
theorem pl2{z y:Int}(h:0<=z/\z<=100000)(k:0<=y/\y<=100000):Pl [z,y]:=fun b a=>by
 simp at a;rcases a with rfl|rfl
 ·exact h
 ·exact k
theorem ur:∀s∈([]:List ByteArray),s.size<=16:=fun s a=>by cases a
theorem fnB{d mk m ck:Int}(G:1<=mk/\mk+1<=m)(ao:0<=ck/\ck<=3900)(F: -1000<=d/\d<=1000)(C:FB 119 (d-1) mk 1 ck):vG 116 d m 2 (ck+1):=by
 intro E W L l x R a;have ak:=a.at.c0;have a0:=w1 F;have ap:=a.lo;have ar:=a.m0;have i:=a.at.pick a (by omega) 3 (by decide) (by decide);go_in;go_wp2_with fail;refine i.mono ?_;rintro b w1 ⟨n,rfl,H,q⟩;obtain⟨n,rfl⟩:=ir H.1;have j:=q.names a n (by omega) (by omega);clear i;go_wp2_with fail;refine j.mono ?_;rintro b a8 ⟨a7,c,a6,rfl,g,h,u⟩;have o:=u.sub a C G (by simp;omega) (by omega);have e:=dx g h;clear j g h;go_wp2_with fail;refine o.mono ?_;rintro b a9 ⟨af,ad,rfl,I,an,f,A⟩;have am:=f.c0;have p:=f.pick a (by omega) 2 (by decide) (by decide);clear o;go_wp2_with fail;refine p.mono ?_;rintro b bb ⟨K,rfl,av,v⟩;have z:=(v.newI [ad] (by simp) 1 rfl).swap;have J:=z.add a (k:=36) (op:=K) (n:=0) (t:=⟨#[]⟩) (x2:=x-100) (s:=2) (c:=ck+1) (mw (by decide) (by omega) (by decide) (by decide) (by rw[e.out.1];omega) e.out.2 (by simp) (Jf I)) (by omega) (by unfold Lf at *;simp at A;omega);clear p;go_wp2_with fail;refine J.mono ?_;rintro b bd ⟨bf,rfl,B⟩;go_wp2_with fail;go_ret;exact B
theorem afq{d mb me m cb ce:Int}(z:(1<=mb/\mb+1<=m)/\1<=me/\me+1<=m)(a6:0<=ce/\ce<=cb/\cb<=3900)(af: -1000<=d/\d<=1000)(J:FB 150 (d-1) mb 2 cb)(K:FB 115 (d-1) me 1 ce):FB 117 d m 4 (cb+3):=by
 intro E W L l x R a;have av:=a.at.c0;have bb:=w1 af;have a7:=a.lo;have a8:=a.m0;have A:=a.at.pick a (by omega) 4 (by decide) (by decide);go_in;go_wp2_with fail;refine A.mono ?_;rintro b w1 ⟨n,rfl,a9,v⟩;have i:=v.sub a J z.1 (by simp;omega) (by omega);clear A;rcases(show n=0\/n=1\/(n≠0/\n≠1) by omega) with rfl|rfl|⟨G,H⟩
 ·go_wp2_with fail;refine i.mono ?_;rintro b ao ⟨F,u,rfl,p,ad,o,g⟩;unfold Lf at g;simp at g;have e:=o.sub a K z.2 (by omega) (by omega);clear i;go_wp2_with fail;refine e.mono ?_;rintro b B ⟨ar,ap,rfl,an,a5,f,I⟩;unfold Lf at I;have j:=(f.newI [u,ap] (by simp) 2 rfl).kids a (k:=32) (x2:=x) (s:=4) (c:=cb+3) (by decide) (by simp) (pl2 p an) (by omega) (by unfold Lf;omega);clear e;go_wp2_with fail;refine j.mono ?_;rintro b C ⟨q,rfl,h⟩;go_wp2_with fail;go_ret;exact h
 ·go_wp2_with fail;refine i.mono ?_;rintro b ao ⟨F,u,rfl,p,ad,o,g⟩;unfold Lf at g;simp at g;have e:=o.short a (by omega);clear i;go_wp2_with fail;refine e.mono ?_;rintro b B ⟨s,rfl,ak,f⟩;have j:=((f.newI [u] (by simp) 1 rfl).nil EJ).add a (k:=33) (op:=0) (n:=0) (t:=s) (nm:=[]) (x2:=x) (s:=4) (c:=cb+3) (mw (by decide) (by decide) (by decide) (by omega) (by decide) ur (by simp) (Jf p)) (by omega) (by unfold Lf;omega);clear e;go_wp2_with fail;refine j.mono ?_;rintro b C ⟨q,rfl,h⟩;go_wp2_with fail;go_ret;exact h
 ·have a0:(n==0)=A5:=by simpa using G
  have a4:(n==1)=A5:=by simpa using H
  have e:=v.short a (by omega);clear i;go_wp2_with fail;refine e.mono ?_;rintro b B ⟨s,rfl,ak,f⟩;have j:=((f.nil toI).nil EJ).add a (k:=26) (op:=0) (n:=0) (t:=s) (nm:=[]) (ks:=[]) (x2:=x) (s:=4) (c:=cb+3) (mw (by decide) (by decide) (by decide) (by omega) (by decide) ur (by simp) (fun q am=>by cases am)) (by omega) (by unfold Lf;simp;omega);clear e;go_wp2_with fail;refine j.mono ?_;rintro b C ⟨q,rfl,h⟩;go_wp2_with fail;go_ret;exact h
section
variable {E : Bs} {W w : World} {L M : List Mb} {l x y : Int} {R R' : List Rwx} {m : Int}
theorem At.formI{v:A2}{ks:List Int}(a:At E W L l x w M y (⟨3,v,ks.map (Q O)⟩::R')):∃b c,v= T b ks.length c:=a.bd.formI
theorem At.app{g:Array Oper}{i:List Oper}{d:Oper}{a:Act}{e:Exit->Act->A1->Prop}{v:A2}{n:Nat}{ks:List Int}(h:At E W L l x w M y (⟨3,v,ks.map (Q O)⟩::R'))(t:Int)(q:ks.length=n)(u:n<=1000)(p:d.guard=Z)(s z:Operand)
  (A:d.op= .call {callee:= .builtin .append,args:=#[s,z],argTypes:=#[33,33]}) (B:a.eval s=v) (C:a.eval z= T (Y ⟨w.heap.size,0,Z⟩) 1 1)
  (k:∀b c w1,At E W L l x w1 M y (⟨3,T b (n+1) c,(ks++[t]).map (Q O)⟩::R')->wpList U g e i (a.put d.dst (T b (n+1) c)) w1):
  wpList U g e (d::i) a (w.alloc (A4 #[V O t] 3)):=
 have f:=h.below (bel1 w (A4 #[V O t] 3))
 qD p s z A f.bd B t rfl C q u fun b c w1 j o=>k b c w1 ⟨j,f.bel.trans o,h.hy,h.lo⟩
end
theorem abD{d ms m cs:Int}(an:1<=ms/\ms+1<=m)(bb:0<=cs/\cs<=3900)(hS:FB 59 d ms 6 cs):vG 119 d m 1 (cs+1):=by
 intro E W L l x R b;have a6:=b.at.c0;have bf:=b.lo;have bl:=b.m0;have bn:=b.sum;have z:=(b.at.nil toI).pick b (by omega) 4 (by decide) (by decide);go_in;go_wp2_with fail;refine z.mono ?_;rintro j w1 ⟨n,rfl,ao,F⟩;obtain⟨n,rfl⟩:=ir ao.1;clear z;go_wp2_with fail;go_loopw [5,6] (fun ar u wr=>∃(a:Nat) (M:List Mb) (f:List Int),u= V O a/\f.length+a<=3/\Pl f/\At E W L l x wr M (x+1) (⟨3,ar,f.map (Q O)⟩::R)/\(l<5->M.length=0)/\(5<=l->5-cs<=l-M.length)) (fun _ u _=>(A6 u).toNat)
 case atStart=>exact⟨n,[],[],rfl,by simp;omega,(fun A ap=>by cases ap),F,fun _=>rfl,fun a8=>by simp;omega⟩
 case round=>
  obtain⟨a,M,f,rfl,q,h,g,K,ad⟩:=hrel;have I:=g.c2;have bd:a<=3:=by omega
  by_cases p:0<a/\5<l-M.length
  ·have af:(0:Int)<(a:Int):=by omega
   have am:=p.2;have e:=g.sub b hS an (by omega) (by omega);have i:=dx q h;clear q h;go_wp2_with fail;refine e.mono ?_;rintro j bo ⟨C,B,rfl,v,a9,G,J⟩;unfold Lf at J;clear e I;go_wp2_with (at_builtin;refine G.app B rfl (by have:=i.out.1;omega) rfl _ _ rfl rfl rfl ?_;intro a4 a7 bp H);go_roundw
   case rel=>exact⟨a-1,C,f++[B],by go_num,by have:=i.out.1;simp;omega,i.out.2.add v.1 v.2,H,by omega,by omega⟩
   case measure=>simp[A6];omega
  ·obtain⟨a5,c,rfl⟩:=g.formI;have e:=(g.nil EJ).add b (k:=1) (op:=0) (n:=0) (t:=⟨#[]⟩) (nm:=[]) (x2:=x-100) (s:=1) (c:=cs+1) (mw (by decide) (by decide) (by decide) (by decide) (by decide) ur (by omega) h) (by omega) (by unfold Lf;omega);clear h q K ad;by_cases af:0<a
   ·have ak:(0:Int)<(a:Int):=by omega
    have am:¬5<l-M.length:=by omega
    clear p;go_wp2_with fail;refine e.mono ?_;rintro j a0 ⟨A,rfl,o⟩;go_wp2_with fail;go_ret;exact o
   ·have ak:¬(0:Int)<(a:Int):=by omega
    clear p;go_wp2_with fail;refine e.mono ?_;rintro j a0 ⟨A,rfl,o⟩;go_wp2_with fail;go_ret;exact o
theorem ah2{d me m ce:Int}(ar:1<=me/\me+1<=m)(b8:0<=ce/\ce<=3900)(bo: -1000<=d/\d<=1000)(ao:FB 115 (d-1) me 1 ce):vG 153 d m 10 (ce+12):=by
 intro E W L l x R a;have b2:=a.at.c0;have cm:=w1 bo;have cb:=a.lo;have cc:=a.m0;have cl:=a.sum;have a0:=(a.at.nil toI).pick a (by omega) 4 (by decide) (by decide);go_in;go_wp2_with fail;refine a0.mono ?_;rintro g w1 ⟨n,rfl,br,a9⟩;obtain⟨n,rfl⟩:=ir br.1;clear a0;go_wp2_with fail;go_loopw [5,6] (fun bx K wr=>∃(e:Nat) (M:List Mb) (f:List Int) (y:Int),K= V O e/\f.length+e=n/\y<=x+1/\Pl f/\At E W L l x wr M y (⟨3,bx,f.map (Q O)⟩::R)/\Lf (3*f.length) (ce+3*f.length) l (l-M.length)) (fun _ K _=>(A6 K).toNat)
 case atStart=>exact⟨n,[],[],x+1,rfl,by simp,by omega,(fun bD bs=>by cases bs),a9,by unfold Lf;simp;omega⟩
 case round=>
  obtain⟨e,M,f,y,rfl,z,cn,A,F,I⟩:=hrel;unfold Lf at I;obtain⟨bw,B⟩:=aA f.length;rw[B]at I z;have ca:e<=3/\bw<=3:=by omega
  by_cases b9:0<e
  ·have bp:(0:Int)<(e:Int):=by omega
   have C:=F.sub a ao ar (by omega) (by omega);have b:=gD z A B;clear z A B;go_wp2_with fail;refine C.mono ?_;rintro g co ⟨bF,af,rfl,J,b6,ak,bf⟩;unfold Lf at bf;have b3:=ak.c0;have a7:=ak.pick a (by omega) 3 (by decide) (by decide);clear C;go_wp2_with fail;refine a7.mono ?_;rintro g cp ⟨o,rfl,cf,G⟩;clear a7;rcases(show o=0\/o=1\/(o≠0/\o≠1) by omega) with rfl|rfl|⟨bb,bd⟩
   ·have i:=(G.newI [af] (by simp) 1 rfl).kidsM a (k:=40) (by decide) (by simp) (Jf J) (by omega);go_wp2_with fail;refine i.mono ?_;rintro g a8 ⟨p,j,rfl,h,ap,q⟩;clear i;go_wp2_with (at_builtin;refine q.app j rfl (by have:=b.out.2.2;omega) rfl _ _ rfl rfl rfl ?_;intro am an ad u);go_roundw
    case rel=>exact⟨e-1,p,f++[j],_,by go_num,by have:=b.out;simp;omega,by omega,b.out.2.1.add h.1 h.2,u,by unfold Lf;have:=b.out.2.2;simp;omega⟩
    case measure=>simp[A6];omega
   ·have i:=G.sub a ao ar (by omega) (by omega);go_wp2_with fail;refine i.mono ?_;rintro g bA ⟨b0,bE,rfl,bt,b7,H,bl⟩;unfold Lf at bl;have v:=(H.newI [af,bE] (by simp) 2 rfl).kidsM a (k:=41) (by decide) (by simp) (pl2 J bt) (by omega);clear i;go_wp2_with fail;refine v.mono ?_;rintro g a8 ⟨p,j,rfl,h,ap,q⟩;clear v;go_wp2_with (at_builtin;refine q.app j rfl (by have:=b.out.2.2;omega) rfl _ _ rfl rfl rfl ?_;intro am an ad u);go_roundw
    case rel=>exact⟨e-1,p,f++[j],_,by go_num,by have:=b.out;simp;omega,by omega,b.out.2.1.add h.1 h.2,u,by unfold Lf;have:=b.out.2.2;simp;omega⟩
    case measure=>simp[A6];omega
   ·have b4:(o==0)=A5:=by simpa using bb
    have b5:(o==1)=A5:=by simpa using bd
    have i:=G.short a (by omega);go_wp2_with fail;refine i.mono ?_;rintro g bA ⟨s,rfl,ck,H⟩;have v:=((H.newI [af] (by simp) 1 rfl).nil EJ).addM a (k:=42) (op:=0) (n:=0) (t:=s) (nm:=[]) (mw (by decide) (by decide) (by decide) (by omega) (by decide) ur (by simp) (Jf J)) (by omega);clear i;go_wp2_with fail;refine v.mono ?_;rintro g a8 ⟨p,j,rfl,h,ap,q⟩;clear v;go_wp2_with (at_builtin;refine q.app j rfl (by have:=b.out.2.2;omega) rfl _ _ rfl rfl rfl ?_;intro am an ad u);go_roundw
    case rel=>exact⟨e-1,p,f++[j],_,by go_num,by have:=b.out;simp;omega,by omega,b.out.2.1.add h.1 h.2,u,by unfold Lf;have:=b.out.2.2;simp;omega⟩
    case measure=>simp[A6];omega
  ·obtain⟨b1,c,rfl⟩:=F.formI;have bp:¬(0:Int)<(e:Int):=by omega
   have C:=(F.nil EJ).add a (k:=35) (op:=0) (n:=0) (t:=⟨#[]⟩) (nm:=[]) (x2:=x-100) (s:=10) (c:=ce+12) (mw (by decide) (by decide) (by decide) (by decide) (by decide) ur (by omega) A) (by omega) (by unfold Lf;omega);clear A z I B;go_wp2_with fail;refine C.mono ?_;rintro g ad ⟨bD,rfl,bn⟩;go_wp2_with fail;go_ret;exact bn
section
variable {E : Bs} {W w : World} {L M : List Mb} {l x y : Int} {R R' : List Rwx} {m : Int}
theorem At.tail(p:qr E W L l x R m)(a:At E W L l x w [] y R){b:FuncId}{d m' s c:Int}(hF:vG b d m' s c)(o:0<=m'/\m'+1<=m)(u:y<=x+100):
  A3 U b #[bV E,V O d] w fun e f=>∃z:Int,e= X (V O z)/\Ans E W L l x R s c (X (V O z)) f:=by
 have t:=p.hx;have i:Bd E w L l y R:=by simpa using a.bd
 have q:qr E w L l y R m':=⟨i,p.sum,by have:=p.lo;omega,by omega,⟨o.1,by have:=p.m0;omega⟩⟩;refine(hF q).mono ?_;rintro e f ⟨g,h,rfl,j,k,n⟩;exact⟨_,rfl,g,h,rfl,j.wide (by omega),a.bel.trans k,n⟩
end
theorem Dc{d:Int}(j:d<=0):FB 115 d 2 1 1:=by
 intro E W L l x R a;have g:=a.at.c0;have h:=a.bd.c2;have f:=ag8 (a.less (m':=1) (by decide) (by decide)) (by decide);go_in;go_wp2_with fail;refine f.mono ?_;rintro i w1 ⟨b,c,rfl,e⟩;go_wp2_with fail;go_ret;exact⟨b,c,rfl,e⟩
theorem ah3{d me mb mc m ce cb cc:Int}(bD:1<=d/\d<=1000)(ak:(1<=me/\me+1<=m)/\(1<=mb/\mb+1<=m)/\(1<=mc/\mc+1<=m))(bA:1<=ce/\ce<=cb/\cb<=cc/\cc<=3800)(a5:FB 115 (d-1) me 1 ce)(bt:FB 150 (d-1) mb 2 cb)
  (bb:vG 110 d mc 12 cc) (bx:vG 153 d mc 12 cc) (hF:vG 116 d mc 12 cc):FB 115 d m 1 (cc+3):=by
 intro E W L l x R a;have br:=a.at.c0;have bs:=a.bd.c2;have b5:=w1 (d:=d) (by omega);have b0:=a.lo;have b1:=a.m0;have b4:=a.sum;have bE:¬d<=0:=by omega
 by_cases bF:l<5
 ·have k:=ag8 (a.less (m':=1) (by decide) (by omega)) (by decide);go_in;go_wp2_with fail;refine k.mono ?_;rintro b w1 ⟨H,I,rfl,J,K,af⟩;go_wp2_with fail;go_ret;exact⟨H,I,rfl,J,K,by unfold Lf at *;omega⟩
 have bo:=a.at.pick a (by omega) 14 (by decide) (by decide);go_in;go_wp2_with fail;refine bo.mono ?_;rintro b w1 ⟨n,rfl,b2,ad⟩;clear bo br bs;have g:=ad.sub a a5 ak.1 (by simp;omega) (by omega);have p:=ad.sub a bt ak.2.1 (by simp;omega) (by omega);have v:=ad.sub a bb.weak ak.2.2 (by simp;omega) (by omega);have tC:=ad.tail a bb (by omega) (by omega);have B:=ad.tail a bx (by omega) (by omega);have A:=ad.tail a hF (by omega) (by omega);have bw:n=0\/n=1\/n=2\/n=3\/n=4\/n=5\/n=6\/n=7\/n=8\/n=9\/n=10\/n=11\/n=12\/n=13:=by omega
 rcases bw with rfl|rfl|rfl|rfl|rfl|rfl|rfl|rfl|rfl|rfl|rfl|rfl|rfl|rfl
 iterate 4
  ·clear p v tC B A;go_wp2_with fail;refine g.mono ?_;rintro b F ⟨am,u,rfl,i,ap,f,e⟩;unfold Lf at e;simp at e;have j:=f.sub a a5 ak.1 (by omega) (by omega);clear g;go_wp2_with fail;refine j.mono ?_;rintro b a6 ⟨a7,a0,rfl,ar,bf,z,ao⟩;unfold Lf at ao;have a8:=z.c0;have C:=z.pick a (by omega) 18 (by decide) (by decide);clear j;go_wp2_with fail;refine C.mono ?_;rintro b bp ⟨q,rfl,bl,an⟩;have bn:IntKind.i64.wrap (1+q)=1+q:=by rw[cJ];omega
   have o:=((an.newI [u,a0] (by simp) 2 rfl).nil EJ).add a (k:=31) (op:=1+q) (n:=0) (t:=⟨#[]⟩) (nm:=[]) (x2:=x) (s:=1) (c:=cc+3) (mw (by decide) (by omega) (by decide) (by decide) (by decide) ur (by simp) (pl2 i ar)) (by omega) (by unfold Lf;omega);clear C;go_wp2_with fail;refine o.mono ?_;rintro b av ⟨G,rfl,h⟩;go_wp2_with fail;go_ret;exact h
 ·clear p v tC B A;go_wp2_with fail;refine g.mono ?_;rintro b F ⟨am,u,rfl,i,ap,f,e⟩;unfold Lf at e;simp at e;have j:=f.sub a a5 ak.1 (by omega) (by omega);clear g;go_wp2_with fail;refine j.mono ?_;rintro b a6 ⟨a7,a0,rfl,ar,bf,z,ao⟩;unfold Lf at ao;have a8:=z.c0;have C:=z.pick a (by omega) 2 (by decide) (by decide);clear j;go_wp2_with fail;refine C.mono ?_;rintro b bp ⟨q,rfl,bl,an⟩;have bn:IntKind.i64.wrap (28+q)=28+q:=by rw[cJ];omega
  have o:=(an.newI [u,a0] (by simp) 2 rfl).kids a (k:=28+q) (x2:=x) (s:=1) (c:=cc+3) (by omega) (by simp) (pl2 i ar) (by omega) (by unfold Lf;omega);clear C;go_wp2_with fail;refine o.mono ?_;rintro b av ⟨G,rfl,h⟩;go_wp2_with fail;go_ret;exact h
 iterate 2
  ·clear p v tC B A;go_wp2_with fail;refine g.mono ?_;rintro b F ⟨am,u,rfl,i,ap,f,e⟩;unfold Lf at e;simp at e;have a8:=f.c0;have C:=f.pick a (by omega) 4 (by decide) (by decide);clear g;go_wp2_with fail;refine C.mono ?_;rintro b bp ⟨q,rfl,bl,an⟩;have bn:IntKind.i64.wrap (19+q)=19+q:=by rw[cJ];omega
   have o:=((an.newI [u] (by simp) 1 rfl).nil EJ).add a (k:=30) (op:=19+q) (n:=0) (t:=⟨#[]⟩) (nm:=[]) (x2:=x) (s:=1) (c:=cc+3) (mw (by decide) (by omega) (by decide) (by decide) (by decide) ur (by simp) (Jf i)) (by omega) (by unfold Lf;omega);clear C;go_wp2_with fail;refine o.mono ?_;rintro b av ⟨G,rfl,h⟩;go_wp2_with fail;go_ret;exact h
 ·clear g v tC B A;go_wp2_with fail;refine p.mono ?_;rintro b F ⟨am,u,rfl,i,ap,f,e⟩;unfold Lf at e;simp at e;have j:=f.sub a a5 ak.1 (by omega) (by omega);clear p;go_wp2_with fail;refine j.mono ?_;rintro b a6 ⟨a7,a0,rfl,ar,bf,z,ao⟩;unfold Lf at ao;have o:=(z.newI [u,a0] (by simp) 2 rfl).kids a (k:=32) (x2:=x) (s:=1) (c:=cc+3) (by omega) (by simp) (pl2 i ar) (by omega) (by unfold Lf;omega);clear j;go_wp2_with fail;refine o.mono ?_;rintro b av ⟨G,rfl,h⟩;go_wp2_with fail;go_ret;exact h
 ·clear g v tC B A;go_wp2_with fail;refine p.mono ?_;rintro b F ⟨am,u,rfl,i,ap,f,e⟩;unfold Lf at e;simp at e;have j:=f.short a (by omega);clear p;go_wp2_with fail;refine j.mono ?_;rintro b a6 ⟨s,rfl,b3,z⟩;have o:=((z.newI [u] (by simp) 1 rfl).nil EJ).add a (k:=33) (op:=0) (n:=0) (t:=s) (nm:=[]) (x2:=x) (s:=1) (c:=cc+3) (mw (by decide) (by decide) (by decide) (by omega) (by decide) ur (by simp) (Jf i)) (by omega) (by unfold Lf;omega);clear j;go_wp2_with fail;refine o.mono ?_;rintro b av ⟨G,rfl,h⟩;go_wp2_with fail;go_ret;exact h
 iterate 2
  ·clear g p v B A;go_wp2_with fail;refine tC.mono ?_;rintro b F ⟨G,rfl,H,I,J,K,af,a9⟩;go_wp2_with fail;go_ret;exact⟨H,I,J,K,af,by unfold Lf at *;omega⟩
 ·clear g p v tC A;go_wp2_with fail;refine B.mono ?_;rintro b F ⟨G,rfl,H,I,J,K,af,a9⟩;go_wp2_with fail;go_ret;exact⟨H,I,J,K,af,by unfold Lf at *;omega⟩
 ·clear g p v tC B;go_wp2_with fail;refine A.mono ?_;rintro b F ⟨G,rfl,H,I,J,K,af,a9⟩;go_wp2_with fail;go_ret;exact⟨H,I,J,K,af,by unfold Lf at *;omega⟩
 ·clear g p tC B A;go_wp2_with fail;refine v.mono ?_;rintro b F ⟨am,u,rfl,i,ap,f,e⟩;unfold Lf at e;simp at e;have o:=(f.newI [u] (by simp) 1 rfl).kids a (k:=37) (x2:=x) (s:=1) (c:=cc+3) (by omega) (by simp) (Jf i) (by omega) (by unfold Lf;omega);clear v;go_wp2_with fail;refine o.mono ?_;rintro b av ⟨G,rfl,h⟩;go_wp2_with fail;go_ret;exact h
def FBl(a:FuncId)(d m s c b:Int):Prop:=∀ ⦃E:Bs⦄ ⦃W:A1⦄ ⦃L:List Mb⦄ ⦃l x:Int⦄ ⦃R:List Rwx⦄,qr E W L l x R m->l<=b->A3 U a #[bV E,V O d] W (Ans E W L l (x-100) R s c)
section
variable {E : Bs} {W w : World} {L M : List Mb} {l x y : Int} {R R' : List Rwx} {m : Int}
theorem At.subL(p:qr E W L l x R m)(a:At E W L l x w M y R'){j:FuncId}{d m' s c b:Int}(hF:FBl j d m' s c b)(h:l-M.length<=b)(C:1<=m'/\m'+1<=m)(t: -20000+12*m'<=l-M.length)(F:s<=12/\c<=4000):
  A3 U j #[bV E,V O d] w fun e n=>∃(g:List Mb) (z:Int),e= X (V O z)/\(0<=z/\z<=100000)/\M.length<g.length/\At E W L l x n g y R'/\Lf s c (l-M.length) (l-g.length):=by
 have B:=a.len p;have H:=p.hx;have I:=a.hy;have v:qr E w (L++M) (l-M.length) y R' m':=⟨a.bd,by have:=p.sum;rw[aC];simp;omega,t,by omega,⟨by omega,by have:=p.m0;omega⟩⟩;refine(hF v h).mono ?_;rintro e n ⟨f,A,rfl,o,h,k⟩;have i:l-((M++f).length:Nat)=l-M.length-f.length:=by simp;omega
 have q:=k;unfold Lf at q;have u: -20000<=l-M.length-f.length:=by omega
 have G:=p.sum;refine⟨M++f,_,rfl,⟨by omega,by rw[aC];simp;omega⟩,by rw[aC];omega,⟨E2 (o.wide (by omega)),a.bel.trans h,a.hy,by rw[i];exact u⟩,by rw[i];exact k⟩
end
theorem Jg{d me mk mr m ce ck cr c b:Int}(bn: -1000<=d/\d<=1000)(j:(1<=me/\me+1<=m)/\(1<=mk/\mk+1<=m)/\(1<=mr/\mr+1<=m))(bF:(0<=ce/\ce+4<=c)/\(0<=ck/\ck+4<=c)/\(0<=cr/\cr+1<=c)/\c<=3800)(bb:FB 115 d me 1 ce)(K:FB 119 (d-1) mk 1 ck)
  (bl:10<b->FBl 118 (d-1) mr 4 cr (b-2)):FBl 118 d m 4 c b:=by
 intro E W L l x R a b0;have b6:=w1 bn;have b1:=a.lo;have b3:=a.m0;have b5:=a.sum;have ad:=a.at.sub a bb j.1 (by simp;omega) (by omega);go_in;go_wp2_with fail;refine ad.mono ?_;rintro e w1 ⟨bt,br,rfl,A,bD,ao,J⟩;unfold Lf at J;simp at J;have af:=ao.sub a K j.2.1 (by omega) (by omega);clear ad;go_wp2_with fail;refine af.mono ?_;rintro e b7 ⟨am,bs,rfl,B,bE,p,a9⟩;unfold Lf at a9;have I:=p.newI [br,bs] (by simp) 2 rfl;have ar:=p.c0;have b2:=p.bd.lt;have ak:=I.pick a (by omega) 3 (by decide) (by decide);clear af;go_wp2_with fail;refine ak.mono ?_;rintro e b8 ⟨n,rfl,b4,i⟩;clear ak I ar;have v:=i.c2;have o:=(i.nil EJ).add a (k:=7) (op:=0) (n:=0) (t:=⟨#[]⟩) (nm:=[]) (x2:=x-100) (s:=4) (c:=c) (mw (by decide) (by decide) (by decide) (by decide) (by decide) ur (by simp) (pl2 A B)) (by omega) (by unfold Lf;omega);rcases(show n=0\/n=1\/(n≠0/\n≠1) by omega) with rfl|rfl|⟨a7,a8⟩
 ·have h:=i.sub a K j.2.1 (by omega) (by omega);clear o;go_wp2_with fail;refine h.mono ?_;rintro e bo ⟨an,H,rfl,g,bf,q,z⟩;unfold Lf at z;clear h v;go_wp2_with (at_builtin;refine q.app H rfl (by simp) rfl _ _ rfl rfl rfl ?_;intro ap a0 bp u);have C:=(u.nil EJ).add a (k:=7) (op:=0) (n:=0) (t:=⟨#[]⟩) (nm:=[]) (x2:=x-100) (s:=4) (c:=c) (mw (by decide) (by decide) (by decide) (by decide) (by decide) ur (by simp) ((pl2 A B).add g.1 g.2)) (by omega) (by unfold Lf;omega);go_wp2_with fail;refine C.mono ?_;rintro e F ⟨G,rfl,f⟩;go_wp2_with fail;go_ret;exact f
 ·by_cases bA:10<l-am.length
  ·have h:=i.subL a (bl (by omega)) (by omega) j.2.2 (by omega) (by omega);clear o;go_wp2_with fail;refine h.mono ?_;rintro e bo ⟨an,H,rfl,g,bf,q,z⟩;unfold Lf at z;clear h v;go_wp2_with (at_builtin;refine q.app H rfl (by simp) rfl _ _ rfl rfl rfl ?_;intro ap a0 bp u);have C:=(u.nil EJ).add a (k:=7) (op:=0) (n:=0) (t:=⟨#[]⟩) (nm:=[]) (x2:=x-100) (s:=4) (c:=c) (mw (by decide) (by decide) (by decide) (by decide) (by decide) ur (by simp) ((pl2 A B).add g.1 g.2)) (by omega) (by unfold Lf;omega);go_wp2_with fail;refine C.mono ?_;rintro e F ⟨G,rfl,f⟩;go_wp2_with fail;go_ret;exact f
  ·go_wp2_with fail;refine o.mono ?_;rintro e F ⟨G,rfl,f⟩;go_wp2_with fail;go_ret;exact f
 ·have bw:(n==0)=A5:=by simpa using a7
  have bx:(n==1)=A5:=by simpa using a8
  clear v;go_wp2_with fail;refine o.mono ?_;rintro e F ⟨G,rfl,f⟩;go_wp2_with fail;go_ret;exact f
theorem wq{a b:Int}{q:Nat}(h:a+b=(q:Int))(c:q<=100):IntKind.i64.wrap (a+b)=(q:Int):=by rw[cJ];omega
theorem ah4{d C m:Int}(v:d<=0)(A:2<=m)(u:0<=C/\C<=3800)(j:FB 110 1 (m-1) 5 C):FB 59 d m 6 (C+1):=by
 intro E W L l x R a;have f:=a.at.c0;have g:=a.bd.c2;have z:=a.lo;have B:=a.m0;have k:=a.at.sub a j (by omega) (by simp;omega) (by omega);go_in;go_wp2_with fail;refine k.mono ?_;rintro h F ⟨q,p,rfl,n,t,e,b⟩;unfold Lf at b;simp at b;have o:=(e.newI [p] (by simp) 1 rfl).kids a (k:=6) (x2:=x) (s:=6) (c:=C+1) (by omega) (by simp) (Jf n) (by omega) (by unfold Lf;omega);clear k f g;go_wp2_with fail;refine o.mono ?_;rintro h G ⟨H,rfl,i⟩;go_wp2_with fail;go_ret;exact i
theorem ajy{d mm m C:Int}(fo:1<=d/\d<=1000)(f4:1<=mm/\mm+2<=m)(fn:1<=C/\C<=3700)(bn:FB 115 d mm 1 C)(ev:FB 116 d mm 12 C)(eF:FB 117 d mm 4 C)(d3:FB 110 d mm 12 C)(et:FB 110 1 mm 5 C)
  (es:vG 118 d mm 12 C) (bx:vG 119 (d-1) mm 1 C):FB 59 d m 6 (C+20):=by
 intro E W L l x R a;have dz:=a.at.c0;have d0:=a.bd.c2;have ge:=w1 (d:=d) (by omega);have f1:=a.lo;have f7:=a.m0;have gd:=a.sum;have fq:¬d<=0:=by omega
 by_cases f0:l<8
 ·have k:=a.at.sub a et (by omega) (by simp;omega) (by omega);go_in;go_wp2_with fail;refine k.mono ?_;rintro b F ⟨br,A,rfl,z,bs,f,o⟩;unfold Lf at o;simp at o;have v:=(f.newI [A] (by simp) 1 rfl).kids a (k:=6) (x2:=x) (s:=6) (c:=C+20) (by omega) (by simp) (Jf z) (by omega) (by unfold Lf;omega);clear k dz d0;go_wp2_with fail;refine v.mono ?_;rintro b e6 ⟨cp,rfl,ep⟩;go_wp2_with fail;go_ret;exact ep
 have d8:=a.at.pick a (by omega) 17 (by decide) (by decide);go_in;go_wp2_with fail;refine d8.mono ?_;rintro b w1 ⟨n,rfl,f8,B⟩;clear d8 dz d0;have ex:n=0\/n=1\/n=2\/n=3\/n=4\/n=5\/n=6\/n=7\/n=8\/n=9\/n=10\/n=11\/n=12\/n=13\/n=14\/n=15\/n=16:=by omega
 rcases ex with rfl|rfl|rfl|rfl|rfl|rfl|rfl|rfl|rfl|rfl|rfl|rfl|rfl|rfl|rfl|rfl|rfl
 iterate 2
  ·have e:=B.pick a (by omega) 3 (by decide) (by decide);go_wp2_with fail;refine e.mono ?_;rintro b F ⟨p,rfl,bA,f⟩;clear e;obtain⟨h,u⟩:∃h:Nat,1+p=(h:Int):=⟨(1+p).toNat,by omega⟩;have cm:=wq u (by omega);have ck:h<=3:=by omega
   have b6:=aq u;clear u;have g:=f.names a h (by omega) (by omega);go_wp2_with fail;refine g.mono ?_;rintro b ao ⟨ef,d1,eb,rfl,bo,bp,q⟩;have bl:=dx bo bp;clear g bo bp;have ad:=q.pick a (by omega) 3 (by decide) (by decide);go_wp2_with fail;refine ad.mono ?_;rintro b co ⟨bf,rfl,cl,ar⟩;clear ad;obtain⟨bf,rfl⟩:=ir cl.1;have v:=ar.exprs a bn (mx:=mm+1) (by omega) (by omega) (by simp;omega) bf (by omega);go_wp2_with fail;refine v.mono ?_;rintro b b5 ⟨b8,cn,bD,bw,rfl,J,a0,c4,I,ak⟩;clear v;unfold Lf at ak;simp at ak;have cs:=aq J;clear J;have j:=(I.swap).add a (k:=2) (op:=0) (n:=0) (t:=⟨#[]⟩) (x2:=x) (s:=6) (c:=C+20) (mw (by decide) (by decide) (by decide) (by decide) (by rw[bl.out.1];omega) bl.out.2 (by rw[cs.out];omega) a0) (by omega) (by unfold Lf;omega);go_wp2_with fail;refine j.mono ?_;rintro b G ⟨H,rfl,i⟩;go_wp2_with fail;go_ret;exact i
 ·have e:=B.sub a bn (by omega) (by simp;omega) (by omega);go_wp2_with fail;refine e.mono ?_;rintro b F ⟨br,A,rfl,z,bs,f,o⟩;clear e;unfold Lf at o;simp at o;have g:=f.names a 1 (by omega) (by omega);go_wp2_with fail;refine g.mono ?_;rintro b ao ⟨ef,d1,eb,rfl,bo,bp,q⟩;have bl:=dx bo bp;clear g bo bp;have j:=((q.newI [A] (by simp) 1 rfl).swap).add a (k:=3) (op:=0) (n:=0) (t:=⟨#[]⟩) (x2:=x) (s:=6) (c:=C+20) (mw (by decide) (by decide) (by decide) (by decide) (by rw[bl.out.1];omega) bl.out.2 (by simp) (Jf z)) (by omega) (by unfold Lf;omega);go_wp2_with fail;refine j.mono ?_;rintro b G ⟨H,rfl,i⟩;go_wp2_with fail;go_ret;exact i
 ·have e:=B.sub a ev (by omega) (by simp;omega) (by omega);go_wp2_with fail;refine e.mono ?_;rintro b F ⟨br,A,rfl,z,bs,f,o⟩;clear e;unfold Lf at o;simp at o;have g:=f.names a 1 (by omega) (by omega);go_wp2_with fail;refine g.mono ?_;rintro b ao ⟨ef,d1,eb,rfl,bo,bp,q⟩;have bl:=dx bo bp;clear g bo bp;have j:=((q.newI [A] (by simp) 1 rfl).swap).add a (k:=4) (op:=0) (n:=0) (t:=⟨#[]⟩) (x2:=x) (s:=6) (c:=C+20) (mw (by decide) (by decide) (by decide) (by decide) (by rw[bl.out.1];omega) bl.out.2 (by simp) (Jf z)) (by omega) (by unfold Lf;omega);go_wp2_with fail;refine j.mono ?_;rintro b G ⟨H,rfl,i⟩;go_wp2_with fail;go_ret;exact i
 iterate 3
  ·have e:=B.pick a (by omega) 2 (by decide) (by decide);go_wp2_with fail;refine e.mono ?_;rintro b F ⟨p,rfl,bA,f⟩;clear e;obtain⟨h,u⟩:∃h:Nat,1+p=(h:Int):=⟨(1+p).toNat,by omega⟩;have cm:=wq u (by omega);have ck:h<=3:=by omega
   have b6:=aq u;clear u;go_wp2_with fail;go_loopw [11,13] (fun dk c9 wr=>∃(K:Nat) (M:List Mb) (ks:List Int),c9= V O K/\K<=h/\ks.length=K/\Pl ks/\At E W L l x wr M (x+2) (⟨3,dk,ks.map (Q O)⟩::R)/\5-C-4*K<=l-M.length) (fun _ c9 _=>h-(A6 c9).toNat)
   case atStart=>exact⟨0,[],[],rfl,be _,rfl,(fun cp c7=>by cases c7),⟨(f.nil toI).bd.wide (by omega),f.bel,by omega,f.lo⟩,by simp;omega⟩
   case round=>
    obtain⟨K,M,ks,rfl,fz,cb,ce,dq,fr⟩:=hrel;have fv:(0:Int)<=(K:Int):=by omega
    by_cases fu:K<h
    ·have e1:(K:Int)<(h:Int):=by omega
     have g:=dq.sub a eF (by omega) (by omega) (by omega);have cr:=dx cb ce;clear cb ce;go_wp2_with fail;refine g.mono ?_;rintro b ao ⟨bF,ap,rfl,am,ca,q,af⟩;unfold Lf at af;clear g;go_wp2_with (at_builtin;refine q.app ap cr.out.1 (by omega) rfl _ _ rfl rfl rfl ?_;intro ds d2 co ar);go_roundw
     case rel=>exact⟨K+1,bF,ks++[ap],by go_num,by omega,by rw[aC,cr.out.1];rfl,cr.out.2.add am.1 am.2,ar,by omega⟩
     case measure=>simp[A6];omega
    ·have e1:¬(K:Int)<(h:Int):=by omega
     have dn:=dx cb ce;clear cb ce;have ad:=dq.pick a (by omega) 2 (by decide) (by decide);go_wp2_with fail;refine ad.mono ?_;rintro b co ⟨ec,rfl,f9,ar⟩;clear ad;obtain⟨an,cu⟩:∃an:Nat,1+ec=(an:Int):=⟨(1+ec).toNat,by omega⟩;have gf:=wq cu (by omega);have gb:an<=3:=by omega
     have e9:=aq cu;clear cu;have v:=ar.exprs a bn (mx:=mm+1) (by omega) (by omega) (by omega) an (by omega);go_wp2_with fail;refine v.mono ?_;rintro b b5 ⟨b8,cn,bD,bw,rfl,J,a0,c4,I,ak⟩;clear v;unfold Lf at ak;have bt:=dx J a0;have b0:=I.swap;clear J a0;go_wp2_with fail;go_loopw [11,118] (fun dk dd wr=>∃(a9:Nat) (b4:List Int),dd= V O a9/\a9<=an/\b4.length=K+a9/\Pl b4/\At E W L l x wr b8 (x+3) (⟨3,dk,b4.map (Q O)⟩::⟨3,T bD an bw,cn.map (Q O)⟩::R)) (fun _ dd _=>an-(A6 dd).toNat)
     case atStart=>exact⟨0,ks,rfl,be _,dn.out.1,dn.out.2,⟨b0.bd.wide (by omega),b0.bel,by omega,b0.lo⟩⟩
     case round=>
      obtain⟨a9,b4,rfl,fB,c6,cf,b9⟩:=hrel;by_cases e2:a9<an
      ·obtain⟨fg,y,rfl,e4,ff⟩:=b9.bd.intAt bt.out.1 e2;have d6:=bt.out.2 y (bC e4);have fA:(0:Int)<=(a9:Int):=by omega
       have e3:(a9:Int)<(an:Int):=by omega
       have cq:=dx c6 cf;clear c6 cf;go_wp2_with (at_builtin;refine b9.app y cq.out.1 (by omega) rfl _ _ rfl rfl rfl ?_;intro ds d2 e7 ei);go_roundw
       case rel=>exact⟨a9+1,b4++[y],by go_num,by omega,by rw[aC,cq.out.1];rfl,cq.out.2.add d6.1 d6.2,ei⟩
       case measure=>simp[A6];omega
      ·have e3:¬(a9:Int)<(an:Int):=by omega
       obtain⟨fb,fe,rfl⟩:=b9.formI;have j:=(((b9.swap).drop).nil EJ).add a (k:=5) (op:=0) (n:=h) (t:=⟨#[]⟩) (nm:=[]) (x2:=x) (s:=6) (c:=C+20) (mw (by decide) (by decide) (by omega) (by decide) (by decide) ur (by omega) cf) (by omega) (by unfold Lf;omega);clear c6 cf;go_wp2_with fail;refine j.mono ?_;rintro b G ⟨H,rfl,i⟩;go_wp2_with fail;go_ret;exact i
 ·have e:=B.sub a d3 (by omega) (by simp;omega) (by omega);go_wp2_with fail;refine e.mono ?_;rintro b F ⟨br,A,rfl,z,bs,f,o⟩;clear e;unfold Lf at o;simp at o;have j:=(f.newI [A] (by simp) 1 rfl).kids a (k:=6) (x2:=x) (s:=6) (c:=C+20) (by omega) (by simp) (Jf z) (by omega) (by unfold Lf;omega);go_wp2_with fail;refine j.mono ?_;rintro b G ⟨H,rfl,i⟩;go_wp2_with fail;go_ret;exact i
 iterate 2
  ·have df:=B.tail a es (by omega) (by omega);go_wp2_with fail;refine df.mono ?_;rintro b F ⟨cp,rfl,ct,cx,cz,cB,c1,eo⟩;go_wp2_with fail;go_ret;exact⟨ct,cx,cz,cB,c1,by unfold Lf at *;omega⟩
 ·have e:=B.sub a bn (by omega) (by simp;omega) (by omega);go_wp2_with fail;refine e.mono ?_;rintro b F ⟨br,A,rfl,z,bs,f,o⟩;clear e;unfold Lf at o;simp at o;have g:=f.sub a bx.weak (by omega) (by omega) (by omega);go_wp2_with fail;refine g.mono ?_;rintro b ao ⟨bF,ap,rfl,am,ca,q,af⟩;clear g;unfold Lf at af;have j:=(q.newI [A,ap] (by simp) 2 rfl).kids a (k:=8) (x2:=x) (s:=6) (c:=C+20) (by omega) (by simp) (pl2 z am) (by omega) (by unfold Lf;omega);go_wp2_with fail;refine j.mono ?_;rintro b G ⟨H,rfl,i⟩;go_wp2_with fail;go_ret;exact i
 ·have e:=B.pick a (by omega) 2 (by decide) (by decide);go_wp2_with fail;refine e.mono ?_;rintro b F ⟨p,rfl,bA,f⟩;clear e;obtain⟨h,u⟩:∃h:Nat,2+p=(h:Int):=⟨(2+p).toNat,by omega⟩;have cm:=wq u (by omega);have ck:h<=3:=by omega
  have b6:=aq u;clear u;have v:=f.exprs a bn (mx:=mm+1) (by omega) (by omega) (by simp;omega) h (by omega);go_wp2_with fail;refine v.mono ?_;rintro b b5 ⟨b8,cn,bD,bw,rfl,J,a0,c4,I,ak⟩;clear v;unfold Lf at ak;simp at ak;have bt:=dx J a0;clear J a0;have d9:=I.sub a bx.weak (by omega) (by omega) (by omega);go_wp2_with fail;refine d9.mono ?_;rintro b e6 ⟨fa,e8,rfl,d7,fk,b0,em⟩;clear d9;unfold Lf at em;go_wp2_with (at_builtin;refine b0.app e8 bt.out.1 (by omega) rfl _ _ rfl rfl rfl ?_;intro ds d2 e7 eg);have ea:=eg.names a 1 (by omega) (by omega);go_wp2_with fail;refine ea.mono ?_;rintro b gt ⟨gs,fc,gr,rfl,d4,d5,eh⟩;have dp:=dx d4 d5;clear ea d4 d5;have j:=eh.add a (k:=9) (op:=0) (n:=0) (t:=⟨#[]⟩) (x2:=x) (s:=6) (c:=C+20) (mw (by decide) (by decide) (by decide) (by decide) (by rw[dp.out.1];omega) dp.out.2 (by rw[aC,bt.out.1];simp;omega) (bt.out.2.add d7.1 d7.2)) (by omega) (by unfold Lf;omega);go_wp2_with fail;refine j.mono ?_;rintro b G ⟨H,rfl,i⟩;go_wp2_with fail;go_ret;exact i
 ·have e:=B.sub a bn (by omega) (by simp;omega) (by omega);go_wp2_with fail;refine e.mono ?_;rintro b F ⟨br,A,rfl,z,bs,f,o⟩;clear e;unfold Lf at o;simp at o;have g:=f.sub a bx.weak (by omega) (by omega) (by omega);go_wp2_with fail;refine g.mono ?_;rintro b ao ⟨bF,ap,rfl,am,ca,q,af⟩;clear g;unfold Lf at af;have ad:=q.pick a (by omega) 2 (by decide) (by decide);go_wp2_with fail;refine ad.mono ?_;rintro b co ⟨p,rfl,bA,ar⟩;clear ad;obtain⟨h,u⟩:∃h:Nat,1+p=(h:Int):=⟨(1+p).toNat,by omega⟩;have cm:=wq u (by omega);have ck:h<=3:=by omega
  have b6:=aq u;clear u;have v:=ar.names a h (by omega) (by omega);go_wp2_with fail;refine v.mono ?_;rintro b b5 ⟨bD,bw,e5,rfl,b1,b2,I⟩;have bE:=dx b1 b2;clear v b1 b2;have j:=((I.newI [A,ap] (by simp) 2 rfl).swap).add a (k:=10) (op:=0) (n:=0) (t:=⟨#[]⟩) (x2:=x) (s:=6) (c:=C+20) (mw (by decide) (by decide) (by decide) (by decide) (by rw[bE.out.1];omega) bE.out.2 (by simp) (pl2 z am)) (by omega) (by unfold Lf;omega);go_wp2_with fail;refine j.mono ?_;rintro b G ⟨H,rfl,i⟩;go_wp2_with fail;go_ret;exact i
 ·have e:=B.pick a (by omega) 2 (by decide) (by decide);go_wp2_with fail;refine e.mono ?_;rintro b F ⟨p,rfl,bA,f⟩;clear e;by_cases b3:p=0
  ·subst b3;have g:=f.pick a (by omega) 2 (by decide) (by decide);go_wp2_with fail;refine g.mono ?_;rintro b ao ⟨bf,rfl,cl,q⟩;clear g;have gm:IntKind.i64.wrap (11+bf)=11+bf:=by rw[cJ];omega
   have j:=(q.nil toI).kids a (k:=11+bf) (ks:=[]) (x2:=x) (s:=6) (c:=C+20) (by omega) (by simp) (fun cp c7=>by cases c7) (by omega) (by unfold Lf;simp;omega);go_wp2_with fail;refine j.mono ?_;rintro b G ⟨H,rfl,i⟩;go_wp2_with fail;go_ret;exact i
  ·have el:(p==0)=A5:=by simpa using b3
   have g:=f.pick a (by omega) 3 (by decide) (by decide);go_wp2_with fail;refine g.mono ?_;rintro b ao ⟨bf,rfl,cl,q⟩;clear g;obtain⟨bf,rfl⟩:=ir cl.1;have v:=q.exprs a bn (mx:=mm+1) (by omega) (by omega) (by simp;omega) bf (by omega);go_wp2_with fail;refine v.mono ?_;rintro b b5 ⟨b8,cn,bD,bw,rfl,J,a0,c4,I,ak⟩;clear v;unfold Lf at ak;simp at ak;have cs:=aq J;clear J;have j:=(I.nil EJ).add a (k:=13) (op:=0) (n:=0) (t:=⟨#[]⟩) (nm:=[]) (x2:=x) (s:=6) (c:=C+20) (mw (by decide) (by decide) (by decide) (by decide) (by decide) ur (by rw[cs.out];omega) a0) (by omega) (by unfold Lf;omega);go_wp2_with fail;refine j.mono ?_;rintro b G ⟨H,rfl,i⟩;go_wp2_with fail;go_ret;exact i
 ·have e:=B.sub a bx.weak (by omega) (by simp;omega) (by omega);go_wp2_with fail;refine e.mono ?_;rintro b F ⟨br,A,rfl,z,bs,f,o⟩;clear e;unfold Lf at o;simp at o;have g:=f.sub a bx.weak (by omega) (by omega) (by omega);go_wp2_with fail;refine g.mono ?_;rintro b ao ⟨bF,ap,rfl,am,ca,q,af⟩;clear g;unfold Lf at af;have ad:=q.pick a (by omega) 2 (by decide) (by decide);go_wp2_with fail;refine ad.mono ?_;rintro b co ⟨p,rfl,bA,ar⟩;clear ad;obtain⟨h,u⟩:∃h:Nat,1+p=(h:Int):=⟨(1+p).toNat,by omega⟩;have cm:=wq u (by omega);have ck:h<=3:=by omega
  have b6:=aq u;clear u;have v:=ar.names a h (by omega) (by omega);go_wp2_with fail;refine v.mono ?_;rintro b b5 ⟨bD,bw,e5,rfl,b1,b2,I⟩;have bE:=dx b1 b2;clear v b1 b2;have j:=((I.newI [A,ap] (by simp) 2 rfl).swap).add a (k:=14) (op:=0) (n:=0) (t:=⟨#[]⟩) (x2:=x) (s:=6) (c:=C+20) (mw (by decide) (by decide) (by decide) (by decide) (by rw[bE.out.1];omega) bE.out.2 (by simp) (pl2 z am)) (by omega) (by unfold Lf;omega);go_wp2_with fail;refine j.mono ?_;rintro b G ⟨H,rfl,i⟩;go_wp2_with fail;go_ret;exact i
 ·have e:=B.pick a (by omega) 2 (by decide) (by decide);go_wp2_with fail;refine e.mono ?_;rintro b F ⟨p,rfl,bA,f⟩;clear e;by_cases b3:p=0
  ·subst b3;have df:=f.tail a bx (by omega) (by omega);go_wp2_with fail;refine df.mono ?_;rintro b ao ⟨cp,rfl,ct,cx,cz,cB,c1,eo⟩;go_wp2_with fail;go_ret;exact⟨ct,cx,cz,cB,c1,by unfold Lf at *;omega⟩
  ·have el:(p==0)=A5:=by simpa using b3
   have g:=f.sub a bn (by omega) (by simp;omega) (by omega);go_wp2_with fail;refine g.mono ?_;rintro b ao ⟨bF,ap,rfl,am,ca,q,af⟩;clear g;unfold Lf at af;simp at af;have j:=(q.newI [ap] (by simp) 1 rfl).kids a (k:=15) (x2:=x) (s:=6) (c:=C+20) (by omega) (by simp) (Jf am) (by omega) (by unfold Lf;omega);go_wp2_with fail;refine j.mono ?_;rintro b G ⟨H,rfl,i⟩;go_wp2_with fail;go_ret;exact i
 ·have e:=B.sub a d3 (by omega) (by simp;omega) (by omega);go_wp2_with fail;refine e.mono ?_;rintro b F ⟨br,A,rfl,z,bs,f,o⟩;clear e;unfold Lf at o;simp at o;have j:=(f.newI [A] (by simp) 1 rfl).kids a (k:=16) (x2:=x) (s:=6) (c:=C+20) (by omega) (by simp) (Jf z) (by omega) (by unfold Lf;omega);go_wp2_with fail;refine j.mono ?_;rintro b G ⟨H,rfl,i⟩;go_wp2_with fail;go_ret;exact i
theorem ahb:vG 110 1 10 5 7:=aha (mb:=3) (me:=2) (cb:=2) (ce:=1) (by decide) (by decide) (by decide) (ag9 (me:=2) (ce:=1) (by decide) (by decide) (Dc (by decide))) (Dc (by decide))
theorem abE{d:Int}(a:d<=0):vG 119 d 16 1 9:=abD (ms:=15) (cs:=8) (by decide) (by decide) (ah4 (C:=7) a (by decide) (by decide) (ahb.weak.up (by decide) (by decide) (by decide) (by decide)))
theorem afr:∀(b:Nat)(d:Int),b<=1000->d<=0-> -1000+(b:Int)<=d->FBl 118 d (17+b) 4 (13+b) b:=by
 intro b
 induction b using Nat.strongRecOn with
 |_ b c=>
  intro d f a g;refine Jg (me:=2) (mk:=16) (mr:=15+b) (ce:=1) (ck:=9) (cr:=11+b) (by omega) (by omega) (by omega) (Dc a) (abE (by omega)).weak (fun e=>?_);have:=c (b-2) (by omega) (d-1) (by omega) (by omega) (by omega);rw[show((b-2:Nat):Int)=(b:Int)-2 by omega,show(17:Int)+((b:Int)-2)=15+b by omega,show(13:Int)+((b:Int)-2)=11+b by omega]at this;exact this
theorem FBl.all{a:FuncId}{d m s c:Int}(h:FBl a d m s c 1000):vG a d m s c:=fun _ _ _ _ _ _ b=>h b (by have:=b.sum;omega)
structure Lv (d m C:Int):Prop where
 e:FB 115 d m 1 C
 k:vG 119 d m 1 C
 r:vG 118 d m 4 C
theorem lv0:Lv 0 1020 1020:=⟨(Dc (by decide)).up (by decide) (by decide) (by decide) (by decide),(abE (by decide)).up (by decide) (by decide) (by decide) (by decide),(FBl.all (afr 1000 0 (by decide) (by decide) (by decide))).up (by decide) (by decide) (by decide) (by decide)⟩
theorem lvS{d m C:Int}(h:Lv d m C)(v:0<=d/\d<=10)(z:20<=m/\m<=1200)(u:20<=C/\C<=3000):FB 59 (d+1) (m+9) 6 (C+39)/\Lv (d+1) (m+10) (C+40):=by
 have b:d+1-1=d:=by omega
 have a:FB 115 (d+1-1) m 1 C:=by rw[b];exact h.e
 have g:vG 119 (d+1-1) m 1 C:=by rw[b];exact h.k
 have p:vG 118 (d+1-1) m 4 C:=by rw[b];exact h.r
 have c:FB 150 (d+1-1) (m+1) 2 (C+1):=ag9 (by omega) (by omega) a;have j:vG 110 (d+1) (m+3) 5 (C+1+5):=aha (by omega) (by omega) (by omega) c a;have s:vG 153 (d+1) (m+1) 10 (C+12):=ah2 (by omega) (by omega) (by omega) a;have n:vG 116 (d+1) (m+1) 2 (C+1):=fnB (by omega) (by omega) (by omega) g.weak;have f:FB 115 (d+1) (m+5) 1 (C+12+3):=ah3 (mc:=m+4) (cc:=C+12) (by omega) (by omega) (by omega) a c (j.up (by omega) (by omega) (by omega) (by omega)) (s.up (by omega) (by omega) (by omega) (by omega)) (n.up (by omega) (by omega) (by omega) (by omega));have q:FB 117 (d+1) (m+2) 4 (C+1+3):=afq (by omega) (by omega) (by omega) c a;have i:vG 118 (d+1) (m+6) 4 (C+19):=FBl.all (Jg (me:=m+5) (mk:=m) (ce:=C+12+3) (ck:=C) (mr:=m) (cr:=C) (by omega) (by omega) (by omega) f g.weak (fun _=>fun _ _ _ _ _ _ t _=>p t));have hS:FB 59 (d+1) (m+9) 6 (C+19+20):=ajy (mm:=m+7) (by omega) (by omega) (by omega) (f.up (by omega) (by omega) (by omega) (by omega)) (n.weak.up (by omega) (by omega) (by omega) (by omega)) (q.up (by omega) (by omega) (by omega) (by omega)) (j.weak.up (by omega) (by omega) (by omega) (by omega)) (ahb.weak.up (by decide) (by omega) (by omega) (by omega)) (i.up (by omega) (by omega) (by omega) (by omega)) (g.up (by omega) (by omega) (by omega) (by omega));have o:vG 119 (d+1) (m+10) 1 (C+39+1):=abD (ms:=m+9) (cs:=C+39) (by omega) (by omega) (by rw[show C+39=C+19+20 by omega];exact hS);exact⟨by rw[show C+39=C+19+20 by omega];exact hS,f.up (by omega) (by omega) (by omega) (by omega),o.up (by omega) (by omega) (by omega) (by omega),i.up (by omega) (by omega) (by omega) (by omega)⟩
theorem abF{d:Int}(g:1<=d/\d<=5):FB 59 d 1100 6 1300:=by
 have a:=lvS lv0 (by decide) (by decide) (by decide);have b:=lvS a.2 (by decide) (by decide) (by decide);have c:=lvS b.2 (by decide) (by decide) (by decide);have e:=lvS c.2 (by decide) (by decide) (by decide);have f:=lvS e.2 (by decide) (by decide) (by decide);rcases(show d=1\/d=2\/d=3\/d=4\/d=5 by omega) with rfl|rfl|rfl|rfl|rfl
 ·exact a.1.up (by decide) (by decide) (by decide) (by decide)
 ·exact b.1.up (by decide) (by decide) (by decide) (by decide)
 ·exact c.1.up (by decide) (by decide) (by decide) (by decide)
 ·exact e.1.up (by decide) (by decide) (by decide) (by decide)
 ·exact f.1.up (by decide) (by decide) (by decide) (by decide)
