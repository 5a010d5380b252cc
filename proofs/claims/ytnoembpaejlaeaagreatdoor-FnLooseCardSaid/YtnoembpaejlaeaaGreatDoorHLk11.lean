import Derived.Test.YtnoembpaejlaeaaGreatDoorHLk08
import Derived.Test.YtnoembpaejlaeaaGreatDoorHLk06
import Derived.Laws.Cover2
import Derived.Sort.LoopGhostIn
set_option linter.all false
set_option maxRecDepth 100000
set_option maxHeartbeats 6400000
open Go.Value renaming int->M,pointer->V,slice->A5,bool->Br,agg->B6,tuple->Ce,ownBlock->C2
open Option renaming some->N,none->T
open Go.Proofs.Tryz renaming prog->O
open Go.IntKind renaming u8->S,i64->X
open Go.World renaming putObj_heap_other->U,news_of_block->B3
open Go renaming undef->Y,World->Ax,Value->A3,KeepsFrom->B1,Calls->B2,TypeId->B4,grownBy_putObj'->Ck,maxLen->Ex
open Go.RowKit renaming Below->Z,Hid->B5,intOf->B7
open Go.Ending renaming returned->A0
open Go.Obj renaming cells->A2
open Bool renaming false->A9,true->B0
namespace Go.Proofs.YtnoembpaejlaeaaGreatDoor
open Go.RowKit Go.Maps Go.WideMaps
variable{B b base gb k m mb n:Nat}{L:List (List Int)}{Q:Exit->Act->World->Prop}{R:List (Int×List (List Int))}{W W' w:World}{a t:Int}{c:List Nat}{fr:Nat×Nat}{o:Oper}{ops:Array Oper}{r:Bool}{rest:List Oper}{v vs:Value}
def Hp:(Tryz.prog.info? 142).map (λi=>(i.zero,i.size,i.bytes))=N (N (B6 #[M S 0,M S 0,M S 0,M S 0,M S 0,M S 0]),6,6):=by kernel_rfl
def rc(r:List Int):List A3:=(r++List.replicate (6-r.length) 0).map (Value.int S)
def Dq(L:List (List Int)):List A3:=L.flatMap rc
def ab9(a b:List (List Int)):Dq (a++b)=Dq a++Dq b:=by simp[Dq]
def wy(v:A3):Option (DataW A3×List MemPlace):=N (.held v,[])
def zI(R:List (Int×List (List Int)))(a:Int):List (List Int):=((R.find? (λb=>b.1==a)).map (·.2)).getD []
def rH(a:Int)(L:List (List Int))(R:List (Int×List (List Int))):zI ((a,L)::R) a=L:=by simp[zI]
def qh{b:Int}(h:a≠b)(L:List (List Int))(R:List (Int×List (List Int))):zI ((a,L)::R) b=zI R b:=by
 unfold zI;rw[List.find?_cons_of_neg (by simpa using h)]
def jf(W:Ax)(base:Nat)(v:A3)(L:List (List Int)):Prop:=W.ownsRow base 142 6 v L.length (Dq L)
def af9(f:Int->A3):Prop:=∀a b,0<=a->a<=255->0<=b->b<=255->a≠b->(f a).ownBlock=T\/(f a).ownBlock≠(f b).ownBlock
structure RM (W:Ax) (base mb n:Nat) (R:List (Int×List (List Int))):Prop where
 ex:∃(D:DataW A3) (f:Int->A3),W.ownsMap O 77 wy mb n D/\(∀a,0<=a->a<=255->D.atKey (.int .u8 a) (.held (.slice T 0 0))= .held (f a)/\jf W base (f a) (zI R a))/\af9 f
 lo:base<=mb
def aax:Keyed O 77:=int_keyed Tryz.underlying77
def jf.keep(h:jf W base v L)(a:Z W.heap.size W W'):jf W' base v L:=cJ h a
def RM.congr{b:List (Int×List (List Int))}(h:RM W base mb n R)(j:∀a,0<=a->a<=255->zI R a=zI b a):RM W base mb n b:=by
 obtain⟨D,e,f,g,i⟩:=h.ex;exact⟨⟨D,e,f,λa c d=>by rw[<-j a c d];exact g a c d,i⟩,h.lo⟩
def RM.mono{a:Nat}(h:RM W base mb n R)(e:n<=a):RM W base mb a R:=by
 obtain⟨D,b,c,d⟩:=h.ex;exact⟨⟨D,b,c.mono e,d⟩,h.lo⟩
def vI{e:Array MapEntry}{c:Nat}(h:jf W base v L)(i:W.heap[mb]?=N (.map e c))(g:W.grownBy W' (N mb)):jf W' base v L:=by
 refine Bo h g ?_;rcases bB h with⟨_,rfl⟩|⟨f,j,rfl⟩
 .exact .inl rfl
 .refine .inr ?_;intro d;obtain rfl:f=mb:=by simpa [C2] using d
  rcases h.2 with⟨a,_⟩|⟨m,k,l,a,_,b,_⟩
  .cases a
  .cases a;rw[i]at b;cases b
def aay(b:0<=a)(c:a<=255):keyOf O 77 (.int .u8 a)=N (.int .u8 a):=keyOf_int_mk Tryz.underlying77 (WalkArith.wf_u8 ⟨b,c⟩)
def bu{a:Act}{H:Ax}
  (l:o.guard=T) (m x v:Operand) (av:o.op=Op.mapUpdate 69 m x v) (ap:a.eval m= .map (N mb)) (h:RM W base mb n R) (f:Z W.heap.size W w) (a8:n<1000) (s:Int) (s0:0<=s) (a3:s<=255) (a2:a.eval x= .int .u8 s)
  (c:A3) (ax:a.eval v=c) (L:List (List Int)) (u:jf w W.heap.size c L) (ak:Z base H W)
  (al:∀j,RM j base mb (n+1) ((s,L)::R)->Z base H j->wpList O ops Q rest (a.put o.dst Y) j):wpList O ops Q (o::rest) a w:=by
 obtain⟨D,e,q,r,af⟩:=h.ex;have a7:=q.lt;have an:base<=W.heap.size:=by have:=h.lo;omega
 have B:=q.kept (row:=T) ⟨f.os,f.tape,f.output,f.size,λG ao _=>f.block G ao⟩ (by simp);refine wpList_mapUpdate_own w l m x v 69 av 77 186 aax Tryz.underlying69 wy mb n D ap B (by unfold Ex;omega) _ _ _ a2 ax (aay s0 a3) (.held c) [] rfl ?_;intro j au t;obtain⟨a6,a4,C,_⟩:=B;refine al j ⟨⟨_,λa=>if a=s then c else e a,au,λa g i=>?_,?_⟩,h.lo⟩ ?_
 .by_cases d:a=s
  .subst d;rw[rH,atKey_put_same q.isMap (by trivial)];show DataW.held c=DataW.held (if a=a then c else e a)/\jf j base (if a=a then c else e a) L;rw[ab rfl];refine⟨rfl,vI (h:=?_) C t⟩;refine⟨u.1,?_⟩;rcases u.2 with h|⟨b,I,J,K,a5,ad⟩
   .exact .inl h
   .exact .inr ⟨b,I,J,K,by omega,ad⟩
  .show _=DataW.held (if a=s then c else e a)/\jf j base (if a=s then c else e a) _;rw[qh (λh=>d h.symm),aa d,atKey_put_other (by intro h;injection h with _ h;exact d h)];exact⟨(r a g i).1,vI ((r a g i).2.keep f) C t⟩
 .have F:∀b,c.ownBlock=N b->W.heap.size<=b:=λb l=>(u.lt b l).1;have E:∀a,0<=a->a<=255->∀b,(e a).ownBlock=N b->b<W.heap.size:=λa g i b l=>((r a g i).2.lt b l).2;intro a k g i y p ar;show(if a=s then c else e a).ownBlock=T\/(if a=s then c else e a).ownBlock≠(if k=s then c else e k).ownBlock;by_cases z:a=s
  .rw[ab z,aa (by omega)];cases hq:c.ownBlock with
   |none=>exact .inl rfl
   |some b=>exact .inr (λd=>by have:=F b hq;have:=E k y p b d.symm;omega)
  .rw[aa z];by_cases A:k=s
   .rw[ab A];cases hq:(e a).ownBlock with
    |none=>exact .inl rfl
    |some b=>exact .inr (λd=>by have:=E a g i b hq;have:=F b d.symm;omega)
   .rw[aa A];exact af a k g i y p ar
 .have p:=f.mono an;refine ak.trans ?_;exact p.grown t (by have:=f.size;omega) (λG d=>by cases d;exact h.lo)
def eG(w:Ax)(cs:Array A3)(L:List (List Int))(n:Nat)(e:L.length=n)(d:cs.toList=Dq L)(j:n<=1000)(b:∀r∈L,r.length<=6):jf (w.alloc (A2 cs 142 (0,0))) w.heap.size (A5 (N ⟨w.heap.size,0,T⟩) n n) L:=by
 have a:∀L:List (List Int),(∀r∈L,r.length<=6)->(Dq L).length=L.length*6:=by
  intro L
  induction L with
  |nil=>intro _;rfl
  |cons r L h=>
   intro c;have:=c r (by simp);rw[show Dq (r::L)=rc r++Dq L from rfl,aJ,h (λi g=>c i (by simp[g]))];simp[rc];omega
 have f:cs.size=n*6:=by rw[<-fD,d,a L b,e]
 refine⟨by rw[a L b],.inr ⟨w.heap.size,n,cs,by rw[e],ag _,aB w _,by omega,by unfold Ex;omega,f,?_⟩⟩;rw[d,db (by rw[a L b];exact ag _)]
def aaz(p c:Int)(w:Ax):
  B2 O 101 #[M S p,M S c] w λe a=>e= A0 (A5 (N ⟨w.heap.size,0,T⟩) 3 3)/\jf a w.heap.size (A5 (N ⟨w.heap.size,0,T⟩) 3 3) (nH p c)/\Z w.heap.size w a:=by
 go_in;go_wp2;go_ret;exact⟨rfl,eG _ _ (nH p c) 3 rfl rfl (by decide) (by simp[nH]),(ai _ _).alloc (ag _) _⟩
def aca:∀u∈Dq L,u.oneCell'=B0:=by
 intro u b;unfold Dq at b;rw[List.mem_flatMap]at b;obtain⟨c,_,a⟩:=b;unfold rc at a;rw[List.mem_map]at a;obtain⟨d,_,rfl⟩:=a;rfl
def acb:∀{L:List (List Int)},(∀r∈L,r.length<=6)->(Dq L).length=L.length*6:=by
 intro L
 induction L with
 |nil=>intro _;rfl
 |cons r L c=>
  intro a;have:=a r (by simp);rw[show Dq (r::L)=rc r++Dq L from rfl,aJ,c (λd b=>a d (by simp[b]))];simp[rc];omega
def uo{a:Act}{b:Ax}(l:o.guard=T)(s x:Operand)
  (p:o.op= .call {callee:= .builtin .append,args:=#[s,x],argTypes:=#[186,186]}) (t:a.eval s=v) (f:jf b W.heap.size v L) (hS:Z W.heap.size W b) (cs:Array A3) (m:Nat) (u:a.eval x= .slice (N ⟨b.heap.size,0,T⟩) m m) (c:List (List Int)) (g:c.length=m) (k:cs.toList=Dq c) (q:∀r∈c,r.length<=6)
  (E:L.length+m<=1000)
  (j:∀e d,jf d W.heap.size e (L++c)->Z W.heap.size W d->wpList O ops Q rest (a.put o.dst e) d):wpList O ops Q (o::rest) a (b.alloc (.cells cs 142 (0,0))):=by
 obtain⟨w,y,z,A,B⟩:=eD Hp;refine pd _ l s x 186 p W.heap.size 142 w _ 6 6 Tryz.underlying186 y z A B rfl (by decide) v L.length (Dq L) t (World.ownsRow.alloc f _) ⟨b.heap.size,0,T⟩ m m (Dq c) u (by rw[acb q,g]) ?_ aca (by unfold Ex;omega) (by omega) (by have:=hS.size;simp;omega) ?_
 .rw[<-k];exact B3 (cs:=cs) (fr:=(0,0)) (aB b _)
 .intro e d h i _;refine j e d ?_ ?_
  .unfold jf;rw[ab9,aJ,g];exact h
  .exact(hS.alloc hS.size _).grown i (by have:=hS.size;simp;omega) (λC n=>(f.lt C n).1)
def J2(w:Ax)(base mb n:Nat)(R:List (Int×List (List Int)))(H:RM w base mb n R)(g:n<=100):
  B2 O 52 #[.map (N mb)] w λe c=>e= A0 (Ce #[])/\RM c base mb (n+10) ((120,nH 120 120++[[]])::(133,nH 132 133++[[]])::(132,nH 132 133)::(131,[[1,132],[40,117,41,132]])::(130,nH 129 130)::(129,nH 129 130++[[46,128],[47,110]])::(128,[[1,129],[40,117,41,130]])::(127,nH 125 126)::(126,nH 125 126++[[]])::(125,nH 125 126++[[46,128],[47,110]])::R)/\Z base w c:=by
 have a:Z base w w:=ai _ _;go_in;go_wp2_with (first
  |(go_at_call 101;refine(aaz _ _ _).mono ?_;rintro e h ⟨rfl,b,hS⟩)
  |(at_builtin;first
   |(refine uo rfl _ _ rfl rfl b hS _ 2 rfl [[46,128],[47,110]] rfl rfl (by decide) (by decide) ?_;clear b hS;intro d f b hS)
   |(refine uo rfl _ _ rfl rfl b hS _ 1 rfl [[]] rfl rfl (by decide) (by decide) ?_;clear b hS;intro d f b hS))
  |(at_mapUpdate;first
   |(refine bu rfl _ _ _ rfl rfl H hS (by omega) _ (by decide) (by decide) rfl _ rfl _ b a ?_;clear H a b hS;intro w1 H a)
   |(refine bu rfl _ _ _ rfl rfl H ((ai _ _).alloc (ag _) _) (by omega) 128 (by decide) (by decide) rfl _ rfl [[1,129],[40,117,41,130]] ?own a ?_;(case own=>exact eG _ _ [[1,129],[40,117,41,130]] 2 rfl rfl (by decide) (by decide));clear H a;intro w1 H a)
   |(refine bu rfl _ _ _ rfl rfl H ((ai _ _).alloc (ag _) _) (by omega) 131 (by decide) (by decide) rfl _ rfl [[1,132],[40,117,41,132]] ?own a ?_;(case own=>exact eG _ _ [[1,132],[40,117,41,132]] 2 rfl rfl (by decide) (by decide));clear H a;intro w1 H a)))
 go_end0
 exact⟨rfl,H,a⟩
def J3:Array A3:=#[M X 26,M X 1,M X 2,M X 10,M X 2,M X 3,M X 73,M X 3,M X 4,M X 74,M X 3,M X 4,M X 75,M X 3,M X 4,M X 76,M X 3,M X 4,M X 77,M X 3,M X 4,M X 78,M X 3,M X 4,
 M X 72,M X 4,M X 4,M X 68,M X 5,M X 6,M X 69,M X 6,M X 7,M X 67,M X 7,M X 8,M X 70,M X 8,M X 9,M X 71,M X 8,M X 9,M X 61,M X 9,M X 10,M X 62,M X 9,M X 10,
 M X 63,M X 10,M X 11,M X 64,M X 10,M X 11,M X 65,M X 10,M X 11,M X 66,M X 10,M X 11]
def Hq:List Int:=[26,10,73,74,75,76,77,78,72,68,69,67,70,71,61,62,63,64,65,66]
def aji(k:Nat):Int:=match J3.getD k (M X 0) with| .int _ a=>a|_=>0
def aqK(k:Nat)(a:k<20)(w:Ax):(Instr.index 190 (B6 J3) (M X (k:Int))).run O w= .ok (B6 #[M X (Hq.getD k 0),M X (aji (3*k+1)),M X (aji (3*k+2))]) w:=by
 rcases(show k=0\/k=1\/k=2\/k=3\/k=4\/k=5\/k=6\/k=7\/k=8\/k=9\/k=10\/k=11\/k=12\/k=13\/k=14\/k=15\/k=16\/k=17\/k=18\/k=19 by omega) with rfl|rfl|rfl|rfl|rfl|rfl|rfl|rfl|rfl|rfl|rfl|rfl|rfl|rfl|rfl|rfl|rfl|rfl|rfl|rfl;all_goals kernel_rfl
def A7(k:Nat):List (List Int):=(Hq.take k).map λa=>[a,118,119]
def aec(k:Nat)(b:k<20):A7 (k+1)=A7 k++[[Hq.getD k 0,118,119]]:=by
 unfold A7;rw[ie,dK];have a:Hq[k]?=N (Hq.getD k 0):=by
  rw[aK];rw[aA (by simpa [Hq] using b)];rfl
 rw[a];rfl
def aga(k:Nat)(a:k<=20):(A7 k).length=k:=by
 unfold A7;rw[bi,gC];show min k 20=k;omega
def ajj:∀k:Fin 20,0<=Hq.getD k.val 0/\Hq.getD k.val 0<=100:=by decide
def aG{o:Obj}(h:w.heap[b]?=N o):b<w.heap.size:=(Array.getElem?_eq_some_iff.1 h).1
def rf{a:Act}{D:DataW A3}(l:o.guard=T)(m x:Operand)(q:o.op=Op.lookup 69 m x A9)(p:a.eval m= .map (N mb))
  (g:W.ownsMap O 77 wy mb n D) (t:w.heap[mb]?=W.heap[mb]?) (s:Int) (s0:0<=s) (y:s<=255) (u:a.eval x= .int .u8 s) (k:D.atKey (.int .u8 s) (.held (.slice T 0 0))= .held v)
  (i:wpList O ops Q rest (a.put o.dst v) w):wpList O ops Q (o::rest) a w:=by
 refine wpList_plain l λz j=>?_;have h:w.ownsMap O 77 wy mb n D:=by
  obtain⟨f,c,d,e⟩:=g;exact⟨f,c,t.trans d,e⟩
 obtain⟨B,A,r,b⟩:=h.lookup aax Tryz.underlying69 (show(zeroValue 186).run O w= .ok (.slice T 0 0) w by kernel_rfl) (zd:= .held (.slice T 0 0)) (zp:=[]) rfl (aay s0 y);rw[k]at b;unfold wy at b;simp only[fi,jc,DataW.held.injEq]at b;obtain⟨rfl,_⟩:=b;unfold Oper.wp;simp[execOp,q,p,u,r,Result.andThen];exact j _ _ i
def Dr{a:Act}{ar w1:Ax}{D:DataW A3}{f:Int->A3}
  (E:o.guard=T) (m x v:Operand) (a8:o.op=Op.mapUpdate 69 m x v) (a4:a.eval m= .map (N mb))
  (t:W.ownsMap O 77 wy mb n D) (q:∀a,0<=a->a<=255->D.atKey (.int .u8 a) (.held (.slice T 0 0))= .held (f a)/\jf W base (f a) (zI R a)) (u:af9 f) (lo:base<=mb) (s:Int) (r:Z W.heap.size W w1) (G:w1.grownBy w (f s).ownBlock) (bh:n<1000)
  (s0:0<=s) (k:s<=255) (bb:a.eval x= .int .u8 s) (b:A3) (ba:a.eval v=b) (L:List (List Int)) (a6:jf w base b L) (ak:b.ownBlock=(f s).ownBlock\/b.ownBlock=N w1.heap.size) (ax:Z base ar W)
  (a2:∀i,RM i base mb (n+1) ((s,L)::R)->Z base ar i->wpList O ops Q rest (a.put o.dst Y) i):wpList O ops Q (o::rest) a w:=by
 have a5:=t.lt;obtain⟨ad,J,C,ao⟩:=t;have al:=(r.block _ a5).trans C;have H:∀c,(f s).ownBlock=N c->mb≠c:=by
  intro c y;have a9:=(q s s0 k).2;rcases a9.2 with⟨h,_⟩|⟨au,bd,bf,h,_,af,_⟩
  .rw[h]at y;cases y
  .rw[h]at y;obtain rfl:au=c:=by simpa [C2] using y
   rintro rfl;rw[C]at af;cases af
 have B:=(G.block mb (aG al) (λe=>H mb e.symm rfl)).trans al;have av:w.ownsMap O 77 wy mb n D:=⟨ad,J,B,ao⟩;have t:W.ownsMap O 77 wy mb n D:=⟨ad,J,C,ao⟩;refine wpList_mapUpdate_own w E m x v 69 a8 77 186 aax Tryz.underlying69 wy mb n D a4 av (by unfold Ex;omega) _ _ _ bb ba (aay s0 k) (.held b) [] rfl ?_;intro i a7 F;refine a2 i ⟨⟨_,λa=>if a=s then b else f a,a7,λa d g=>?_,?_⟩,lo⟩ ?_
 .by_cases e:a=s
  .subst e;rw[rH,atKey_put_same t.isMap (by trivial)];show DataW.held b=DataW.held (if a=a then b else f a)/\jf i base (if a=a then b else f a) L;rw[ab rfl];exact⟨rfl,vI a6 B F⟩
  .show _=DataW.held (if a=s then b else f a)/\jf i base (if a=s then b else f a) _;rw[qh (λh=>e h.symm),aa e,atKey_put_other (by intro h;injection h with _ h;exact e h)];exact⟨(q a d g).1,vI (Bo ((q a d g).2.keep r) G (u a s d g s0 k e)) B F⟩
 .have an:∀a,0<=a->a<=255->∀c,(f a).ownBlock=N c->c<W.heap.size:=λa d g c E=>((q a d g).2.lt c E).2;have bj:=r.size;intro a j d g z l H;show(if a=s then b else f a).ownBlock=T\/(if a=s then b else f a).ownBlock≠(if j=s then b else f j).ownBlock;by_cases A:a=s
  .rw[ab A,aa (by omega)];rcases ak with e|e
   .rw[e];exact u s j s0 k z l (by omega)
   .refine .inr (λp=>?_);rw[e]at p;have:=an j z l _ p.symm;omega
  .rw[aa A];by_cases K:j=s
   .rw[ab K];rcases ak with e|e
    .rw[e];exact u a s d g s0 k A
    .cases hq:(f a).ownBlock with
     |none=>exact .inl rfl
     |some c=>exact .inr (λp=>by rw[e]at p;have:=an a d g c hq;cases p;omega)
   .rw[aa K];exact u a j d g z l H
 .have a3:base<=W.heap.size:=by omega
  have l:=r.mono a3;refine ax.trans ?_;have I:=l.grown G (by have:=r.size;omega) (λap e=>((q s s0 k).2.lt ap e).1);exact I.grown F (by have:=I.size;omega) (λap e=>by cases e;exact lo)
def zJ{a:Act}{b:Ax}(p:o.guard=T)(s x:Operand)
  (t:o.op= .call {callee:= .builtin .append,args:=#[s,x],argTypes:=#[186,186]}) (w:a.eval s=v) (h:jf b base v L) (G:base<=b.heap.size) (cs:Array A3) (m g:Nat) (y:a.eval x= .slice (N ⟨g,0,T⟩) m m) (q:g=b.heap.size) (d:List (List Int)) (f:d.length=m) (n:cs.toList=Dq d) (u:∀r∈d,r.length<=6)
  (F:L.length+m<=1000)
  (l:∀c e,jf e base c (L++d)->(b.alloc (.cells cs 142 (0,0))).grownBy e v.ownBlock->(c.ownBlock=v.ownBlock\/c.ownBlock=N (b.alloc (.cells cs 142 (0,0))).heap.size)->wpList O ops Q rest (a.put o.dst c) e):wpList O ops Q (o::rest) a (b.alloc (.cells cs 142 (0,0))):=by
 subst q;obtain⟨z,A,B,C,E⟩:=eD Hp;refine wpList_append_own_at _ p s x 186 t base 142 z _ 6 6 Tryz.underlying186 A B C E rfl (by decide) v L.length (Dq L) w (World.ownsRow.alloc h _) ⟨b.heap.size,0,T⟩ m m (Dq d) y (by rw[acb u,f]) ?_ aca (by unfold Ex;omega) (by omega) (by simp;omega) ?_
 .rw[<-n];exact B3 (cs:=cs) (fr:=(0,0)) (aB b _)
 .intro c e i j _ k;refine l c e ?_ j k;unfold jf;rw[ab9,aJ,f];exact i
def J4(w:Ax)(base mb n:Nat)(R:List (Int×List (List Int)))(H:RM w base mb n R)(J:n<=100)(tt:B4)(fr:Nat×Nat)(v:w.heap[1]?=N (.cells J3 tt fr))(x:1<base):
  B2 O 53 #[.map (N mb)] w λe s=>e= .returned (.tuple #[])/\RM s base mb (n+34) ((124,[[117],[44,117,45,47,117],[48,1,47,117]])::(123,[[46,122],[]])::(122,[[124,123],[]])::(121,[[42,122,43]])::(119,[]::A7 20)::(118,[[25,118],[62,118],[50,118],[69,118],[1,120],[40,117,41,120],[2],[3],[4],[24],[29],[17],[49],[18,113],[121]])::(117,[[118,119]])::(116,[[46,115],[]])::(115,[[49],[1,116]])::(114,[[115],[]])::(113,[[40,114,41,108]])::(112,[[46,117,112],[]])::(111,[[117,112],[]])::(110,[[117,112]])::R)/\Z base w s:=by
 have a:Z base w w:=ai _ _;obtain⟨K,L,ad,af,ak⟩:=eD Hp;go_in;go_wp2_with (first
  |(at_mapUpdate;first
   |(refine bu rfl _ _ _ rfl rfl H ((ai _ _).alloc (ag _) _) (by omega) 110 (by decide) (by decide) rfl _ rfl [[117,112]] ?own a ?_;(case own=>exact eG _ _ [[117,112]] 1 rfl rfl (by decide) (by decide));clear H a;intro w1 H a)
   |(refine bu rfl _ _ _ rfl rfl H ((ai _ _).alloc (ag _) _) (by omega) 111 (by decide) (by decide) rfl _ rfl [[117,112],[]] ?own a ?_;(case own=>exact eG _ _ [[117,112],[]] 2 rfl rfl (by decide) (by decide));clear H a;intro w1 H a)
   |(refine bu rfl _ _ _ rfl rfl H ((ai _ _).alloc (ag _) _) (by omega) 112 (by decide) (by decide) rfl _ rfl [[46,117,112],[]] ?own a ?_;(case own=>exact eG _ _ [[46,117,112],[]] 2 rfl rfl (by decide) (by decide));clear H a;intro w1 H a)
   |(refine bu rfl _ _ _ rfl rfl H ((ai _ _).alloc (ag _) _) (by omega) 113 (by decide) (by decide) rfl _ rfl [[40,114,41,108]] ?own a ?_;(case own=>exact eG _ _ [[40,114,41,108]] 1 rfl rfl (by decide) (by decide));clear H a;intro w1 H a)
   |(refine bu rfl _ _ _ rfl rfl H ((ai _ _).alloc (ag _) _) (by omega) 114 (by decide) (by decide) rfl _ rfl [[115],[]] ?own a ?_;(case own=>exact eG _ _ [[115],[]] 2 rfl rfl (by decide) (by decide));clear H a;intro w1 H a)
   |(refine bu rfl _ _ _ rfl rfl H ((ai _ _).alloc (ag _) _) (by omega) 115 (by decide) (by decide) rfl _ rfl [[49],[1,116]] ?own a ?_;(case own=>exact eG _ _ [[49],[1,116]] 2 rfl rfl (by decide) (by decide));clear H a;intro w1 H a)
   |(refine bu rfl _ _ _ rfl rfl H ((ai _ _).alloc (ag _) _) (by omega) 116 (by decide) (by decide) rfl _ rfl [[46,115],[]] ?own a ?_;(case own=>exact eG _ _ [[46,115],[]] 2 rfl rfl (by decide) (by decide));clear H a;intro w1 H a)
   |(refine bu rfl _ _ _ rfl rfl H ((ai _ _).alloc (ag _) _) (by omega) 117 (by decide) (by decide) rfl _ rfl [[118,119]] ?own a ?_;(case own=>exact eG _ _ [[118,119]] 1 rfl rfl (by decide) (by decide));clear H a;intro w1 H a)
   |(refine bu rfl _ _ _ rfl rfl H ((ai _ _).alloc (ag _) _) (by omega) 118 (by decide) (by decide) rfl _ rfl [[25,118],[62,118],[50,118],[69,118],[1,120],[40,117,41,120],[2],[3],[4],[24],[29],[17],[49],[18,113],[121]] ?own a ?_;(case own=>exact eG _ _ [[25,118],[62,118],[50,118],[69,118],[1,120],[40,117,41,120],[2],[3],[4],[24],[29],[17],[49],[18,113],[121]] 15 rfl rfl (by decide) (by decide));clear H a;intro w1 H a)
   |(refine bu rfl _ _ _ rfl rfl H ((ai _ _).alloc (ag _) _) (by omega) 119 (by decide) (by decide) rfl _ rfl [[]] ?own a ?_;(case own=>exact eG _ _ [[]] 1 rfl rfl (by decide) (by decide));clear H a;intro w1 H a))
  |(refine uJ rfl 190 _ rfl 1 rfl tt _ fr _ ((a.block _ x).trans v) Tryz.underlying190 rfl (by kernel_rfl) ?_))
 go_loopw [54] (λl wr=>∃b:Nat,b<=20/\l= .int .i64 b/\RM wr base mb (n+10+b) ((119,[]::A7 b)::(118,[[25,118],[62,118],[50,118],[69,118],[1,120],[40,117,41,120],[2],[3],[4],[24],[29],[17],[49],[18,113],[121]])::(117,[[118,119]])::(116,[[46,115],[]])::(115,[[49],[1,116]])::(114,[[115],[]])::(113,[[40,114,41,108]])::(112,[[46,117,112],[]])::(111,[[117,112],[]])::(110,[[117,112]])::R)/\Z base w wr) (λl _=>20-(B7 l).toNat)
 case atStart=>exact⟨0,by omega,rfl,H,a⟩
 case round=>
  clear H a;obtain⟨b,A,rfl,H,a⟩:=hrel;by_cases j:b<20
  .have i:=λw=>aqK b j w;obtain⟨q,r⟩:=ajj ⟨b,j⟩;simp only at q r;have k:=aec b j;have p:=aga b A;generalize Hq.getD b 0=m at i q r k;generalize aji (3*b+1)=F at i;generalize aji (3*b+2)=p2 at i;obtain⟨D,u,d,h,o⟩:=H.ex;have E:=H.lo;have f:=h 119 (by decide) (by decide);rw[rH]at f;have B:=d.lt;have g:B5 (jf (wr.alloc (.cells #[.int .i64 m,.int .i64 F,.int .i64 p2] 189)) base (u 119) ([]::A7 b)/\A7 (b+1)=A7 b++[[m,118,119]]/\(A7 b).length=b):=⟨f.2.keep ((ai _ _).alloc (ag _) _),k,p⟩;clear k p;go_wp2_with (first
    |(at_lookup;refine rf rfl _ _ rfl rfl d ?blk 119 (by decide) (by decide) rfl f.1 ?_)
    |(at_builtin;go_loud (refine zJ rfl _ _ rfl rfl g.1 (by simp;omega) _ 1 (wr.heap.size+1) rfl (by simp) [[m,118,119]] rfl rfl (by simp) (by rw[bm,g.out.2.2];omega) ?_;intro al w5 C z y))
    |(at_mapUpdate;go_loud (refine Dr rfl _ _ _ rfl rfl d h o E 119 (((ai _ _).alloc (ag _) _).alloc (by simp) _) z (by omega) (by decide) (by decide) rfl _ rfl _ C y a ?_;clear H a d h o f;intro an H a)))
   case blk=>exact dG _ _ _ B
   go_roundw
   case rel=>
    refine⟨b+1,by omega,by go_num,?_,a⟩;refine RM.congr (n:=n+10+(b+1)) H (λt G I=>?_);by_cases e:t=119
    .subst e;rw[rH,rH,g.out.2.1];rfl
    .rw[qh (λc=>e c.symm),qh (λc=>e c.symm),qh (λc=>e c.symm)]
   case measure=>simp[B7];omega
  .obtain rfl:b=20:=by omega
   go_wp2_with (at_mapUpdate;first
    |(refine bu rfl _ _ _ rfl rfl H ((ai _ _).alloc (ag _) _) (by omega) 121 (by decide) (by decide) rfl _ rfl [[42,122,43]] ?own a ?_;(case own=>exact eG _ _ [[42,122,43]] 1 rfl rfl (by decide) (by decide));clear H a;intro w1 H a)
    |(refine bu rfl _ _ _ rfl rfl H ((ai _ _).alloc (ag _) _) (by omega) 122 (by decide) (by decide) rfl _ rfl [[124,123],[]] ?own a ?_;(case own=>exact eG _ _ [[124,123],[]] 2 rfl rfl (by decide) (by decide));clear H a;intro w1 H a)
    |(refine bu rfl _ _ _ rfl rfl H ((ai _ _).alloc (ag _) _) (by omega) 123 (by decide) (by decide) rfl _ rfl [[46,122],[]] ?own a ?_;(case own=>exact eG _ _ [[46,122],[]] 2 rfl rfl (by decide) (by decide));clear H a;intro w1 H a)
    |(refine bu rfl _ _ _ rfl rfl H ((ai _ _).alloc (ag _) _) (by omega) 124 (by decide) (by decide) rfl _ rfl [[117],[44,117,45,47,117],[48,1,47,117]] ?own a ?_;(case own=>exact eG _ _ [[117],[44,117,45,47,117],[48,1,47,117]] 3 rfl rfl (by decide) (by decide));clear H a;intro w1 H a))
   go_end0
   exact⟨rfl,H.mono (by omega),a⟩
def agb:((List.range 256).all λa=>decide (zI ((124,[[117],[44,117,45,47,117],[48,1,47,117]])::(123,[[46,122],[]])::(122,[[124,123],[]])::(121,[[42,122,43]])::(119,[]::A7 20)::(118,[[25,118],[62,118],[50,118],[69,118],[1,120],[40,117,41,120],[2],[3],[4],[24],[29],[17],[49],[18,113],[121]])::(117,[[118,119]])::(116,[[46,115],[]])::(115,[[49],[1,116]])::(114,[[115],[]])::(113,[[40,114,41,108]])::(112,[[46,117,112],[]])::(111,[[117,112],[]])::(110,[[117,112]])::(120,nH 120 120++[[]])::(133,nH 132 133++[[]])::(132,nH 132 133)::(131,[[1,132],[40,117,41,132]])::(130,nH 129 130)::(129,nH 129 130++[[46,128],[47,110]])::(128,[[1,129],[40,117,41,130]])::(127,nH 125 126)::(126,nH 125 126++[[]])::(125,nH 125 126++[[46,128],[47,110]])::(109,[[46,1,109],[]])::(108,[[42,100,43]])::(107,[[15,117,108,107],[16,108],[]])::(106,[[46,1],[]])::(105,[[46,117],[]])::(104,[[47,117,46,117,105,108],[21,117,108],[46,1,109,21,117,108]])::(103,[[47,110],[]])::(102,[[22,1,109,103],[13,1,47,117],[18,1,113],[20,117,108,107],[31,117,108],[19,1,104],[11],[23],[27,111],[30,108,12,1,106,108],[28,117],[14,131],[108],[1,125],[40,117,41,127]])::(101,[[5,100],[]])::(100,[[5,100],[102,101],[]])::[]) (a:Int)=ma (a:Int)))=B0:=by decide+kernel
def J5(w:Ax)(base mb n:Nat)(R:List (Int×List (List Int)))(H:RM w base mb n R)(c:n<=100):
  B2 O 51 #[.map (N mb)] w λe b=>e= A0 (Ce #[])/\RM b base mb (n+10) ((109,[[46,1,109],[]])::(108,[[42,100,43]])::(107,[[15,117,108,107],[16,108],[]])::(106,[[46,1],[]])::(105,[[46,117],[]])::(104,[[47,117,46,117,105,108],[21,117,108],[46,1,109,21,117,108]])::(103,[[47,110],[]])::(102,[[22,1,109,103],[13,1,47,117],[18,1,113],[20,117,108,107],[31,117,108],[19,1,104],[11],[23],[27,111],[30,108,12,1,106,108],[28,117],[14,131],[108],[1,125],[40,117,41,127]])::(101,[[5,100],[]])::(100,[[5,100],[102,101],[]])::R)/\Z base w b:=by
 have a:Z base w w:=ai _ _;go_in;go_wp2_with (at_mapUpdate;first
  |(refine bu rfl _ _ _ rfl rfl H ((ai _ _).alloc (ag _) _) (by omega) 100 (by decide) (by decide) rfl _ rfl [[5,100],[102,101],[]] ?own a ?_;(case own=>exact eG _ _ [[5,100],[102,101],[]] 3 rfl rfl (by decide) (by decide));clear H a;intro w1 H a)
  |(refine bu rfl _ _ _ rfl rfl H ((ai _ _).alloc (ag _) _) (by omega) 101 (by decide) (by decide) rfl _ rfl [[5,100],[]] ?own a ?_;(case own=>exact eG _ _ [[5,100],[]] 2 rfl rfl (by decide) (by decide));clear H a;intro w1 H a)
  |(refine bu rfl _ _ _ rfl rfl H ((ai _ _).alloc (ag _) _) (by omega) 102 (by decide) (by decide) rfl _ rfl [[22,1,109,103],[13,1,47,117],[18,1,113],[20,117,108,107],[31,117,108],[19,1,104],[11],[23],[27,111],[30,108,12,1,106,108],[28,117],[14,131],[108],[1,125],[40,117,41,127]] ?own a ?_;(case own=>exact eG _ _ [[22,1,109,103],[13,1,47,117],[18,1,113],[20,117,108,107],[31,117,108],[19,1,104],[11],[23],[27,111],[30,108,12,1,106,108],[28,117],[14,131],[108],[1,125],[40,117,41,127]] 15 rfl rfl (by decide) (by decide));clear H a;intro w1 H a)
  |(refine bu rfl _ _ _ rfl rfl H ((ai _ _).alloc (ag _) _) (by omega) 103 (by decide) (by decide) rfl _ rfl [[47,110],[]] ?own a ?_;(case own=>exact eG _ _ [[47,110],[]] 2 rfl rfl (by decide) (by decide));clear H a;intro w1 H a)
  |(refine bu rfl _ _ _ rfl rfl H ((ai _ _).alloc (ag _) _) (by omega) 104 (by decide) (by decide) rfl _ rfl [[47,117,46,117,105,108],[21,117,108],[46,1,109,21,117,108]] ?own a ?_;(case own=>exact eG _ _ [[47,117,46,117,105,108],[21,117,108],[46,1,109,21,117,108]] 3 rfl rfl (by decide) (by decide));clear H a;intro w1 H a)
  |(refine bu rfl _ _ _ rfl rfl H ((ai _ _).alloc (ag _) _) (by omega) 105 (by decide) (by decide) rfl _ rfl [[46,117],[]] ?own a ?_;(case own=>exact eG _ _ [[46,117],[]] 2 rfl rfl (by decide) (by decide));clear H a;intro w1 H a)
  |(refine bu rfl _ _ _ rfl rfl H ((ai _ _).alloc (ag _) _) (by omega) 106 (by decide) (by decide) rfl _ rfl [[46,1],[]] ?own a ?_;(case own=>exact eG _ _ [[46,1],[]] 2 rfl rfl (by decide) (by decide));clear H a;intro w1 H a)
  |(refine bu rfl _ _ _ rfl rfl H ((ai _ _).alloc (ag _) _) (by omega) 107 (by decide) (by decide) rfl _ rfl [[15,117,108,107],[16,108],[]] ?own a ?_;(case own=>exact eG _ _ [[15,117,108,107],[16,108],[]] 3 rfl rfl (by decide) (by decide));clear H a;intro w1 H a)
  |(refine bu rfl _ _ _ rfl rfl H ((ai _ _).alloc (ag _) _) (by omega) 108 (by decide) (by decide) rfl _ rfl [[42,100,43]] ?own a ?_;(case own=>exact eG _ _ [[42,100,43]] 1 rfl rfl (by decide) (by decide));clear H a;intro w1 H a)
  |(refine bu rfl _ _ _ rfl rfl H ((ai _ _).alloc (ag _) _) (by omega) 109 (by decide) (by decide) rfl _ rfl [[46,1,109],[]] ?own a ?_;(case own=>exact eG _ _ [[46,1,109],[]] 2 rfl rfl (by decide) (by decide));clear H a;intro w1 H a))
 go_end0
 exact⟨rfl,H,a⟩
structure RI (W:Ax) (base mb:Nat):Prop where
 ex:∃(D:DataW A3) (f:Int->A3) (n:Nat),W.ownsMap O 77 wy mb n D/\∀a,0<=a->a<=255->D.atKey (.int .u8 a) (.held (.slice T 0 0))= .held (f a)/\jf W base (f a) (ma a)
def RM.ri(h:RM W base mb n R)(g:∀a,0<=a->a<=255->zI R a=ma a):RI W base mb:=by
 obtain⟨D,d,e,f,_⟩:=h.ex;exact⟨D,d,n,e,λa b c=>by rw[<-g a b c];exact f a b c⟩
def RI.same(h:RI W base mb)(n:∀a c,W.heap[mb]?=N (.map a c)->W'.heap[mb]?=N (.map a c))(o:∀(g:Nat) (cs:Array A3) (fr:Nat×Nat),W.heap[g]?=N (A2 cs 142 fr)->W'.heap[g]?=N (A2 cs 142 fr)):RI W' base mb:=by
 obtain⟨D,m,p,⟨a,c,k,l⟩,f⟩:=h.ex;refine⟨D,m,p,⟨a,c,n _ _ k,l⟩,λb d e=>⟨(f b d e).1,?_⟩⟩;have:=(f b d e).2;refine⟨this.1,?_⟩;rcases this.2 with h|⟨g,i,j,q,r,s,t⟩
 .exact .inl h
 .exact .inr ⟨g,i,j,q,r,o _ _ _ s,t⟩
def RI.below(h:RI W base mb)(b:Z W.heap.size W W'):RI W' base mb:=
 h.same (λe c a=>(b.block _ (aG a)).trans a) (λg d f a=>(b.block _ (aG a)).trans a)
def RI.gp{cs:Array A3}(h:RI W base mb)(c:W.heap[gb]?=N (A2 cs 75 fr))(d:Gp gb W W'):RI W' base mb:=
 h.same (λf e a=>(d.block _ (aG a) (by rintro rfl;rw[c]at a;cases a) (λcs fr b=>by rw[a]at b;cases b)).trans a)
  (λg cs fr a=>(d.block _ (aG a) (by rintro rfl;rw[c]at a;cases a) (λcs fr b=>by rw[a]at b;cases b)).trans a)
def J6(c:0<=a)(d:a<=255):∀R,((List.range 256).all λa=>decide (zI R (a:Int)=ma (a:Int)))=B0->zI R a=ma a:=by
 intro R b;have:=List.all_eq_true.1 b a.toNat (by rw[mI];omega);rw[show((a.toNat:Nat):Int)=a by omega]at this;exact aE this
def Hr(w:Ax)(tt:B4)(fr:Nat×Nat)(a:w.heap[1]?=N (A2 J3 tt fr)):
  B2 O 26 #[] w λe h=>e= A0 (.map (N w.heap.size))/\RI h w.heap.size w.heap.size/\Z w.heap.size w h:=by
 have g:=aG a;have r:∀w:Ax,(Instr.makeMap 69 (N (M S 34))).run O w= .ok (.map (N w.heap.size)) (w.alloc (.map #[] 0)):=λw=>by kernel_rfl
 have i:RM (w.alloc (.map #[] 0)) w.heap.size w.heap.size 0 []:=⟨⟨.map [],λ_=> A5 T 0 0,World.ownsMap_made _ _ _ _,λb _ _=>⟨rfl,⟨rfl,.inl ⟨rfl,rfl⟩⟩⟩,λb q _ _ _ _ _=> .inl rfl⟩,ag _⟩;have c:Z w.heap.size w (w.alloc (.map #[] 0)):=(ai _ _).alloc (ag _) _;have m:=aq a;clear a;go_in;go_wp2_with (first
  |(go_at_call 51;refine(J5 _ w.heap.size w.heap.size 0 [] i (by omega)).mono ?_;rintro e s ⟨rfl,j,d⟩)
  |(go_at_call 52;refine(J2 _ w.heap.size w.heap.size _ _ j (by omega)).mono ?_;rintro e t ⟨rfl,k,f⟩)
  |(go_at_call 53;refine(J4 _ w.heap.size w.heap.size _ _ k (by omega) tt fr ((((c.trans d).trans f).block _ g).trans m) g).mono ?_;rintro e u ⟨rfl,l,p⟩))
 go_ret;exact⟨rfl,l.ri (λb n o=>J6 n o _ agb),((c.trans d).trans f).trans p⟩
def Hs(w:Ax)(tt:B4)(fr:Nat×Nat)(j:w.heap[1]?=N (A2 J3 tt fr)):
  B2 O 12 #[] w λe c=>∃gb,e= A0 (V (N ⟨gb,0,T⟩))/\G4 c w.heap.size gb (.map (N w.heap.size)) [100,6]/\RI c w.heap.size w.heap.size/\Z w.heap.size w c:=by
 have l:=Hr w tt fr j;clear j;go_in;go_wp21
 refine l.mono ?_;rintro e w1 ⟨rfl,g,b⟩;have k:=b.size;have d:G4 (w1.alloc (A2 #[.map (N w.heap.size),A5 T 0 0] 75 (0,0))) w.heap.size w1.heap.size (.map (N w.heap.size)) []:=⟨⟨A5 T 0 0,aB w1 _,⟨rfl,.inl ⟨rfl,rfl⟩⟩⟩,k⟩;have i:=g.below ((ai w1.heap.size w1).alloc (ag _) (A2 #[.map (N w.heap.size),A5 T 0 0] 75 (0,0)));have a:=b.alloc k (A2 #[.map (N w.heap.size),A5 T 0 0] 75 (0,0));have h:=gE i a;clear l g b i a;go_wp21
 refine(zt _ w.heap.size w1.heap.size (.map (N w.heap.size)) [] 6 d (by decide)).mono ?_;rintro e u ⟨rfl,f,n,a⟩;go_wp21
 refine(zt _ w.heap.size w1.heap.size (.map (N w.heap.size)) [6] 100 f (by decide)).mono ?_;rintro e v ⟨rfl,m,o,r⟩;go_wp21
 go_ret;obtain⟨s,p,_⟩:=d.ex;obtain⟨t,q,_⟩:=f.ex;exact⟨_,rfl,m,(h.1.gp p n).gp q o,(h.2.trans a).trans r⟩
structure GB (W:Ax) (base gb mb:Nat):Prop where
 c:W.cell? ⟨gb,0,T⟩=N (.map (N mb))
 r:RI W base mb
def GB.below(h:GB W base gb mb)(a:Z W.heap.size W W'):GB W' base gb mb:=⟨ah a h.c,h.r.below a⟩
def dp(a:Int):Nat:=if a<100 then 0 else if a=100 then 3 else if a=102 then 2 else if a=110\/a=111 then 4 else if a=114 then 2 else if a=117 then 3 else if a=118 then 2 else if a=122 then 5 else if a=124 then 4 else 1
def hdN(f:Nat)(t:Int)(r:List Int):Bool:=Ay f (r.getD 0 0) t
def zK(L:List (List Int))(d:Nat):Bool:=decide (L.length<=30)&&L.all λr=>decide (r.length<=6)&&r.all (λa=>decide (1<=a/\a<=133))&&decide (dp (r.getD 0 0)+1<=d)
def J7:((List.range 256).all λa=>zK (ma (a:Int)) (dp (a:Int)))=B0:=by decide+kernel
def BL(b:0<=a)(c:a<=255):zK (ma a) (dp a)=B0:=by
 have:=List.all_eq_true.1 J7 a.toNat (by rw[mI];omega);rw[show((a.toNat:Nat):Int)=a by omega]at this;exact this
def ak8(a:1<=t)(f:Nat)(r:List Int):hdN (f+1) t r=(match r with|[]=>A9|h::_=>Ay (f+1) h t):=by
 cases r with
 |nil=>
  show Ay (f+1) 0 t=A9;rw[Ay,ab (by decide)];exact aD (by omega)
 |cons h b=>rfl
def acd{r:List Int}(h:r.length<=6):rc r=[M S (r.getD 0 0),M S (r.getD 1 0),M S (r.getD 2 0),M S (r.getD 3 0),M S (r.getD 4 0),M S (r.getD 5 0)]:=by
 match r,h with
 |[],_=>rfl
 |[_],_=>rfl
 |[_,_],_=>rfl
 |[_,_,_],_=>rfl
 |[_,_,_,_],_=>rfl
 |[_,_,_,_,_],_=>rfl
 |[_,_,_,_,_,_],_=>rfl
 |_::_::_::_::_::_::_::_,h=>simp at h
def jf.cell{g c:Nat}(h:jf W base (A5 (N ⟨g,0,T⟩) n c) L)(e:∀r∈L,r.length<=6){r:List Int}(a:L[k]?=N r){i:Nat}(t:i<6):
  W.cell? ⟨g,k*6+i,T⟩=N (M S (r.getD i 0)):=by
 have u:k<L.length:=(List.getElem?_eq_some_iff.1 a).1;have j:n=L.length:=by
  rcases h.2 with⟨h,_⟩|⟨s,p,q,h,_⟩
  .cases h
  .cases h;rfl
 subst j;rw[World.ownsRow.cellAt h (k*6+i) (by omega)];have o:∀(L:List (List Int)),(∀r∈L,r.length<=6)->∀k r,L[k]?=N r->(Dq L)[k*6+i]?=N (M S (r.getD i 0)):=by
  intro L
  induction L with
  |nil=>intro _ k r h;simp at h
  |cons b L m=>
   intro h k r d;have l:=h b (by simp);rw[show Dq (b::L)=rc b++Dq L from rfl];have f:(rc b).length=6:=by simp[rc];omega
   cases k with
   |zero=>
    simp at d;subst d;rw[iq (by omega),acd l];rcases(show i=0\/i=1\/i=2\/i=3\/i=4\/i=5 by omega) with rfl|rfl|rfl|rfl|rfl|rfl<;>rfl
   |succ k=>
    rw[gh (by omega),f,show(k+1)*6+i-6=k*6+i by omega];exact m (λr a=>h r (by simp[a])) k r (by simpa using d)
 exact o L e k r a
def aed(W:Ax)(b:Nat)(x0 a c d e f:Int):Ax:=((((((W.setCell ⟨b,0,T⟩ (M S x0)).setCell ⟨b,1,T⟩ (M S a)).setCell ⟨b,2,T⟩ (M S c)).setCell ⟨b,3,T⟩ (M S d)).setCell ⟨b,4,T⟩ (M S e)).setCell ⟨b,5,T⟩ (M S f))
def J8{t:B4}{l m n o p q:Int}(h:W.heap[b]?=N (A2 #[M S l,M S m,M S n,M S o,M S p,M S q] t (0,0)))(x0 c d e f g:Int):(aed W b x0 c d e f g).heap[b]?=N (A2 #[M S x0,M S c,M S d,M S e,M S f,M S g] t (0,0)):=by
 have a:=λi j {W k}=>aL W b i k t (M S j);simpa [aed] using a 5 g (a 4 f (a 3 e (a 2 d (a 1 c (a 0 x0 h)))))
def Ds(h:Z base w W)(a:base<=b)(x0 c d e f g:Int):Z base w (aed W b x0 c d e f g):=by
 unfold aed
 iterate 6 refine fK ?_ a _
 exact h
def ace{a:Func}{p u:Tmp}(h:a.results=#[.cell p 142,.tmp u])(tmps:Array A3)(w:Ax)(g:Nat)(x0 c d e f i:Int)(b:Bool)(k:tmps.getD p Y= .pointer (N ⟨g,0,T⟩))(l:tmps.getD u Y= .bool b)
  (j:w.heap[g]?=N (.cells #[.int .u8 x0,.int .u8 c,.int .u8 d,.int .u8 e,.int .u8 f,.int .u8 i] 142 (0,0))):(results a tmps).run O w= .ok (.tuple #[.agg #[.int .u8 x0,.int .u8 c,.int .u8 d,.int .u8 e,.int .u8 f,.int .u8 i],.bool b]) w:=by
 rw[results_cell_tmp h,k];simp only[asAddr,Sem.run_pure,Gj];rw[Gn w g 142 142 _ _ _ j Tryz.underlying142 rfl (by kernel_rfl),Gj,l]
def acf(n:Nat):Prop:=∀(w:Ax)(base gb mb:Nat)(a t:Int),GB w base gb mb->0<=a->a<=133->dp a<=n->1<=t->t<=78->
 B2 O 58 #[V (N ⟨gb,0,T⟩),M S a,M S t] w λb c=>b= A0 (Br (Ay (n+1) a t))/\Z w.heap.size w c
def rwN(f:Nat)(L:List (List Int))(t:Int):List Int:=(L.find? (hdN f t)).getD []
structure Dt (f:Nat) (t:Int) (L:List (List Int)) (k:Nat) (r:List Int) (b:Bool):Prop where
 fd:rwN f (L.drop k) t=r
 an:(L.drop k).any (hdN f t)=b
def Du(n:Nat)(b6:acf n)(w:Ax)(base au mb:Nat)(a t:Int)(K:GB w base au mb)(ao:0<=a)(c2:a<=133)(c7:dp a<=n+1)(cn:1<=t)(cp:t<=78)(B:List Int)(z:Bool)(bj:Dt (n+1) t (ma a) 0 B z):
  B2 O 64 #[V (N ⟨au,0,T⟩),M S a,M S t] w λe cq=>e= A0 (Ce #[B6 (rc B).toArray,Br z])/\Z w.heap.size w cq:=by
 obtain⟨D,c6,dd,a2,bf⟩:=K.r.ex;obtain⟨a4,f⟩:=bf a ao (by omega);have u:=BL ao (show a<=255 by omega);generalize ma a=g at *;unfold zK at u;rw[bI,si]at u;have b5:g.length<=30:=aE u.1;have v:∀b∈g,b.length<=6:=λb c=>by have:=u.2 b c;simp only[bI]at this;exact aE this.1.1
 have ca:∀b∈g,dp (b.getD 0 0)<=n:=λb c=>by have:=u.2 b c;simp only[bI]at this;have:=aE this.2;omega
 have cb:∀b∈g,0<=b.getD 0 0/\b.getD 0 0<=133:=λb c=>by
  have:=u.2 b c;simp only[bI,si]at this;cases b with
  |nil=>simp
  |cons cy b=>have:=aE (this.1.2 cy (by simp));simp;omega
 obtain⟨I,a5⟩:=aF g.length;have ad:=f;unfold jf at ad;rw[a5]at ad b5;obtain⟨bx,c4,bs⟩:=bJ ad;rw[bs]at a4 f;have bd:=K.c;have b9:=a2.lt;have b7:=λo=>ah (al1 (o:=o) rfl).2.1 bd;have y:=Cn K f a5 bj;clear ad f bs u bf K a5 bj;go_in;go_wp2_with (at_lookup;refine rf rfl _ _ rfl rfl a2 ?blk a ao (by omega) rfl a4 ?_)
 case blk=>exact dG _ _ _ b9
 clear a4 bd b7 a2;go_loopw [17] (λi wr=>∃d:Nat,d<=I/\i= M X d/\Dt (n+1) t g d B z/\Z w.heap.size w wr/\wr.heap[w.heap.size]?=N (A2 #[M S 0,M S 0,M S 0,M S 0,M S 0,M S 0] 142 (0,0))) (λi _=>I-(B7 i).toNat)
 case atStart=>exact⟨0,by omega,rfl,y.2.2.2,(al1 rfl).2.1,(al1 rfl).1⟩
 case round=>
  obtain⟨d,c8,rfl,j,E,x⟩:=hrel;by_cases b8:d<I
  .obtain⟨b,c⟩:∃b,g[d]?=N b:=⟨_,aA (by rw[y.out.2.2.1];exact b8)⟩;have L:=dz c;have f:=y.2.1.keep E;obtain⟨ar,rfl⟩:∃ar,bx=N ⟨ar,0,T⟩:=by
    rcases bB f with⟨ax,_⟩|⟨ar,c3,ax⟩
    .rw[y.out.2.2.1]at ax;omega
    .cases ax;exact⟨_,rfl⟩
   have bv:=f.cell v c (i:=0) (by decide);have cd:=f.cell v c (i:=1) (by decide);have ce:=f.cell v c (i:=2) (by decide);have cf:=f.cell v c (i:=3) (by decide);have ck:=f.cell v c (i:=4) (by decide);have cl:=f.cell v c (i:=5) (by decide);obtain⟨h,af⟩:=aF (b.getD 0 0);obtain⟨l,a7⟩:=aF (b.getD 1 0);obtain⟨m,a8⟩:=aF (b.getD 2 0);obtain⟨p,a9⟩:=aF (b.getD 3 0);obtain⟨q,ba⟩:=aF (b.getD 4 0);obtain⟨r,bb⟩:=aF (b.getD 5 0);rw[af]at bv;rw[a7]at cd;rw[a8]at ce;rw[a9]at cf;rw[ba]at ck;rw[bb]at cl;rw[gD]at bv;obtain⟨bl,bn⟩:=cb b L;have bo:=ca b L;rw[af]at bl bn bo;have da:(d:Int)<(I:Int):=by omega
   have c9:(0:Int)<=(d:Int):=by omega
   have al:=aqw c L af a7 a8 a9 ba bb;clear c L af a7 a8 a9 ba bb f;have a3:=E.alloc E.size (A2 #[M S h,M S l,M S m,M S p,M S q,M S r] 142 (0,0));have bt:=b6 _ base au mb h t (y.1.below a3) bl bn bo cn cp;go_wp2_with fail;refine bt.mono ?_;rintro e ak ⟨rfl,J⟩;have dc:=E.size;have cc:=aG x;have bk:ak.heap[wr.heap.size]?=N (A2 #[M S h,M S l,M S m,M S p,M S q,M S r] 142 (0,0)):=(J.block _ (by simp)).trans (aB wr _);have H:ak.heap[w.heap.size]?=N (A2 #[M S 0,M S 0,M S 0,M S 0,M S 0,M S 0] 142 (0,0)):=((J.block _ (by simp;omega)).trans (dG _ _ _ cc)).trans x;have bh:Z w.heap.size w ak:=a3.trans (J.mono (by simp;omega));have A:g.drop d=b::g.drop (d+1):=by
    obtain⟨bA,ap⟩:=List.getElem?_eq_some_iff.1 al.1;rw[lp bA,ap]
   have k:hdN (n+1) t b=Ay (n+1) h t:=by unfold hdN;rw[al.out.2.2.1]
   have a6:rc b=[M S h,M S l,M S m,M S p,M S q,M S r]:=by
    obtain⟨_,ap,bD,bE,b1,b2,b3,b4⟩:=al.out;rw[acd (v b ap),bD,bE,b1,b2,b3,b4]
   clear bt J a3;cases hbv:Ay (n+1) h t with
   |true=>
    have s:B5 (B=b/\z=B0):=by
     rw[hbv]at k;refine⟨?_,?_⟩
     .rw[<-j.fd,A];unfold rwN;rw[List.find?_cons_of_pos k];rfl
     .rw[<-j.an,A,List.any_cons,k];rfl
    have G:=J8 H h l m p q r;have F:=Ds bh (ag _) h l m p q r;obtain⟨df,dg,dn,dq,ds,dx⟩:=ik bk;obtain⟨z0,cz,cB,cF,cI,c1⟩:=ik H;obtain⟨cr,cs,ct,cu,cw,cx⟩:=pK H;have C:=gE G F;clear G F bk H x;have bw:B5 (hdN (n+1) t b=B0/\rc b=[M S h,M S l,M S m,M S p,M S q,M S r]):=⟨k.trans hbv,a6⟩;clear k A a6 hbv j;go_wp2_with fail;try rw[Bm]
    change bodyPost _ _ _ _ _ (aed ak w.heap.size h l m p q r)
    refine aH (ace rfl _ _ w.heap.size h l m p q r B0 rfl rfl C.1) rfl ⟨?_,C.2⟩;rw[s.out.1,s.out.2,bw.out.2]
   |false=>
    have s:Dt (n+1) t g (d+1) B z:=by
     rw[hbv]at k;refine⟨?_,?_⟩
     .rw[<-j.fd,A];unfold rwN;rw[List.find?_cons_of_neg (by rw[k];simp)]
     .rw[<-j.an,A,List.any_cons,k];rfl
    clear k A a6 hbv j;go_wp2_with fail;go_roundw
    case rel=>exact⟨d+1,by omega,by go_num,s,bh,H⟩
    case measure=>simp[B7];omega
  .obtain rfl:d=I:=by omega
   have s:B5 (B=[]/\z=A9):=by
    have br:g.drop d=[]:=lr (by rw[y.out.2.2.1];exact ag _);refine⟨?_,?_⟩
    .rw[<-j.fd,br];rfl
    .rw[<-j.an,br];rfl
   have G:=J8 x 0 0 0 0 0 0;have F:=Ds E (ag _) 0 0 0 0 0 0;obtain⟨z0,cz,cB,cF,cI,c1⟩:=ik x;obtain⟨cr,cs,ct,cu,cw,cx⟩:=pK x;have C:=gE G F;clear G F x j;go_wp2_with fail;try rw[Bm]
   change bodyPost _ _ _ _ _ (aed wr w.heap.size 0 0 0 0 0 0)
   refine aH (ace rfl _ _ w.heap.size 0 0 0 0 0 0 A9 rfl rfl C.1) rfl ⟨?_,C.2⟩;rw[s.out.1,s.out.2];rfl
def amq(a:1<=t)(f:Nat)(L:List (List Int)):L.any (hdN (f+1) t)=L.any (λr=>match r with|[]=>A9|h::_=>Ay (f+1) h t):=by
 congr 1
 funext r
 exact ak8 a f r
def AC(n:Nat)(p:n=0\/∃m,n=m+1/\acf m):acf n:=by
 intro C v x A a c y k u F t B;by_cases i:a<100
 .have e:Ay (n+1) a c=decide (a=c):=by rw[Ay,ab i]
  rw[e];have w:(a==c)=decide (a=c):=by rw[vf];simp
  obtain⟨E,o⟩:=aF (decide (a=c));rw[o]at w⊢;clear e o;go_in;go_wp21
  go_ret;exact⟨rfl,ai _ _⟩
 .have G:1<=dp a:=by unfold dp;rw[aa i];repeat (first|(split;· omega)|omega)
  obtain⟨m,rfl,q⟩:=p.resolve_left (by omega);obtain⟨b,g,h⟩:∃b g,Dt (m+1) c (ma a) 0 b g:=⟨_,_,⟨rfl,rfl⟩⟩;have e:Ay (m+1+1) a c=g:=by
   rw[Ay,aa i];refine(amq t m (ma a)).symm.trans ?_;rw[<-h.an];rfl
  rw[e];have d:=Du m q C v x A a c y k u (by omega) t B b g h;have r:b.length<=6:=by
   have j:=BL k (show a<=255 by omega);unfold zK at j;rw[bI,si]at j;have f:=h.fd;unfold rwN at f;cases hf:List.find? (hdN (m+1) c) (List.drop 0 (ma a)) with
   |none=>rw[hf]at f;rw[<-f];exact aI _
   |some s=>
    rw[hf]at f;have z:s∈ma a:=abu hf;have:=j.2 s z;simp only[bI]at this;rw[<-f];exact aE this.1.1
  rw[acd r]at d;generalize b.getD 0 0=I at d;generalize b.getD 1 0=J at d;generalize b.getD 2 0=K at d;generalize b.getD 3 0=L at d;generalize b.getD 4 0=ad at d;generalize b.getD 5 0=af at d;clear h e r q p;go_in;go_wp2_with (go_at_call 64;refine d.mono ?_;rintro e H ⟨rfl,l⟩);go_ret;exact⟨rfl,l.alloc l.size _⟩
def xl:∀n,acf n
 |0=>AC 0 (.inl rfl)
 |n+1=>AC (n+1) (.inr ⟨n,rfl,xl n⟩)
attribute [local go_sem] lu
def amr(w:Ax):(Op.equalIn 10000 142 (B6 #[M S 0,M S 0,M S 0,M S 0,M S 0,M S 0]) (B6 #[M S 0,M S 0,M S 0,M S 0,M S 0,M S 0])).run O w= .ok B0 w:=by kernel_rfl
def ams{x0:Int}(h:x0≠0)(a b c d e:Int)(w:Ax):(Op.equalIn 10000 142 (.agg #[.int .u8 0,.int .u8 0,.int .u8 0,.int .u8 0,.int .u8 0,.int .u8 0]) (.agg #[.int .u8 x0,.int .u8 a,.int .u8 b,.int .u8 c,.int .u8 d,.int .u8 e])).run O w= .ok A9 w:=by
 have f:(0==x0)=A9:=by rw[dv];omega
 rw[show(10000:Nat)=9999+1 from rfl,Op.equalIn];simp only[Sem.run_bind,run_underlying Tryz.underlying142,Gj];simp only[Std.Legacy.Range.forIn_eq_forIn_range',Std.Legacy.Range.size,vq,nK,Nat.div_one,List.range'_succ,List.range'_zero,List.forIn_cons,List.forIn_nil];go_simp
def J9{a:Ax}(h:Z B a w)(n:Nat):Z B a (w.drewN n):=⟨h.os,h.tape,h.output,h.size,h.block⟩
structure Ht (L:List (List Int)) (k:Nat) (b:Bool):Prop where
 out:(L.drop k).contains []=b
def aee(w:Ax)(base:Nat)(v:A3)(L:List (List Int))(d:Bool)(b:jf w base v L)(K:L.length<=30)(f:∀r∈L,r.length<=6)(ak:∀r∈L,r≠[]->1<=r.getD 0 0)(u:Ht L 0 d):
  B2 O 182 #[v,B6 #[M S 0,M S 0,M S 0,M S 0,M S 0,M S 0]] w λe al=>(∃z,e= A0 (M X z)/\decide (0<=z)=d)/\Z w.heap.size w al:=by
 obtain⟨k,q⟩:=aF L.length;have n:=b;unfold jf at n;rw[q]at n K;obtain⟨F,a0,rfl⟩:=bJ n;have j:=kJ b q u;clear b n q u;go_in;go_wp2_with fail;go_loopw [8] (λi wr=>∃a:Nat,a<=k/\i= M X a/\Ht L a d/\Z w.heap.size w wr/\wr.heap[w.heap.size]?=N (A2 #[M S 0,M S 0,M S 0,M S 0,M S 0,M S 0] 142 (0,0))) (λi _=>k-(B7 i).toNat)
 case atStart=>exact⟨0,by omega,rfl,j.2.2,(al1 rfl).2.1,(al1 rfl).1⟩
 case round=>
  obtain⟨a,a1,rfl,g,l,x⟩:=hrel;by_cases ad:a<k
  .obtain⟨r,c⟩:∃r,L[a]?=N r:=⟨_,aA (by rw[j.out.2.1];exact ad)⟩;have s:=dz c;have b:=j.1.keep l;obtain⟨o,rfl⟩:∃o,F=N ⟨o,0,T⟩:=by
    rcases bB b with⟨p,_⟩|⟨o,ax,p⟩
    .rw[j.out.2.1]at p;omega
    .cases p;exact⟨_,rfl⟩
   have t:=b.cell f c (i:=0) (by decide);have y:=b.cell f c (i:=1) (by decide);have A:=b.cell f c (i:=2) (by decide);have B:=b.cell f c (i:=3) (by decide);have C:=b.cell f c (i:=4) (by decide);have E:=b.cell f c (i:=5) (by decide);rw[gD]at t;have af:r=[]\/1<=r.getD 0 0:=(Decidable.em (r=[])).imp_right (ak r s);have m:L.drop a=r::L.drop (a+1):=by
    obtain⟨G,H⟩:=List.getElem?_eq_some_iff.1 c;rw[lp G,H]
   obtain⟨a3,a4,a5,a6,a7,a8⟩:=ik x;have a2:(a:Int)<(k:Int):=by omega
   have J:(0:Int)<=(a:Int):=by omega
   rcases af with rfl|hpos
   .have h:B5 (d=B0):=by
     show d=B0;rw[<-g.out,m];simp
    simp only[List.getD_nil]at t y A B C E;have I:=λw=>amr w;clear m g c s;go_wp2_with fail;go_quiet (fail)
    go_wp2_with fail;try rw[Bm]
    go_ret;exact⟨⟨_,rfl,by rw[h.out];exact bp J⟩,J9 l nq⟩
   .have h:Ht L (a+1) d:=by
     refine⟨?_⟩;rw[<-g.out,m,List.contains_cons];have:([]==r)=A9:=by
      rw[dv];rintro rfl;simp at hpos
     rw[this,xH]
    generalize r.getD 0 0=x0 at t hpos;generalize r.getD 1 0=an at y;generalize r.getD 2 0=ao at A;generalize r.getD 3 0=ap at B;generalize r.getD 4 0=ar at C;generalize r.getD 5 0=au at E;have I:=λw=>ams (x0:=x0) (by omega) an ao ap ar au w;clear m g c s;go_wp2_with fail;go_quiet (fail)
    go_wp2_with fail;go_roundw
    case rel=>exact⟨a+1,by omega,by go_num,h,J9 l nq,x⟩
    case measure=>simp[B7];omega
  .obtain rfl:a=k:=by omega
   have h:B5 (d=A9):=by
    show d=A9;rw[<-g.out,lr (by rw[j.out.2.1];exact ag _)];rfl
   clear g;go_wp2_with fail;go_ret;exact⟨⟨-1,rfl,by rw[h.out];rfl⟩,l⟩
def Hu(w:Ax)(base:Nat)(v:A3)(L:List (List Int))(a:Bool)(d:jf w base v L)(h:L.length<=30)(f:∀r∈L,r.length<=6)(i:∀r∈L,r≠[]->1<=r.getD 0 0)(c:Ht L 0 a):
  B2 O 110 #[v,B6 #[M S 0,M S 0,M S 0,M S 0,M S 0,M S 0]] w λe l=>e= A0 (Br a)/\Z w.heap.size w l:=by
 have b:=(ai w.heap.size w).alloc (ag _) (A2 #[M S 0,M S 0,M S 0,M S 0,M S 0,M S 0] 142 (0,0));have k:=aee _ base v L a (d.keep b) h f i c;clear d c;go_in;go_wp2_with (go_at_call 182;refine k.mono ?_;rintro e m ⟨⟨n,rfl,j⟩,g⟩);go_ret;refine⟨?_,b.trans (g.mono (by simp))⟩;rw[<-j];rfl
def ajk(w:Ax)(base k mb:Nat)(a:Int)(h:GB w base k mb)(g:0<=a)(A:a<=133):
  B2 O 59 #[V (N ⟨k,0,T⟩),M S a] w λe y=>e= A0 (Br (JC a))/\Z w.heap.size w y:=by
 obtain⟨D,o,C,p,l⟩:=h.r.ex;obtain⟨s,m⟩:=l a g (by omega);have d:=BL g (show a<=255 by omega);unfold JC;generalize ma a=f at *;unfold zK at d;rw[bI,si]at d;have r:=aE d.1;have u:∀b∈f,b.length<=6:=λb j=>by have:=d.2 b j;simp only[bI]at this;exact aE this.1.1
 have v:∀b∈f,b≠[]->1<=b.getD 0 0:=λb j t=>by
  have:=d.2 b j;simp only[bI,si]at this;cases b with
  |nil=>exact absurd rfl t
  |cons z b=>have:=aE (this.1.2 z (by simp));simp;omega
 obtain⟨n,i⟩:=aF (f.contains []);have x:=Hu w base (o a) f n m r u v ⟨i⟩;rw[i];have B:=h.c;clear m d l h i;go_in;go_wp2_with (first
  |(at_lookup;refine rf rfl _ _ rfl rfl p rfl a g (by omega) rfl s ?_)
  |(go_at_call 110;refine x.mono ?_;rintro e E ⟨rfl,q⟩))
 go_ret;exact⟨rfl,q⟩
def FG(n l Bs b o:Nat)(a:Option Addr)(f:Nat->A3)(J:b<=100000000)(H:b<=o)(c:Nat->Ax->Prop)(k:Ax->Prop)
  (q:∀m W,c m W->W.cell? ⟨Bs,0,T⟩=N (A5 a b o))
  (y:∀m W,c m W->∀j,j<b->∃h,a=N h/\W.cell? (h.add j)=N (f j))
  (x:∀m W,m<b->c (m+1) W->YieldAt Fence.wide (n-1) O l #[M X (m:Int),f m] W λe W'=>(e= A0 (Br B0)/\c m W')\/(e= A0 (Br A9)/\k W'))
  (W:Ax) (p:c b W):
  CallsIn Fence.wide n O 109 #[.func (.yield l) #[] #[],V (N ⟨Bs,0,T⟩)] W λe W'=>(∃v,e= A0 v)/\(c 0 W'\/k W'):=by
 have F:=q _ _ p;refine callsIn_of_wp Tryz.func109 rfl trivial ?_ rfl;simp only[Tryz.ntmps109,ir,bm,ej,Nat.reduceAdd,Nat.reduceSub,jb,jp,jq,pc,eu,ez]
 gi_wp2
 gi_loopw [3] (λi wr=>∃d:Nat,d<=b/\i= M X ((d:Int)-1)/\c d wr) (λi _=>(B7 i+1).toNat)
 case atStart=>exact⟨b,ag _,rfl,p⟩
 case round=>
  obtain⟨d,I,rfl,g⟩:=hrel;have E:=q _ _ g;rcases pi d with rfl|hp
  .gi_wp2
   go_end0
   exact⟨⟨_,rfl⟩,.inl g⟩
  .obtain⟨m,rfl⟩:∃m,d=m+1:=⟨d-1,by omega⟩;obtain⟨h,rfl,G⟩:=y _ _ g m (by omega);obtain⟨C,tmps,A,B,K,w⟩:=x m wr (by omega) g;have r:((m+1:Nat):Int)-1=(m:Int):=by omega
   rw[r]
   gi_wp2
   refine⟨λs=>by simp[Fence.wide]at s,w.mono ?_⟩;rintro e z (⟨rfl,t⟩|⟨rfl,u⟩)
   .gi_wp2
    go_roundw
    case rel=>exact⟨m,by omega,by simp,t⟩
    case measure=>simp[B7]
   .gi_wp2
    refine aH (jd rfl _ _ _) rfl ?_;exact⟨⟨_,rfl⟩,.inr u⟩
def wA(a:Option Addr)(c b:Nat)(w:Ax):
  B2 O 57 #[A5 a c b] w λe d=>e= A0 (.func (.func 109) #[] #[V (N ⟨w.heap.size,0,T⟩)])/\d=w.alloc (A2 #[A5 a c b] 71):=by
 refine calls_of_wp Tryz.func57 rfl ?_;simp only[Tryz.ntmps57,ir,bm,ej,Nat.reduceAdd,Nat.reduceSub,jb,jp,jq,pc,eu,ez];go_wp2;go_ret;exact⟨rfl,rfl⟩
attribute [local go_sem] lu
def fa{t:B4}(h:W.heap[b]?=N (A2 #[v] t (0,0))):W.cell? ⟨b,0,T⟩=N v:=by
 rw[am _ _ _ _ _ _ h];rfl
def yy(h:Z W.heap.size W W'):B1 B W W':=⟨h.size,λb c _ a _=>(h.block b (Array.getElem?_eq_some_iff.1 a).1).trans a⟩
structure uq (w:Ax) (gb:Nat) (t:Int) (vs:A3) (r:Bool) (W:Ax):Prop where
 bl:Z w.heap.size w W
 b0:W.heap[w.heap.size]?=N (.cells #[.pointer (N ⟨gb,0,T⟩)] 41 (0,0))
 b1:W.heap[w.heap.size+1]?=N (.cells #[.int .i64 t] 3 (0,0))
 b2:W.heap[w.heap.size+2]?=N (.cells #[.bool r] 4 (0,0))
 b3:W.heap[w.heap.size+3]?=N (.cells #[vs] 71 (0,0))
def uq.below(h:uq w gb t vs r W)(a:Z W.heap.size W W'):uq w gb t vs r W':=
 ⟨h.bl.trans (a.mono h.bl.size),(a.block _ (aG h.b0)).trans h.b0,(a.block _ (aG h.b1)).trans h.b1,(a.block _ (aG h.b2)).trans h.b2,(a.block _ (aG h.b3)).trans h.b3⟩
def uq.put(h:uq w gb t vs r W)(b:w.heap.size+3<k)(o:Obj):uq w gb t vs r (W.putObj k o):=
 ⟨h.bl.grown (Ck W k o) h.bl.size (λc a=>by cases a;omega),(U (by omega)).trans h.b0,(U (by omega)).trans h.b1,(U (by omega)).trans h.b2,(U (by omega)).trans h.b3⟩
def uq.set(h:uq w gb t vs r W)(r':Bool):uq w gb t vs r' (W.setCell ⟨w.heap.size+2,0,T⟩ (Br r')):=
 ⟨h.bl.setCell (by show w.heap.size<=w.heap.size+2;omega) _,(aC _ _ _ _ (by simp)).trans h.b0,(aC _ _ _ _ (by simp)).trans h.b1,aL _ _ 0 _ _ _ h.b2,(aC _ _ _ _ (by simp)).trans h.b3⟩
def Ka{a:Func}{p:Tmp}(h:a.results=#[.cell p 4])(tmps:Array A3)(w:Ax)(g:Nat)(b:Bool)(d:tmps.getD p Y= V (N ⟨g,0,T⟩))(c:w.heap[g]?=N (A2 #[Br b] 4 (0,0))):(results a tmps).run O w= .ok (Br b) w:=by
 have e:tmps[p]?.getD Y= V (N ⟨g,0,T⟩):=by simpa using d
 have f:w.cell? ⟨g,0,T⟩=N (Br b):=by rw[am _ _ _ _ _ _ c];rfl
 simp[results,h,e,asAddr];go_simp
structure Hv (st:List Int) (m:Nat) (t:Int) (R:Bool):Prop where
 out:tG (st.drop (st.length-m)) t=R
def ak9(a:Int):dp a<=8:=by
 unfold dp
 repeat (first|omega|(split;· omega))
def yz(g j:Nat):(⟨g,0,T⟩:Addr).add j=⟨g,j,T⟩:=by unfold Addr.add;split<;>simp_all
def A8(st:List Int)(m:Nat):Int:=st.reverse.getD m 0
def acg{st:List Int}(c:st.length=n)(b:m<n):st.drop (n-(m+1))=A8 st m::st.drop (n-m):=by
 have a:n-(m+1)<st.length:=by omega
 rw[lp a,show n-(m+1)+1=n-m by omega]
 congr 1
 unfold A8;rw[aK,List.getElem?_reverse (by omega),aA (by omega),iu]
 congr 1
 omega
def amt{st:List Int}(c:st.length=n)(b:m<n):A8 st m∈st:=by
 have a:A8 st m∈st.drop (n-(m+1)):=by rw[acg c b];simp
 exact List.mem_of_mem_drop a
def ajl{c:Nat}{b:Option Addr}{st:List Int}(h:W.ownsRow base 77 1 (A5 b n c) n (cSy st))(j:st.length=n)(i:m<n):∃a,b=N a/\W.cell? (a.add m)=N (M S (A8 st m)):=by
 rcases bB h with⟨g,_⟩|⟨f,e,d⟩
 .omega
 .cases d;refine⟨_,rfl,?_⟩;rw[yz,h.cellAt m (by omega)];unfold cSy A8;rw[cH,aA (by simp;omega),aK,aA (by simp;omega)];rfl
def agc(w:Ax)(base f mb:Nat)(st:List Int)(t:Int)(R:Bool)(a8:G4 w base f (.map (N mb)) st)(ba:RI w base mb)(bj:∀a∈st,0<=a/\a<=133)(s:st.length<=100000000)(ce:1<=t)(cf:t<=78)(E:tG st t=R):
  B2 O 30 #[V (N ⟨f,0,T⟩),M X t] w λe ck=>e= A0 (Br R)/\Z w.heap.size w ck:=by
 obtain⟨cz,ak,H⟩:=a8.ex;have a9:GB w base f mb:=⟨by rw[am _ _ _ _ _ _ ak];rfl,ba⟩;obtain⟨n,a0⟩:=aF st.length;rw[a0]at H s;obtain⟨h,g,rfl⟩:=bJ H;have af:w.cell? ⟨f,1,T⟩=N (A5 h n g):=by rw[am _ _ _ _ _ _ ak];rfl
 have b8:n<=g:=by
  rcases H.2 with⟨a7,u⟩|⟨ct,cq,cr,a7,_,_,r,_⟩
  .rw[u];exact aI _
  .cases a7;exact r
 have m:=aeK a9 H a0 E bj;have cu:=aG ak;clear a8 ba bj H a0 E a9;refine mq (n:=5).1 ?_;refine callsIn_of_wp_marks Tryz.func30 rfl trivial ?_ rfl;simp only[Tryz.ntmps30,ir,bm,ej,Nat.reduceAdd,Nat.reduceSub,jb,jp,jq,pc,eu,ez];refine wpIn_wide.2 ?_;have bE:=λ(cb cc cd:Obj)=>ah (((((ai w.heap.size w).alloc (ag _) cb).alloc (by simp) cc)).alloc (by simp;omega) cd) af;go_wp2_with (go_at_call 57;refine(wA h n g _).mono ?_;rintro e cF ⟨rfl,rfl⟩);rename_i cl bd;generalize bh:(w.alloc _).alloc _=bx;generalize bf:(bx.alloc _).alloc _=a5;obtain⟨bo,br,pB,bs⟩:=Co bh;obtain⟨a2,a3,ao,a4⟩:=Co bf;rw[bs]at a2 a3 a4;have ca:uq w f t (A5 h n g) A9 a5:=⟨pB.trans (ao.mono (by omega)),(ao.block _ (by omega)).trans bo,(ao.block _ (by omega)).trans br,a2,a3⟩;have A:a5.heap.size=w.heap.size+4:=a4;clear bh bf bo br pB bs a2 a3 ao a4;clear bE af ak;refine(so (n:=5)).1 ?_;refine vE (P:=O) (gf:=109) (lb:=#[V (N ⟨w.heap.size+1+1+1,0,T⟩)]) rfl (enters_of Tryz.func109 (by kernel_rfl) rfl)
  (λd=>#[M X (d:Int),M S (A8 st d)]) (λ_=>rfl) n
  (λd b=>uq w f t (A5 h n g) A9 b/\Hv st d t R)
  (λd C b=>uq w f t (A5 h n g) A9 b/\Hv st (d+1) t R/\
   C={tmps:=#[V (N ⟨f,0,T⟩),M X t,V (N ⟨w.heap.size,0,T⟩),V (N ⟨w.heap.size+1,0,T⟩),V (N ⟨w.heap.size+1+1,0,T⟩),Y,M S (A8 st d),
    V (N ⟨f,0,T⟩),V (N ⟨f,0,T⟩),V (N ⟨f,1,T⟩),V (N ⟨f,1,T⟩),A5 h n g,.func (.func 109) #[] #[V (N ⟨w.heap.size+1+1+1,0,T⟩)],M X (d:Int),M S (A8 st d),
    Y,Y,Y,Y,Y,Y,Y,Y,Y],defers:=[]})
  (λb=>uq w f t (A5 h n g) R b)
  ?pZ ?pAx ?pX ?h0 ?assign ?body ?seq ?done ?ret
 case pZ=>
  rintro d b bt K ⟨c,j⟩ s;rw[A]at s⊢;exact⟨c.put (by omega) K,j⟩
 case pAx=>
  rintro d C b bt K ⟨c,j,rfl⟩ s;rw[A]at s⊢;exact⟨c.put (by omega) K,j,rfl⟩
 case pX=>
  intro b bt K c s;rw[A]at s⊢;exact c.put (by omega) K
 case h0=>
  intro cp b7 cx;exact⟨ca.below b7,⟨by rw[m.out.2.2.1,fG];exact m.2.2.2.1⟩⟩
 case assign=>
  rintro J d b cn ax ⟨c,j⟩ b4;have p:=gE c j;clear c j
  gi_wp2
  exact b4 _ _ ⟨p.1,p.2,rfl⟩ (KeepsFrom.refl _ _)
 case body=>
  rintro J d C b ax ⟨c,j,rfl⟩;rw[A];have I:=m.2.2.2.2 _ (amt m.2.2.1 ax);have l:=j.out;rw[m.out.2.2.1,acg m.out.2.2.1 ax,tG]at l;have G:Ay 9 (A8 st d) t=A9->JC (A8 st d)=B0->Hv st d t R:=λap i=>by
   rw[aa (by rw[ap];simp),ab i]at l;exact⟨by rw[m.out.2.2.1];exact l⟩
  generalize A8 st d=v at I l G⊢;have bk:=CallsIn.inRound J (mq (n:=2).2 (xl 8 b base f mb v t (m.1.below c.bl) I.1 I.2 (ak9 v) ce cf));have a1:=λ(a6:Ax) (o:Z w.heap.size w a6)=>CallsIn.inRound J (mq (n:=2).2 (ajk a6 base f mb v (m.1.below o) I.1 I.2));have bA:=fa c.b0;have af:=fa c.b1;have cs:IntKind.u8.wrap t=t:=by rw[abx];omega
  have p:=aq c;clear c j
  gi_wp2_with (refine⟨trivial,?_⟩;gi_at_call 58;fail)
  refine⟨trivial,bk.mono ?_⟩;rintro e L ⟨rfl,ar⟩;have o:=p.below ar;have al:B1 (w.heap.size+4) b L:=yy ar;have x:=fa o.b2;have y:L.frozen? ⟨w.heap.size+2,0,T⟩=A9:=ch _ _ _ _ _ o.b2;have bD:=fa o.b0;have i:w.heap.size+1+1=w.heap.size+2:=rfl;rw[<-i]at x y;clear bk bA af ar i;cases hbv:Ay 9 v t with
  |true=>
   rw[hbv,ab rfl]at l;have q:B5 (uq w f t (A5 h n g) R (L.setCell ⟨w.heap.size+1+1,0,T⟩ (Br B0))/\B1 (w.heap.size+4) b (L.setCell ⟨w.heap.size+1+1,0,T⟩ (Br B0))):=⟨by rw[<-l];exact o.set B0,al.trans ((KeepsOthers.setCell _ _ _).from _)⟩;have F:Ay (8+1) v t=B0:=hbv;try rw[F]
   clear l G hbv F a1 o al p
   gi_wp2
   exact⟨q.2,q.1⟩
  |false=>
   have F:Ay (8+1) v t=A9:=hbv;rw[hbv,aa (by simp)]at l;try rw[F]
   have bn:=a1 L o.bl;have ad:=gE o al;clear F a1 o al p x y
   gi_wp2_with (refine⟨trivial,?_⟩;gi_at_call 59;fail)
   refine⟨trivial,bn.mono ?_⟩;rintro e B ⟨rfl,au⟩;have r:=ad.1.below au;have an:B1 (w.heap.size+4) b B:=ad.2.trans (yy au);have x:=fa r.b2;have y:B.frozen? ⟨w.heap.size+2,0,T⟩=A9:=ch _ _ _ _ _ r.b2;have i:w.heap.size+1+1=w.heap.size+2:=rfl;rw[<-i]at x y;clear bn bD au i;cases hnv:JC v with
   |true=>
    have q:B5 (uq w f t (A5 h n g) A9 B/\Hv st d t R/\B1 (w.heap.size+4) b B):=⟨r,G hbv hnv,an⟩;clear l G hbv r an ad hnv
    gi_wp2
    exact⟨q.2.2,q.1,q.2.1⟩
   |false=>
    rw[hnv,aa (by simp)]at l;have q:B5 (uq w f t (A5 h n g) R (B.setCell ⟨w.heap.size+1+1,0,T⟩ (Br A9))/\B1 (w.heap.size+4) b (B.setCell ⟨w.heap.size+1+1,0,T⟩ (Br A9))):=⟨by rw[<-l];exact r.set A9,an.trans ((KeepsOthers.setCell _ _ _).from _)⟩;clear l G hbv r an ad hnv
    gi_wp2
    exact⟨q.2,q.1⟩
 case seq=>
  intro J bv bw bb b6 b b5;refine FG 4 J (w.heap.size+1+1+1) n g h _ s b8 bv bw (λd b c=>?_) (λd b c cy b9=>?_) b6 b b5
  .exact fa (bb d b c).1.b3
  .obtain⟨C,ap,i⟩:=ajl m.2.1 m.2.2.1 b9;exact⟨C,ap,ah (bb d b c).1.bl i⟩
 case ret=>
  intro b c z;rw[A]at z⊢;refine⟨by simp,.inl ⟨_,_,rfl,run_takeDeferred z,?_⟩⟩;have u:=c.put (k:=w.heap.size+4) (by omega) (.deferred T);refine⟨_,Ka rfl _ _ (w.heap.size+1+1) R rfl u.b2,rfl,u.bl⟩
 case done=>
  rintro b ⟨c,j⟩ z;rw[A]at z⊢;have E:R=A9:=by
   have:=j.out;rw[vq,List.drop_length]at this;exact this.symm
  refine bd _ _ ?_;have x:=fa c.b2;have y:b.frozen? ⟨w.heap.size+2,0,T⟩=A9:=ch _ _ _ _ _ c.b2;have i:w.heap.size+1+1=w.heap.size+2:=rfl;rw[<-i]at x y;have p:B5 (uq w f t (A5 h n g) R (b.setCell ⟨w.heap.size+1+1,0,T⟩ (Br A9))/\(b.setCell ⟨w.heap.size+1+1,0,T⟩ (Br A9)).heap[w.heap.size+4]?=N (.deferred (N []))):=⟨by rw[E];exact c.set A9,(aC _ _ _ _ (by simp)).trans z⟩;clear c j z E bd i;go_wp2_with fail;refine⟨by simp,.inl ⟨_,_,rfl,run_takeDeferred p.2,?_⟩⟩;have u:=p.1.put (k:=w.heap.size+4) (by omega) (.deferred T);refine⟨_,Ka rfl _ _ (w.heap.size+1+1) R rfl u.b2,rfl,u.bl⟩
def passOk(b:Nat):Nat->List Int->Int->List Int->Prop
 |0,_,_,_=>False
 |_+1,[],_,_=>False
 |f+1,a::r,t,o=>(a=t/\o=r/\r.length<=b)\/(a≠t/\(G7 a t++r).length<=b/\passOk b f (G7 a t++r) t o)
def agd(e:0<=a)(g:a<=133):(G7 a t).length<=6/\∀z∈G7 a t,1<=z/\z<=133:=by
 have b:=BL e (show a<=255 by omega);unfold zK at b;rw[bI,si]at b;unfold G7;cases hf:List.find? (hdI t) (ma a) with
 |none=>exact⟨aI _,λz c=>by simp at c⟩
 |some d=>
  have f:d∈ma a:=abu hf;have:=b.2 d f;simp only[bI,si]at this;exact⟨aE this.1.1,λz c=>aE (this.1.2 z c)⟩
def ajm(b:1<=t):rwN 8 (ma a) t=G7 a t:=by
 unfold rwN G7
 congr 2
 funext r
 rw[ak8 b 7 r];cases r<;>rfl
def FH:∀{f b:Nat}{st o:List Int}{t:Int},mh f st t=N o->(∀z∈st,0<=z/\z<=133)->st.length+5*f<=b->passOk b f st t o
 |0,_,_,_,_,h,_,_=>by simp[mh]at h
 |f+1,_,[],_,_,h,_,_=>by simp[mh]at h
 |f+1,b,a::r,o,t,h,c,d=>by
  rw[mh]at h;unfold passOk;simp only[bm]at d;by_cases e:a=t
  .rw[ab e]at h;exact .inl ⟨e,(bc h).symm,by omega⟩
  .rw[aa e]at h;obtain⟨g,i⟩:=c a (by simp);obtain⟨k,j⟩:=agd (t:=t) g i;refine .inr ⟨e,by rw[aJ];omega,FH h (λz hz'=>?_) (by rw[aJ];omega)⟩;rcases List.mem_append.1 hz' with hz'|hz'
   .have:=j z hz';omega
   .exact c z (by simp[hz'])
def AD:∀{f g b:Nat}{st o:List Int}{t:Int},passOk b f st t o->f<=g->passOk b g st t o
 |0,_,_,_,_,_,h,_=>h.elim
 |f+1,0,_,_,_,_,_,i=>by omega
 |f+1,g+1,_,[],_,_,h,_=>h.elim
 |f+1,g+1,b,a::r,o,t,h,i=>by
  unfold passOk at h⊢;rcases h with h|⟨c,d,e⟩
  .exact .inl h
  .exact .inr ⟨c,d,AD e (by omega)⟩
def AE:∀{f b M':Nat}{st o:List Int}{t:Int},passOk b f st t o->b<=M'->passOk M' f st t o
 |0,_,_,_,_,_,h,_=>h.elim
 |f+1,_,_,[],_,_,h,_=>h.elim
 |f+1,b,M',a::r,o,t,h,g=>by
  unfold passOk at h⊢;rcases h with⟨c,d,e⟩|⟨c,d,e⟩
  .exact .inl ⟨c,d,by omega⟩
  .exact .inr ⟨c,by omega,AE e g⟩
def Kb:∀{st:List Int}{t:Int},OkI st->1<=t->t<=78->tG st t=B0->∃o,passOk (st.length+45) (st.length+9) st t o
 |[],t,d,_,_,h=>by simp[tG]at h
 |a::r,t,d,k,l,h=>by
  have p:=d a (bg ..);have s:OkI r:=λy v=>d y (dm _ v);have u:∀e∈a::r,0<=e/\e<=133:=λe w=>by have:=aE (d e w);omega
  have b:=ab0 p k l;rw[tG]at h;unfold afy at b;by_cases f:Ay 9 a t=B0
  .rw[ab f]at b;split at b
   .rename_i A B C n z;have g:=zy (c:=r) n;rw[uI]at g;exact⟨_,AD (FH g u (by simp)) (by simp)⟩
   .cases b
  .rw[aa f]at b h;by_cases i:JC a=B0
   .rw[ab i]at b h;rw[bI]at b;obtain⟨o,x⟩:=Kb s k l h;have q:¬a=t:=λm=>by
     subst m;have:Ay 9 a a=B0:=by rw[Ay,ab (by omega)];exact bp rfl
     exact f this
    have j:G7 a t=[]:=by simpa using b.1
    refine⟨o,?_⟩;rw[show(a::r).length+9=(r.length+9)+1 from Nat.add_right_comm r.length 1 9];unfold passOk;refine .inr ⟨q,by rw[j,eu];simp;omega,?_⟩;rw[j,eu];exact AE x (by simp)
   .rw[aa i]at h;cases h
def AF:∀{f c:Nat}{st o:List Int}{t:Int},passOk c f st t o->mh f st t=N o
 |0,_,_,_,_,h=>h.elim
 |f+1,_,[],_,_,h=>h.elim
 |f+1,c,a::r,o,t,h=>by
  unfold passOk at h;rw[mh];rcases h with⟨b,d,e⟩|⟨b,d,e⟩
  .rw[ab b,d]
  .rw[aa b];exact AF e
def sH:∀{f b:Nat}{st o:List Int}{t:Int},passOk b f st t o->o.length<=b
 |0,_,_,_,_,h=>h.elim
 |f+1,_,[],_,_,h=>h.elim
 |f+1,b,a::r,o,t,h=>by
  unfold passOk at h;rcases h with⟨e,d,c⟩|⟨e,d,c⟩
  .rw[d];exact c
  .exact sH c
def Sim.passOk{st c:List Int}(h:Sim st c)(d:1<=t)(e:t<=78)(a:tG st t=B0):∃o,passOk (st.length+45) (st.length+9) st t o/\Sim o (dy c t).1:=by
 obtain⟨o,b⟩:=Kb h.o1 d e a;obtain⟨g,f,p2⟩:=h.pass d e a;have:=AF b;rw[f]at this;obtain rfl:=bc this;exact⟨_,b,p2⟩
attribute [local go_sem] lu
def ala{cs:Array A3}{t:B4}(d:W.heap[gb]?=N (A2 cs t fr))(h:Gp gb W W'):B1 B W W':=⟨h.size,λe i _ a c=>(h.block e (Array.getElem?_eq_some_iff.1 a).1 (by rintro rfl;rw[d]at a;cases a;cases c) (λf g b=>by rw[a]at b;cases b;cases c)).trans a⟩
def li{cs:Array A3}{t:B4}(h:Gp gb W W')(a:W.heap[k]?=N (A2 cs t fr))(c:k≠gb)(ht:t≠77:=by decide):W'.heap[k]?=N (A2 cs t fr):=
 (h.block k (Array.getElem?_eq_some_iff.1 a).1 c (λd e b=>by rw[a]at b;cases b;exact ht rfl)).trans a
structure xm (w:Ax) (base gb mb:Nat) (st:List Int) (c:List Nat) (W:Ax):Prop where
 g:G4 W base gb (.map (N mb)) st
 r:RI W base mb
 gp:Gp gb w W
 bb:Z base w W
 b0:W.heap[w.heap.size]?=N (.cells #[.pointer (N ⟨gb,0,T⟩)] 41 (0,0))
 mks:tw (w.heap.size+1) c W
 ne:gb<w.heap.size
def xm.below{st:List Int}(h:xm w base gb mb st c W)(a:Z W.heap.size W W'):xm w base gb mb st c W':=by
 refine⟨h.g.below a,h.r.below a,h.gp.trans (Gp.of_below a),h.bb.trans (a.mono ?_),(a.block _ (aG h.b0)).trans h.b0,h.mks.below a,h.ne⟩;have:=h.g.lo;have:=h.ne;have:=h.gp.size;omega
def xm.turn{st i:List Int}(h:xm w base gb mb st c W)(j:G4 W' base gb (.map (N mb)) i)(d:Gp gb W W')(k:Z base W W'):xm w base gb mb i c W':=by
 obtain⟨n,f,_⟩:=h.g.ex;exact⟨j,h.r.gp f d,h.gp.trans d,h.bb.trans k,li d h.b0 (by have:=h.ne;omega),
  ⟨h.mks.nd,h.mks.lo,λa b=>(d.block a (Array.getElem?_eq_some_iff.1 (h.mks.at_ a b)).1 (by rintro rfl;have:=h.mks.at_ a b;rw[f]at this;cases this) (λl m e=>by rw[h.mks.at_ a b]at e;cases e)).trans (h.mks.at_ a b)⟩,h.ne⟩
def xm.put{st:List Int}(h:xm w base gb mb st c W){r:Loop}(x:w.heap.size<k)(d:W.heap[k]?=N (.loop r))(o:Obj):xm w base gb mb st c (W.putObj k o):=by
 obtain⟨q,l,n⟩:=h.g.ex;have e:gb≠k:=by have:=h.ne;omega
 have p:base<=k:=by have:=h.g.lo;have:=h.ne;omega
 refine⟨⟨⟨q,(U e).trans l,ownsRow_putObj n o d rfl⟩,h.g.lo⟩,h.r.same (λt c a=>(U (by rintro rfl;rw[d]at a;cases a)).trans a) (λv s u a=>(U (by rintro rfl;rw[d]at a;cases a)).trans a),?_,h.bb.grown (Ck W k o) (by have:=h.gp.size;have:=h.g.lo;have:=h.ne;omega) (λi a=>by cases a;exact p),(U (by omega)).trans h.b0,
  ⟨h.mks.nd,h.mks.lo,λf g=>(U (by rintro rfl;have:=(h.mks.at_ f g).symm.trans d;cases this)).trans (h.mks.at_ f g)⟩,h.ne⟩
 have b:=h.gp;refine⟨b.os,b.tape,b.output,by have:=b.size;simpa using this,λi m e j=>(U (by omega)).trans (b.block i m e j)⟩
structure aaA (w:Ax) (base gb mb:Nat) (st:List Int) (c:List Nat) (sz:Nat) (x0 x1 x2 x3 x4 x5:Int) (W:Ax):Prop where
 ps:xm w base gb mb st c W
 b0:W.heap[sz]?=N (.cells #[.int .u8 x0,.int .u8 x1,.int .u8 x2,.int .u8 x3,.int .u8 x4,.int .u8 x5] 142 (0,0))
 b1:W.heap[sz+1]?=N (.cells #[.slice (N ⟨sz,0,T⟩) 6 6] 71 (0,0))
def aaA.put{st:List Int}{a:Nat}{x0 b d e f g:Int}(h:aaA w base gb mb st c a x0 b d e f g W)(l:w.heap.size<a){r:Loop}(j:a+1<k)(i:W.heap[k]?=N (.loop r))(o:Obj):aaA w base gb mb st c a x0 b d e f g (W.putObj k o):=
 ⟨h.ps.put (by omega) i o,(U (by omega)).trans h.b0,(U (by omega)).trans h.b1⟩
def age(w:Ax)(base f mb:Nat)(st:List Int)(t:Int)(o bk:Nat)(y:List Int)(a5:G4 w base f (.map (N mb)) st)(cr:RI w base mb)(cB:∀a∈st,0<=a/\a<=133)(u:st.length<=o)(fn:o<=100000000)(c9:1<=t)(eA:t<=78)(a6:passOk o bk st t y):
  B2 O 32 #[V (N ⟨f,0,T⟩),M S t] w λe bh=>e= A0 (Ce #[])/\G4 bh base f (.map (N mb)) y/\RI bh base mb/\Gp f w bh/\Z base w bh:=by
 obtain⟨d5,cy,eq⟩:=a5.ex;have en:=aG cy;have fu:=a5.lo;obtain⟨k,rfl⟩:∃k,bk=k+1:=by
  cases bk with
  |zero=>exact a6.elim
  |succ k=>exact⟨k,rfl⟩
 obtain⟨c,l,rfl⟩:∃c l,st=c::l:=by
  cases st with
  |nil=>exact a6.elim
  |cons c l=>exact⟨c,l,rfl⟩
 have ap:=(ai w.heap.size w).alloc (ag _) (A2 #[V (N ⟨f,0,T⟩)] 41 (0,0));have bt:xm w base f mb (c::l) [] (w.alloc (A2 #[V (N ⟨f,0,T⟩)] 41 (0,0))):=
  ⟨a5.below ap,cr.below ap,Gp.of_below ap,ap.mono (by omega),aB w _,⟨vh,λq hb=>by simp at hb,λq hb=>by simp at hb⟩,en⟩
 have v:=Jp _ base f (.map (N mb)) l c bt.g (by simp only[bm]at u;omega);have a2:=kJ bt cB a6;clear a5 cr cB eq bt a6 cy;refine mq (n:=5).1 ?_;refine callsIn_of_wp_marks Tryz.func32 rfl trivial ?_ rfl;simp only[Tryz.ntmps32,ir,bm,ej,Nat.reduceAdd,Nat.reduceSub,jb,jp,jq,pc,eu,ez];refine wpIn_wide.2 ?_;go_wp2_with (go_at_call 63;refine v.mono ?_;rintro e eL ⟨rfl,a4,p2,cf⟩);have c1:=a2.1.turn a4 p2 cf;have cc:B5 (xm w base f mb l [] eL/\(∀a∈c::l,0<=a/\a<=133)/\passOk o (k+1) (c::l) t y/\l.length<=o):=⟨c1,a2.2.1,a2.2.2,by simp only[bm]at u;omega⟩;clear a2 c1 a4 p2 cf v ap;obtain⟨s0,cI⟩:=aF c;refine(so (n:=5)).1 (wpIn_loop_ghost (λk an g=>∃(c:Int) (st:List Int) (j:List Nat),B5 (xm w base f mb st j g/\(∀a∈c::st,0<=a/\a<=133)/\passOk o (k+1) (c::st) t y/\st.length<=o)/\∃d3 d4 da dc dd b8 b9 ca cb df dg dn dq ds dx d0 d1 d2:A3,an={tmps:=#[V (N ⟨f,0,T⟩),M S t,V (N ⟨w.heap.size,0,T⟩),Y,M S c,d3,d4,Y,Y,V (N ⟨f,0,T⟩),V (N ⟨f,0,T⟩),V (N ⟨f,1,T⟩),M S s0,da,dc,dd,b8,b9,ca,cb,df,dg,dn,dq,ds,dx,d0,d1,d2,Y,Y,Y,Y,Y,Y,Y,Y,Y],defers:=j.map zB}) k ?start ?round)
 case start=>exact⟨c,l,[],cc,Y,Y,Y,Y,Y,Y,Y,Y,Y,Y,Y,Y,Y,Y,Y,Y,Y,Y,by rw[<-cI];rfl⟩
 case round=>
  clear cc u cI;rintro k an g ⟨c,st,j,m,d3,d4,da,dc,dd,b8,b9,ca,cb,df,dg,dn,dq,ds,dx,d0,d1,d2,rfl⟩;refine wpIn_wide.2 ?_;have ek:=fa m.1.b0;have a9:=m.2.1 c (by simp);by_cases au:c=t
  .have H:=m.2.2.1;unfold passOk at H;have c3:y=st:=by
    rcases H with⟨_,b,_⟩|⟨b,_⟩
    .exact b
    .exact absurd au b
   have al:B5 (xm w base f mb y j g):=by rw[c3];exact m.1
   clear H m c3;subst au;go_wp2_with fail;show LeavesInM _ _ _ _ _ _ (j.map zB) .returning g;have b:=al.out;refine pu (w.heap.size+1) j g b.mks (λce s=>?_);have c4:∀h,h<=w.heap.size->ce.heap[h]?=g.heap[h]?:=λh F=>s.same h (λG=>by have:=b.mks.lo h G;omega);have a7:∀(h:Nat)(x:Obj),g.heap[h]?=N x->(∀a1,x≠ .deferred a1)->ce.heap[h]?=N x:=λh x F a8=>(s.same h (λG=>by have:=b.mks.at_ h G;rw[F]at this;exact a8 _ (bc this))).trans F;refine⟨_,jd rfl _ _ _,rfl,?_,?_,?_,?_⟩
   .obtain⟨d5,z,a8⟩:=b.g.ex;refine⟨⟨d5,a7 _ _ z (λa1 e=>by cases e),a8.1,?_⟩,b.g.lo⟩;rcases a8.2 with ef|⟨a4,eb,ec,bE,b3,b4,b7⟩
    .exact .inl ef
    .exact .inr ⟨a4,eb,ec,bE,b3,a7 _ _ b4 (λa1 e=>by cases e),b7⟩
   .exact b.r.same (λfg j e=>a7 _ _ e (λa1 e=>by cases e)) (λfm ff fk e=>a7 _ _ e (λa1 e=>by cases e))
   .exact⟨s.os.trans b.gp.os,s.tape.trans b.gp.tape,s.output.trans b.gp.output,by rw[s.size];exact b.gp.size,λh F ep el=>(c4 h (by omega)).trans (b.gp.block h F ep el)⟩
   .exact⟨s.os.trans b.bb.os,s.tape.trans b.bb.tape,s.output.trans b.bb.output,by rw[s.size];exact b.bb.size,λh F=>(c4 h (by omega)).trans (b.bb.block h F)⟩
  .have fz:(c==t)=A9:=by rw[dv];exact au
   have H:(G7 c t++st).length<=o/\passOk o k (G7 c t++st) t y:=by
    have:=m.2.2.1;unfold passOk at this;rcases this with⟨b,_⟩|⟨_,b⟩
    .exact absurd b au
    .exact b
   obtain⟨eF,z,_⟩:=m.1.g.ex;have cq:GB g base f mb:=⟨by rw[am _ _ _ _ _ _ z];rfl,m.1.r⟩;obtain⟨E,cv⟩:∃E,Dt 8 t (ma c) 0 (G7 c t) E:=⟨_,⟨ajm c9,rfl⟩⟩;have ax:=Du 7 (xl 7) g base f mb c t cq a9.1 a9.2 (ak9 c) c9 eA _ E cv;obtain⟨bs,cF⟩:=agd (t:=t) a9.1 a9.2;rw[acd bs]at ax;have r:B5 ((G7 c t++st).length<=o/\passOk o k (G7 c t++st) t y/\(G7 c t).length<=6/\∀d7∈G7 c t,1<=d7/\d7<=133):=⟨H.1,H.2,bs,cF⟩;generalize G7 c t=rw at ax r;obtain⟨J,bd⟩:=aF (rw.getD 0 0);obtain⟨K,bv⟩:=aF (rw.getD 1 0);obtain⟨L,bw⟩:=aF (rw.getD 2 0);obtain⟨ad,bx⟩:=aF (rw.getD 3 0);obtain⟨af,bA⟩:=aF (rw.getD 4 0);obtain⟨ak,bD⟩:=aF (rw.getD 5 0);rw[bd,bv,bw,bx,bA,bD]at ax;have cd:=alF bd bv bw bx bA bD;clear H z cq cv bs cF bd bv bw bx bA bD au;go_wp2_with (first
    |(go_at_call 64;refine ax.mono ?_;rintro e d6 ⟨rfl,ar⟩)
    |(go_at_call 57;refine(wA _ 6 6 _).mono ?_;rintro e fA ⟨rfl,rfl⟩))
   rename_i e8 cu;obtain⟨i,c6⟩:=aF d6.heap.size;rw[c6];generalize cw:(d6.alloc _).alloc _=fd;obtain⟨bo,br,cp,av⟩:=Co cw;rw[c6]at bo br av;have c2:=m.1.below (ar.trans (cp.mono ar.size));have em:∀q∈j,q<i:=λq hb=>by have:=(Array.getElem?_eq_some_iff.1 (m.1.mks.at_ q hb)).1;have:=ar.size;omega
   have c7:w.heap.size<i:=by have:=aG m.1.b0;have:=ar.size;omega
   clear ax ar ek cp cw;refine(so (n:=5)).1 ?_;refine vE (P:=O) (gf:=109) (lb:=#[V (N ⟨i+1,0,T⟩)]) rfl (enters_of Tryz.func109 (by kernel_rfl) rfl)
    (λd=>#[M X (d:Int),M S (rw.getD d 0)]) (λ_=>rfl) 6
    (λd g=>aaA w base f mb (rw.drop d++st) j i J K L ad af ak g)
    (λd an g=>aaA w base f mb (rw.drop (d+1)++st) j i J K L ad af ak g/\an={tmps:=#[V (N ⟨f,0,T⟩),M S t,V (N ⟨w.heap.size,0,T⟩),Y,M S c,V (N ⟨i,0,T⟩),Br E,Y,M S (rw.getD d 0),V (N ⟨f,0,T⟩),V (N ⟨f,0,T⟩),V (N ⟨f,1,T⟩),M S s0,M S c,M S t,Br B0,b8,b9,ca,cb,Ce #[B6 #[M S J,M S K,M S L,M S ad,M S af,M S ak],Br E],V (N ⟨f,0,T⟩),M S c,M S t,Ce #[B6 #[M S J,M S K,M S L,M S ad,M S af,M S ak],Br E],B6 #[M S J,M S K,M S L,M S ad,M S af,M S ak],Br E,A5 (N ⟨i,0,T⟩) 6 6,.func (.func 109) #[] #[V (N ⟨i+1,0,T⟩)],M X (d:Int),M S (rw.getD d 0),Y,Y,Y,Y,Y,Y,Y],defers:=[]})
    (λ_=>False)
    ?pZ ?pAx ?pX ?h0 ?assign ?body ?seq ?done ?ret
   case pZ=>
    rintro d g l x b u;rw[av]at u⊢;exact b.put c7 (by omega) u x
   case pAx=>
    rintro d an g l x ⟨b,rfl⟩ u;rw[av]at u⊢;exact⟨b.put c7 (by omega) u x,rfl⟩
   case pX=>intro g l x b;exact b.elim
   case h0=>
    intro fb hb fv;refine⟨?_,(hb.block _ (by omega)).trans bo,(hb.block _ (by omega)).trans br⟩;rw[lr r.out.2.2.1];exact c2.below hb
   case assign=>
    rintro bf d g e9 G b eg;have B:=aq b;clear b
    gi_wp2
    exact eg _ _ ⟨B,rfl⟩ (KeepsFrom.refl _ _)
   case seq=>
    intro bf d8 d9 ct ei g eh;refine FG 4 bf (i+1) 6 6 (N ⟨i,0,T⟩) _ (by decide) (ag _) d8 d9 (λd g b=>?_) (λd g b ao fo=>?_) ei g eh
    .exact fa (ct d g b).b1
    .obtain⟨ew,bE,b3,b4,b7,ey⟩:=ik (ct d g b).b0;obtain⟨e2,e3,e4,e5,e6,e7⟩:=cd.out;refine⟨_,rfl,?_⟩;rw[yz];rcases(show ao=0\/ao=1\/ao=2\/ao=3\/ao=4\/ao=5 by omega) with rfl|rfl|rfl|rfl|rfl|rfl
     .rw[e2];exact ew
     .rw[e3];exact bE
     .rw[e4];exact b3
     .rw[e5];exact b4
     .rw[e6];exact b7
     .rw[e7];exact ey
   case ret=>intro g b;exact b.elim
   case body=>
    rintro bf d an C G ⟨b,rfl⟩;rw[av];have cl:=fa b.ps.b0;obtain⟨eF,z,_⟩:=b.ps.g.ex;by_cases bn:d<rw.length
    .have c8:rw.getD d 0∈rw:=by rw[aK,aA bn];exact mw _
     have et:=r.2.2.2 _ c8;have cx:rw.drop d=rw.getD d 0::rw.drop (d+1):=by
      rw[lp bn]
      congr 1
      rw[aK,aA bn];rfl
     have eo:(rw.drop (d+1)++st).length<=100000000:=by
      have:=r.1;rw[aJ]at this⊢;rw[ig];omega
     have v:=CallsIn.inRound bf (mq (n:=2).2 (zt C base f (.map (N mb)) (rw.drop (d+1)++st) (rw.getD d 0) b.ps.g eo));rw[<-ez,<-cx]at v;have B:=gE b z;generalize rw.getD d 0=e0 at et v⊢;have bd:(e0==0)=A9:=by rw[dv];omega
     clear b z c8 cx
     gi_wp2_with (refine⟨trivial,?_⟩;gi_at_call 27;fail)
     refine⟨trivial,v.mono ?_⟩;rintro e w5 ⟨rfl,cn,a0,ck⟩;have al:B5 (aaA w base f mb (rw.drop d++st) j i J K L ad af ak w5/\B1 (i+1+1) C w5):=⟨⟨B.1.ps.turn cn a0 ck,li a0 B.1.b0 (by omega),li a0 B.1.b1 (by omega)⟩,ala B.2 a0⟩;clear cn a0 ck v B cl
     gi_wp2
     exact⟨al.2,al.1⟩
    .have er:rw.getD d 0=0:=by rw[aK,jr (by omega)];rfl
     rw[er];have al:B5 (aaA w base f mb (rw.drop d++st) j i J K L ad af ak C):=by
      have ed:rw.drop d=rw.drop (d+1):=by rw[lr (by omega),lr (by omega)]
      rw[ed];exact b
     clear b z
     gi_wp2
     exact⟨KeepsFrom.refl _ _,al⟩
   case done=>
    rintro C b bl;rw[av]at bl⊢;obtain⟨a3,rfl⟩:∃a3,k=a3+1:=by
     cases k with
     |zero=>exact(r.2.1).elim
     |succ k=>exact⟨k,rfl⟩
    obtain⟨I,A,ba⟩:∃I A,rw++st=I::A:=by
     cases hq:rw++st with
     |nil=>have:=r.2.1;rw[hq]at this;exact this.elim
     |cons a q=>exact⟨a,q,rfl⟩
    have p:=b.ps;rw[jC,ba]at p;have fq:A.length+1<=o:=by have:=r.1;rw[ba,bm]at this;exact this
    have v:=Jp C base f (.map (N mb)) A I p.g (by omega);have cl:=fa p.b0;have cz:tw (w.heap.size+1) ((i+1+1)::j) C:=⟨List.nodup_cons.2 ⟨λG=>by have:=em _ G;omega,p.mks.nd⟩,λq hb=>by
      rcases List.mem_cons.1 hb with rfl|hb
      .omega
      .exact p.mks.lo q hb,λq hb=>by
      rcases List.mem_cons.1 hb with rfl|hb
      .exact bl
      .exact p.mks.at_ q hb⟩
    have bj:B5 (xm w base f mb (I::A) ((i+1+1)::j) C/\(∀a∈I::A,0<=a/\a<=133)/\passOk o (a3+1) (I::A) t y):=by
     refine⟨⟨p.g,p.r,p.gp,p.bb,p.b0,cz,p.ne⟩,λa ha=>?_,by rw[<-ba];exact r.2.1⟩;rw[<-ba]at ha;rcases List.mem_append.1 ha with ha|ha
     .have:=r.2.2.2 a ha;omega
     .exact m.2.1 a (by simp[ha])
    refine cu _ _ ?_;clear cz p b bl cu m r cd c2 bo br;go_wp2_with (go_at_call 63;refine v.mono ?_;rintro e fB ⟨rfl,ee,ev,ea⟩);exact⟨a3,by omega,I,A,(i+1+1)::j,⟨bj.1.turn ee ev ea,bj.2.1,bj.2.2,by omega⟩,_,_,_,_,_,_,_,_,_,_,_,_,_,_,_,_,_,_,rfl⟩
structure GQ (W:Ax) (base gb mb:Nat) (st:List Int):Prop where
 g:G4 W base gb (.map (N mb)) st
 r:RI W base mb
 ok:∀a∈st,0<=a/\a<=133
 len:st.length<=99999000
def GQ.below{st:List Int}(h:GQ W base gb mb st)(a:Z W.heap.size W W'):GQ W' base gb mb st:=⟨h.g.below a,h.r.below a,h.ok,h.len⟩
def GQ.may{st:List Int}(h:GQ W base gb mb st)(b:1<=t)(c:t<=78){R:Bool}(a:tG st t=R):
  B2 O 30 #[V (N ⟨gb,0,T⟩),M X t] W λe d=>e= A0 (Br R)/\Z W.heap.size W d:=
 agc W base gb mb st t R h.g h.r h.ok (by have:=h.len;omega) b c a
