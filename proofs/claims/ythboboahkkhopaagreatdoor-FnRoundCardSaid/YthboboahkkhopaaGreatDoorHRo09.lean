import Derived.Test.YthboboahkkhopaaGreatDoorHRo08
import Derived.Laws.Cover2
set_option linter.all false
set_option maxRecDepth 100000
set_option maxHeartbeats 6400000
open Go.Proofs.Tryz
open Go.Value renaming int->N,pointer->V,slice->A0,bool->Br,ownBlock->B0,tuple->Ce,agg->Ck,slice->F0,int->F1
open Option renaming some->O,none->U
open Go.IntKind renaming u8->S,i64->B7
open Go.Proofs.Tryz renaming prog->T
open Go.World renaming putObj_heap_other->X,news_of_block->B6,setCell->C2
open Go renaming undef->Y,World->Z,Value->A2,Calls->B3,KeepsFrom->B4,TypeId->Ex,maxLen->E2,grownBy_putObj'->E3,ownsRow_succ->Fs
open Go.Obj renaming cells->Ax
open Bool renaming false->A5,true->B2
open Go.Ending renaming returned->A9
open Go.RowKit renaming Below->B1,Hid->E0,intOf->E1
namespace Go.Proofs.YthboboahkkhopaaGreatDoor
open Go.RowKit Go.Maps Go.WideMaps
variable{B b base gb k m mb n:Nat}{L:List (List Int)}{Q:Exit->Act->World->Prop}{R:List (Int×List (List Int))}{W W' w:World}{a t:Int}{c:List Nat}{fr:Nat×Nat}{o:Oper}{ops:Array Oper}{r:Bool}{v vs:Value}
def IC:(Tryz.prog.info? 195).map (λi=>(i.zero,i.size,i.bytes))=O (O (Ck #[N S 0,N S 0,N S 0,N S 0,N S 0,N S 0]),6,6):=by kernel_rfl
def rc(r:List Int):List A2:=(r++List.replicate (6-r.length) 0).map (F1 S)
def D4(L:List (List Int)):List A2:=L.flatMap rc
def ac8(A B:List (List Int)):D4 (A++B)=D4 A++D4 B:=by simp[D4]
def xx(v:A2):Option (DataW A2×List MemPlace):=O (.held v,[])
def Az(R:List (Int×List (List Int)))(a:Int):List (List Int):=((R.find? (λb=>b.1==a)).map (·.2)).getD []
def tq(a:Int)(L:List (List Int))(R:List (Int×List (List Int))):Az ((a,L)::R) a=L:=by simp[Az]
def qA{b:Int}(h:a≠b)(L:List (List Int))(R:List (Int×List (List Int))):Az ((a,L)::R) b=Az R b:=by
 unfold Az;rw[List.find?_cons_of_neg (by simpa using h)]
def jC(W:Z)(base:Nat)(v:A2)(L:List (List Int)):Prop:=W.ownsRow base 195 6 v L.length (D4 L)
def agJ(f:Int->A2):Prop:=∀a b,0<=a->a<=255->0<=b->b<=255->a≠b->(f a).ownBlock=U\/(f a).ownBlock≠(f b).ownBlock
structure RM (W:Z) (base mb n:Nat) (R:List (Int×List (List Int))):Prop where
 ex:∃(D:DataW A2) (f:Int->A2),W.ownsMap T 121 xx mb n D/\(∀a,0<=a->a<=255->D.atKey (.int .u8 a) (.held (.slice U 0 0))= .held (f a)/\jC W base (f a) (Az R a))/\agJ f
 lo:base<=mb
def abp:Keyed T 121:=int_keyed underlying121
def jC.keep(h:jC W base v L)(a:be W W'):jC W' base v L:=de h a
def RM.below(h:RM W base mb n R)(a:be W W'):RM W' base mb n R:=by
 have⟨D,f,g,e,i⟩:=h.ex;exact⟨⟨D,f,g.kept (row:=U) ⟨a.os,a.tape,a.output,a.size,λk j _=>a.block k j⟩ (by simp),λb c d=>⟨(e b c d).1,(e b c d).2.keep a⟩,i⟩,h.lo⟩
def RM.congr{b:List (Int×List (List Int))}(h:RM W base mb n R)(j:∀a,0<=a->a<=255->Az R a=Az b a):RM W base mb n b:=by
 have⟨D,e,f,g,i⟩:=h.ex;exact⟨⟨D,e,f,λa c d=>by rw[<-j a c d];exact g a c d,i⟩,h.lo⟩
def RM.mono{a:Nat}(h:RM W base mb n R)(e:n<=a):RM W base mb a R:=by
 have⟨D,b,c,d⟩:=h.ex;exact⟨⟨D,b,c.mono e,d⟩,h.lo⟩
def xc{e:Array MapEntry}{c:Nat}(h:jC W base v L)(i:W.heap[mb]?=O (.map e c))(g:W.grownBy W' (O mb)):jC W' base v L:=by
 refine CB h g ?_;rcases bJ h with⟨_,rfl⟩|⟨f,j,rfl⟩
 .exact .inl rfl
 .refine .inr ?_;intro d;obtain rfl:f=mb:=by simpa [B0] using d
  rcases h.2 with⟨a,_⟩|⟨m,k,l,a,_,b,_⟩
  .cases a
  .cases a;rw[i]at b;cases b
def abq(b:0<=a)(c:a<=255):keyOf T 121 (N S a)=O (.int S a):=keyOf_int_mk underlying121 (WalkArith.wf_u8 ⟨b,c⟩)
def bG{G:List Oper}{a:Act}{H:Z}
  (k:o.guard=U) (m x v:Operand) (ax:o.op=Op.mapUpdate 113 m x v) (ar:a.eval m= .map (O mb)) (h:RM W base mb n R) (f:be W w) (a9:n<1000) (s:Int) (s0:0<=s) (a4:s<=255) (a3:a.eval x= .int .u8 s)
  (c:A2) (a2:a.eval v=c) (L:List (List Int)) (t:jC w W.heap.size c L) (al:B1 base H W)
  (an:∀w',RM w' base mb (n+1) ((s,L)::R)->B1 base H w'->wpList T ops Q G (a.put o.dst Y) w'):wpList T ops Q (o::G) a w:=by
 have⟨D,e,p,q,ak⟩:=h.ex;have a8:=p.lt;have ao:base<=W.heap.size:=by have:=h.lo;omega
 have A:=p.kept (row:=U) ⟨f.os,f.tape,f.output,f.size,λF ap _=>f.block F ap⟩ (by simp);refine wpList_mapUpdate_own w k m x v 113 ax 121 227 abp underlying113 xx mb n D ar A (by unfold E2;omega) _ _ _ a3 a2 (abq s0 a4) (.held c) [] rfl ?_;intro w' av r;obtain⟨a7,a5,B,_⟩:=A;refine an w' ⟨⟨_,λa=>if a=s then c else e a,av,λa g i=>?_,?_⟩,h.lo⟩ ?_
 .by_cases d:a=s
  .subst d;rw[tq,atKey_put_same p.isMap (by trivial)];show DataW.held c=DataW.held (if a=a then c else e a)/\jC w' base (if a=a then c else e a) L;rw[ae rfl];refine⟨rfl,xc (h:=?_) B r⟩;refine⟨t.1,?_⟩;rcases t.2 with h|⟨b,I,J,K,a6,ad⟩
   .exact .inl h
   .exact .inr ⟨b,I,J,K,by omega,ad⟩
  .show _=DataW.held (if a=s then c else e a)/\jC w' base (if a=s then c else e a) _;rw[qA (λh=>d h.symm),aa d,atKey_put_other (by intro h;injection h with _ h;exact d h)];exact⟨(q a g i).1,xc ((q a g i).2.keep f) B r⟩
 .have E:∀b,c.ownBlock=O b->W.heap.size<=b:=λb k=>(t.lt b k).1;have C:∀a,0<=a->a<=255->∀b,(e a).ownBlock=O b->b<W.heap.size:=λa g i b k=>((q a g i).2.lt b k).2;intro a j g i u l au;show(if a=s then c else e a).ownBlock=U\/(if a=s then c else e a).ownBlock≠(if j=s then c else e j).ownBlock;by_cases y:a=s
  .rw[ae y,aa (by omega)];cases hq:c.ownBlock with
   |none=>exact .inl rfl
   |some b=>exact .inr (λd=>by have:=E b hq;have:=C j u l b d.symm;omega)
  .rw[aa y];by_cases z:j=s
   .rw[ae z];cases hq:(e a).ownBlock with
    |none=>exact .inl rfl
    |some b=>exact .inr (λd=>by have:=C a g i b hq;have:=E b d.symm;omega)
   .rw[aa z];exact ak a j g i u l au
 .have l:=f.mono ao;refine al.trans ?_;exact l.grown r (by have:=f.size;omega) (λF d=>by cases d;exact h.lo)
def eB(w:Z)(cs:Array A2)(L:List (List Int))(n:Nat)(e:L.length=n)(d:cs.toList=D4 L)(j:n<=1000)(b:∀r∈L,r.length<=6):jC (w.alloc (Ax cs 195 (0,0))) w.heap.size (A0 (O ⟨w.heap.size,0,U⟩) n n) L:=by
 have a:∀L:List (List Int),(∀r∈L,r.length<=6)->(D4 L).length=L.length*6:=by
  intro L
  induction L with
  |nil=>intro _;rfl
  |cons r L h=>
   intro c;have:=c r (by simp);rw[show D4 (r::L)=rc r++D4 L from rfl,bm,h (λi g=>c i (by simp[g]))];simp[rc];omega
 have f:cs.size=n*6:=by rw[<-iG,d,a L b,e]
 refine⟨by rw[a L b],.inr ⟨w.heap.size,n,cs,by rw[e],af _,aB w _,by omega,by unfold E2;omega,f,?_⟩⟩;rw[d,cj (by rw[a L b];exact af _)]
def abr(p c:Int)(w:Z):
  B3 T 192 #[N S p,N S c] w λe w'=>e= A9 (A0 (O ⟨w.heap.size,0,U⟩) 3 3)/\jC w' w.heap.size (A0 (O ⟨w.heap.size,0,U⟩) 3 3) (oE p c)/\be w w':=by
 go_in;go_wp2;go_ret;exact⟨rfl,eB _ _ (oE p c) 3 rfl rfl (by decide) (by simp[oE]),(ah _ _).alloc (af _) _⟩
def ac9:∀u∈D4 L,u.oneCell'=B2:=by
 intro u b;unfold D4 at b;rw[List.mem_flatMap]at b;obtain⟨c,_,a⟩:=b;unfold rc at a;rw[List.mem_map]at a;obtain⟨d,_,rfl⟩:=a;rfl
def ada:∀{L:List (List Int)},(∀r∈L,r.length<=6)->(D4 L).length=L.length*6:=by
 intro L
 induction L with
 |nil=>intro _;rfl
 |cons r L c=>
  intro a;have:=a r (by simp);rw[show D4 (r::L)=rc r++D4 L from rfl,bm,c (λd b=>a d (by simp[b]))];simp[rc];omega
def vK{g:List Oper}{a:Act}{b:Z}(l:o.guard=U)(s x:Operand)
  (p:o.op= .call {callee:= .builtin .append,args:=#[s,x],argTypes:=#[227,227]}) (t:a.eval s=v) (e:jC b W.heap.size v L) (hS:be W b) (cs:Array A2) (m:Nat) (u:a.eval x= A0 (O ⟨b.heap.size,0,U⟩) m m) (c:List (List Int)) (f:c.length=m) (k:cs.toList=D4 c) (q:∀r∈c,r.length<=6)
  (E:L.length+m<=1000)
  (j:∀d w',jC w' W.heap.size d (L++c)->be W w'->wpList T ops Q g (a.put o.dst d) w'):wpList T ops Q (o::g) a (b.alloc (Ax cs 195 (0,0))):=by
 have⟨w,y,z,A,B⟩:=eu IC;refine rf _ l s x 227 p W.heap.size 195 w _ 6 6 underlying227 y z A B rfl (by decide) v L.length (D4 L) t (World.ownsRow.alloc e _) ⟨b.heap.size,0,U⟩ m m (D4 c) u (by rw[ada q,f]) ?_ ac9 (by unfold E2;omega) (by omega) (by have:=hS.size;simp;omega) ?_
 .rw[<-k];exact B6 (cs:=cs) (fr:=(0,0)) (aB b _)
 .intro d w' h i _;refine j d w' ?_ ?_
  .unfold jC;rw[ac8,bm,f];exact h
  .exact(hS.alloc hS.size _).grown i (by have:=hS.size;simp;omega) (λC n=>(e.lt C n).1)
def Ll(w:Z)(base mb n:Nat)(R:List (Int×List (List Int)))(H:RM w base mb n R)(f:n<=100):
  B3 T 146 #[.map (O mb)] w λe w'=>e= A9 (Ce #[])/\RM w' base mb (n+10) ((120,oE 120 120++[[]])::(133,oE 132 133++[[]])::(132,oE 132 133)::(131,[[1,132],[40,117,41,132]])::(130,oE 129 130)::(129,oE 129 130++[[46,128],[47,110]])::(128,[[1,129],[40,117,41,130]])::(127,oE 125 126)::(126,oE 125 126++[[]])::(125,oE 125 126++[[46,128],[47,110]])::R)/\B1 base w w':=by
 have a:B1 base w w:=ah _ _;go_in;go_wp2_with (first
  |(go_at_call 192;refine(abr _ _ _).mono ?_;rintro e g ⟨rfl,b,hS⟩)
  |(at_builtin;first
   |(refine vK rfl _ _ rfl rfl b hS _ 2 rfl [[46,128],[47,110]] rfl rfl (by decide) (by decide) ?_;clear b hS;intro c d b hS)
   |(refine vK rfl _ _ rfl rfl b hS _ 1 rfl [[]] rfl rfl (by decide) (by decide) ?_;clear b hS;intro c d b hS))
  |(at_mapUpdate;first
   |(refine bG rfl _ _ _ rfl rfl H hS (by omega) _ (by decide) (by decide) rfl _ rfl _ b a ?_;clear H a b hS;intro w1 H a)
   |(refine bG rfl _ _ _ rfl rfl H ((ah _ _).alloc (af _) _) (by omega) 128 (by decide) (by decide) rfl _ rfl [[1,129],[40,117,41,130]] ?own a ?_;(case own=>exact eB _ _ [[1,129],[40,117,41,130]] 2 rfl rfl (by decide) (by decide));clear H a;intro w1 H a)
   |(refine bG rfl _ _ _ rfl rfl H ((ah _ _).alloc (af _) _) (by omega) 131 (by decide) (by decide) rfl _ rfl [[1,132],[40,117,41,132]] ?own a ?_;(case own=>exact eB _ _ [[1,132],[40,117,41,132]] 2 rfl rfl (by decide) (by decide));clear H a;intro w1 H a)))
 go_end0
 exact⟨rfl,H,a⟩
def Ca(k:Nat):List (List Int):=(qK.take k).map λa=>[a,118,119]
def afd(k:Nat)(b:k<20):Ca (k+1)=Ca k++[[qK.getD k 0,118,119]]:=by
 unfold Ca;rw[jc,eK];have a:qK[k]?=O (qK.getD k 0):=by
  rw[aD];rw[az (by simpa [qK] using b)];rfl
 rw[a];rfl
def agK(k:Nat)(a:k<=20):(Ca k).length=k:=by
 unfold Ca;rw[bC,eE];show min k 20=k;omega
def akg:∀k:Fin 20,0<=qK.getD k.val 0/\qK.getD k.val 0<=100:=by decide
def aF{o:Obj}(h:w.heap[b]?=O o):b<w.heap.size:=(Array.getElem?_eq_some_iff.1 h).1
def sa{c:List Oper}{a:Act}{D:DataW A2}(p:o.guard=U)(m x:Operand)(r:o.op=Op.lookup 113 m x A5)(q:a.eval m= .map (O mb))
  (h:W.ownsMap T 121 xx mb n D) (u:w.heap[mb]?=W.heap[mb]?) (s:Int) (s0:0<=s) (z:s<=255) (y:a.eval x= .int .u8 s) (l:D.atKey (.int .u8 s) (.held (.slice U 0 0))= .held v)
  (j:wpList T ops Q c (a.put o.dst v) w):wpList T ops Q (o::c) a w:=by
 refine wpList_plain p λA k=>?_;have i:w.ownsMap T 121 xx mb n D:=by
  obtain⟨g,d,e,f⟩:=h;exact⟨g,d,u.trans e,f⟩
 obtain⟨C,B,t,b⟩:=i.lookup abp underlying113 (show(zeroValue 227).run T w= .ok (.slice U 0 0) w by kernel_rfl) (zd:= .held (.slice U 0 0)) (zp:=[]) rfl (abq s0 z);rw[l]at b;unfold xx at b;simp only[fI,jJ,DataW.held.injEq]at b;obtain⟨rfl,_⟩:=b;unfold Oper.wp;simp[execOp,r,q,y,t,Result.andThen];exact k _ _ j
def D5{ar:List Oper}{a:Act}{au w1:Z}{D:DataW A2}{f:Int->A2}
  (C:o.guard=U) (m x v:Operand) (a9:o.op=Op.mapUpdate 113 m x v) (a5:a.eval m= .map (O mb))
  (r:W.ownsMap T 121 xx mb n D) (p:∀a,0<=a->a<=255->D.atKey (.int .u8 a) (.held (.slice U 0 0))= .held (f a)/\jC W base (f a) (Az R a)) (t:agJ f) (lo:base<=mb) (s:Int) (q:be W w1) (F:w1.grownBy w (f s).ownBlock) (bh:n<1000)
  (s0:0<=s) (j:s<=255) (bc:a.eval x= .int .u8 s) (b:A2) (bb:a.eval v=b) (L:List (List Int)) (a7:jC w base b L) (ak:b.ownBlock=(f s).ownBlock\/b.ownBlock=O w1.heap.size) (a2:B1 base au W)
  (a3:∀w',RM w' base mb (n+1) ((s,L)::R)->B1 base au w'->wpList T ops Q ar (a.put o.dst Y) w'):wpList T ops Q (o::ar) a w:=by
 have a6:=r.lt;obtain⟨K,I,B,ao⟩:=r;have al:=(q.block _ a6).trans B;have G:∀c,(f s).ownBlock=O c->mb≠c:=by
  intro c u;have ba:=(p s s0 j).2;rcases ba.2 with⟨h,_⟩|⟨av,bd,bf,h,_,ad,_⟩
  .rw[h]at u;cases u
  .rw[h]at u;obtain rfl:av=c:=by simpa [B0] using u
   rintro rfl;rw[B]at ad;cases ad
 have A:=(F.block mb (aF al) (λe=>G mb e.symm rfl)).trans al;have ax:w.ownsMap T 121 xx mb n D:=⟨K,I,A,ao⟩;have r:W.ownsMap T 121 xx mb n D:=⟨K,I,B,ao⟩;refine wpList_mapUpdate_own w C m x v 113 a9 121 227 abp underlying113 xx mb n D a5 ax (by unfold E2;omega) _ _ _ bc bb (abq s0 j) (.held b) [] rfl ?_;intro w' a8 E;refine a3 w' ⟨⟨_,λa=>if a=s then b else f a,a8,λa d g=>?_,?_⟩,lo⟩ ?_
 .by_cases e:a=s
  .subst e;rw[tq,atKey_put_same r.isMap (by trivial)];show DataW.held b=DataW.held (if a=a then b else f a)/\jC w' base (if a=a then b else f a) L;rw[ae rfl];exact⟨rfl,xc a7 A E⟩
  .show _=DataW.held (if a=s then b else f a)/\jC w' base (if a=s then b else f a) _;rw[qA (λh=>e h.symm),aa e,atKey_put_other (by intro h;injection h with _ h;exact e h)];exact⟨(p a d g).1,xc (CB ((p a d g).2.keep q) F (t a s d g s0 j e)) A E⟩
 .have an:∀a,0<=a->a<=255->∀c,(f a).ownBlock=O c->c<W.heap.size:=λa d g c C=>((p a d g).2.lt c C).2;have bj:=q.size;intro a i d g y k G;show(if a=s then b else f a).ownBlock=U\/(if a=s then b else f a).ownBlock≠(if i=s then b else f i).ownBlock;by_cases z:a=s
  .rw[ae z,aa (by omega)];rcases ak with e|e
   .rw[e];exact t s i s0 j y k (by omega)
   .refine .inr (λl=>?_);rw[e]at l;have:=an i y k _ l.symm;omega
  .rw[aa z];by_cases J:i=s
   .rw[ae J];rcases ak with e|e
    .rw[e];exact t a s d g s0 j z
    .cases hq:(f a).ownBlock with
     |none=>exact .inl rfl
     |some c=>exact .inr (λl=>by rw[e]at l;have:=an a d g c hq;cases l;omega)
   .rw[aa J];exact t a i d g y k G
 .have a4:base<=W.heap.size:=by omega
  have k:=q.mono a4;refine a2.trans ?_;have H:=k.grown F (by have:=q.size;omega) (λap e=>((p s s0 j).2.lt ap e).1);exact H.grown E (by have:=H.size;omega) (λap e=>by cases e;exact lo)
def AB{f:List Oper}{a:Act}{b:Z}(p:o.guard=U)(s x:Operand)
  (t:o.op= .call {callee:= .builtin .append,args:=#[s,x],argTypes:=#[227,227]}) (w:a.eval s=v) (h:jC b base v L) (G:base<=b.heap.size) (cs:Array A2) (m g:Nat) (y:a.eval x= A0 (O ⟨g,0,U⟩) m m) (q:g=b.heap.size) (d:List (List Int)) (e:d.length=m) (n:cs.toList=D4 d) (u:∀r∈d,r.length<=6)
  (F:L.length+m<=1000)
  (l:∀c w',jC w' base c (L++d)->(b.alloc (Ax cs 195 (0,0))).grownBy w' v.ownBlock->(c.ownBlock=v.ownBlock\/c.ownBlock=O (b.alloc (Ax cs 195 (0,0))).heap.size)->wpList T ops Q f (a.put o.dst c) w'):wpList T ops Q (o::f) a (b.alloc (Ax cs 195 (0,0))):=by
 subst q;have⟨z,A,B,C,E⟩:=eu IC;refine wpList_append_own_at _ p s x 227 t base 195 z _ 6 6 underlying227 A B C E rfl (by decide) v L.length (D4 L) w (World.ownsRow.alloc h _) ⟨b.heap.size,0,U⟩ m m (D4 d) y (by rw[ada u,e]) ?_ ac9 (by unfold E2;omega) (by omega) (by simp;omega) ?_
 .rw[<-n];exact B6 (cs:=cs) (fr:=(0,0)) (aB b _)
 .intro c w' i j _ k;refine l c w' ?_ j k;unfold jC;rw[ac8,bm,e];exact i
def Lm(w:Z)(base mb n:Nat)(R:List (Int×List (List Int)))(H:RM w base mb n R)(I:n<=100)(tt:Ex)(fr:Nat×Nat)(t:w.heap[3]?=O (Ax BL tt fr))(u:3<base):
  B3 T 147 #[.map (O mb)] w λe w'=>e= A9 (Ce #[])/\RM w' base mb (n+34) ((124,[[117],[44,117,45,47,117],[48,1,47,117]])::(123,[[46,122],[]])::(122,[[124,123],[]])::(121,[[42,122,43]])::(119,[]::Ca 20)::(118,[[25,118],[62,118],[50,118],[69,118],[1,120],[40,117,41,120],[2],[3],[4],[24],[29],[17],[49],[18,113],[121]])::(117,[[118,119]])::(116,[[46,115],[]])::(115,[[49],[1,116]])::(114,[[115],[]])::(113,[[40,114,41,108]])::(112,[[46,117,112],[]])::(111,[[117,112],[]])::(110,[[117,112]])::R)/\B1 base w w':=by
 have a:B1 base w w:=ah _ _;have⟨J,K,L,ad,ak⟩:=eu IC;go_in;go_wp2_with (first
  |(at_mapUpdate;first
   |(refine bG rfl _ _ _ rfl rfl H ((ah _ _).alloc (af _) _) (by omega) 110 (by decide) (by decide) rfl _ rfl [[117,112]] ?own a ?_;(case own=>exact eB _ _ [[117,112]] 1 rfl rfl (by decide) (by decide));clear H a;intro w1 H a)
   |(refine bG rfl _ _ _ rfl rfl H ((ah _ _).alloc (af _) _) (by omega) 111 (by decide) (by decide) rfl _ rfl [[117,112],[]] ?own a ?_;(case own=>exact eB _ _ [[117,112],[]] 2 rfl rfl (by decide) (by decide));clear H a;intro w1 H a)
   |(refine bG rfl _ _ _ rfl rfl H ((ah _ _).alloc (af _) _) (by omega) 112 (by decide) (by decide) rfl _ rfl [[46,117,112],[]] ?own a ?_;(case own=>exact eB _ _ [[46,117,112],[]] 2 rfl rfl (by decide) (by decide));clear H a;intro w1 H a)
   |(refine bG rfl _ _ _ rfl rfl H ((ah _ _).alloc (af _) _) (by omega) 113 (by decide) (by decide) rfl _ rfl [[40,114,41,108]] ?own a ?_;(case own=>exact eB _ _ [[40,114,41,108]] 1 rfl rfl (by decide) (by decide));clear H a;intro w1 H a)
   |(refine bG rfl _ _ _ rfl rfl H ((ah _ _).alloc (af _) _) (by omega) 114 (by decide) (by decide) rfl _ rfl [[115],[]] ?own a ?_;(case own=>exact eB _ _ [[115],[]] 2 rfl rfl (by decide) (by decide));clear H a;intro w1 H a)
   |(refine bG rfl _ _ _ rfl rfl H ((ah _ _).alloc (af _) _) (by omega) 115 (by decide) (by decide) rfl _ rfl [[49],[1,116]] ?own a ?_;(case own=>exact eB _ _ [[49],[1,116]] 2 rfl rfl (by decide) (by decide));clear H a;intro w1 H a)
   |(refine bG rfl _ _ _ rfl rfl H ((ah _ _).alloc (af _) _) (by omega) 116 (by decide) (by decide) rfl _ rfl [[46,115],[]] ?own a ?_;(case own=>exact eB _ _ [[46,115],[]] 2 rfl rfl (by decide) (by decide));clear H a;intro w1 H a)
   |(refine bG rfl _ _ _ rfl rfl H ((ah _ _).alloc (af _) _) (by omega) 117 (by decide) (by decide) rfl _ rfl [[118,119]] ?own a ?_;(case own=>exact eB _ _ [[118,119]] 1 rfl rfl (by decide) (by decide));clear H a;intro w1 H a)
   |(refine bG rfl _ _ _ rfl rfl H ((ah _ _).alloc (af _) _) (by omega) 118 (by decide) (by decide) rfl _ rfl [[25,118],[62,118],[50,118],[69,118],[1,120],[40,117,41,120],[2],[3],[4],[24],[29],[17],[49],[18,113],[121]] ?own a ?_;(case own=>exact eB _ _ [[25,118],[62,118],[50,118],[69,118],[1,120],[40,117,41,120],[2],[3],[4],[24],[29],[17],[49],[18,113],[121]] 15 rfl rfl (by decide) (by decide));clear H a;intro w1 H a)
   |(refine bG rfl _ _ _ rfl rfl H ((ah _ _).alloc (af _) _) (by omega) 119 (by decide) (by decide) rfl _ rfl [[]] ?own a ?_;(case own=>exact eB _ _ [[]] 1 rfl rfl (by decide) (by decide));clear H a;intro w1 H a))
  |(refine wD rfl 229 _ rfl 3 rfl tt _ fr _ ((a.block _ u).trans t) underlying229 rfl (by kernel_rfl) ?_))
 go_loopw [54] (λk wr=>∃b:Nat,b<=20/\k= N B7 b/\RM wr base mb (n+10+b) ((119,[]::Ca b)::(118,[[25,118],[62,118],[50,118],[69,118],[1,120],[40,117,41,120],[2],[3],[4],[24],[29],[17],[49],[18,113],[121]])::(117,[[118,119]])::(116,[[46,115],[]])::(115,[[49],[1,116]])::(114,[[115],[]])::(113,[[40,114,41,108]])::(112,[[46,117,112],[]])::(111,[[117,112],[]])::(110,[[117,112]])::R)/\B1 base w wr) (λk _=>20-(E1 k).toNat)
 case atStart=>exact⟨0,by omega,rfl,H,a⟩
 case round=>
  obtain⟨b,y,rfl,H,a⟩:=hrel;by_cases j:b<20
  .have i:=λw=>anu b j w;have⟨o,p⟩:=akg ⟨b,j⟩;simp only at o p;have q:=afd b j;have z:=agK b y;generalize qK.getD b 0=l at i o p q;generalize sJ (3*b+1)=E at i;generalize sJ (3*b+2)=p2 at i;have⟨D,s,d,h,m⟩:=H.ex;have C:=H.lo;have f:=h 119 (by decide) (by decide);rw[tq]at f;have A:=d.lt;have g:E0 (jC (wr.alloc (Ax #[N B7 l,N B7 E,N B7 p2] 164)) base (s 119) ([]::Ca b)/\Ca (b+1)=Ca b++[[l,118,119]]/\(Ca b).length=b):=⟨f.2.keep ((ah _ _).alloc (af _) _),q,z⟩;go_wp2_with (first
    |(at_lookup;refine sa rfl _ _ rfl rfl d ?blk 119 (by decide) (by decide) rfl f.1 ?_)
    |(at_builtin;go_loud (refine AB rfl _ _ rfl rfl g.1 (by simp;omega) _ 1 (wr.heap.size+1) rfl (by simp) [[l,118,119]] rfl rfl (by simp) (by rw[bB,g.out.2.2];omega) ?_;intro al an B x v))
    |(at_mapUpdate;go_loud (refine D5 rfl _ _ _ rfl rfl d h m C 119 (((ah _ _).alloc (af _) _).alloc (by simp) _) x (by omega) (by decide) (by decide) rfl _ rfl _ B v a ?_;clear H a d h m f;intro ao H a)))
   case blk=>exact fp _ _ _ A
   go_roundw
   case rel=>
    refine⟨b+1,by omega,by go_num,?_,a⟩;refine RM.congr (n:=n+10+(b+1)) H (λr F G=>?_);by_cases e:r=119
    .subst e;rw[tq,tq,g.out.2.1];rfl
    .rw[qA (λc=>e c.symm),qA (λc=>e c.symm),qA (λc=>e c.symm)]
   case measure=>simp[E1];omega
  .obtain rfl:b=20:=by omega
   go_wp2_with (at_mapUpdate;first
    |(refine bG rfl _ _ _ rfl rfl H ((ah _ _).alloc (af _) _) (by omega) 121 (by decide) (by decide) rfl _ rfl [[42,122,43]] ?own a ?_;(case own=>exact eB _ _ [[42,122,43]] 1 rfl rfl (by decide) (by decide));clear H a;intro w1 H a)
    |(refine bG rfl _ _ _ rfl rfl H ((ah _ _).alloc (af _) _) (by omega) 122 (by decide) (by decide) rfl _ rfl [[124,123],[]] ?own a ?_;(case own=>exact eB _ _ [[124,123],[]] 2 rfl rfl (by decide) (by decide));clear H a;intro w1 H a)
    |(refine bG rfl _ _ _ rfl rfl H ((ah _ _).alloc (af _) _) (by omega) 123 (by decide) (by decide) rfl _ rfl [[46,122],[]] ?own a ?_;(case own=>exact eB _ _ [[46,122],[]] 2 rfl rfl (by decide) (by decide));clear H a;intro w1 H a)
    |(refine bG rfl _ _ _ rfl rfl H ((ah _ _).alloc (af _) _) (by omega) 124 (by decide) (by decide) rfl _ rfl [[117],[44,117,45,47,117],[48,1,47,117]] ?own a ?_;(case own=>exact eB _ _ [[117],[44,117,45,47,117],[48,1,47,117]] 3 rfl rfl (by decide) (by decide));clear H a;intro w1 H a))
   go_end0
   exact⟨rfl,H.mono (by omega),a⟩
def agL:((List.range 256).all λa=>decide (Az ((124,[[117],[44,117,45,47,117],[48,1,47,117]])::(123,[[46,122],[]])::(122,[[124,123],[]])::(121,[[42,122,43]])::(119,[]::Ca 20)::(118,[[25,118],[62,118],[50,118],[69,118],[1,120],[40,117,41,120],[2],[3],[4],[24],[29],[17],[49],[18,113],[121]])::(117,[[118,119]])::(116,[[46,115],[]])::(115,[[49],[1,116]])::(114,[[115],[]])::(113,[[40,114,41,108]])::(112,[[46,117,112],[]])::(111,[[117,112],[]])::(110,[[117,112]])::(120,oE 120 120++[[]])::(133,oE 132 133++[[]])::(132,oE 132 133)::(131,[[1,132],[40,117,41,132]])::(130,oE 129 130)::(129,oE 129 130++[[46,128],[47,110]])::(128,[[1,129],[40,117,41,130]])::(127,oE 125 126)::(126,oE 125 126++[[]])::(125,oE 125 126++[[46,128],[47,110]])::(109,[[46,1,109],[]])::(108,[[42,100,43]])::(107,[[15,117,108,107],[16,108],[]])::(106,[[46,1],[]])::(105,[[46,117],[]])::(104,[[47,117,46,117,105,108],[21,117,108],[46,1,109,21,117,108]])::(103,[[47,110],[]])::(102,[[22,1,109,103],[13,1,47,117],[18,1,113],[20,117,108,107],[31,117,108],[19,1,104],[11],[23],[27,111],[30,108,12,1,106,108],[28,117],[14,131],[108],[1,125],[40,117,41,127]])::(101,[[5,100],[]])::(100,[[5,100],[102,101],[]])::[]) (a:Int)=mE (a:Int)))=B2:=by decide+kernel
def Lo(w:Z)(base mb n:Nat)(R:List (Int×List (List Int)))(H:RM w base mb n R)(b:n<=100):
  B3 T 145 #[.map (O mb)] w λe w'=>e= A9 (Ce #[])/\RM w' base mb (n+10) ((109,[[46,1,109],[]])::(108,[[42,100,43]])::(107,[[15,117,108,107],[16,108],[]])::(106,[[46,1],[]])::(105,[[46,117],[]])::(104,[[47,117,46,117,105,108],[21,117,108],[46,1,109,21,117,108]])::(103,[[47,110],[]])::(102,[[22,1,109,103],[13,1,47,117],[18,1,113],[20,117,108,107],[31,117,108],[19,1,104],[11],[23],[27,111],[30,108,12,1,106,108],[28,117],[14,131],[108],[1,125],[40,117,41,127]])::(101,[[5,100],[]])::(100,[[5,100],[102,101],[]])::R)/\B1 base w w':=by
 have a:B1 base w w:=ah _ _;go_in;go_wp2_with (at_mapUpdate;first
  |(refine bG rfl _ _ _ rfl rfl H ((ah _ _).alloc (af _) _) (by omega) 100 (by decide) (by decide) rfl _ rfl [[5,100],[102,101],[]] ?own a ?_;(case own=>exact eB _ _ [[5,100],[102,101],[]] 3 rfl rfl (by decide) (by decide));clear H a;intro w1 H a)
  |(refine bG rfl _ _ _ rfl rfl H ((ah _ _).alloc (af _) _) (by omega) 101 (by decide) (by decide) rfl _ rfl [[5,100],[]] ?own a ?_;(case own=>exact eB _ _ [[5,100],[]] 2 rfl rfl (by decide) (by decide));clear H a;intro w1 H a)
  |(refine bG rfl _ _ _ rfl rfl H ((ah _ _).alloc (af _) _) (by omega) 102 (by decide) (by decide) rfl _ rfl [[22,1,109,103],[13,1,47,117],[18,1,113],[20,117,108,107],[31,117,108],[19,1,104],[11],[23],[27,111],[30,108,12,1,106,108],[28,117],[14,131],[108],[1,125],[40,117,41,127]] ?own a ?_;(case own=>exact eB _ _ [[22,1,109,103],[13,1,47,117],[18,1,113],[20,117,108,107],[31,117,108],[19,1,104],[11],[23],[27,111],[30,108,12,1,106,108],[28,117],[14,131],[108],[1,125],[40,117,41,127]] 15 rfl rfl (by decide) (by decide));clear H a;intro w1 H a)
  |(refine bG rfl _ _ _ rfl rfl H ((ah _ _).alloc (af _) _) (by omega) 103 (by decide) (by decide) rfl _ rfl [[47,110],[]] ?own a ?_;(case own=>exact eB _ _ [[47,110],[]] 2 rfl rfl (by decide) (by decide));clear H a;intro w1 H a)
  |(refine bG rfl _ _ _ rfl rfl H ((ah _ _).alloc (af _) _) (by omega) 104 (by decide) (by decide) rfl _ rfl [[47,117,46,117,105,108],[21,117,108],[46,1,109,21,117,108]] ?own a ?_;(case own=>exact eB _ _ [[47,117,46,117,105,108],[21,117,108],[46,1,109,21,117,108]] 3 rfl rfl (by decide) (by decide));clear H a;intro w1 H a)
  |(refine bG rfl _ _ _ rfl rfl H ((ah _ _).alloc (af _) _) (by omega) 105 (by decide) (by decide) rfl _ rfl [[46,117],[]] ?own a ?_;(case own=>exact eB _ _ [[46,117],[]] 2 rfl rfl (by decide) (by decide));clear H a;intro w1 H a)
  |(refine bG rfl _ _ _ rfl rfl H ((ah _ _).alloc (af _) _) (by omega) 106 (by decide) (by decide) rfl _ rfl [[46,1],[]] ?own a ?_;(case own=>exact eB _ _ [[46,1],[]] 2 rfl rfl (by decide) (by decide));clear H a;intro w1 H a)
  |(refine bG rfl _ _ _ rfl rfl H ((ah _ _).alloc (af _) _) (by omega) 107 (by decide) (by decide) rfl _ rfl [[15,117,108,107],[16,108],[]] ?own a ?_;(case own=>exact eB _ _ [[15,117,108,107],[16,108],[]] 3 rfl rfl (by decide) (by decide));clear H a;intro w1 H a)
  |(refine bG rfl _ _ _ rfl rfl H ((ah _ _).alloc (af _) _) (by omega) 108 (by decide) (by decide) rfl _ rfl [[42,100,43]] ?own a ?_;(case own=>exact eB _ _ [[42,100,43]] 1 rfl rfl (by decide) (by decide));clear H a;intro w1 H a)
  |(refine bG rfl _ _ _ rfl rfl H ((ah _ _).alloc (af _) _) (by omega) 109 (by decide) (by decide) rfl _ rfl [[46,1,109],[]] ?own a ?_;(case own=>exact eB _ _ [[46,1,109],[]] 2 rfl rfl (by decide) (by decide));clear H a;intro w1 H a))
 go_end0
 exact⟨rfl,H,a⟩
def akh:(Tryz.prog.info? 121).map (λi=>(i.zero,i.size,i.bytes))=O (O (N S 0),1,1):=by kernel_rfl
def cSy(st:List Int):List A2:=st.reverse.map (F1 S)
def Lp(a:Int)(st:List Int):cSy (a::st)=cSy st++[N S a]:=by simp[cSy]
def ID(st:List Int):(cSy st).length=st.length:=by simp[cSy]
structure IE (W:Z) (base gb:Nat) (mv:A2) (st:List Int):Prop where
 ex:∃v,W.heap[gb]?=O (.cells #[mv,v] 119 (0,0))/\W.ownsRow base 121 1 v st.length (cSy st)
 lo:base<=gb
def IE.below{mv:A2}{st:List Int}(h:IE W base gb mv st)(b:be W W'):IE W' base gb mv st:=by
 have⟨d,a,c⟩:=h.ex;exact⟨⟨d,(b.block _ (ai a)).trans a,de c b⟩,h.lo⟩
structure Gp (gb:Nat) (w w':Z):Prop where
 os:w'.os=w.os
 tape:w'.tape=w.tape
 output:w'.output=w.output
 size:w.heap.size<=w'.heap.size
 block:∀k,k<w.heap.size->k≠gb->(∀cs fr,w.heap[k]?≠O (.cells cs 121 fr))->w'.heap[k]?=w.heap[k]?
def Gp.trans{x e z:Z}(h:Gp gb x e)(k:Gp gb e z):Gp gb x z:=
 ⟨k.os.trans h.os,k.tape.trans h.tape,k.output.trans h.output,di h.size k.size,λd b c a=>
  (k.block d (iu b h.size) c (λf g=>by rw[h.block d b c a];exact a f g)).trans (h.block d b c a)⟩
def Gp.of_below{w':Z}(h:be w w'):Gp gb w w':=⟨h.os,h.tape,h.output,h.size,λb a _ _=>h.block b a⟩
def IE.put{mv h:A2}(e:W.heap[gb]?=O (Ax #[mv,h] 119 (0,0)))(lo:base<=gb){st:List Int}(c:W.ownsRow base 121 1 v st.length (cSy st)):IE (W.setCell ⟨gb,1,U⟩ v) base gb mv st:=by
 refine⟨⟨v,bg _ gb 1 _ _ _ e,?_⟩,lo⟩;refine c.kept (row:=O gb) ⟨rfl,rfl,rfl,by simp[C2],λn m g=>aC _ _ _ _ (λa=>g (by rw[a]))⟩ ?_;rcases bJ c with⟨_,rfl⟩|⟨f,i,rfl⟩
 .exact .inl rfl
 .refine .inr ?_;intro a;obtain rfl:f=gb:=by simpa [B0] using a
  rcases c.2 with⟨b,_⟩|⟨l,j,k,b,_,d,_⟩
  .cases b
  .cases b;rw[e]at d;cases d
def AC(w:Z)(base b:Nat)(mv:A2)(st:List Int)(a:Int)(h:IE w base b mv st)(L:st.length<=100000000):
  B3 T 87 #[V (O ⟨b,1,U⟩),N S a] w λe w'=>e= A9 (Ce #[])/\IE w' base b mv (a::st)/\Gp b w w'/\B1 base w w':=by
 have⟨a3,i,k⟩:=h.ex;have y:=h.lo;have⟨g,z⟩:=aJ st.length;rw[z]at k L;obtain⟨n,o,rfl⟩:=cg k;have⟨an,ao,ap,ar,au⟩:=eu akh;have ad:=ai i;have ax:w.cell? ⟨b,1,U⟩=O (A0 n g o):=by rw[aj _ _ _ _ _ _ i];rfl
 have A:∀f,(F0 n g o).ownBlock=O f->f≠b/\base<=f:=λf j=>by
  refine⟨?_,(k.lt f j).1⟩;rintro rfl;rcases k.2 with⟨c,_⟩|⟨r,F,G,c,_,s,_⟩
  .rw[c]at j;simp[B0]at j
  .rw[c]at j;obtain rfl:r=f:=by simpa [B0] using j
   rw[s]at i;cases i
 have m:=mo k i z;go_in;go_wp2_with (at_builtin;refine rf _ rfl _ _ 115 rfl base 121 an _ 1 1 underlying115 ao ap ar au rfl (by decide) _ _ _ rfl (m.1.alloc _) ⟨w.heap.size,0,U⟩ 1 1 [N S a] rfl rfl (B6 (cs:=#[N S a]) (fr:=(0,0)) (aB w _)) (by intro a2 C;simp at C;subst C;rfl) (by unfold E2;omega) (by omega) (by simp;omega) ?_;intro a4 q B d a1;obtain⟨x,v,rfl⟩:=Fs B;have t:=(d.block b (by simp;omega) (λe=>(A b e.symm).1 rfl)).trans ((fp _ _ _ ad).trans m.2.1);have a5:q.cell? ⟨b,1,U⟩=O (A0 n g o):=(by rw[aj _ _ _ _ _ _ t];rfl);have a0:q.frozen? ⟨b,1,U⟩=A5:=cC _ _ _ _ _ t);have al:=d.size;rw[dm]at al;have J:=IE.put t y (by rw[bB,m.out.2.2,Lp];exact B);have I:Gp b w (q.setCell ⟨b,1,U⟩ (A0 (O ⟨x,0,U⟩) (g+1) v)):=by
  refine⟨d.os,d.tape,d.output,by simp[C2];omega,λl u ak K=>?_⟩;rw[aC _ _ _ _ ak];refine(d.block l (by simp;omega) (λe=>?_)).trans (fp _ _ _ u);have p:(F0 n g o).ownBlock=O l:=e.symm;rcases m.1.2 with⟨c,_⟩|⟨r,F,G,c,_,s,_⟩
  .rw[c]at p;simp[B0]at p
  .rw[c]at p;obtain rfl:r=l:=by simpa [B0] using p
   exact K _ _ s
 have H:B1 base w (q.setCell ⟨b,1,U⟩ (A0 (O ⟨x,0,U⟩) (g+1) v)):=by
  have E:B1 base w (w.alloc (Ax #[N S a] 121)):=(ah _ w).alloc (by omega) _;exact(E.grown d (by simp;omega) (λl u=>(A l u).2)).setCell y _
 go_end0
 exact⟨rfl,J,I,H⟩
def Lq(w:Z)(base b:Nat)(mv:A2)(st:List Int)(a:Int)(h:IE w base b mv (a::st))(n:st.length<=100000000):
  B3 T 157 #[V (O ⟨b,1,U⟩)] w λe w'=>e= A9 (N S a)/\IE w' base b mv st/\Gp b w w'/\B1 base w w':=by
 have⟨x,f,d⟩:=h.ex;have j:=h.lo;have⟨g,c⟩:=aJ st.length;rw[bB,Lp,c]at d;rw[c]at n;obtain⟨i,l,rfl⟩:=Fs d;have hcut:=ake (by rw[ID,c,uf]) d;have t:=akf d;have p:w.cell? ⟨b,1,U⟩=O (A0 (O ⟨i,0,U⟩) (g+1) l):=by rw[aj _ _ _ _ _ _ f];rfl
 have q:w.cell? ⟨i,g,U⟩=O (N S a):=by
  rw[d.cellAt g (by omega),dE (by rw[ID];omega),ID,c,fH];rfl
 have r:w.frozen? ⟨b,1,U⟩=A5:=cC _ _ _ _ _ f;have m:=IE.put f j (by rw[c];exact hcut);have k:=am m;go_in;go_wp21
 go_ret;refine⟨rfl,k,⟨rfl,rfl,rfl,by simp[C2],λv u o s=>aC _ _ _ _ o⟩,(ah _ w).setCell j _⟩
structure RI (W:Z) (base mb:Nat):Prop where
 ex:∃(D:DataW A2) (f:Int->A2) (n:Nat),W.ownsMap T 121 xx mb n D/\∀a,0<=a->a<=255->D.atKey (.int .u8 a) (.held (.slice U 0 0))= .held (f a)/\jC W base (f a) (mE a)
def RM.ri(h:RM W base mb n R)(g:∀a,0<=a->a<=255->Az R a=mE a):RI W base mb:=by
 have⟨D,d,e,f,_⟩:=h.ex;exact⟨D,d,n,e,λa b c=>by rw[<-g a b c];exact f a b c⟩
def RI.same(h:RI W base mb)(n:∀a c,W.heap[mb]?=O (.map a c)->W'.heap[mb]?=O (.map a c))(o:∀(g:Nat) (cs:Array A2) (fr:Nat×Nat),W.heap[g]?=O (Ax cs 195 fr)->W'.heap[g]?=O (Ax cs 195 fr)):RI W' base mb:=by
 obtain⟨D,m,p,⟨a,c,k,l⟩,f⟩:=h.ex;refine⟨D,m,p,⟨a,c,n _ _ k,l⟩,λb d e=>⟨(f b d e).1,?_⟩⟩;have:=(f b d e).2;refine⟨this.1,?_⟩;rcases this.2 with h|⟨g,i,j,q,r,s,t⟩
 .exact .inl h
 .exact .inr ⟨g,i,j,q,r,o _ _ _ s,t⟩
def RI.below(h:RI W base mb)(b:be W W'):RI W' base mb:=
 h.same (λe c a=>(b.block _ (aF a)).trans a) (λg d f a=>(b.block _ (aF a)).trans a)
def RI.gp{cs:Array A2}(h:RI W base mb)(c:W.heap[gb]?=O (Ax cs 119 fr))(d:Gp gb W W'):RI W' base mb:=
 h.same (λf e a=>(d.block _ (aF a) (by rintro rfl;rw[c]at a;cases a) (λcs fr b=>by rw[a]at b;cases b)).trans a)
  (λg cs fr a=>(d.block _ (aF a) (by rintro rfl;rw[c]at a;cases a) (λcs fr b=>by rw[a]at b;cases b)).trans a)
def Lr(c:0<=a)(d:a<=255):∀R,((List.range 256).all λa=>decide (Az R (a:Int)=mE (a:Int)))=B2->Az R a=mE a:=by
 intro R b;have:=List.all_eq_true.1 b a.toNat (by rw[nJ];omega);rw[show((a.toNat:Nat):Int)=a by omega]at this;exact aG this
def IF(w:Z)(tt:Ex)(fr:Nat×Nat)(f:w.heap[3]?=O (Ax BL tt fr)):
  B3 T 86 #[] w λe w'=>e= A9 (.map (O w.heap.size))/\RI w' w.heap.size w.heap.size/\be w w':=by
 have g:=aF f;have q:∀w:Z,(Instr.makeMap 113 (O (N S 34))).run T w= .ok (.map (O w.heap.size)) (w.alloc (.map #[] 0)):=λw=>by kernel_rfl
 have h:RM (w.alloc (.map #[] 0)) w.heap.size w.heap.size 0 []:=⟨⟨.map [],λ_=> A0 U 0 0,World.ownsMap_made _ _ _ _,λa _ _=>⟨rfl,⟨rfl,.inl ⟨rfl,rfl⟩⟩⟩,λa p _ _ _ _ _=> .inl rfl⟩,af _⟩;have b:be w (w.alloc (.map #[] 0)):=(ah _ _).alloc (af _) _;have l:=am f;go_in;go_wp2_with (first
  |(go_at_call 145;refine(Lo _ w.heap.size w.heap.size 0 [] h (by omega)).mono ?_;rintro e r ⟨rfl,i,c⟩)
  |(go_at_call 146;refine(Ll _ w.heap.size w.heap.size _ _ i (by omega)).mono ?_;rintro e s ⟨rfl,j,d⟩)
  |(go_at_call 147;refine(Lm _ w.heap.size w.heap.size _ _ j (by omega) tt fr ((((b.trans c).trans d).block _ g).trans l) g).mono ?_;rintro e t ⟨rfl,k,o⟩))
 go_ret;exact⟨rfl,k.ri (λa m n=>Lr m n _ agL),((b.trans c).trans d).trans o⟩
def IG(w:Z)(tt:Ex)(fr:Nat×Nat)(p:w.heap[3]?=O (Ax BL tt fr)):
  B3 T 24 #[] w λe w'=>∃gb,e= A9 (V (O ⟨gb,0,U⟩))/\IE w' w.heap.size gb (.map (O w.heap.size)) [100,6]/\RI w' w.heap.size w.heap.size/\be w w':=by
 have q:=IF w tt fr p;go_in;go_wp21
 refine q.mono ?_;rintro e w1 ⟨rfl,i,f⟩;have g:=f.size;have b:IE (w1.alloc (Ax #[.map (O w.heap.size),A0 U 0 0] 119 (0,0))) w.heap.size w1.heap.size (.map (O w.heap.size)) []:=⟨⟨A0 U 0 0,aB w1 _,⟨rfl,.inl ⟨rfl,rfl⟩⟩⟩,g⟩;have l:=i.below ((ah w1.heap.size w1).alloc (af _) (Ax #[.map (O w.heap.size),A0 U 0 0] 119 (0,0)));have a:=f.alloc g (Ax #[.map (O w.heap.size),A0 U 0 0] 119 (0,0));have d:=iK l a;go_wp21
 refine(AC _ w.heap.size w1.heap.size (.map (O w.heap.size)) [] 6 b (by decide)).mono ?_;rintro e t ⟨rfl,c,j,a⟩;go_wp21
 refine(AC _ w.heap.size w1.heap.size (.map (O w.heap.size)) [6] 100 c (by decide)).mono ?_;rintro e u ⟨rfl,h,k,o⟩;go_wp21
 go_ret;have⟨r,m,_⟩:=b.ex;have⟨s,n,_⟩:=c.ex;exact⟨_,rfl,h,(d.1.gp m j).gp n k,(d.2.trans a).trans o⟩
structure GB (W:Z) (base gb mb:Nat):Prop where
 c:W.cell? ⟨gb,0,U⟩=O (.map (O mb))
 r:RI W base mb
def GB.below(h:GB W base gb mb)(a:be W W'):GB W' base gb mb:=⟨ag a h.c,h.r.below a⟩
def dp(a:Int):Nat:=if a<100 then 0 else if a=100 then 3 else if a=102 then 2 else if a=110\/a=111 then 4 else if a=114 then 2 else if a=117 then 3 else if a=118 then 2 else if a=122 then 5 else if a=124 then 4 else 1
def hdN(f:Nat)(t:Int)(r:List Int):Bool:=Bq f (r.getD 0 0) t
def AD(L:List (List Int))(d:Nat):Bool:=decide (L.length<=30)&&L.all λr=>decide (r.length<=6)&&r.all (λa=>decide (1<=a/\a<=133))&&decide (dp (r.getD 0 0)+1<=d)
def Lt:((List.range 256).all λa=>AD (mE (a:Int)) (dp (a:Int)))=B2:=by decide+kernel
def C4(b:0<=a)(c:a<=255):AD (mE a) (dp a)=B2:=by
 have:=List.all_eq_true.1 Lt a.toNat (by rw[nJ];omega);rw[show((a.toNat:Nat):Int)=a by omega]at this;exact this
def ams(a:1<=t)(f:Nat)(r:List Int):hdN (f+1) t r=(match r with|[]=>A5|h::_=>Bq (f+1) h t):=by
 cases r with
 |nil=>
  show Bq (f+1) 0 t=A5;rw[Bq,ae (by decide)];exact aE (by omega)
 |cons h b=>rfl
def adb{r:List Int}(h:r.length<=6):rc r=[N S (r.getD 0 0),N S (r.getD 1 0),N S (r.getD 2 0),N S (r.getD 3 0),N S (r.getD 4 0),N S (r.getD 5 0)]:=by
 match r,h with
 |[],_=>rfl
 |[_],_=>rfl
 |[_,_],_=>rfl
 |[_,_,_],_=>rfl
 |[_,_,_,_],_=>rfl
 |[_,_,_,_,_],_=>rfl
 |[_,_,_,_,_,_],_=>rfl
 |_::_::_::_::_::_::_::_,h=>simp at h
def jC.cell{g c:Nat}(h:jC W base (A0 (O ⟨g,0,U⟩) n c) L)(e:∀r∈L,r.length<=6){r:List Int}(a:L[k]?=O r){i:Nat}(t:i<6):
  W.cell? ⟨g,k*6+i,U⟩=O (N S (r.getD i 0)):=by
 have u:k<L.length:=(List.getElem?_eq_some_iff.1 a).1;have j:n=L.length:=by
  rcases h.2 with⟨h,_⟩|⟨s,p,q,h,_⟩
  .cases h
  .cases h;rfl
 subst j;rw[World.ownsRow.cellAt h (k*6+i) (by omega)];have o:∀(L:List (List Int)),(∀r∈L,r.length<=6)->∀k r,L[k]?=O r->(D4 L)[k*6+i]?=O (N S (r.getD i 0)):=by
  intro L
  induction L with
  |nil=>intro _ k r h;simp at h
  |cons b L m=>
   intro h k r d;have l:=h b (by simp);rw[show D4 (b::L)=rc b++D4 L from rfl];have f:(rc b).length=6:=by simp[rc];omega
   cases k with
   |zero=>
    simp at d;subst d;rw[gq (by omega),adb l];rcases(show i=0\/i=1\/i=2\/i=3\/i=4\/i=5 by omega) with rfl|rfl|rfl|rfl|rfl|rfl<;>rfl
   |succ k=>
    rw[dE (by omega),f,show(k+1)*6+i-6=k*6+i by omega];exact m (λr a=>h r (by simp[a])) k r (by simpa using d)
 exact o L e k r a
def afe(W:Z)(b:Nat)(x0 a c d e f:Int):Z:=((((((W.setCell ⟨b,0,U⟩ (N S x0)).setCell ⟨b,1,U⟩ (N S a)).setCell ⟨b,2,U⟩ (N S c)).setCell ⟨b,3,U⟩ (N S d)).setCell ⟨b,4,U⟩ (N S e)).setCell ⟨b,5,U⟩ (N S f))
def Lu{t:Ex}{l m n o p q:Int}(h:W.heap[b]?=O (Ax #[N S l,N S m,N S n,N S o,N S p,N S q] t (0,0)))(x0 c d e f g:Int):(afe W b x0 c d e f g).heap[b]?=O (Ax #[N S x0,N S c,N S d,N S e,N S f,N S g] t (0,0)):=by
 have a:=λi j {W k}=>bg W b i k t (N S j);simpa [afe] using a 5 g (a 4 f (a 3 e (a 2 d (a 1 c (a 0 x0 h)))))
def D6(h:B1 base w W)(a:base<=b)(x0 c d e f g:Int):B1 base w (afe W b x0 c d e f g):=by
 unfold afe
 iterate 6 refine ll ?_ a _
 exact h
def adc{a:Func}{p u:Tmp}(h:a.results=#[.cell p 195,.tmp u])(tmps:Array A2)(w:Z)(g:Nat)(x0 c d e f i:Int)(b:Bool)(k:tmps.getD p Y= V (O ⟨g,0,U⟩))(l:tmps.getD u Y= Br b)
  (j:w.heap[g]?=O (Ax #[N S x0,N S c,N S d,N S e,N S f,N S i] 195 (0,0))):(results a tmps).run T w= .ok (Ce #[Ck #[N S x0,N S c,N S d,N S e,N S f,N S i],Br b]) w:=by
 rw[results_cell_tmp h,k];simp only[asAddr,Sem.run_pure,CE];rw[Hy w g 195 195 _ _ _ j underlying195 rfl (by kernel_rfl),CE,l]
def ade(n:Nat):Prop:=∀(w:Z)(base gb mb:Nat)(a t:Int),GB w base gb mb->0<=a->a<=133->dp a<=n->1<=t->t<=78->
 B3 T 152 #[V (O ⟨gb,0,U⟩),N S a,N S t] w (gy w (Br (Bq (n+1) a t)))
def rwN(f:Nat)(L:List (List Int))(t:Int):List Int:=(L.find? (hdN f t)).getD []
structure D7 (f:Nat) (t:Int) (L:List (List Int)) (k:Nat) (r:List Int) (b:Bool):Prop where
 fd:rwN f (L.drop k) t=r
 an:(L.drop k).any (hdN f t)=b
def D8(n:Nat)(bE:ade n)(w:Z)(base L mb:Nat)(a t:Int)(ao:GB w base L mb)(I:0<=a)(cy:a<=133)(c2:dp a<=n+1)(ce:1<=t)(cf:t<=78)(y:List Int)(u:Bool)(bA:D7 (n+1) t (mE a) 0 y u):
  B3 T 158 #[V (O ⟨L,0,U⟩),N S a,N S t] w (gy w (Ce #[Ck (rc y).toArray,Br u])):=by
 have⟨D,cI,c8,a2,bx⟩:=ao.r.ex;have⟨a5,f⟩:=bx a I (by omega);have x:=C4 I (show a<=255 by omega);generalize mE a=e at *;unfold AD at x;rw[ch,uc]at x;have bD:e.length<=30:=aG x.1;have r:∀b∈e,b.length<=6:=λb c=>by have:=x.2 b c;simp only[ch]at this;exact aG this.1.1
 have b5:∀b∈e,dp (b.getD 0 0)<=n:=λb c=>by have:=x.2 b c;simp only[ch]at this;have:=aG this.2;omega
 have b6:∀b∈e,0<=b.getD 0 0/\b.getD 0 0<=133:=λb c=>by
  have:=x.2 b c;simp only[ch,uc]at this;cases b with
  |nil=>simp
  |cons cr b=>have:=aG (this.1.2 cr (by simp));simp;omega
 have⟨C,ba⟩:=aJ e.length;have au:=f;unfold jC at au;rw[ba]at au bD;have⟨bl,cB,b1⟩:=cg au;rw[b1]at a5 f;have bn:=ao.c;have b3:=a2.lt;have c1:=λo=>ag (al1 (o:=o) rfl).2.1 bn;have s:=Dl ao f ba bA;go_in;go_wp2_with (at_lookup;refine sa rfl _ _ rfl rfl a2 ?blk a I (by omega) rfl a5 ?_)
 case blk=>exact fp _ _ _ b3
 go_loopw [17] (λi wr=>∃d:Nat,d<=C/\i= N B7 d/\D7 (n+1) t e d y u/\be w wr/\wr.heap[w.heap.size]?=O (Ax #[N S 0,N S 0,N S 0,N S 0,N S 0,N S 0] 195 (0,0))) (λi _=>C-(E1 i).toNat)
 case atStart=>exact⟨0,by omega,rfl,s.2.2.2,(al1 rfl).2.1,(al1 rfl).1⟩
 case round=>
  obtain⟨d,c3,rfl,v,A,B⟩:=hrel;by_cases b2:d<C
  .obtain⟨b,c⟩:∃b,e[d]?=O b:=⟨_,az (by rw[s.out.2.2.1];exact b2)⟩;have ar:=cG c;have f:=s.2.1.keep A;obtain⟨K,rfl⟩:∃K,bl=O ⟨K,0,U⟩:=by
    rcases bJ f with⟨ad,_⟩|⟨K,cz,ad⟩
    .rw[s.out.2.2.1]at ad;omega
    .cases ad;exact⟨_,rfl⟩
   have bj:=f.cell r c (i:=0) (by decide);have b9:=f.cell r c (i:=1) (by decide);have ca:=f.cell r c (i:=2) (by decide);have cb:=f.cell r c (i:=3) (by decide);have cc:=f.cell r c (i:=4) (by decide);have cd:=f.cell r c (i:=5) (by decide);have⟨g,ax⟩:=aJ (b.getD 0 0);have⟨h,bb⟩:=aJ (b.getD 1 0);have⟨j,bc⟩:=aJ (b.getD 2 0);have⟨k,bd⟩:=aJ (b.getD 3 0);have⟨l,bf⟩:=aJ (b.getD 4 0);have⟨m,bh⟩:=aJ (b.getD 5 0);rw[ax]at bj;rw[bb]at b9;rw[bc]at ca;rw[bd]at cb;rw[bf]at cc;rw[bh]at cd;rw[iz]at bj;have⟨a6,a7⟩:=b6 b ar;have a8:=b5 b ar;rw[ax]at a6 a7 a8;have c6:(d:Int)<(C:Int):=by omega
   have c4:(0:Int)<=(d:Int):=by omega
   have H:=arH c ar ax bb bc bd bf bh;have a3:=A.alloc A.size (Ax #[N S g,N S h,N S j,N S k,N S l,N S m] 195 (0,0));have b8:=bE _ base L mb g t (s.1.below a3) a6 a7 a8 ce cf;go_wp2_with fail;refine b8.mono ?_;rintro cF G ⟨rfl,ak⟩;have c7:=A.size;have b7:=aF B;have bF:G.heap[wr.heap.size]?=O (Ax #[N S g,N S h,N S j,N S k,N S l,N S m] 195 (0,0)):=(ak.block _ (by simp)).trans (aB wr _);have F:G.heap[w.heap.size]?=O (Ax #[N S 0,N S 0,N S 0,N S 0,N S 0,N S 0] 195 (0,0)):=((ak.block _ (by simp;omega)).trans (fp _ _ _ b7)).trans B;have a4:be w G:=a3.trans (ak.mono (by simp;omega));have E:e.drop d=b::e.drop (d+1):=by
    obtain⟨bo,J⟩:=List.getElem?_eq_some_iff.1 H.1;rw[mI bo,J]
   have q:hdN (n+1) t b=Bq (n+1) g t:=by unfold hdN;rw[H.out.2.2.1]
   have b4:rc b=[N S g,N S h,N S j,N S k,N S l,N S m]:=by
    have⟨_,J,bp,br,bs,bt,bv,bw⟩:=H.out;rw[adb (r b J),bp,br,bs,bt,bv,bw]
   cases hbv:Bq (n+1) g t with
   |true=>
    have p:E0 (y=b/\u=B2):=by
     rw[hbv]at q;refine⟨?_,?_⟩
     .rw[<-v.fd,E];unfold rwN;rw[List.find?_cons_of_pos q];rfl
     .rw[<-v.an,E,List.any_cons,q];rfl
    have ap:=Lu F g h j k l m;have al:=D6 a4 (af _) g h j k l m;have⟨c9,da,dc,dd,df,dg⟩:=jk bF;have⟨z0,cs,ct,cu,cw,cx⟩:=jk F;have⟨ck,cl,cm,cn,cp,cq⟩:=sF F;have z:=iK ap al;have bk:E0 (hdN (n+1) t b=B2/\rc b=[N S g,N S h,N S j,N S k,N S l,N S m]):=⟨q.trans hbv,b4⟩;go_wp2_with fail;try rw[Cz]
    change bodyPost _ _ _ _ _ (afe G w.heap.size g h j k l m)
    refine bH (adc rfl _ _ w.heap.size g h j k l m B2 rfl rfl z.1) rfl ⟨?_,z.2⟩;rw[p.out.1,p.out.2,bk.out.2]
   |false=>
    have p:D7 (n+1) t e (d+1) y u:=by
     rw[hbv]at q;refine⟨?_,?_⟩
     .rw[<-v.fd,E];unfold rwN;rw[List.find?_cons_of_neg (by rw[q];simp)]
     .rw[<-v.an,E,List.any_cons,q];rfl
    go_wp2;go_roundw
    case rel=>exact⟨d+1,by omega,by go_num,p,a4,F⟩
    case measure=>simp[E1];omega
  .obtain rfl:d=C:=by omega
   have p:E0 (y=[]/\u=A5):=by
    have a9:e.drop d=[]:=ma (by rw[s.out.2.2.1];exact af _);refine⟨?_,?_⟩
    .rw[<-v.fd,a9];rfl
    .rw[<-v.an,a9];rfl
   have ap:=Lu B 0 0 0 0 0 0;have al:=D6 A (af _) 0 0 0 0 0 0;have⟨z0,cs,ct,cu,cw,cx⟩:=jk B;have⟨ck,cl,cm,cn,cp,cq⟩:=sF B;have z:=iK ap al;go_wp2_with fail;try rw[Cz]
   change bodyPost _ _ _ _ _ (afe wr w.heap.size 0 0 0 0 0 0)
   refine bH (adc rfl _ _ w.heap.size 0 0 0 0 0 0 A5 rfl rfl z.1) rfl ⟨?_,z.2⟩;rw[p.out.1,p.out.2];rfl
def anx(a:1<=t)(f:Nat)(L:List (List Int)):L.any (hdN (f+1) t)=L.any (λr=>match r with|[]=>A5|h::_=>Bq (f+1) h t):=by
 congr 1
 funext r
 exact ams a f r
def By(n:Nat)(w:n=0\/∃m,n=m+1/\ade m):ade n:=by
 intro C r t A a c u k q F p B;by_cases i:a<100
 .have g:Bq (n+1) a c=decide (a=c):=by rw[Bq,ae i]
  rw[g];have s:(a==c)=decide (a=c):=by rw[CI];simp
  have⟨E,v⟩:=aJ (decide (a=c));rw[v]at s⊢;go_in;go_wp21
  go_ret;exact⟨rfl,ah _ _⟩
 .have G:1<=dp a:=by unfold dp;rw[aa i];repeat (first|(split;· omega)|omega)
  obtain⟨m,rfl,x⟩:=w.resolve_left (by omega);obtain⟨b,f,h⟩:∃b f,D7 (m+1) c (mE a) 0 b f:=⟨_,_,⟨rfl,rfl⟩⟩;have g:Bq (m+1+1) a c=f:=by
   rw[Bq,aa i];refine(anx p m (mE a)).symm.trans ?_;rw[<-h.an];rfl
  rw[g];have d:=D8 m x C r t A a c u k q (by omega) p B b f h;have z:b.length<=6:=by
   have j:=C4 k (show a<=255 by omega);unfold AD at j;rw[ch,uc]at j;have e:=h.fd;unfold rwN at e;cases hf:List.find? (hdN (m+1) c) (List.drop 0 (mE a)) with
   |none=>rw[hf]at e;rw[<-e];exact aH _
   |some o=>
    rw[hf]at e;have y:o∈mE a:=acD hf;have:=j.2 o y;simp only[ch]at this;rw[<-e];exact aG this.1.1
  rw[adb z]at d;generalize b.getD 0 0=I at d;generalize b.getD 1 0=J at d;generalize b.getD 2 0=K at d;generalize b.getD 3 0=L at d;generalize b.getD 4 0=ad at d;generalize b.getD 5 0=ak at d;go_in;go_wp2_with (go_at_call 158;refine d.mono ?_;rintro g H ⟨rfl,l⟩);go_ret;exact⟨rfl,l.alloc l.size _⟩
def yg:∀n,ade n
 |0=>By 0 (.inl rfl)
 |n+1=>By (n+1) (.inr ⟨n,rfl,yg n⟩)
attribute [local go_sem] mi
def anz(w:Z):(Op.equalIn 10000 195 (Ck #[N S 0,N S 0,N S 0,N S 0,N S 0,N S 0]) (Ck #[N S 0,N S 0,N S 0,N S 0,N S 0,N S 0])).run T w= .ok B2 w:=by kernel_rfl
def anA{x0:Int}(h:x0≠0)(a b c d e:Int)(w:Z):(Op.equalIn 10000 195 (Ck #[N S 0,N S 0,N S 0,N S 0,N S 0,N S 0]) (Ck #[N S x0,N S a,N S b,N S c,N S d,N S e])).run T w= .ok A5 w:=by
 have f:(0==x0)=A5:=by rw[eJ];omega
 rw[show(10000:Nat)=9999+1 from rfl,Op.equalIn];simp only[Hr,H9 underlying195,CE];simp only[Std.Legacy.Range.forIn_eq_forIn_range',Std.Legacy.Range.size,wF,re,Nat.div_one,List.range'_succ,List.range'_zero,List.forIn_cons,List.forIn_nil];go_simp
def Lx{a:Z}(h:B1 B a w)(n:Nat):B1 B a (w.drewN n):=⟨h.os,h.tape,h.output,h.size,h.block⟩
structure IH (L:List (List Int)) (k:Nat) (b:Bool):Prop where
 out:(L.drop k).contains []=b
def aff(w:Z)(base:Nat)(v:A2)(L:List (List Int))(c:Bool)(b:jC w base v L)(J:L.length<=30)(f:∀r∈L,r.length<=6)(al:∀r∈L,r≠[]->1<=r.getD 0 0)(H:IH L 0 c):
  B3 T 240 #[v,Ck #[N S 0,N S 0,N S 0,N S 0,N S 0,N S 0]] w λe w'=>(∃z,e= A9 (N B7 z)/\decide (0<=z)=c)/\be w w':=by
 have⟨j,s⟩:=aJ L.length;have o:=b;unfold jC at o;rw[s]at o J;obtain⟨C,a0,rfl⟩:=cg o;have h:=mo b s H;go_in;go_wp2;go_loopw [8] (λi wr=>∃a:Nat,a<=j/\i= N B7 a/\IH L a c/\be w wr/\wr.heap[w.heap.size]?=O (Ax #[N S 0,N S 0,N S 0,N S 0,N S 0,N S 0] 195 (0,0))) (λi _=>j-(E1 i).toNat)
 case atStart=>exact⟨0,by omega,rfl,h.2.2,(al1 rfl).2.1,(al1 rfl).1⟩
 case round=>
  obtain⟨a,a1,rfl,n,k,t⟩:=hrel;by_cases K:a<j
  .obtain⟨r,d⟩:∃r,L[a]?=O r:=⟨_,az (by rw[h.out.2.1];exact K)⟩;have ak:=cG d;have b:=h.1.keep k;obtain⟨l,rfl⟩:∃l,C=O ⟨l,0,U⟩:=by
    rcases bJ b with⟨m,_⟩|⟨l,ax,m⟩
    .rw[h.out.2.1]at m;omega
    .cases m;exact⟨_,rfl⟩
   have p:=b.cell f d (i:=0) (by decide);have u:=b.cell f d (i:=1) (by decide);have x:=b.cell f d (i:=2) (by decide);have y:=b.cell f d (i:=3) (by decide);have A:=b.cell f d (i:=4) (by decide);have B:=b.cell f d (i:=5) (by decide);rw[iz]at p;have ad:r=[]\/1<=r.getD 0 0:=(Decidable.em (r=[])).imp_right (al r ak);have q:L.drop a=r::L.drop (a+1):=by
    obtain⟨E,F⟩:=List.getElem?_eq_some_iff.1 d;rw[mI E,F]
   have⟨a3,a4,a5,a6,a7,a8⟩:=jk t;have a2:(a:Int)<(j:Int):=by omega
   have I:(0:Int)<=(a:Int):=by omega
   rcases ad with rfl|hpos
   .have g:E0 (c=B2):=by
     show c=B2;rw[<-n.out,q];simp
    simp only[List.getD_nil]at p u x y A B;have G:=λw=>anz w;go_wp2_with fail;go_quiet (fail)
    go_wp2_with fail;try rw[Cz]
    go_ret;exact⟨⟨_,rfl,by rw[g.out];exact aI I⟩,Lx k nq⟩
   .have g:IH L (a+1) c:=by
     refine⟨?_⟩;rw[<-n.out,q,List.contains_cons];have:([]==r)=A5:=by
      rw[eJ];rintro rfl;simp at hpos
     rw[this,yD]
    generalize r.getD 0 0=x0 at p hpos;generalize r.getD 1 0=an at u;generalize r.getD 2 0=ao at x;generalize r.getD 3 0=ap at y;generalize r.getD 4 0=ar at A;generalize r.getD 5 0=au at B;have G:=λw=>anA (x0:=x0) (by omega) an ao ap ar au w;go_wp2_with fail;go_quiet (fail)
    go_wp2;go_roundw
    case rel=>exact⟨a+1,by omega,by go_num,g,Lx k nq,t⟩
    case measure=>simp[E1];omega
  .obtain rfl:a=j:=by omega
   have g:E0 (c=A5):=by
    show c=A5;rw[<-n.out,ma (by rw[h.out.2.1];exact af _)];rfl
   go_wp2;go_ret;exact⟨⟨-1,rfl,by rw[g.out];rfl⟩,k⟩
def II(w:Z)(base:Nat)(v:A2)(L:List (List Int))(a:Bool)(g:jC w base v L)(f:L.length<=30)(c:∀r∈L,r.length<=6)(h:∀r∈L,r≠[]->1<=r.getD 0 0)(e:IH L 0 a):
  B3 T 201 #[v,Ck #[N S 0,N S 0,N S 0,N S 0,N S 0,N S 0]] w (gy w (Br a)):=by
 have b:=(ah w.heap.size w).alloc (af _) (Ax #[N S 0,N S 0,N S 0,N S 0,N S 0,N S 0] 195 (0,0));have j:=aff _ base v L a (g.keep b) f c h e;go_in;go_wp2_with (go_at_call 240;refine j.mono ?_;rintro k l ⟨⟨m,rfl,i⟩,d⟩);go_ret;refine⟨?_,b.trans (d.mono (by simp))⟩;rw[<-i];rfl
def aki(w:Z)(base h mb:Nat)(a:Int)(i:GB w base h mb)(f:0<=a)(y:a<=133):
  B3 T 153 #[V (O ⟨h,0,U⟩),N S a] w (gy w (Br (KC a))):=by
 have⟨D,l,B,m,n⟩:=i.r.ex;have⟨q,t⟩:=n a f (by omega);have d:=C4 f (show a<=255 by omega);unfold KC;generalize mE a=e at *;unfold AD at d;rw[ch,uc]at d;have p:=aG d.1;have s:∀b∈e,b.length<=6:=λb g=>by have:=d.2 b g;simp only[ch]at this;exact aG this.1.1
 have u:∀b∈e,b≠[]->1<=b.getD 0 0:=λb g r=>by
  have:=d.2 b g;simp only[ch,uc]at this;cases b with
  |nil=>exact absurd rfl r
  |cons x b=>have:=aG (this.1.2 x (by simp));simp;omega
 have⟨k,j⟩:=aJ (e.contains []);have v:=II w base (l a) e k t p s u ⟨j⟩;rw[j];have z:=i.c;go_in;go_wp2_with (first
  |(at_lookup;refine sa rfl _ _ rfl rfl m rfl a f (by omega) rfl q ?_)
  |(go_at_call 201;refine v.mono ?_;rintro A C ⟨rfl,o⟩))
 go_ret;exact⟨rfl,o⟩
def GC(n l Bs b o:Nat)(a:Option Addr)(f:Nat->A2)(J:b<=100000000)(H:b<=o)(c:Nat->Z->Prop)(k:Z->Prop)
  (q:∀m W,c m W->W.cell? ⟨Bs,0,U⟩=O (A0 a b o))
  (y:∀m W,c m W->∀j,j<b->∃h,a=O h/\W.cell? (h.add j)=O (f j))
  (x:∀m W,m<b->c (m+1) W->YieldAt Fence.wide (n-1) T l #[N B7 (m:Int),f m] W λe W'=>(e= A9 (Br B2)/\c m W')\/(e= A9 (Br A5)/\k W'))
  (W:Z) (p:c b W):
  CallsIn Fence.wide n T 200 #[.func (.yield l) #[] #[],V (O ⟨Bs,0,U⟩)] W λe W'=>(∃v,e= A9 v)/\(c 0 W'\/k W'):=by
 have F:=q _ _ p;refine callsIn_of_wp func200 rfl trivial ?_ rfl;simp only[ntmps200,jo,bB,fs,Nat.reduceAdd,Nat.reduceSub,jI,kG,kH,qd,dI,ed]
 gi_wp2
 gi_loopw [3] (λi wr=>∃d:Nat,d<=b/\i= N B7 ((d:Int)-1)/\c d wr) (λi _=>(E1 i+1).toNat)
 case atStart=>exact⟨b,af _,rfl,p⟩
 case round=>
  obtain⟨d,I,rfl,g⟩:=hrel;have E:=q _ _ g;rcases nK d with rfl|hp
  .gi_wp2
   go_end0
   exact⟨⟨_,rfl⟩,.inl g⟩
  .obtain⟨m,rfl⟩:∃m,d=m+1:=⟨d-1,by omega⟩;obtain⟨h,rfl,G⟩:=y _ _ g m (by omega);have⟨C,tmps,A,B,K,w⟩:=x m wr (by omega) g;have r:((m+1:Nat):Int)-1=(m:Int):=by omega
   rw[r]
   gi_wp2
   refine⟨λs=>by simp[Fence.wide]at s,w.mono ?_⟩;rintro e z (⟨rfl,t⟩|⟨rfl,u⟩)
   .gi_wp2
    go_roundw
    case rel=>exact⟨m,by omega,by simp,t⟩
    case measure=>simp[E1]
   .gi_wp2
    refine bH (fK rfl _ _ _) rfl ?_;exact⟨⟨_,rfl⟩,.inr u⟩
def xy(a:Option Addr)(c b:Nat)(w:Z):
  B3 T 151 #[A0 a c b] w λe w'=>e= A9 (.func (.func 200) #[] #[V (O ⟨w.heap.size,0,U⟩)])/\w'=w.alloc (Ax #[A0 a c b] 115):=by
 refine calls_of_wp func151 rfl ?_;simp only[ntmps151,jo,bB,fs,Nat.reduceAdd,Nat.reduceSub,jI,kG,kH,qd,dI,ed];go_wp2;go_ret;exact⟨rfl,rfl⟩
attribute [local go_sem] mi
def eH{t:Ex}(h:W.heap[b]?=O (Ax #[v] t (0,0))):W.cell? ⟨b,0,U⟩=O v:=by
 rw[aj _ _ _ _ _ _ h];rfl
def zg(h:be W W'):B4 B W W':=⟨h.size,λb c _ a _=>(h.block b (Array.getElem?_eq_some_iff.1 a).1).trans a⟩
structure vL (w:Z) (gb:Nat) (t:Int) (vs:A2) (r:Bool) (W:Z):Prop where
 bl:be w W
 b0:W.heap[w.heap.size]?=O (.cells #[.pointer (O ⟨gb,0,U⟩)] 69 (0,0))
 b1:W.heap[w.heap.size+1]?=O (.cells #[.int .i64 t] 3 (0,0))
 b2:W.heap[w.heap.size+2]?=O (.cells #[.bool r] 4 (0,0))
 b3:W.heap[w.heap.size+3]?=O (.cells #[vs] 115 (0,0))
def vL.below(h:vL w gb t vs r W)(a:be W W'):vL w gb t vs r W':=
 ⟨h.bl.trans (a.mono h.bl.size),(a.block _ (aF h.b0)).trans h.b0,(a.block _ (aF h.b1)).trans h.b1,(a.block _ (aF h.b2)).trans h.b2,(a.block _ (aF h.b3)).trans h.b3⟩
def vL.put(h:vL w gb t vs r W)(b:w.heap.size+3<k)(o:Obj):vL w gb t vs r (W.putObj k o):=
 ⟨h.bl.grown (E3 W k o) h.bl.size (λc a=>by cases a;omega),(X (by omega)).trans h.b0,(X (by omega)).trans h.b1,(X (by omega)).trans h.b2,(X (by omega)).trans h.b3⟩
def vL.set(h:vL w gb t vs r W)(r':Bool):vL w gb t vs r' (W.setCell ⟨w.heap.size+2,0,U⟩ (Br r')):=
 ⟨h.bl.setCell (by show w.heap.size<=w.heap.size+2;omega) _,(aC _ _ _ _ (by simp)).trans h.b0,(aC _ _ _ _ (by simp)).trans h.b1,bg _ _ 0 _ _ _ h.b2,(aC _ _ _ _ (by simp)).trans h.b3⟩
def Ly{a:Func}{p:Tmp}(h:a.results=#[.cell p 4])(tmps:Array A2)(w:Z)(g:Nat)(b:Bool)(d:tmps.getD p Y= V (O ⟨g,0,U⟩))(c:w.heap[g]?=O (Ax #[Br b] 4 (0,0))):(results a tmps).run T w= .ok (Br b) w:=by
 have e:tmps[p]?.getD Y= V (O ⟨g,0,U⟩):=by simpa using d
 have f:w.cell? ⟨g,0,U⟩=O (Br b):=by rw[aj _ _ _ _ _ _ c];rfl
 simp[results,h,e,asAddr];go_simp
structure IJ (st:List Int) (m:Nat) (t:Int) (R:Bool):Prop where
 out:uL (st.drop (st.length-m)) t=R
def amt(a:Int):dp a<=8:=by
 unfold dp
 repeat (first|omega|(split;· omega))
def zh(g j:Nat):(⟨g,0,U⟩:Addr).add j=⟨g,j,U⟩:=by unfold Addr.add;split<;>simp_all
def Cb(st:List Int)(m:Nat):Int:=st.reverse.getD m 0
def adf{st:List Int}(c:st.length=n)(b:m<n):st.drop (n-(m+1))=Cb st m::st.drop (n-m):=by
 have a:n-(m+1)<st.length:=by omega
 rw[mI a,show n-(m+1)+1=n-m by omega]
 congr 1
 unfold Cb;rw[aD,List.getElem?_reverse (by omega),az (by omega),ie]
 congr 1
 omega
def anB{st:List Int}(c:st.length=n)(b:m<n):Cb st m∈st:=by
 have a:Cb st m∈st.drop (n-(m+1)):=by rw[adf c b];simp
 exact List.mem_of_mem_drop a
def akj{c:Nat}{b:Option Addr}{st:List Int}(h:W.ownsRow base 121 1 (A0 b n c) n (cSy st))(j:st.length=n)(i:m<n):∃a,b=O a/\W.cell? (a.add m)=O (N S (Cb st m)):=by
 rcases bJ h with⟨g,_⟩|⟨f,e,d⟩
 .omega
 .cases d;refine⟨_,rfl,?_⟩;rw[zh,h.cellAt m (by omega)];unfold cSy Cb;rw[ci,az (by simp;omega),aD,az (by simp;omega)];rfl
def ag0(w:Z)(base e mb:Nat)(st:List Int)(t:Int)(R:Bool)(bo:IE w base e (.map (O mb)) st)(br:RI w base mb)(bF:∀a∈st,0<=a/\a<=133)(r:st.length<=100000000)(cc:1<=t)(cd:t<=78)(J:uL st t=R):
  B3 T 89 #[V (O ⟨e,0,U⟩),N B7 t] w (gy w (Br R)):=by
 have⟨cu,ap,L⟩:=bo.ex;have bp:GB w base e mb:=⟨by rw[aj _ _ _ _ _ _ ap];rfl,br⟩;have⟨n,a6⟩:=aJ st.length;rw[a6]at L r;obtain⟨g,f,rfl⟩:=cg L;have ak:w.cell? ⟨e,1,U⟩=O (A0 g n f):=by rw[aj _ _ _ _ _ _ ap];rfl
 have bD:n<=f:=by
  rcases L.2 with⟨a3,s⟩|⟨cq,cm,cn,a3,_,_,q,_⟩
  .rw[s];exact aH _
  .cases a3;exact q
 have l:=aev bp L a6 J bF;have cr:=aF ap;refine mJ (n:=5).1 ?_;refine callsIn_of_wp_marks func89 rfl trivial ?_ rfl;simp only[ntmps89,jo,bB,fs,Nat.reduceAdd,Nat.reduceSub,jI,kG,kH,qd,dI,ed];refine wpIn_wide.2 ?_;have cl:=λ(b5 b6 b7:Obj)=>ag (((((ah w.heap.size w).alloc (af _) b5).alloc (by simp) b6)).alloc (by simp;omega) b7) ak;go_wp2_with (go_at_call 151;refine(xy g n f _).mono ?_;rintro a2 cx ⟨rfl,rfl⟩);rename_i ce a5;generalize bw:(w.alloc _).alloc _=bj;generalize bv:(bj.alloc _).alloc _=a0;have⟨b8,b9,ca,cb⟩:=If bw;have⟨ba,bb,ax,bc⟩:=If bv;rw[cb]at ba bb bc;have b4:vL w e t (A0 g n f) A5 a0:=⟨ca.trans (ax.mono (by omega)),(ax.block _ (by omega)).trans b8,(ax.block _ (by omega)).trans b9,ba,bb⟩;have x:a0.heap.size=w.heap.size+4:=bc;refine(uh (n:=5)).1 ?_;refine xb (P:=T) (gf:=200) (lb:=#[V (O ⟨w.heap.size+1+1+1,0,U⟩)]) rfl (enters_of func200 (by kernel_rfl) rfl)
  (λd=>#[N B7 (d:Int),N S (Cb st d)]) (λ_=>rfl) n
  (λd b=>vL w e t (A0 g n f) A5 b/\IJ st d t R)
  (λd z b=>vL w e t (A0 g n f) A5 b/\IJ st (d+1) t R/\
   z={tmps:=#[V (O ⟨e,0,U⟩),N B7 t,V (O ⟨w.heap.size,0,U⟩),V (O ⟨w.heap.size+1,0,U⟩),V (O ⟨w.heap.size+1+1,0,U⟩),Y,N S (Cb st d),
    V (O ⟨e,0,U⟩),V (O ⟨e,0,U⟩),V (O ⟨e,1,U⟩),V (O ⟨e,1,U⟩),A0 g n f,.func (.func 200) #[] #[V (O ⟨w.heap.size+1+1+1,0,U⟩)],N B7 (d:Int),N S (Cb st d),
    Y,Y,Y,Y,Y,Y,Y,Y,Y],defers:=[]})
  (λb=>vL w e t (A0 g n f) R b)
  ?pZ ?pAx ?pX ?h0 ?assign ?body ?seq ?done ?ret
 case pZ=>
  rintro d b bd G ⟨c,i⟩ r;rw[x]at r⊢;exact⟨c.put (by omega) G,i⟩
 case pAx=>
  rintro d z b bd G ⟨c,i,rfl⟩ r;rw[x]at r⊢;exact⟨c.put (by omega) G,i,rfl⟩
 case pX=>
  intro b bd G c r;rw[x]at r⊢;exact c.put (by omega) G
 case h0=>
  intro ck bA cs;exact⟨b4.below bA,⟨by rw[l.out.2.2.1,fH];exact l.2.2.2.1⟩⟩
 case assign=>
  rintro F d b cf ar ⟨c,i⟩ bs;have p:=iK c i;clear c i
  gi_wp2
  exact bs _ _ ⟨p.1,p.2,rfl⟩ (KeepsFrom.refl _ _)
 case body=>
  rintro F d z b ar ⟨c,i,rfl⟩;rw[x];have E:=l.2.2.2.2 _ (anB l.2.2.1 ar);have j:=i.out;rw[l.out.2.2.1,adf l.out.2.2.1 ar,uL]at j;have C:Bq 9 (Cb st d) t=A5->KC (Cb st d)=B2->IJ st d t R:=λal h=>by
   rw[aa (by rw[al];simp),ae h]at j;exact⟨by rw[l.out.2.2.1];exact j⟩
  generalize Cb st d=u at E j C⊢;have a7:=CallsIn.inRound F (mJ (n:=2).2 (yg 8 b base e mb u t (l.1.below c.bl) E.1 E.2 (amt u) cc cd));have a8:=λ(a1:Z) (o:be w a1)=>CallsIn.inRound F (mJ (n:=2).2 (aki a1 base e mb u (l.1.below o) E.1 E.2));have bk:=eH c.b0;have ak:=eH c.b1;have cp:IntKind.u8.wrap t=t:=by rw[acF];omega
  have p:=am c;clear c i
  gi_wp2_with (refine⟨trivial,?_⟩;gi_at_call 152;fail)
  refine⟨trivial,a7.mono ?_⟩;rintro a2 H ⟨rfl,an⟩;have o:=p.below an;have au:B4 (w.heap.size+4) b H:=zg an;have A:=eH o.b2;have B:H.frozen? ⟨w.heap.size+2,0,U⟩=A5:=cC _ _ _ _ _ o.b2;have bn:=eH o.b0;have h:w.heap.size+1+1=w.heap.size+2:=rfl;rw[<-h]at A B;clear a7 bk ak an h;cases hbv:Bq 9 u t with
  |true=>
   rw[hbv,ae rfl]at j;have m:E0 (vL w e t (A0 g n f) R (H.setCell ⟨w.heap.size+1+1,0,U⟩ (Br B2))/\B4 (w.heap.size+4) b (H.setCell ⟨w.heap.size+1+1,0,U⟩ (Br B2))):=⟨by rw[<-j];exact o.set B2,au.trans ((KeepsOthers.setCell _ _ _).from _)⟩;have K:Bq (8+1) u t=B2:=hbv;try rw[K]
   clear j C hbv K a8 o au p
   gi_wp2
   exact⟨m.2,m.1⟩
  |false=>
   have K:Bq (8+1) u t=A5:=hbv;rw[hbv,aa (by simp)]at j;try rw[K]
   have a9:=a8 H o.bl;have I:=iK o au
   gi_wp2_with (refine⟨trivial,?_⟩;gi_at_call 153;fail)
   refine⟨trivial,a9.mono ?_⟩;rintro a2 y ⟨rfl,ao⟩;have q:=I.1.below ao;have ad:B4 (w.heap.size+4) b y:=I.2.trans (zg ao);have A:=eH q.b2;have B:y.frozen? ⟨w.heap.size+2,0,U⟩=A5:=cC _ _ _ _ _ q.b2;have h:w.heap.size+1+1=w.heap.size+2:=rfl;rw[<-h]at A B;clear a9 bn ao h;cases hnv:KC u with
   |true=>
    have m:E0 (vL w e t (A0 g n f) A5 y/\IJ st d t R/\B4 (w.heap.size+4) b y):=⟨q,C hbv hnv,ad⟩;clear j C hbv q ad I hnv
    gi_wp2
    exact⟨m.2.2,m.1,m.2.1⟩
   |false=>
    rw[hnv,aa (by simp)]at j;have m:E0 (vL w e t (A0 g n f) R (y.setCell ⟨w.heap.size+1+1,0,U⟩ (Br A5))/\B4 (w.heap.size+4) b (y.setCell ⟨w.heap.size+1+1,0,U⟩ (Br A5))):=⟨by rw[<-j];exact q.set A5,ad.trans ((KeepsOthers.setCell _ _ _).from _)⟩;clear j C hbv q ad I hnv
    gi_wp2
    exact⟨m.2,m.1⟩
 case seq=>
  intro F bf bh a4 bx b bt;refine GC 4 F (w.heap.size+1+1+1) n f g _ r bD bf bh (λd b c=>?_) (λd b c ct bE=>?_) bx b bt
  .exact eH (a4 d b c).1.b3
  .obtain⟨z,al,h⟩:=akj l.2.1 l.2.2.1 bE;exact⟨z,al,ag (a4 d b c).1.bl h⟩
 case ret=>
  intro b c v;rw[x]at v⊢;refine⟨by simp,.inl ⟨_,_,rfl,run_takeDeferred v,?_⟩⟩;have s:=c.put (k:=w.heap.size+4) (by omega) (.deferred U);refine⟨_,Ly rfl _ _ (w.heap.size+1+1) R rfl s.b2,rfl,s.bl⟩
 case done=>
  rintro b ⟨c,i⟩ v;rw[x]at v⊢;have J:R=A5:=by
   have:=i.out;rw[wF,List.drop_length]at this;exact this.symm
  refine a5 _ _ ?_;have A:=eH c.b2;have B:b.frozen? ⟨w.heap.size+2,0,U⟩=A5:=cC _ _ _ _ _ c.b2;have h:w.heap.size+1+1=w.heap.size+2:=rfl;rw[<-h]at A B;have p:E0 (vL w e t (A0 g n f) R (b.setCell ⟨w.heap.size+1+1,0,U⟩ (Br A5))/\(b.setCell ⟨w.heap.size+1+1,0,U⟩ (Br A5)).heap[w.heap.size+4]?=O (.deferred (O []))):=⟨by rw[J];exact c.set A5,(aC _ _ _ _ (by simp)).trans v⟩;clear c i v J a5 h;go_wp2_with fail;refine⟨by simp,.inl ⟨_,_,rfl,run_takeDeferred p.2,?_⟩⟩;have s:=p.1.put (k:=w.heap.size+4) (by omega) (.deferred U);refine⟨_,Ly rfl _ _ (w.heap.size+1+1) R rfl s.b2,rfl,s.bl⟩
def passOk(M:Nat):Nat->List Int->Int->List Int->Prop
 |0,_,_,_=>False
 |_+1,[],_,_=>False
 |f+1,a::r,t,o=>(a=t/\o=r/\r.length<=M)\/(a≠t/\(Io a t++r).length<=M/\passOk M f (Io a t++r) t o)
def ag1(e:0<=a)(g:a<=133):(Io a t).length<=6/\∀z∈Io a t,1<=z/\z<=133:=by
 have b:=C4 e (show a<=255 by omega);unfold AD at b;rw[ch,uc]at b;unfold Io;cases hf:List.find? (hdI t) (mE a) with
 |none=>exact⟨aH _,λz c=>by simp at c⟩
 |some d=>
  have f:d∈mE a:=acD hf;have:=b.2 d f;simp only[ch,uc]at this;exact⟨aG this.1.1,λz c=>aG (this.1.2 z c)⟩
def akk(b:1<=t):rwN 8 (mE a) t=Io a t:=by
 unfold rwN Io
 congr 2
 funext r
 rw[ams b 7 r];cases r<;>rfl
def GD:∀{f M:Nat}{st o:List Int}{t:Int},mF f st t=O o->(∀z∈st,0<=z/\z<=133)->st.length+5*f<=M->passOk M f st t o
 |0,_,_,_,_,h,_,_=>by simp[mF]at h
 |f+1,_,[],_,_,h,_,_=>by simp[mF]at h
 |f+1,M,a::r,o,t,h,b,c=>by
  rw[mF]at h;unfold passOk;simp only[bB]at c;by_cases e:a=t
  .rw[ae e]at h;exact .inl ⟨e,(bz h).symm,by omega⟩
  .rw[aa e]at h;have⟨d,g⟩:=b a (by simp);obtain⟨j,i⟩:=ag1 (t:=t) d g;refine .inr ⟨e,by rw[bm];omega,GD h (λz hz'=>?_) (by rw[bm];omega)⟩;rcases List.mem_append.1 hz' with hz'|hz'
   .have:=i z hz';omega
   .exact b z (by simp[hz'])
def Bz:∀{f g M:Nat}{st o:List Int}{t:Int},passOk M f st t o->f<=g->passOk M g st t o
 |0,_,_,_,_,_,h,_=>h.elim
 |f+1,0,_,_,_,_,_,e=>by omega
 |f+1,g+1,_,[],_,_,h,_=>h.elim
 |f+1,g+1,M,a::r,o,t,h,e=>by
  unfold passOk at h⊢;rcases h with h|⟨b,c,d⟩
  .exact .inl h
  .exact .inr ⟨b,c,Bz d (by omega)⟩
def BA:∀{f M M':Nat}{st o:List Int}{t:Int},passOk M f st t o->M<=M'->passOk M' f st t o
 |0,_,_,_,_,_,h,_=>h.elim
 |f+1,_,_,[],_,_,h,_=>h.elim
 |f+1,M,M',a::r,o,t,h,e=>by
  unfold passOk at h⊢;rcases h with⟨b,c,d⟩|⟨b,c,d⟩
  .exact .inl ⟨b,c,by omega⟩
  .exact .inr ⟨b,by omega,BA d e⟩
def Lz:∀{st:List Int}{t:Int},OkI st->1<=t->t<=78->uL st t=B2->∃o,passOk (st.length+45) (st.length+9) st t o
 |[],t,d,_,_,h=>by simp[uL]at h
 |a::r,t,d,k,l,h=>by
  have p:=d a (bq ..);have s:OkI r:=λy v=>d y (dr _ v);have u:∀e∈a::r,0<=e/\e<=133:=λe w=>by have:=aG (d e w);omega
  have b:=ac6 p k l;rw[uL]at h;unfold agu at b;by_cases f:Bq 9 a t=B2
  .rw[ae f]at b;split at b
   .rename_i A B C n z;have g:=Ap (c:=r) n;rw[ue]at g;exact⟨_,Bz (GD g u (by simp)) (by simp)⟩
   .cases b
  .rw[aa f]at b h;by_cases i:KC a=B2
   .rw[ae i]at b h;rw[ch]at b;have⟨o,x⟩:=Lz s k l h;have q:¬a=t:=λm=>by
     subst m;have:Bq 9 a a=B2:=by rw[Bq,ae (by omega)];exact aI rfl
     exact f this
    have j:Io a t=[]:=by simpa using b.1
    refine⟨o,?_⟩;rw[show(a::r).length+9=(r.length+9)+1 from Nat.add_right_comm r.length 1 9];unfold passOk;refine .inr ⟨q,by rw[j,dI];simp;omega,?_⟩;rw[j,dI];exact BA x (by simp)
   .rw[aa i]at h;cases h
def BB:∀{f M:Nat}{st o:List Int}{t:Int},passOk M f st t o->mF f st t=O o
 |0,_,_,_,_,h=>h.elim
 |f+1,_,[],_,_,h=>h.elim
 |f+1,M,a::r,o,t,h=>by
  unfold passOk at h;rw[mF];rcases h with⟨b,c,d⟩|⟨b,c,d⟩
  .rw[ae b,c]
  .rw[aa b];exact BB d
def um:∀{f M:Nat}{st o:List Int}{t:Int},passOk M f st t o->o.length<=M
 |0,_,_,_,_,h=>h.elim
 |f+1,_,[],_,_,h=>h.elim
 |f+1,M,a::r,o,t,h=>by
  unfold passOk at h;rcases h with⟨d,c,b⟩|⟨d,c,b⟩
  .rw[c];exact b
  .exact um b
def Sim.passOk{st c:List Int}(h:Sim st c)(d:1<=t)(e:t<=78)(a:uL st t=B2):∃o,passOk (st.length+45) (st.length+9) st t o/\Sim o (dz c t).1:=by
 have⟨o,b⟩:=Lz h.o1 d e a;have⟨g,f,p2⟩:=h.pass d e a;have:=BB b;rw[f]at this;obtain rfl:=bz this;exact⟨_,b,p2⟩
attribute [local go_sem] mi
def amu{cs:Array A2}{t:Ex}(d:W.heap[gb]?=O (Ax cs t fr))(h:Gp gb W W'):B4 B W W':=⟨h.size,λe i _ a c=>(h.block e (Array.getElem?_eq_some_iff.1 a).1 (by rintro rfl;rw[d]at a;cases a;cases c) (λf g b=>by rw[a]at b;cases b;cases c)).trans a⟩
def lG{cs:Array A2}{t:Ex}(h:Gp gb W W')(a:W.heap[k]?=O (Ax cs t fr))(c:k≠gb)(ht:t≠121:=by decide):W'.heap[k]?=O (Ax cs t fr):=
 (h.block k (Array.getElem?_eq_some_iff.1 a).1 c (λd e b=>by rw[a]at b;cases b;exact ht rfl)).trans a
structure yh (w:Z) (base gb mb:Nat) (st:List Int) (c:List Nat) (W:Z):Prop where
 g:IE W base gb (.map (O mb)) st
 r:RI W base mb
 gp:Gp gb w W
 bb:B1 base w W
 b0:W.heap[w.heap.size]?=O (.cells #[.pointer (O ⟨gb,0,U⟩)] 69 (0,0))
 mks:vI (w.heap.size+1) c W
 ne:gb<w.heap.size
def yh.below{st:List Int}(h:yh w base gb mb st c W)(a:be W W'):yh w base gb mb st c W':=by
 refine⟨h.g.below a,h.r.below a,h.gp.trans (Gp.of_below a),h.bb.trans (a.mono ?_),(a.block _ (aF h.b0)).trans h.b0,h.mks.below a,h.ne⟩;have:=h.g.lo;have:=h.ne;have:=h.gp.size;omega
def yh.turn{st i:List Int}(h:yh w base gb mb st c W)(j:IE W' base gb (.map (O mb)) i)(d:Gp gb W W')(k:B1 base W W'):yh w base gb mb i c W':=by
 have⟨n,f,_⟩:=h.g.ex;exact⟨j,h.r.gp f d,h.gp.trans d,h.bb.trans k,lG d h.b0 (by have:=h.ne;omega),
  ⟨h.mks.nd,h.mks.lo,λa b=>(d.block a (Array.getElem?_eq_some_iff.1 (h.mks.at_ a b)).1 (by rintro rfl;have:=h.mks.at_ a b;rw[f]at this;cases this) (λl m e=>by rw[h.mks.at_ a b]at e;cases e)).trans (h.mks.at_ a b)⟩,h.ne⟩
def yh.put{st:List Int}(h:yh w base gb mb st c W){r:Loop}(x:w.heap.size<k)(d:W.heap[k]?=O (.loop r))(o:Obj):yh w base gb mb st c (W.putObj k o):=by
 have⟨q,l,n⟩:=h.g.ex;have e:gb≠k:=by have:=h.ne;omega
 have p:base<=k:=by have:=h.g.lo;have:=h.ne;omega
 refine⟨⟨⟨q,(X e).trans l,ownsRow_putObj n o d rfl⟩,h.g.lo⟩,h.r.same (λt c a=>(X (by rintro rfl;rw[d]at a;cases a)).trans a) (λv s u a=>(X (by rintro rfl;rw[d]at a;cases a)).trans a),?_,h.bb.grown (E3 W k o) (by have:=h.gp.size;have:=h.g.lo;have:=h.ne;omega) (λi a=>by cases a;exact p),(X (by omega)).trans h.b0,
  ⟨h.mks.nd,h.mks.lo,λf g=>(X (by rintro rfl;have:=(h.mks.at_ f g).symm.trans d;cases this)).trans (h.mks.at_ f g)⟩,h.ne⟩
 have b:=h.gp;refine⟨b.os,b.tape,b.output,by have:=b.size;simpa using this,λi m e j=>(X (by omega)).trans (b.block i m e j)⟩
structure abt (w:Z) (base gb mb:Nat) (st:List Int) (c:List Nat) (sz:Nat) (x0 x1 x2 x3 x4 x5:Int) (W:Z):Prop where
 ps:yh w base gb mb st c W
 b0:W.heap[sz]?=O (.cells #[.int .u8 x0,.int .u8 x1,.int .u8 x2,.int .u8 x3,.int .u8 x4,.int .u8 x5] 195 (0,0))
 b1:W.heap[sz+1]?=O (.cells #[.slice (O ⟨sz,0,U⟩) 6 6] 115 (0,0))
def abt.put{st:List Int}{a:Nat}{x0 b d e f g:Int}(h:abt w base gb mb st c a x0 b d e f g W)(l:w.heap.size<a){r:Loop}(j:a+1<k)(i:W.heap[k]?=O (.loop r))(o:Obj):abt w base gb mb st c a x0 b d e f g (W.putObj k o):=
 ⟨h.ps.put (by omega) i o,(X (by omega)).trans h.b0,(X (by omega)).trans h.b1⟩
def ag2(w:Z)(base f mb:Nat)(st:List Int)(t:Int)(M bf:Nat)(v:List Int)(a2:IE w base f (.map (O mb)) st)(bE:RI w base mb)(b4:∀a∈st,0<=a/\a<=133)(s:st.length<=M)(ff:M<=100000000)(cq:1<=t)(er:t<=78)(a3:passOk M bf st t v):
  B3 T 91 #[V (O ⟨f,0,U⟩),N S t] w λe w'=>e= A9 (Ce #[])/\IE w' base f (.map (O mb)) v/\RI w' base mb/\Gp f w w'/\B1 base w w':=by
 obtain⟨c4,b3,ei⟩:=a2.ex;have ee:=aF b3;have fn:=a2.lo;obtain⟨k,rfl⟩:∃k,bf=k+1:=by
  cases bf with
  |zero=>exact a3.elim
  |succ k=>exact⟨k,rfl⟩
 obtain⟨c,l,rfl⟩:∃c l,st=c::l:=by
  cases st with
  |nil=>exact a3.elim
  |cons c l=>exact⟨c,l,rfl⟩
 have ao:=(ah w.heap.size w).alloc (af _) (Ax #[V (O ⟨f,0,U⟩)] 69 (0,0));have bj:yh w base f mb (c::l) [] (w.alloc (Ax #[V (O ⟨f,0,U⟩)] 69 (0,0))):=
  ⟨a2.below ao,bE.below ao,Gp.of_below ao,ao.mono (by omega),aB w _,⟨H8,λp hb=>by simp at hb,λp hb=>by simp at hb⟩,ee⟩
 have x:=Lq _ base f (.map (O mb)) l c bj.g (by simp only[bB]at s;omega);have av:=mo bj b4 a3;clear a2 bE b4 ei bj a3 b3;refine mJ (n:=5).1 ?_;refine callsIn_of_wp_marks func91 rfl trivial ?_ rfl;simp only[ntmps91,jo,bB,fs,Nat.reduceAdd,Nat.reduceSub,jI,kG,kH,qd,dI,ed];refine wpIn_wide.2 ?_;go_wp2_with (go_at_call 157;refine x.mono ?_;rintro e ev ⟨rfl,a0,p2,bA⟩);have cb:=av.1.turn a0 p2 bA;have bw:E0 (yh w base f mb l [] ev/\(∀a∈c::l,0<=a/\a<=133)/\passOk M (k+1) (c::l) t v/\l.length<=M):=⟨cb,av.2.1,av.2.2,by simp only[bB]at s;omega⟩;clear av cb a0 p2 bA x ao;obtain⟨s0,ca⟩:=aJ c;refine(uh (n:=5)).1 (wpIn_loop_ghost (λk ak g=>∃(c:Int) (st:List Int) (j:List Nat),E0 (yh w base f mb st j g/\(∀a∈c::st,0<=a/\a<=133)/\passOk M (k+1) (c::st) t v/\st.length<=M)/\∃c2 c3 cr ct cu br bs bt bv cv cw cx cy cz cB cF cI c1:A2,ak={tmps:=#[V (O ⟨f,0,U⟩),N S t,V (O ⟨w.heap.size,0,U⟩),Y,N S c,c2,c3,Y,Y,V (O ⟨f,0,U⟩),V (O ⟨f,0,U⟩),V (O ⟨f,1,U⟩),N S s0,cr,ct,cu,br,bs,bt,bv,cv,cw,cx,cy,cz,cB,cF,cI,c1,Y,Y,Y,Y,Y,Y,Y,Y,Y],defers:=j.map DF}) k ?start ?round)
 case start=>exact⟨c,l,[],bw,Y,Y,Y,Y,Y,Y,Y,Y,Y,Y,Y,Y,Y,Y,Y,Y,Y,Y,by rw[<-ca];rfl⟩
 case round=>
  clear bw s ca;rintro k ak g ⟨c,st,j,m,c2,c3,cr,ct,cu,br,bs,bt,bv,cv,cw,cx,cy,cz,cB,cF,cI,c1,rfl⟩;refine wpIn_wide.2 ?_;have fg:=eH m.1.b0;have a6:=m.2.1 c (by simp);by_cases a8:c=t
  .have al:=m.2.2.1;unfold passOk at al;have cc:v=st:=by
    rcases al with⟨_,b,_⟩|⟨b,_⟩
    .exact b
    .exact absurd a8 b
   have ad:E0 (yh w base f mb v j g):=by rw[cc];exact m.1
   clear al m cc;subst a8;go_wp2_with fail;show LeavesInM _ _ _ _ _ _ (j.map DF) .returning g;have b:=ad.out;refine ul (w.heap.size+1) j g b.mks (λbx q=>?_);have cd:∀h,h<=w.heap.size->bx.heap[h]?=g.heap[h]?:=λh B=>q.same h (λC=>by have:=b.mks.lo h C;omega);have a4:∀(h:Nat)(u:Obj),g.heap[h]?=O u->(∀au,u≠ .deferred au)->bx.heap[h]?=O u:=λh u B a5=>(q.same h (λC=>by have:=b.mks.at_ h C;rw[B]at this;exact a5 _ (bz this))).trans B;refine⟨_,fK rfl _ _ _,rfl,?_,?_,?_,?_⟩
   .obtain⟨c4,ap,a5⟩:=b.g.ex;refine⟨⟨c4,a4 _ _ ap (λau e=>by cases e),a5.1,?_⟩,b.g.lo⟩;rcases a5.2 with d1|⟨a0,dn,dq,bl,bn,bo,bp⟩
    .exact .inl d1
    .exact .inr ⟨a0,dn,dq,bl,bn,a4 _ _ bo (λau e=>by cases e),bp⟩
   .exact b.r.same (λe9 j e=>a4 _ _ e (λau e=>by cases e)) (λfd e8 fb e=>a4 _ _ e (λau e=>by cases e))
   .exact⟨q.os.trans b.gp.os,q.tape.trans b.gp.tape,q.output.trans b.gp.output,by rw[q.size];exact b.gp.size,λh B eh ea=>(cd h (by omega)).trans (b.gp.block h B eh ea)⟩
   .exact⟨q.os.trans b.bb.os,q.tape.trans b.bb.tape,q.output.trans b.bb.output,by rw[q.size];exact b.bb.size,λh B=>(cd h (by omega)).trans (b.bb.block h B)⟩
  .have fq:(c==t)=A5:=by rw[eJ];exact a8
   have al:(Io c t++st).length<=M/\passOk M k (Io c t++st) t v:=by
    have:=m.2.2.1;unfold passOk at this;rcases this with⟨b,_⟩|⟨_,b⟩
    .exact absurd b a8
    .exact b
   have⟨et,ap,_⟩:=m.1.g.ex;have d3:GB g base f mb:=⟨by rw[aj _ _ _ _ _ _ ap];rfl,m.1.r⟩;obtain⟨A,d6⟩:∃A,D7 8 t (mE c) 0 (Io c t) A:=⟨_,⟨akk cq,rfl⟩⟩;have a9:=D8 7 (yg 7) g base f mb c t d3 a6.1 a6.2 (amt c) cq er _ A d6;obtain⟨b9,ej⟩:=ag1 (t:=t) a6.1 a6.2;rw[adb b9]at a9;have r:E0 ((Io c t++st).length<=M/\passOk M k (Io c t++st) t v/\(Io c t).length<=6/\∀c8∈Io c t,1<=c8/\c8<=133):=⟨al.1,al.2,b9,ej⟩;generalize Io c t=rw at a9 r;have⟨F,bk⟩:=aJ (rw.getD 0 0);have⟨G,ck⟩:=aJ (rw.getD 1 0);have⟨H,cl⟩:=aJ (rw.getD 2 0);have⟨I,cm⟩:=aJ (rw.getD 3 0);have⟨J,cn⟩:=aJ (rw.getD 4 0);have⟨K,cp⟩:=aJ (rw.getD 5 0);rw[bk,ck,cl,cm,cn,cp]at a9;have c9:=ajF bk ck cl cm cn cp;go_wp2_with (first
    |(go_at_call 158;refine a9.mono ?_;rintro e c6 ⟨rfl,a1⟩)
    |(go_at_call 151;refine(xy _ 6 6 _).mono ?_;rintro e ft ⟨rfl,rfl⟩))
   rename_i e4 d4;have⟨i,ce⟩:=aJ c6.heap.size;rw[ce];generalize d8:(c6.alloc _).alloc _=e7;have⟨b7,b8,d2,ar⟩:=If d8;rw[ce]at b7 b8 ar;have ek:=m.1.below (a1.trans (d2.mono a1.size));have eb:∀p∈j,p<i:=λp hb=>by have:=(Array.getElem?_eq_some_iff.1 (m.1.mks.at_ p hb)).1;have:=a1.size;omega
   have cf:w.heap.size<i:=by have:=aF m.1.b0;have:=a1.size;omega
   refine(uh (n:=5)).1 ?_;refine xb (P:=T) (gf:=200) (lb:=#[V (O ⟨i+1,0,U⟩)]) rfl (enters_of func200 (by kernel_rfl) rfl)
    (λd=>#[N B7 (d:Int),N S (rw.getD d 0)]) (λ_=>rfl) 6
    (λd g=>abt w base f mb (rw.drop d++st) j i F G H I J K g)
    (λd ak g=>abt w base f mb (rw.drop (d+1)++st) j i F G H I J K g/\ak={tmps:=#[V (O ⟨f,0,U⟩),N S t,V (O ⟨w.heap.size,0,U⟩),Y,N S c,V (O ⟨i,0,U⟩),Br A,Y,N S (rw.getD d 0),V (O ⟨f,0,U⟩),V (O ⟨f,0,U⟩),V (O ⟨f,1,U⟩),N S s0,N S c,N S t,Br B2,br,bs,bt,bv,Ce #[Ck #[N S F,N S G,N S H,N S I,N S J,N S K],Br A],V (O ⟨f,0,U⟩),N S c,N S t,Ce #[Ck #[N S F,N S G,N S H,N S I,N S J,N S K],Br A],Ck #[N S F,N S G,N S H,N S I,N S J,N S K],Br A,A0 (O ⟨i,0,U⟩) 6 6,.func (.func 200) #[] #[V (O ⟨i+1,0,U⟩)],N B7 (d:Int),N S (rw.getD d 0),Y,Y,Y,Y,Y,Y,Y],defers:=[]})
    (λ_=>False)
    ?pZ ?pAx ?pX ?h0 ?assign ?body ?seq ?done ?ret
   case pZ=>
    rintro d g l u b s;rw[ar]at s⊢;exact b.put cf (by omega) s u
   case pAx=>
    rintro d ak g l u ⟨b,rfl⟩ s;rw[ar]at s⊢;exact⟨b.put cf (by omega) s u,rfl⟩
   case pX=>intro g l u b;exact b.elim
   case h0=>
    intro e6 hb fo;refine⟨?_,(hb.block _ (by omega)).trans b7,(hb.block _ (by omega)).trans b8⟩;rw[ma r.out.2.2.1];exact ek.below hb
   case assign=>
    rintro ba d g e5 C b d5;have L:=am b
    gi_wp2
    exact d5 _ _ ⟨L,rfl⟩ (KeepsFrom.refl _ _)
   case seq=>
    intro ba da dc bF d9 g d7;refine GC 4 ba (i+1) 6 6 (O ⟨i,0,U⟩) _ (by decide) (af _) da dc (λd g b=>?_) (λd g b an fk=>?_) d9 g d7
    .exact eH (bF d g b).b1
    .obtain⟨ep,bl,bn,bo,bp,eq⟩:=jk (bF d g b).b0;have⟨ey,eF,eL,e0,e2,e3⟩:=c9.out;refine⟨_,rfl,?_⟩;rw[zh];rcases(show an=0\/an=1\/an=2\/an=3\/an=4\/an=5 by omega) with rfl|rfl|rfl|rfl|rfl|rfl
     .rw[ey];exact ep
     .rw[eF];exact bl
     .rw[eL];exact bn
     .rw[e0];exact bo
     .rw[e2];exact bp
     .rw[e3];exact eq
   case ret=>intro g b;exact b.elim
   case body=>
    rintro ba d ak z C ⟨b,rfl⟩;rw[ar];have dg:=eH b.ps.b0;have⟨et,ap,_⟩:=b.ps.g.ex;by_cases bh:d<rw.length
    .have em:rw.getD d 0∈rw:=by rw[aD,az bh];exact iB _
     have en:=r.2.2.2 _ em;have ec:rw.drop d=rw.getD d 0::rw.drop (d+1):=by
      rw[mI bh]
      congr 1
      rw[aD,az bh];rfl
     have ef:(rw.drop (d+1)++st).length<=100000000:=by
      have:=r.1;rw[bm]at this⊢;rw[fJ];omega
     have x:=CallsIn.inRound ba (mJ (n:=2).2 (AC z base f (.map (O mb)) (rw.drop (d+1)++st) (rw.getD d 0) b.ps.g ef));rw[<-ed,<-ec]at x;have L:=iK b ap;generalize rw.getD d 0=ew at en x⊢;have bk:(ew==0)=A5:=by rw[eJ];omega
     gi_wp2_with (refine⟨trivial,?_⟩;gi_at_call 87;fail)
     refine⟨trivial,x.mono ?_⟩;rintro e c7 ⟨rfl,dx,bc,dd⟩;have ad:E0 (abt w base f mb (rw.drop d++st) j i F G H I J K c7/\B4 (i+1+1) z c7):=⟨⟨L.1.ps.turn dx bc dd,lG bc L.1.b0 (by omega),lG bc L.1.b1 (by omega)⟩,amu L.2 bc⟩
     gi_wp2
     exact⟨ad.2,ad.1⟩
    .have el:rw.getD d 0=0:=by rw[aD,jp (by omega)];rfl
     rw[el];have ad:E0 (abt w base f mb (rw.drop d++st) j i F G H I J K z):=by
      have ds:rw.drop d=rw.drop (d+1):=by rw[ma (by omega),ma (by omega)]
      rw[ds];exact b
     gi_wp2
     exact⟨KeepsFrom.refl _ _,ad⟩
   case done=>
    rintro z b bD;rw[ar]at bD⊢;obtain⟨ax,rfl⟩:∃ax,k=ax+1:=by
     cases k with
     |zero=>exact(r.2.1).elim
     |succ k=>exact⟨k,rfl⟩
    obtain⟨E,y,a7⟩:∃E y,rw++st=E::y:=by
     cases hq:rw++st with
     |nil=>have:=r.2.1;rw[hq]at this;exact this.elim
     |cons a p=>exact⟨a,p,rfl⟩
    have o:=b.ps;rw[ga,a7]at o;have fm:y.length+1<=M:=by have:=r.1;rw[a7,bB]at this;exact this
    have x:=Lq z base f (.map (O mb)) y E o.g (by omega);have dg:=eH o.b0;have eg:vI (w.heap.size+1) ((i+1+1)::j) z:=⟨List.nodup_cons.2 ⟨λC=>by have:=eb _ C;omega,o.mks.nd⟩,λp hb=>by
      rcases List.mem_cons.1 hb with rfl|hb
      .omega
      .exact o.mks.lo p hb,λp hb=>by
      rcases List.mem_cons.1 hb with rfl|hb
      .exact bD
      .exact o.mks.at_ p hb⟩
    have bd:E0 (yh w base f mb (E::y) ((i+1+1)::j) z/\(∀a∈E::y,0<=a/\a<=133)/\passOk M (ax+1) (E::y) t v):=by
     refine⟨⟨o.g,o.r,o.gp,o.bb,o.b0,eg,o.ne⟩,λa ha=>?_,by rw[<-a7];exact r.2.1⟩;rw[<-a7]at ha;rcases List.mem_append.1 ha with ha|ha
     .have:=r.2.2.2 a ha;omega
     .exact m.2.1 a (by simp[ha])
    refine d4 _ _ ?_;go_wp2_with (go_at_call 157;refine x.mono ?_;rintro e fu ⟨rfl,d0,eo,df⟩);exact⟨ax,by omega,E,y,(i+1+1)::j,⟨bd.1.turn d0 eo df,bd.2.1,bd.2.2,by omega⟩,_,_,_,_,_,_,_,_,_,_,_,_,_,_,_,_,_,_,rfl⟩
structure GQ (W:Z) (base gb mb:Nat) (st:List Int):Prop where
 g:IE W base gb (.map (O mb)) st
 r:RI W base mb
 ok:∀a∈st,0<=a/\a<=133
 len:st.length<=99999000
def GQ.below{st:List Int}(h:GQ W base gb mb st)(a:be W W'):GQ W' base gb mb st:=⟨h.g.below a,h.r.below a,h.ok,h.len⟩
def GQ.may{st:List Int}(h:GQ W base gb mb st)(b:1<=t)(c:t<=78){R:Bool}(a:uL st t=R):
  B3 T 89 #[V (O ⟨gb,0,U⟩),N B7 t] W (gy W (Br R)):=
 ag0 W base gb mb st t R h.g h.r h.ok (by have:=h.len;omega) b c a
