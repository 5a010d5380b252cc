import Derived.Test.YtbkolnpplhbdmaaGreatDoorHPl11
import Derived.Test.YtbkolnpplhbdmaaGreatDoorHPl05
import Derived.Test.YtbkolnpplhbdmaaGreatDoorHPl08
set_option linter.all false
set_option maxRecDepth 100000
set_option maxHeartbeats 6400000
open Go.Proofs.Tryz
open Bool renaming true->O,false->U
open Go.Proofs.Tryz renaming prog->S
open Option renaming some->T,none->Y
open Go renaming Value->V,World->Z,maxLen->Ad,Calls->Ak
namespace Go.Proofs.YtbkolnpplhbdmaaGreatDoor
open Go.RowKit Go.Maps Go.WideMaps
variable{L:List (List Int)}{Q:Exit->Act->World->Prop}{R:List (Int×List (List Int))}{W w:World}{a:Act}{base i j mb n:Nat}{k t:Int}{o:Oper}{ops:Array Oper}{rest:List Oper}{tk:Nat->Tk}{v:Value}
def Ij:(Tryz.prog.info? 139).map (λi=>(i.zero,i.size,i.bytes))=T (T (.agg #[.int .u8 0,.int .u8 0,.int .u8 0,.int .u8 0,.int .u8 0,.int .u8 0]),6,6):=by kernel_rfl
def rc(r:List Int):List V:=(r++List.replicate (6-r.length) 0).map (Value.int .u8)
def D0(L:List (List Int)):List V:=L.flatMap rc
def acA(A B:List (List Int)):D0 (A++B)=D0 A++D0 B:=by simp[D0]
def xa(v:V):Option (DataW V×List MemPlace):=T (.held v,[])
def Ao(R:List (Int×List (List Int)))(a:Int):List (List Int):=((R.find? (λp=>p.1==a)).map (·.2)).getD []
def so(a:Int)(L:List (List Int))(R:List (Int×List (List Int))):Ao ((a,L)::R) a=L:=by simp[Ao]
def qr{a b:Int}(h:a≠b)(L:List (List Int))(R:List (Int×List (List Int))):Ao ((a,L)::R) b=Ao R b:=by
 unfold Ao;rw[List.find?_cons_of_neg (by simpa using h)]
def js(W:Z)(base:Nat)(v:V)(L:List (List Int)):Prop:=W.ownsRow base 139 6 v L.length (D0 L)
def agy(f:Int->V):Prop:=∀a b,0<=a->a<=255->0<=b->b<=255->a≠b->(f a).ownBlock=Y\/(f a).ownBlock≠(f b).ownBlock
structure RM (W:Z) (base mb n:Nat) (R:List (Int×List (List Int))):Prop where
 ex:∃(D:DataW V) (f:Int->V),W.ownsMap S 75 xa mb n D/\(∀a,0<=a->a<=255->D.atKey (.int .u8 a) (.held (.slice Y 0 0))= .held (f a)/\js W base (f a) (Ao R a))/\agy f
 lo:base<=mb
def aa5:Keyed S 75:=int_keyed underlying75
def js.keep{a:Z}(h:js W base v L)(b:cg W a):js a base v L:=dA h b
def RM.congr{b:List (Int×List (List Int))}(h:RM W base mb n R)(j:∀a,0<=a->a<=255->Ao R a=Ao b a):RM W base mb n b:=by
 have⟨D,e,f,g,i⟩:=h.ex;exact⟨⟨D,e,f,λa c d=>by rw[<-j a c d];exact g a c d,i⟩,h.lo⟩
def RM.mono{a:Nat}(h:RM W base mb n R)(e:n<=a):RM W base mb a R:=by
 have⟨D,b,c,d⟩:=h.ex;exact⟨⟨D,b,c.mono e,d⟩,h.lo⟩
def wj{b:Z}{f:Array MapEntry}{c:Nat}(h:js W base v L)(j:W.heap[mb]?=T (.map f c))(i:W.grownBy b (T mb)):js b base v L:=by
 refine Co h i ?_;rcases bJ h with⟨_,rfl⟩|⟨g,k,rfl⟩
 .exact .inl rfl
 .refine .inr ?_;intro e;obtain rfl:g=mb:=by simpa [Value.ownBlock] using e
  rcases h.2 with⟨a,_⟩|⟨n,l,m,a,_,d,_⟩
  .cases a
  .cases a;rw[j]at d;cases d
def aa6{a:Int}(b:0<=a)(c:a<=255):keyOf S 75 (.int .u8 a)=T (.int .u8 a):=keyOf_int_mk underlying75 (WalkArith.wf_u8 ⟨b,c⟩)
def bi{H:Z}
  (l:o.guard=Y) (m x v:Operand) (aK:o.op=Op.mapUpdate 67 m x v) (ap:a.eval m= .map (T mb)) (h:RM W base mb n R) (f:cg W w) (a9:n<1000) (s:Int) (s0:0<=s) (a4:s<=255) (a3:a.eval x= .int .u8 s)
  (c:V) (a2:a.eval v=c) (L:List (List Int)) (u:js w W.heap.size c L) (ak:Below base H W)
  (al:∀j,RM j base mb (n+1) ((s,L)::R)->Below base H j->wpList S ops Q rest (a.put o.dst undef) j):wpList S ops Q (o::rest) a w:=by
 have⟨D,e,q,r,af⟩:=h.ex;have a8:=q.lt;have an:base<=W.heap.size:=by have:=h.lo;omega
 have B:=q.kept (row:=Y) ⟨f.os,f.tape,f.output,f.size,λG ao _=>f.block G ao⟩ (by simp);refine wpList_mapUpdate_own w l m x v 67 aK 75 183 aa5 underlying67 xa mb n D ap B (by unfold Ad;omega) _ _ _ a3 a2 (aa6 s0 a4) (.held c) [] rfl ?_;intro j av t;obtain⟨a7,a5,C,_⟩:=B;refine al j ⟨⟨_,λa=>if a=s then c else e a,av,λa g i=>?_,?_⟩,h.lo⟩ ?_
 .by_cases d:a=s
  .subst d;rw[so,atKey_put_same q.isMap (by trivial)];show DataW.held c=DataW.held (if a=a then c else e a)/\js j base (if a=a then c else e a) L;rw[ab rfl];refine⟨rfl,wj (h:=?_) C t⟩;refine⟨u.1,?_⟩;rcases u.2 with h|⟨b,I,J,K,a6,ad⟩
   .exact .inl h
   .exact .inr ⟨b,I,J,K,by omega,ad⟩
  .show _=DataW.held (if a=s then c else e a)/\js j base (if a=s then c else e a) _;rw[qr (λh=>d h.symm),aa d,atKey_put_other (by intro h;injection h with _ h;exact d h)];exact⟨(r a g i).1,wj ((r a g i).2.keep f) C t⟩
 .have F:∀b,c.ownBlock=T b->W.heap.size<=b:=λb l=>(u.lt b l).1;have E:∀a,0<=a->a<=255->∀b,(e a).ownBlock=T b->b<W.heap.size:=λa g i b l=>((r a g i).2.lt b l).2;intro a k g i y p ar;show(if a=s then c else e a).ownBlock=Y\/(if a=s then c else e a).ownBlock≠(if k=s then c else e k).ownBlock;by_cases z:a=s
  .rw[ab z,aa (by omega)];cases hq:c.ownBlock with
   |none=>exact .inl rfl
   |some b=>exact .inr (λd=>by have:=F b hq;have:=E k y p b d.symm;omega)
  .rw[aa z];by_cases A:k=s
   .rw[ab A];cases hq:(e a).ownBlock with
    |none=>exact .inl rfl
    |some b=>exact .inr (λd=>by have:=E a g i b hq;have:=F b d.symm;omega)
   .rw[aa A];exact af a k g i y p ar
 .have p:=f.mono an;refine ak.trans ?_;exact p.grown t (by have:=f.size;omega) (λG d=>by cases d;exact h.lo)
def eu(w:Z)(cs:Array V)(L:List (List Int))(n:Nat)(e:L.length=n)(d:cs.toList=D0 L)(j:n<=1000)(b:∀r∈L,r.length<=6):js (w.alloc (.cells cs 139 (0,0))) w.heap.size (.slice (T ⟨w.heap.size,0,Y⟩) n n) L:=by
 have a:∀L:List (List Int),(∀r∈L,r.length<=6)->(D0 L).length=L.length*6:=by
  intro L
  induction L with
  |nil=>intro _;rfl
  |cons r L h=>
   intro c;have:=c r (by simp);rw[show D0 (r::L)=rc r++D0 L from rfl,aG,h (λi g=>c i (by simp[g]))];simp[rc];omega
 have f:cs.size=n*6:=by rw[<-fK,d,a L b,e]
 refine⟨by rw[a L b],.inr ⟨w.heap.size,n,cs,by rw[e],ag _,aA w _,by omega,by unfold Ad;omega,f,?_⟩⟩;rw[d,dl (by rw[a L b];exact ag _)]
def aa7(p c:Int)(w:Z):
  Ak S 97 #[.int .u8 p,.int .u8 c] w λe a=>e= .returned (.slice (T ⟨w.heap.size,0,Y⟩) 3 3)/\js a w.heap.size (.slice (T ⟨w.heap.size,0,Y⟩) 3 3) (oh p c)/\cg w a:=by
 go_in;go_wp2;go_ret;exact⟨rfl,eu _ _ (oh p c) 3 rfl rfl (by decide) (by simp[oh]),(ah _ _).alloc (ag _) _⟩
def acB:∀u∈D0 L,u.oneCell'=O:=by
 intro u b;unfold D0 at b;rw[List.mem_flatMap]at b;obtain⟨c,_,a⟩:=b;unfold rc at a;rw[List.mem_map]at a;obtain⟨d,_,rfl⟩:=a;rfl
def acC:∀{L:List (List Int)},(∀r∈L,r.length<=6)->(D0 L).length=L.length*6:=by
 intro L
 induction L with
 |nil=>intro _;rfl
 |cons r L c=>
  intro a;have:=a r (by simp);rw[show D0 (r::L)=rc r++D0 L from rfl,aG,c (λd b=>a d (by simp[b]))];simp[rc];omega
def uG{b:Z}(l:o.guard=Y)(s x:Operand)
  (p:o.op= .call {callee:= .builtin .append,args:=#[s,x],argTypes:=#[183,183]}) (t:a.eval s=v) (f:js b W.heap.size v L) (hS:cg W b) (cs:Array V) (m:Nat) (u:a.eval x= .slice (T ⟨b.heap.size,0,Y⟩) m m) (c:List (List Int)) (g:c.length=m) (k:cs.toList=D0 c) (q:∀r∈c,r.length<=6)
  (E:L.length+m<=1000)
  (j:∀e d,js d W.heap.size e (L++c)->cg W d->wpList S ops Q rest (a.put o.dst e) d):wpList S ops Q (o::rest) a (b.alloc (.cells cs 139 (0,0))):=by
 have⟨w,y,z,A,B⟩:=fh Ij;refine vz _ l s x 183 p W.heap.size 139 w _ 6 6 underlying183 y z A B rfl (by decide) v L.length (D0 L) t (World.ownsRow.alloc f _) ⟨b.heap.size,0,Y⟩ m m (D0 c) u (by rw[acC q,g]) ?_ acB (by unfold Ad;omega) (by omega) (by have:=hS.size;simp;omega) ?_
 .rw[<-k];exact World.news_of_block (cs:=cs) (fr:=(0,0)) (aA b _)
 .intro e d h i _;refine j e d ?_ ?_
  .unfold js;rw[acA,aG,g];exact h
  .exact(hS.alloc hS.size _).grown i (by have:=hS.size;simp;omega) (λC n=>(f.lt C n).1)
def Kz(w:Z)(base mb n:Nat)(R:List (Int×List (List Int)))(H:RM w base mb n R)(g:n<=100):
  Ak S 48 #[.map (T mb)] w λe c=>e= .returned (.tuple #[])/\RM c base mb (n+10) ((120,oh 120 120++[[]])::(133,oh 132 133++[[]])::(132,oh 132 133)::(131,[[1,132],[40,117,41,132]])::(130,oh 129 130)::(129,oh 129 130++[[46,128],[47,110]])::(128,[[1,129],[40,117,41,130]])::(127,oh 125 126)::(126,oh 125 126++[[]])::(125,oh 125 126++[[46,128],[47,110]])::R)/\Below base w c:=by
 have a:Below base w w:=ah _ _;go_in;go_wp2_with (first
  |(go_at_call 97;refine(aa7 _ _ _).mono ?_;rintro e h ⟨rfl,b,hS⟩)
  |(at_builtin;first
   |(refine uG rfl _ _ rfl rfl b hS _ 2 rfl [[46,128],[47,110]] rfl rfl (by decide) (by decide) ?_;clear b hS;intro d f b hS)
   |(refine uG rfl _ _ rfl rfl b hS _ 1 rfl [[]] rfl rfl (by decide) (by decide) ?_;clear b hS;intro d f b hS))
  |(at_mapUpdate;first
   |(refine bi rfl _ _ _ rfl rfl H hS (by omega) _ (by decide) (by decide) rfl _ rfl _ b a ?_;clear H a b hS;intro w1 H a)
   |(refine bi rfl _ _ _ rfl rfl H ((ah _ _).alloc (ag _) _) (by omega) 128 (by decide) (by decide) rfl _ rfl [[1,129],[40,117,41,130]] ?own a ?_;(case own=>exact eu _ _ [[1,129],[40,117,41,130]] 2 rfl rfl (by decide) (by decide));clear H a;intro w1 H a)
   |(refine bi rfl _ _ _ rfl rfl H ((ah _ _).alloc (ag _) _) (by omega) 131 (by decide) (by decide) rfl _ rfl [[1,132],[40,117,41,132]] ?own a ?_;(case own=>exact eu _ _ [[1,132],[40,117,41,132]] 2 rfl rfl (by decide) (by decide));clear H a;intro w1 H a)))
 go_end0
 exact⟨rfl,H,a⟩
def BI(k:Nat):List (List Int):=(Ik.take k).map λx=>[x,118,119]
def aeH(k:Nat)(b:k<20):BI (k+1)=BI k++[[Ik.getD k 0,118,119]]:=by
 unfold BI;rw[iC,eJ];have a:Ik[k]?=T (Ik.getD k 0):=by
  rw[aF];rw[aw (by simpa [Ik] using b)];rfl
 rw[a];rfl
def agz(k:Nat)(a:k<=20):(BI k).length=k:=by
 unfold BI;rw[bq,gJ];show min k 20=k;omega
def aj9:∀k:Fin 20,0<=Ik.getD k.val 0/\Ik.getD k.val 0<=100:=by decide
def aE{b:Nat}{o:Obj}(h:w.heap[b]?=T o):b<w.heap.size:=(Array.getElem?_eq_some_iff.1 h).1
def rB{D:DataW V}(l:o.guard=Y)(m x:Operand)(q:o.op=Op.lookup 67 m x U)(p:a.eval m= .map (T mb))
  (g:W.ownsMap S 75 xa mb n D) (t:w.heap[mb]?=W.heap[mb]?) (s:Int) (s0:0<=s) (y:s<=255) (u:a.eval x= .int .u8 s) (k:D.atKey (.int .u8 s) (.held (.slice Y 0 0))= .held v)
  (i:wpList S ops Q rest (a.put o.dst v) w):wpList S ops Q (o::rest) a w:=by
 refine wpList_plain l λz j=>?_;have h:w.ownsMap S 75 xa mb n D:=by
  obtain⟨f,c,d,e⟩:=g;exact⟨f,c,t.trans d,e⟩
 have⟨B,A,r,b⟩:=h.lookup aa5 underlying67 (show(zeroValue 183).run S w= .ok (.slice Y 0 0) w by kernel_rfl) (zd:= .held (.slice Y 0 0)) (zp:=[]) rfl (aa6 s0 y);rw[k]at b;unfold xa at b;simp only[fw,jo,DataW.held.injEq]at b;obtain⟨rfl,_⟩:=b;unfold Oper.wp;simp[execOp,q,p,u,r,Result.andThen];exact j _ _ i
def D1{ar w1:Z}{D:DataW V}{f:Int->V}
  (E:o.guard=Y) (m x v:Operand) (a9:o.op=Op.mapUpdate 67 m x v) (a5:a.eval m= .map (T mb))
  (t:W.ownsMap S 75 xa mb n D) (q:∀a,0<=a->a<=255->D.atKey (.int .u8 a) (.held (.slice Y 0 0))= .held (f a)/\js W base (f a) (Ao R a)) (u:agy f) (lo:base<=mb) (s:Int) (r:cg W w1) (G:w1.grownBy w (f s).ownBlock) (bj:n<1000)
  (s0:0<=s) (k:s<=255) (bd:a.eval x= .int .u8 s) (b:V) (bb:a.eval v=b) (L:List (List Int)) (a7:js w base b L) (ak:b.ownBlock=(f s).ownBlock\/b.ownBlock=T w1.heap.size) (a2:Below base ar W)
  (a3:∀i,RM i base mb (n+1) ((s,L)::R)->Below base ar i->wpList S ops Q rest (a.put o.dst undef) i):wpList S ops Q (o::rest) a w:=by
 have a6:=t.lt;obtain⟨ad,J,C,ao⟩:=t;have al:=(r.block _ a6).trans C;have H:∀c,(f s).ownBlock=T c->mb≠c:=by
  intro c y;have ba:=(q s s0 k).2;rcases ba.2 with⟨h,_⟩|⟨av,bf,bh,h,_,af,_⟩
  .rw[h]at y;cases y
  .rw[h]at y;obtain rfl:av=c:=by simpa [Value.ownBlock] using y
   rintro rfl;rw[C]at af;cases af
 have B:=(G.block mb (aE al) (λe=>H mb e.symm rfl)).trans al;have aK:w.ownsMap S 75 xa mb n D:=⟨ad,J,B,ao⟩;have t:W.ownsMap S 75 xa mb n D:=⟨ad,J,C,ao⟩;refine wpList_mapUpdate_own w E m x v 67 a9 75 183 aa5 underlying67 xa mb n D a5 aK (by unfold Ad;omega) _ _ _ bd bb (aa6 s0 k) (.held b) [] rfl ?_;intro i a8 F;refine a3 i ⟨⟨_,λa=>if a=s then b else f a,a8,λa d g=>?_,?_⟩,lo⟩ ?_
 .by_cases e:a=s
  .subst e;rw[so,atKey_put_same t.isMap (by trivial)];show DataW.held b=DataW.held (if a=a then b else f a)/\js i base (if a=a then b else f a) L;rw[ab rfl];exact⟨rfl,wj a7 B F⟩
  .show _=DataW.held (if a=s then b else f a)/\js i base (if a=s then b else f a) _;rw[qr (λh=>e h.symm),aa e,atKey_put_other (by intro h;injection h with _ h;exact e h)];exact⟨(q a d g).1,wj (Co ((q a d g).2.keep r) G (u a s d g s0 k e)) B F⟩
 .have an:∀a,0<=a->a<=255->∀c,(f a).ownBlock=T c->c<W.heap.size:=λa d g c E=>((q a d g).2.lt c E).2;have bk:=r.size;intro a j d g z l H;show(if a=s then b else f a).ownBlock=Y\/(if a=s then b else f a).ownBlock≠(if j=s then b else f j).ownBlock;by_cases A:a=s
  .rw[ab A,aa (by omega)];rcases ak with e|e
   .rw[e];exact u s j s0 k z l (by omega)
   .refine .inr (λp=>?_);rw[e]at p;have:=an j z l _ p.symm;omega
  .rw[aa A];by_cases K:j=s
   .rw[ab K];rcases ak with e|e
    .rw[e];exact u a s d g s0 k A
    .cases hq:(f a).ownBlock with
     |none=>exact .inl rfl
     |some c=>exact .inr (λp=>by rw[e]at p;have:=an a d g c hq;cases p;omega)
   .rw[aa K];exact u a j d g z l H
 .have a4:base<=W.heap.size:=by omega
  have l:=r.mono a4;refine a2.trans ?_;have I:=l.grown G (by have:=r.size;omega) (λap e=>((q s s0 k).2.lt ap e).1);exact I.grown F (by have:=I.size;omega) (λap e=>by cases e;exact lo)
def Aq{b:Z}(p:o.guard=Y)(s x:Operand)
  (t:o.op= .call {callee:= .builtin .append,args:=#[s,x],argTypes:=#[183,183]}) (w:a.eval s=v) (h:js b base v L) (G:base<=b.heap.size) (cs:Array V) (m g:Nat) (y:a.eval x= .slice (T ⟨g,0,Y⟩) m m) (q:g=b.heap.size) (d:List (List Int)) (f:d.length=m) (n:cs.toList=D0 d) (u:∀r∈d,r.length<=6)
  (F:L.length+m<=1000)
  (l:∀c e,js e base c (L++d)->(b.alloc (.cells cs 139 (0,0))).grownBy e v.ownBlock->(c.ownBlock=v.ownBlock\/c.ownBlock=T (b.alloc (.cells cs 139 (0,0))).heap.size)->wpList S ops Q rest (a.put o.dst c) e):wpList S ops Q (o::rest) a (b.alloc (.cells cs 139 (0,0))):=by
 subst q;have⟨z,A,B,C,E⟩:=fh Ij;refine wpList_append_own_at _ p s x 183 t base 139 z _ 6 6 underlying183 A B C E rfl (by decide) v L.length (D0 L) w (World.ownsRow.alloc h _) ⟨b.heap.size,0,Y⟩ m m (D0 d) y (by rw[acC u,f]) ?_ acB (by unfold Ad;omega) (by omega) (by simp;omega) ?_
 .rw[<-n];exact World.news_of_block (cs:=cs) (fr:=(0,0)) (aA b _)
 .intro c e i j _ k;refine l c e ?_ j k;unfold js;rw[acA,aG,f];exact i
def KB(w:Z)(base mb n:Nat)(R:List (Int×List (List Int)))(H:RM w base mb n R)(J:n<=100)(tt:TypeId)(fr:Nat×Nat)(u:w.heap[1]?=T (.cells KA tt fr))(v:1<base):
  Ak S 49 #[.map (T mb)] w λe r=>e= .returned (.tuple #[])/\RM r base mb (n+34) ((124,[[117],[44,117,45,47,117],[48,1,47,117]])::(123,[[46,122],[]])::(122,[[124,123],[]])::(121,[[42,122,43]])::(119,[]::BI 20)::(118,[[25,118],[62,118],[50,118],[69,118],[1,120],[40,117,41,120],[2],[3],[4],[24],[29],[17],[49],[18,113],[121]])::(117,[[118,119]])::(116,[[46,115],[]])::(115,[[49],[1,116]])::(114,[[115],[]])::(113,[[40,114,41,108]])::(112,[[46,117,112],[]])::(111,[[117,112],[]])::(110,[[117,112]])::R)/\Below base w r:=by
 have a:Below base w w:=ah _ _;have⟨K,L,ad,af,ak⟩:=fh Ij;go_in;go_wp2_with (first
  |(at_mapUpdate;first
   |(refine bi rfl _ _ _ rfl rfl H ((ah _ _).alloc (ag _) _) (by omega) 110 (by decide) (by decide) rfl _ rfl [[117,112]] ?own a ?_;(case own=>exact eu _ _ [[117,112]] 1 rfl rfl (by decide) (by decide));clear H a;intro w1 H a)
   |(refine bi rfl _ _ _ rfl rfl H ((ah _ _).alloc (ag _) _) (by omega) 111 (by decide) (by decide) rfl _ rfl [[117,112],[]] ?own a ?_;(case own=>exact eu _ _ [[117,112],[]] 2 rfl rfl (by decide) (by decide));clear H a;intro w1 H a)
   |(refine bi rfl _ _ _ rfl rfl H ((ah _ _).alloc (ag _) _) (by omega) 112 (by decide) (by decide) rfl _ rfl [[46,117,112],[]] ?own a ?_;(case own=>exact eu _ _ [[46,117,112],[]] 2 rfl rfl (by decide) (by decide));clear H a;intro w1 H a)
   |(refine bi rfl _ _ _ rfl rfl H ((ah _ _).alloc (ag _) _) (by omega) 113 (by decide) (by decide) rfl _ rfl [[40,114,41,108]] ?own a ?_;(case own=>exact eu _ _ [[40,114,41,108]] 1 rfl rfl (by decide) (by decide));clear H a;intro w1 H a)
   |(refine bi rfl _ _ _ rfl rfl H ((ah _ _).alloc (ag _) _) (by omega) 114 (by decide) (by decide) rfl _ rfl [[115],[]] ?own a ?_;(case own=>exact eu _ _ [[115],[]] 2 rfl rfl (by decide) (by decide));clear H a;intro w1 H a)
   |(refine bi rfl _ _ _ rfl rfl H ((ah _ _).alloc (ag _) _) (by omega) 115 (by decide) (by decide) rfl _ rfl [[49],[1,116]] ?own a ?_;(case own=>exact eu _ _ [[49],[1,116]] 2 rfl rfl (by decide) (by decide));clear H a;intro w1 H a)
   |(refine bi rfl _ _ _ rfl rfl H ((ah _ _).alloc (ag _) _) (by omega) 116 (by decide) (by decide) rfl _ rfl [[46,115],[]] ?own a ?_;(case own=>exact eu _ _ [[46,115],[]] 2 rfl rfl (by decide) (by decide));clear H a;intro w1 H a)
   |(refine bi rfl _ _ _ rfl rfl H ((ah _ _).alloc (ag _) _) (by omega) 117 (by decide) (by decide) rfl _ rfl [[118,119]] ?own a ?_;(case own=>exact eu _ _ [[118,119]] 1 rfl rfl (by decide) (by decide));clear H a;intro w1 H a)
   |(refine bi rfl _ _ _ rfl rfl H ((ah _ _).alloc (ag _) _) (by omega) 118 (by decide) (by decide) rfl _ rfl [[25,118],[62,118],[50,118],[69,118],[1,120],[40,117,41,120],[2],[3],[4],[24],[29],[17],[49],[18,113],[121]] ?own a ?_;(case own=>exact eu _ _ [[25,118],[62,118],[50,118],[69,118],[1,120],[40,117,41,120],[2],[3],[4],[24],[29],[17],[49],[18,113],[121]] 15 rfl rfl (by decide) (by decide));clear H a;intro w1 H a)
   |(refine bi rfl _ _ _ rfl rfl H ((ah _ _).alloc (ag _) _) (by omega) 119 (by decide) (by decide) rfl _ rfl [[]] ?own a ?_;(case own=>exact eu _ _ [[]] 1 rfl rfl (by decide) (by decide));clear H a;intro w1 H a))
  |(refine vB rfl 187 _ rfl 1 rfl tt _ fr _ ((a.block _ v).trans u) underlying187 rfl (by kernel_rfl) ?_))
 go_loopw [54] (λk wr=>∃b:Nat,b<=20/\k= .int .i64 b/\RM wr base mb (n+10+b) ((119,[]::BI b)::(118,[[25,118],[62,118],[50,118],[69,118],[1,120],[40,117,41,120],[2],[3],[4],[24],[29],[17],[49],[18,113],[121]])::(117,[[118,119]])::(116,[[46,115],[]])::(115,[[49],[1,116]])::(114,[[115],[]])::(113,[[40,114,41,108]])::(112,[[46,117,112],[]])::(111,[[117,112],[]])::(110,[[117,112]])::R)/\Below base w wr) (λk _=>20-(intOf k).toNat)
 case atStart=>exact⟨0,by omega,rfl,H,a⟩
 case round=>
  obtain⟨b,z,rfl,H,a⟩:=hrel;by_cases j:b<20
  .have i:=λw=>aso b j w;have⟨o,p⟩:=aj9 ⟨b,j⟩;simp only at o p;have q:=aeH b j;have A:=agz b z;generalize Ik.getD b 0=l at i o p q;generalize aj8 (3*b+1)=F at i;generalize aj8 (3*b+2)=p2 at i;have⟨D,t,d,h,m⟩:=H.ex;have E:=H.lo;have f:=h 119 (by decide) (by decide);rw[so]at f;have B:=d.lt;have g:Hid (js (wr.alloc (.cells #[.int .i64 l,.int .i64 F,.int .i64 p2] 186)) base (t 119) ([]::BI b)/\BI (b+1)=BI b++[[l,118,119]]/\(BI b).length=b):=⟨f.2.keep ((ah _ _).alloc (ag _) _),q,A⟩;go_wp2_with (first
    |(at_lookup;refine rB rfl _ _ rfl rfl d ?blk 119 (by decide) (by decide) rfl f.1 ?_)
    |(at_builtin;go_loud (refine Aq rfl _ _ rfl rfl g.1 (by simp;omega) _ 1 (wr.heap.size+1) rfl (by simp) [[l,118,119]] rfl rfl (by simp) (by rw[bc,g.out.2.2];omega) ?_;intro al w5 C y x))
    |(at_mapUpdate;go_loud (refine D1 rfl _ _ _ rfl rfl d h m E 119 (((ah _ _).alloc (ag _) _).alloc (by simp) _) y (by omega) (by decide) (by decide) rfl _ rfl _ C x a ?_;clear H a d h m f;intro an H a)))
   case blk=>exact eI _ _ _ B
   go_roundw
   case rel=>
    refine⟨b+1,by omega,by go_num,?_,a⟩;refine RM.congr (n:=n+10+(b+1)) H (λs G I=>?_);by_cases e:s=119
    .subst e;rw[so,so,g.out.2.1];rfl
    .rw[qr (λc=>e c.symm),qr (λc=>e c.symm),qr (λc=>e c.symm)]
   case measure=>simp[intOf];omega
  .obtain rfl:b=20:=by omega
   go_wp2_with (at_mapUpdate;first
    |(refine bi rfl _ _ _ rfl rfl H ((ah _ _).alloc (ag _) _) (by omega) 121 (by decide) (by decide) rfl _ rfl [[42,122,43]] ?own a ?_;(case own=>exact eu _ _ [[42,122,43]] 1 rfl rfl (by decide) (by decide));clear H a;intro w1 H a)
    |(refine bi rfl _ _ _ rfl rfl H ((ah _ _).alloc (ag _) _) (by omega) 122 (by decide) (by decide) rfl _ rfl [[124,123],[]] ?own a ?_;(case own=>exact eu _ _ [[124,123],[]] 2 rfl rfl (by decide) (by decide));clear H a;intro w1 H a)
    |(refine bi rfl _ _ _ rfl rfl H ((ah _ _).alloc (ag _) _) (by omega) 123 (by decide) (by decide) rfl _ rfl [[46,122],[]] ?own a ?_;(case own=>exact eu _ _ [[46,122],[]] 2 rfl rfl (by decide) (by decide));clear H a;intro w1 H a)
    |(refine bi rfl _ _ _ rfl rfl H ((ah _ _).alloc (ag _) _) (by omega) 124 (by decide) (by decide) rfl _ rfl [[117],[44,117,45,47,117],[48,1,47,117]] ?own a ?_;(case own=>exact eu _ _ [[117],[44,117,45,47,117],[48,1,47,117]] 3 rfl rfl (by decide) (by decide));clear H a;intro w1 H a))
   go_end0
   exact⟨rfl,H.mono (by omega),a⟩
def agA:((List.range 256).all λa=>decide (Ao ((124,[[117],[44,117,45,47,117],[48,1,47,117]])::(123,[[46,122],[]])::(122,[[124,123],[]])::(121,[[42,122,43]])::(119,[]::BI 20)::(118,[[25,118],[62,118],[50,118],[69,118],[1,120],[40,117,41,120],[2],[3],[4],[24],[29],[17],[49],[18,113],[121]])::(117,[[118,119]])::(116,[[46,115],[]])::(115,[[49],[1,116]])::(114,[[115],[]])::(113,[[40,114,41,108]])::(112,[[46,117,112],[]])::(111,[[117,112],[]])::(110,[[117,112]])::(120,oh 120 120++[[]])::(133,oh 132 133++[[]])::(132,oh 132 133)::(131,[[1,132],[40,117,41,132]])::(130,oh 129 130)::(129,oh 129 130++[[46,128],[47,110]])::(128,[[1,129],[40,117,41,130]])::(127,oh 125 126)::(126,oh 125 126++[[]])::(125,oh 125 126++[[46,128],[47,110]])::(109,[[46,1,109],[]])::(108,[[42,100,43]])::(107,[[15,117,108,107],[16,108],[]])::(106,[[46,1],[]])::(105,[[46,117],[]])::(104,[[47,117,46,117,105,108],[21,117,108],[46,1,109,21,117,108]])::(103,[[47,110],[]])::(102,[[22,1,109,103],[13,1,47,117],[18,1,113],[20,117,108,107],[31,117,108],[19,1,104],[11],[23],[27,111],[30,108,12,1,106,108],[28,117],[14,131],[108],[1,125],[40,117,41,127]])::(101,[[5,100],[]])::(100,[[5,100],[102,101],[]])::[]) (a:Int)=mu (a:Int)))=O:=by decide+kernel
def FE.pos{k:Nat}{ns:List ByteArray}(h:FE tk n k ns j):k<=j/\j<n:=by
 induction h with
 |stop _ h=>exact⟨ag _,h⟩
 |go _ _ _ _ a=>omega
def Prm.pos{k:Nat}{ns:List ByteArray}{r:Bool}(h:Prm tk n k ns r j):k+1<=j/\j<n:=by
 induction h with
 |close _ h=>omega
 |rest _ _ h=>omega
 |last _ _ h=>omega
 |go _ _ _ _ a=>omega
def bH:uE->Nat
 | .more _ _ _=>0
 | .post _ _=>0
 | .moreE=>0
 | .moreB=>0
 | .stats=>0
 | .entries=>0
 |_=>1
def slk:uE->Nat
 | .more _ _ _=>0
 | .post _ _=>0
 | .moreE=>0
 | .moreB=>0
 | .stats=>0
 | .entries=>0
 | .entry=>1
 | .stat=>1
 | .branch=>1
 |_=>2
def bas:uE->Nat
 | .more _ _ x=>x.sz
 | .post _ x=>x.sz
 |_=>0
def aka(N:Nd)(ks:Fo)(s:Tk)(e:Int):(mh N ks s e).sz<=(one N ks).sz+1:=by
 unfold mh;split
 .rw[bz];omega
 .omega
def P.pos{t:uE}{R:Fo}(h:P tk n t i R j):i+bH t<=j/\j<n/\R.sz+slk t+3*i<=bas t+3*j:=by
 induction h
 case bopen i k j N ks R h1 h2 h3 h4 h5 h6 ih1 ih2=>
  have:=aka N ks (tk i) (tk k).t;simp only[bH,slk,bas,bz,Fo.sz_app,Fo.sz]at *;omega
 case body h1 h2 h3 h4 ih=>
  have:=h3.pos;simp only[bH,slk,bas,bz,Fo.sz_app,Fo.sz]at *;omega
 case tlet0 h1 h2 h3 h4 h5=>have:=h4.pos;simp only[bH,slk,bas,bz,Fo.sz_app,Fo.sz]at *;omega
 case tlet h1 h2 h3 h4 h5 h6 ih=>have:=h4.pos;simp only[bH,slk,bas,bz,Fo.sz_app,Fo.sz]at *;omega
 case tfor h1 h2 h3 h4 h5 h6 h7 ih1 ih2=>have:=h4.pos;simp only[bH,slk,bas,bz,Fo.sz_app,Fo.sz]at *;omega
 case teach h1 h2 h3 h4 h5 h6 h7 h8 h9 ih1 ih2=>have:=h4.pos;simp only[bH,slk,bas,bz,Fo.sz_app,Fo.sz]at *;omega
 case ttry h1 h2 h3 h4 h5 h6 h7 h8 ih1 ih2=>have:=h7.pos;simp only[bH,slk,bas,bz,Fo.sz_app,Fo.sz]at *;omega
 all_goals
  simp only[bH,slk,bas,bz,Fo.sz_app,Fo.sz]at *;omega
inductive D (tk:Nat->Tk) (n:Nat):Nat->List Int->Nat->Nat->Prop where
 |nil {i:Nat}:D tk n 0 [] i i
 |tok {m:Nat}{s:Int}{r:List Int}{i j:Nat}:s<100->(tk i).k=s->i<n->D tk n m r (i+1) j->D tk n (m+1) (s::r) i j
 |exp {m:Nat}{s:Int}{r:List Int}{i j:Nat}:100<=s->i<n->(xE s (tk i).k).2=true->D tk n m ((xE s (tk i).k).1++r) i j->D tk n (m+1) (s::r) i j
structure Wt where
 k:Int
 n:Int
 x:ByteArray
 w:ByteArray
def sgF(k:Int):Wt:=⟨k,0,z0,dK k⟩
def mi(x:ByteArray):Wt:=⟨1,0,x,x⟩
def nlW:Wt:=⟨7,0,z0,⟨#[10]⟩⟩
def bN(k op n:Int)(x:ByteArray)(nm:List ByteArray):Nd:=⟨k,0,0,0,op,n,x,nm,[]⟩
def Nd.bare(N:Nd):Nd:=bN N.k N.op N.n N.x N.nm
def Fo.bare:Fo->Fo
 | .nil=> .nil
 | .cons N k r=> .cons N.bare k.bare r.bare
def fc:∀(a b:Fo),(a.app b).bare=a.bare.app b.bare
 | .nil,b=>rfl
 | .cons N k r,b=>by simp only[Fo.app,Fo.bare,fc r b]
def yK:∀(a:Fo),a.bare.len=a.len
 | .nil=>rfl
 | .cons N k r=>by simp only[Fo.bare,Fo.len,yK r]
def dh(N:Nd)(k:Fo):(one N k).bare=one N.bare k.bare:=rfl
def agB{X:Fo}{N:Nd}{a:Fo}(h:X.bare=one N a):∃M L,X=one M L/\M.bare=N/\L.bare=a:=by
 cases X with
 |nil=>cases h
 |cons M L b=>
  unfold one at h;simp only[Fo.bare,Fo.cons.injEq]at h;cases b with
  |nil=>exact⟨M,L,rfl,h.1,h.2.1⟩
  |cons _ _ _=>exact absurd h.2.2 (by simp[Fo.bare])
def aeI(k:Int):Nd:=if k=10 then bN 28 0 0 z0 [] else if k=26 then bN 29 0 0 z0 [] else bN 31 (k-60) 0 z0 []
def agC(k:Int)(s:Tk)(e:Int):(sn k s e).bare=aeI k:=by unfold sn aeI;split;rfl;split<;>rfl
inductive pu (tk:Nat->Tk) (n:Nat):Nat->List Wt->Nat->Prop where
 |nil {i:Nat}:pu tk n i [] i
 |tok {i j:Nat}{t:Wt}{l:List Wt}:t.k≠7->(tk i).k=t.k->(tk i).n=t.n->(tk i).x=t.x->i<n->pu tk n (i+1) l j->pu tk n i (t::l) j
 |sep {i j:Nat}{t:Wt}{l:List Wt}:t.k=7->(tk i).k=5->i<n->pu tk n (i+1) l j->pu tk n i (t::l) j
 |more {i j:Nat}{t:Wt}{l:List Wt}:t.k=7->(tk i).k=5->i<n->pu tk n (i+1) (t::l) j->pu tk n i (t::l) j
def DD(tk:Nat->Tk)(n:Nat)(st:List Int)(i j:Nat):Prop:=∃m,D tk n m st i j
section
variable {tk : Nat → Tk} {n : Nat}
def pu.split{l:List Wt}(h:pu tk n i l j):∀a b,l=a++b->∃k,pu tk n i a k/\pu tk n k b j:=by
 induction h with
 |nil=>
  intro a b c;obtain⟨rfl,rfl⟩:a=[]/\b=[]:=by simpa using c.symm
  exact⟨_,.nil,.nil⟩
 |@tok i j g l d e s t f p q=>
  intro a b c;cases a with
  |nil=>exact⟨i,.nil,by rw[<-(show g::l=b from c)];exact .tok d e s t f p⟩
  |cons u a=>
   obtain⟨rfl,r⟩:=gL c;have⟨k,m,o⟩:=q a b r;exact⟨k,.tok d e s t f m,o⟩
 |@sep i j g l d e f p q=>
  intro a b c;cases a with
  |nil=>exact⟨i,.nil,by rw[<-(show g::l=b from c)];exact .sep d e f p⟩
  |cons u a=>
   obtain⟨rfl,r⟩:=gL c;have⟨k,m,o⟩:=q a b r;exact⟨k,.sep d e f m,o⟩
 |@more i j g l d e f p q=>
  intro a b c;cases a with
  |nil=>exact⟨i,.nil,by rw[<-(show g::l=b from c)];exact .more d e f p⟩
  |cons u a=>
   obtain⟨rfl,r⟩:=gL c;have⟨k,m,o⟩:=q (g::a) b c;exact⟨k,.more d e f m,o⟩
def pu.app{a b:List Wt}(h:pu tk n i (a++b) j):∃k,pu tk n i a k/\pu tk n k b j:=h.split a b rfl
def pu.le{l:List Wt}(h:pu tk n i l j):i<=j:=by
 induction h with
 |nil=>exact ag _
 |tok _ _ _ _ _ _ a=>omega
 |sep _ _ _ _ a=>omega
 |more _ _ _ _ a=>omega
def pu.head{t:Wt}{l:List Wt}(h:pu tk n i (t::l) j)(b:t.k≠7:=by simp[sgF,mi]):(tk i).k=t.k/\(tk i).n=t.n/\(tk i).x=t.x/\i<n/\pu tk n (i+1) l j:=by
 cases h with
 |tok a c d e f g=>exact⟨c,d,e,f,g⟩
 |sep a=>exact absurd a b
 |more a=>exact absurd a b
def pu.sg{l:List Wt}(h:pu tk n i (sgF k::l) j)(d:k≠7:=by decide):(tk i).k=k/\i<n/\pu tk n (i+1) l j:=by
 have⟨a,_,_,b,c⟩:=h.head d;exact⟨a,b,c⟩
def pu.nl{i j:Nat}{l:List Wt}(h:pu tk n i l j):∀{m},l=nlW::m->∃k,i<k/\pu tk n k m j/\∀q,i<=q->q<k->(tk q).k=5/\q<n:=by
 induction h with
 |nil=>intro m a;cases a
 |tok d=>intro m a;obtain⟨rfl,_⟩:=gL a;exact absurd rfl d
 |@sep i j s l d e f o p=>
  intro m a;obtain⟨rfl,rfl⟩:=gL a;exact⟨i+1,Nat.lt_succ_self _,o,λq c b=>by
   obtain rfl:q=i:=by omega
   exact⟨e,f⟩⟩
 |@more i j s l d e f o p=>
  intro m a;have⟨k,c,b,r⟩:=p a;exact⟨k,by omega,b,λq c b=>by
   rcases ie c with rfl|g
   .exact⟨e,f⟩
   .exact r q g b⟩
def pu.nils(h:pu tk n i [] j):i=j:=by cases h;rfl
def DD.tok{s:Int}{r:List Int}{i j:Nat}(h:(tk i).k=s)(a:i<n)(d:DD tk n r (i+1) j)(b:s<100:=by decide):DD tk n (s::r) i j:=by
 obtain⟨c,d⟩:=d;exact⟨c+1,.tok b h a d⟩
def DD.exp{s:Int}{r L:List Int}(ht:(tk i).k=t)(e:xE s t=(L,O))(a:i<n)(d:DD tk n (L++r) i j)(b:100<=s:=by decide):DD tk n (s::r) i j:=by
 obtain⟨c,d⟩:=d;exact⟨c+1,.exp b a (by rw[ht,e]) (by rw[ht,e];exact d)⟩
end
def aqw(t:Int):xE 119 t=([120,121],eE t):=by simp[xE,anr]
def amj(t:Int):xE 120 t=DI t:=by simp[xE,aqo]
def aqx(h:gG t=O):xE 121 t=([t,119],O):=by simp[xE,aj3,h]
def yL(h:gG t=U):xE 121 t=([],O):=by simp[xE,aj3,h]
def aqy(h:yJ t=U):xE 122 t=([],O):=by
 have:t≠48/\t≠44/\t≠40:=by unfold yJ at h;have:=mA h;omega
 simp[xE,ant,If,this.1,this.2.1,this.2.2]
def agD(t:Int):xE 124 t=([119,125],eE t):=by simp[xE,anv]
def aqz(h:t≠46):xE 125 t=([],O):=by simp[xE,anw,h]
def aqA(h:t≠46):xE 104 t=([],O):=by simp[xE,anp,h]
def lkw(k:Int):Int:=if k=72 then 5 else Bj k
def oG(q k:Int):Prop:=yJ k=U/\(gG k=O->lkw k<=q)
def oG.mono{q r:Int}(h:oG q k)(b:q<=r):oG r k:=⟨h.1,λa=>Int.le_trans (h.2 a) b⟩
def uH{q:Int}(h:(tk i).k=k)(b:yJ k=U:=by decide)(c:gG k=U:=by decide):oG q (tk i).k:=by rw[h];exact⟨b,λa=>by rw[c]at a;cases a⟩
def Il(k:Int):1<=Bj k/\Bj k<=10:=by
 unfold Bj
 repeat' split
 all_goals omega
def Io(k:Int):Bj k<=lkw k/\lkw k<=10:=by
 have:=Il k;unfold lkw;split
 .rename_i a;subst a;decide
 .omega
def acD(k:Int):Bj k<=Ky k/\Ky k<=11:=by
 have:=Il k;unfold Ky;split
 .rename_i a;subst a;decide
 .omega
def akb(h:lkw t<=Bj k):Bj t<Ky k:=by
 unfold Ky;unfold lkw at h;by_cases a:k=72
 .subst a;rw[ab rfl];have c:Bj 72=4:=by decide
  rw[c]at h;split at h
  .omega
  .rename_i b;have:Bj t≠4:=by
    unfold Bj
    repeat' split
    all_goals omega
   omega
 .rw[aa a];split at h
  .rename_i b;subst b;have:Bj 72=4:=by decide
   omega
  .omega
def nH(l:List Wt)(d:Fo)(q:Int):Prop:=∀(tk:Nat->Tk)(n i j:Nat),j<n->pu tk n i l j->oG q (tk j).k->
 ∃b:Fo,b.bare=d/\i<j/\eE (tk i).k=O/\(∀p R a,p<=q->P tk n (.more p (tk i) b) j R a->P tk n (.expr p) i R a)/\∀c a,DD tk n (121::c) j a->DD tk n (119::c) i a
def Ar(l:List Wt)(d:Fo):Prop:=∀(tk:Nat->Tk)(n i j:Nat),j<n->pu tk n i l j->yJ (tk j).k=U->
 ∃a:Fo,a.bare=d/\i<j/\eE (tk i).k=O/\P tk n .unit i a j/\∀c b,DD tk n c j b->DD tk n (120::c) i b
def sta(a:Nat):Int:=if a=0 then 120 else if a=1 then 100 else if a=2 then 113 else 116
def aft(b a:Nat):Int:=if b=0 then 122 else if b=1 then(if a=2 then 111 else if a=3 then 112 else 110) else if b=2 then(if 2<=a then 115 else 114) else(if a=2 then 118 else 117)
def pst(a:Nat):List Int:=if a=1 then [101] else []
def xy(l:List Wt)(e:Fo)(f:Nat):Prop:=∀(tk:Nat->Tk)(n i j:Nat),j<n->pu tk n i l j->
 ∃c:Fo,c.bare=e/\i<j/\((tk i).k=1\/(tk i).k=40)/\(∀R a,P tk n (.post (tk i) c) j R a->P tk n .base i R a)/\
  ∀b d a,b<4->DD tk n (aft b f::(pst b++d)) j a->DD tk n (sta b::d) i a
def ESc(l:List Wt)(d:Fo):Prop:=∀(tk:Nat->Tk)(n i j:Nat),j<n->pu tk n i l j->oG 0 (tk j).k->(tk j).k≠46->
 ∃a:Fo,a.bare=d/\i<j/\eE (tk i).k=O/\P tk n .exprs i a j/\∀c b,DD tk n c j b->DD tk n (124::c) i b
def MEc(l:List Wt)(d:Fo):Prop:=∀(tk:Nat->Tk)(n i j:Nat),j<n->pu tk n i l j->oG 0 (tk j).k->(tk j).k≠46->
 ∃a:Fo,a.bare=d/\oG 0 (tk i).k/\P tk n .moreE i a j/\∀c b,DD tk n c j b->DD tk n (125::c) i b
def agE:∀a:Fin 4,xE (sta a.val) 1=([1,aft a.val 0]++pst a.val,O)/\xE (sta a.val) 40=([40,119,41,aft a.val 3]++pst a.val,O)/\100<=sta a.val:=by decide
def Ip:∀a:Fin 4,∀kd:Fin 4,xE (aft a.val kd.val) 48=([48,1,aft a.val 1],O)/\xE (aft a.val kd.val) 44=([44,119,45,aft a.val 1],O)/\xE (aft a.val kd.val) 40=([40,123,41,aft a.val 2],O)/\100<=aft a.val kd.val:=by decide
section
variable {l m a b : List Wt} {F G K : Fo} {N : Nd} {q k : Int} {kd : Nat} {w x y z : ByteArray}
def Ar.ex(h:Ar l F)(q:Int):nH l F q:=λt s o p i n g=>by
 have⟨b,d,j,a,m,f⟩:=h t s o p i n g.1;refine⟨b,d,j,a,λv u r _ k=> .ex (λe=>by rw[e]at a;exact absurd a (by decide)) (by omega) m k,λw r c=>?_⟩;exact DD.exp rfl (by rw[aqw,a]) (by omega) (f _ _ c)
def nH.le{r:Int}(h:nH l F q)(m:r<=q):nH l F r:=λv t o p g n f=>by
 have⟨b,c,i,d,k,e⟩:=h v t o p g n (f.mono m);exact⟨b,c,i,d,λu a s w j=>k u a s (by omega) j,e⟩
def xy.un(h:xy l F kd):Ar l F:=λs q n o a m b=>by
 have⟨d,f,j,c,k,i⟩:=h s q n o a m;refine⟨d,f,j,by rcases c with g|g<;>rw[g]<;>decide,.ubas c (by omega) (k _ _ (.pstop a b)),λr p e=>?_⟩;exact i 0 r p (by decide) (DD.exp rfl (aqy b) a e (by decide:(100:Int)<=122))
def nH.bin(h:nH l F (lkw k))(g:nH m G (Ky k))(d:gG k=O)(E:k<100)(H:k≠7)(L:yJ k=U):nH (l++(sgF k::m)) (one (aeI k) (F.app G)) (Bj k):=λc u q f n K j=>by
 have⟨s,af,ak⟩:=K.app;have⟨a,b,al⟩:=ak.sg H;have⟨w,y,an,A,I,B⟩:=h c u q s b af (by rw[a];exact⟨L,λ_=>Int.le_refl _⟩);have⟨i,z,ao,_,J,C⟩:=g c u (s+1) f n al (j.mono (acD k).1);refine⟨one (sn k (c q) (c (f-1)).t) (w.app i),by rw[dh,agC,fc,y,z],by omega,A,λad v r e o=>?_,λap r x=>?_⟩
 .refine I ad v r (Int.le_trans e (Io k).1) ?_;have p:=J (Ky k) i f (Int.le_refl _) (.mstop n λg=>akb (j.2 g));rw[<-a]at e d p o;exact .mgo b d e p o
 .exact B _ _ (DD.exp a (aqx d) b (DD.tok a b (C _ _ x) E))
def Ar.pre(h:Ar l F)(d:jE k=O)(r:k≠7)(q:k<100):Ar (sgF k::l) (one (bN 30 (aa3 k) 0 z0 []) F):=λb v e f p u o=>by
 have⟨a,c,w⟩:=u.sg r;have⟨g,j,y,x,s,n⟩:=h b v (e+1) f p w o;have m:eE k=O:=by unfold eE;rw[d];simp
 refine⟨one (nd 30 (b e) (b (f-1)).t (aa3 (b e).k) 0 z0 []) g,by rw[dh,j,a];rfl,by omega,by rw[a];exact m,.upre (by rw[a];exact d) c s,λA z i=>?_⟩;exact DD.exp a (by rw[amj];unfold DI;rw[ab d]) c (DD.tok a c (n _ _ i) q)
def Ar.atom{t:Wt}(o:∀(tk:Nat->Tk) (n i:Nat),(tk i).k=t.k->(tk i).n=t.n->(tk i).x=t.x->i+1<n->∃X:Fo,X.bare=F/\P tk n .unit i X (i+1))(h:t.k≠7:=by simp[sgF])(g:t.k<100:=by simp[sgF])(q:DI t.k=([t.k],O):=by simp[sgF,DI,jE,eE])(l:eE t.k=O:=by simp[sgF,jE,eE]):Ar [t] F:=λtk n i u m p s=>by
 have⟨a,d,e,b,r⟩:=p.head h;obtain rfl:=r.nils;have⟨X,f,j⟩:=o tk n i a d e m;exact⟨X,f,Nat.lt_succ_self _,by rw[a];exact l,j,λw v c=>DD.exp a (by rw[amj,q]) b (DD.tok a b c g)⟩
def anC{v:Int}:Ar [⟨2,v,z,w⟩] (one (bN 23 0 v z0 []) .nil):=Ar.atom λe g d a b f c=>⟨_,by rw[dh];show one (bN 23 0 (e d).n z0 []) .nil=_;rw[b],.uint a c⟩
def anD:Ar [⟨3,0,x,w⟩] (one (bN 24 0 0 x []) .nil):=Ar.atom λe g d a f b c=>⟨_,by rw[dh];show one (bN 24 0 0 (e d).x []) .nil=_;rw[b],.uflt a c⟩
def anE:Ar [⟨4,0,x,w⟩] (one (bN 25 0 0 x []) .nil):=Ar.atom λe g d a f b c=>⟨_,by rw[dh];show one (bN 25 0 0 (e d).x []) .nil=_;rw[b],.ustr a c⟩
def anF:Ar [sgF 24] (one (bN 20 0 0 z0 []) .nil):=Ar.atom λg f e a c d b=>⟨_,rfl,.unil a b⟩
def anG:Ar [sgF 29] (one (bN 21 0 0 z0 []) .nil):=Ar.atom λg f e a c d b=>⟨_,rfl,.utru a b⟩
def anH:Ar [sgF 17] (one (bN 22 0 0 z0 []) .nil):=Ar.atom λg f e a c d b=>⟨_,rfl,.ufls a b⟩
def anI:Ar [sgF 49] (one (bN 27 0 0 z0 []) .nil):=Ar.atom λg f e a c d b=>⟨_,rfl,.urst a b⟩
def akc:xy [mi x] (one (bN 26 0 0 x []) .nil) 0:=λd r c q p j=>by
 have⟨a,_,f,b,n⟩:=j.head;obtain rfl:=n.nils;refine⟨one (nd 26 (d c) (d c).t 0 0 (d c).x []) .nil,by rw[dh,f];rfl,Nat.lt_succ_self _,.inl a,λo k i=> .bname a b i,λg s k h e=>?_⟩;have⟨l,_,m⟩:=agE ⟨g,h⟩;exact DD.exp a l b (DD.tok a b e) m
def xy.field(h:xy l F kd)(s:kd<4):xy (l++[sgF 48,mi x]) (one (bN 33 0 0 x []) F) 1:=λa y j L J w=>by
 have⟨d,B,C⟩:=w.app;have⟨b,c,E⟩:=C.sg;have⟨e,_,o,i,G⟩:=E.head;obtain rfl:=G.nils;have⟨m,p,K,q,v,r⟩:=h a y j d c B;refine⟨one (nd 33 (a j) (a (d+1)).t 0 0 (a (d+1)).x []) m,by rw[dh,p,o];rfl,by omega,q,λI k u=>v _ _ (.pdot b e i u),λf H k g n=>?_⟩;have⟨z,_,_,A⟩:=Ip ⟨f,g⟩ ⟨kd,s⟩;exact r f H k g (DD.exp b z c (DD.tok b c (DD.tok e i n)) A)
def oG.of{q k:Int}(h:yJ k=U)(b:gG k=U):oG q k:=⟨h,λa=>by rw[b]at a;cases a⟩
def xy.index(h:xy l F kd)(z:kd<4)(g:nH m G 0):xy (l++(sgF 44::(m++[sgF 45]))) (one (bN 32 0 0 z0 []) (F.app G)) 1:=λd q n av ao E=>by
 have⟨p,J,K⟩:=E.app;have⟨e,c,L⟩:=K.sg;have⟨f,ad,af⟩:=L.app;have⟨a,b,ak⟩:=af.sg;obtain rfl:=ak.nils;have⟨r,u,ap,w,B,x⟩:=h d q n p c J;have⟨i,v,ar,_,C,y⟩:=g d q (p+1) f b ad (uH a);refine⟨one (jx 32 (d n) (d f).t) (r.app i),by rw[dh,fc,u,v];rfl,by omega,w,λan o A=>B _ _ (.psq e c (C 0 i f (Int.le_refl _) (.mstop b λg=>by rw[a]at g;exact absurd g (by decide))) a b A),λj al o k s=>?_⟩;have⟨_,H,_,I⟩:=Ip ⟨j,k⟩ ⟨kd,z⟩;exact x j al o k (DD.exp e H c (DD.tok e c (y _ _ (DD.exp a (yL (by decide)) b (DD.tok a b s)))) I)
def xy.call0(h:xy l F kd)(r:kd<4):xy (l++[sgF 40,sgF 41]) (one (bN 34 0 0 z0 []) F) 2:=λe w i J H v=>by
 have⟨k,z,A⟩:=v.app;have⟨a,c,B⟩:=A.sg;have⟨b,d,C⟩:=B.sg;obtain rfl:=C.nils;have⟨m,o,I,p,u,q⟩:=h e w i k c z;refine⟨one (jx 34 (e i) (e (k+1)).t) m,by rw[dh,o];rfl,by omega,p,λG j s=>u _ _ (.pcall0 a b d s),λf E j g n=>?_⟩;have⟨_,_,x,y⟩:=Ip ⟨f,g⟩ ⟨kd,r⟩;exact q f E j g (DD.exp a x c (DD.tok a c (DD.exp b (by decide:xE 123 41=([],O)) d (DD.tok b d n))) y)
def aqB(h:eE t=O):xE 123 t=([124],O):=by simp[xE,anu,h]
def xy.call(h:xy l F kd)(A:kd<4)(g:ESc m G):xy (l++(sgF 40::(m++[sgF 41]))) (one (bN 34 0 0 z0 []) (F.app G)) 2:=λa q n a0 ar I=>by
 have⟨i,L,ad⟩:=I.app;have⟨c,e,af⟩:=ad.sg;have⟨p,ak,al⟩:=af.app;have⟨b,f,an⟩:=al.sg;obtain rfl:=an.nils;have⟨r,v,av,x,E,y⟩:=h a q n i e L;have⟨s,w,aK,d,H,z⟩:=g a q (i+1) p f ak (uH b) (by rw[b];decide);have C:(a (i+1)).k≠41:=λg=>by rw[g]at d;exact absurd d (by decide)
 refine⟨one (jx 34 (a n) (a p).t) (r.app s),by rw[dh,fc,v,w];rfl,by omega,x,λap o B=>E _ _ (.pcall c (by omega) C H b f B),λj ao o k u=>?_⟩;have⟨_,_,J,K⟩:=Ip ⟨j,k⟩ ⟨kd,A⟩;exact y j ao o k (DD.exp c J e (DD.tok c e (DD.exp rfl (aqB d) (by omega) (z _ _ (DD.tok b f u)))) K)
def acE(h:nH l (one N K) 0)(tk:Nat->Tk)(n i j:Nat)(I:j<n)(y:pu tk n i (sgF 40::(l++[sgF 41])) j):
  ∃M L k,(tk i).k=40/\M.bare=N/\L.bare=K/\k+1=j/\i+1<k/\(∀R a,P tk n (.post (tk i) (mh M L (tk i) (tk k).t)) j R a->P tk n .base i R a)/\∀b st a,b<4->DD tk n (aft b 3::(pst b++st)) j a->DD tk n (sta b::st) i a:=by
 have⟨e,f,B⟩:=y.sg;have⟨g,C,E⟩:=B.app;have⟨c,d,F⟩:=E.sg;obtain rfl:=F.nils;have⟨G,r,v,H,x,s⟩:=h tk n (i+1) g d C (uH c);obtain⟨M,L,rfl,q,p⟩:=agB r;refine⟨M,L,g,e,q,p,rfl,v,λR a w=> .bopen e f (x 0 _ g (Int.le_refl _) (.mstop d λm=>by rw[c]at m;exact absurd m (by decide))) c d w,λb st a u o=>?_⟩;have⟨_,z,A⟩:=agE ⟨b,u⟩;exact DD.exp e z f (DD.tok e f (s _ _ (DD.exp c (yL (by decide)) d (DD.tok c d o)))) A
def nH.par(h:nH l (one N K) 0)(s:N.k≠34)(u:N.k≠27):xy (sgF 40::(l++[sgF 41])) (one N K) 3:=λc q f p n o=>by
 obtain⟨a,b,k,g,d,i,rfl,v,e,m⟩:=acE h c q f p n o;have r:a.k=N.k:=by rw[<-d];rfl
 have j:mh a b (c f) (c k).t=one a b:=by unfold mh;rw[aa (by omega)]
 rw[j]at e;exact⟨one a b,by rw[dh,d,i],by omega,.inr g,e,m⟩
def nH.held(h:nH l (one N K) 0)(n:N.k=34\/N.k=27):xy (sgF 40::(l++[sgF 41])) (one (bN 37 0 0 z0 []) (one N K)) 3:=λa s c r p q=>by
 obtain⟨b,d,k,g,e,i,rfl,u,f,o⟩:=acE h a s c r p q;have m:b.k=N.k:=by rw[<-e];rfl
 have j:mh b d (a c) (a k).t=one (jx 37 (a c) (a k).t) (one b d):=by unfold mh;rw[ab (by rw[m];exact n)]
 rw[j]at f;exact⟨_,by rw[dh,dh,e,i];rfl,by omega,.inr g,f,o⟩
def MEc.nil:MEc [] .nil:=λk i f g b e d a=>by
 obtain rfl:=e.nils;exact⟨.nil,rfl,d,.estop a b,λj h c=>DD.exp rfl (aqz a) b c⟩
def oG.no{k:Int}(h:oG 0 k):gG k=U:=by
 cases hx:gG k with
 |false=>rfl
 |true=>have:=h.2 hx;have:=Il k;have:=Io k;omega
def MEc.all(h:nH l F 0)(g:MEc m G):ESc (l++m) (F.app G):=λi e x y t w s p=>by
 have⟨b,z,f⟩:=w.app;have⟨j,o,a,v,r⟩:=g i e b y t f s p;have A:=f.le;have⟨c,n,B,d,u,q⟩:=h i e x b (by omega) z a;refine⟨c.app j,by rw[fc,n,o],by omega,d,.es (u 0 c b (Int.le_refl _) (.mstop (by omega) λg=>by rw[a.no]at g;cases g)) v,λE C k=>?_⟩;exact DD.exp rfl (by rw[agD,d]) (by omega) (q _ _ (DD.exp rfl (yL a.no) (by omega) (r _ _ k)))
end
def FG(k:Int):Prop:=k=5\/k=6\/k=43
def FG.e(h:FG k):oG 0 k/\k≠46/\k≠47/\k≠15/\k≠16/\eE k=U/\yJ k=U/\k≠42:=by
 rcases h with rfl|rfl|rfl<;>exact⟨.of (by decide) (by decide),by decide⟩
def Iq(l:List Wt)(d:Fo):Prop:=∀(tk:Nat->Tk)(n i j:Nat),j<n->pu tk n i l j->
 ∃a:Fo,a.bare=d/\i<j/\(tk i).k=42/\P tk n .block i a j/\∀c b,DD tk n c j b->DD tk n (132::c) i b
def BDc(l:List Wt)(d:Fo):Prop:=∀(tk:Nat->Tk)(n i j:Nat)(e:Tk),j<n->pu tk n i l j->
 ∃a:Fo,a.bare=d/\i<j/\(tk i).k=40/\P tk n (.body e) i a j/\∀c b,DD tk n c j b->DD tk n (133::c) i b
def Bl(l:List Wt)(d:Fo):Prop:=∀(tk:Nat->Tk)(n i j:Nat),j<n->pu tk n i l j->FG (tk j).k->
 ∃a:Fo,a.bare=d/\i<j/\¬FG (tk i).k/\P tk n .stat i a j/\∀c b,DD tk n (101::c) j b->DD tk n (100::c) i b
def BRc(l:List Wt)(d:Fo):Prop:=∀(tk:Nat->Tk)(n i j:Nat),((tk i).k=20\/(tk i).k=15)->i<n->j<n->pu tk n (i+1) l j->FG (tk j).k->
 ∃a:Fo,a.bare=d/\i+1<j/\P tk n .branch i a j/\∀c b,DD tk n c j b->DD tk n (119::132::105::c) (i+1) b
def ENc(l:List Wt)(d:Fo):Prop:=∀(tk:Nat->Tk)(n i j:Nat),j<n->pu tk n i l j->oG 0 (tk j).k->
 ∃a:Fo,a.bare=d/\i<j/\(eE (tk i).k=O\/(tk i).k=48\/(tk i).k=44)/\P tk n .entry i a j/\∀c b,DD tk n c j b->DD tk n (131::c) i b
def TBc(l:List Wt)(d:Fo):Prop:=∀(tk:Nat->Tk)(n i j:Nat),j<n->pu tk n i l j->(tk j).k=43->
 ∃a:Fo,a.bare=d/\i<=j/\P tk n .entries i a j/\∀c b,DD tk n (43::c) j b->DD tk n (129::43::c) i b
def SLc(l:List Wt)(d:Fo):Prop:=∀(tk:Nat->Tk)(n i j:Nat),j<n->pu tk n i l j->((tk j).k=43\/(tk j).k=6)->
 ∃c:Fo,c.bare=d/\(tk i).k=5/\i<j/\P tk n .stats i c j/\∀b a,DD tk n ((tk j).k::b) j a->DD tk n (100::(tk j).k::b) i a/\DD tk n (101::(tk j).k::b) i a
def KC:List ByteArray->List Wt
 |[]=>[]
 |[x]=>[mi x]
 |x::r=>mi x::sgF 46::KC r
def D2:List ByteArray->Bool->List Wt
 |[],false=>[]
 |[],true=>[sgF 49]
 |x::r,t=>mi x::(if r=[]/\t=U then [] else sgF 46::D2 r t)
section
variable {tk : Nat → Tk} {n : Nat}
def DD.ex{s:Int}{r L:List Int}{b:Bool}(ht:(tk i).k=t)(e:xE s t=(L,b))(h:100<=s)(d:DD tk n (s::r) i j):DD tk n (L++r) i j:=by
 obtain⟨l,d⟩:=d;cases d with
 |tok c=>omega
 |exp c f g a=>rw[ht,e]at a;exact⟨_,a⟩
def agF:∀(r:List ByteArray)(x:ByteArray)(i j:Nat),pu tk n i (KC (x::r)) j->j<n->(tk j).k≠46->
  (tk i).k=1/\(tk i).x=x/\i<j/\FE tk n (i+1) r j/\∀st b,DD tk n st j b->DD tk n (104::st) (i+1) b
 |[],x,i,j,g,a,h=>by
  have⟨e,_,f,t,l⟩:=g.head;obtain rfl:=l.nils;exact⟨e,f,Nat.lt_succ_self _,.stop h a,λst b d=>DD.exp rfl (aqA h) a d⟩
 |y::r,x,i,j,g,a,h=>by
  have⟨e,_,f,t,l⟩:=g.head;have⟨c,o,u⟩:=l.sg;have⟨m,p,v,q,s⟩:=agF r y (i+1+1) j u a h;refine⟨e,f,by omega,?_,λst b d=>?_⟩
  .have:=FE.go c (by omega) m q;rw[p]at this;exact this
  .exact DD.exp c (by decide:xE 104 46=([46,1,104],O)) o (DD.tok c o (DD.tok m (by omega) (s _ _ d)))
def amk:∀(nm:List ByteArray)(t:Bool)(i k:Nat),pu tk n i (D2 nm t) k->(tk k).k=41->k+1<n->
  Prm tk n i nm t (k+1)/\i<=k/\∀st a,DD tk n (41::st) k a->DD tk n (126::41::st) i a/\((nm≠[]\/t=O)->DD tk n (128::41::st) i a)
 |[],false,i,k,f,h,e=>by
  obtain rfl:=f.nils;exact⟨.close h e,ag _,λst a c=>⟨DD.exp h (by decide:xE 126 41=([],O)) (by omega) c,λs=>by simp at s⟩⟩
 |[],true,i,k,f,h,e=>by
  have⟨b,d,g⟩:=f.sg;obtain rfl:=g.nils;exact⟨.rest b h e,by omega,λst a c=>⟨DD.exp b (by decide:xE 126 49=([49],O)) d (DD.tok b d c),λ_=>DD.exp b (by decide:xE 128 49=([49],O)) d (DD.tok b d c)⟩⟩
 |x::l,t,i,k,f,h,e=>by
  rw[D2]at f;have⟨b,_,o,d,g⟩:=f.head
  change (tk i).x=x at o
  have r:∀st a,DD tk n (127::41::st) (i+1) a->DD tk n (126::41::st) i a/\((x::l≠[]\/t=O)->DD tk n (128::41::st) i a):=λst a c=>
   ⟨DD.exp b (by decide:xE 126 1=([1,127],O)) d (DD.tok b d c),λ_=>DD.exp b (by decide:xE 128 1=([1,127],O)) d (DD.tok b d c)⟩
  by_cases j:l=[]/\t=U
  .rw[ab j]at g;obtain⟨rfl,rfl⟩:=j;obtain rfl:=g.nils;have:=Prm.last b h e;rw[o]at this;exact⟨this,by omega,λst a c=>r st a (DD.exp h (by decide:xE 127 41=([],O)) (by omega) c)⟩
  .rw[aa j]at g;have⟨m,p,w⟩:=g.sg;have⟨u,y,v⟩:=amk l t (i+1+1) k w h e;have:=Prm.go b m (by omega) u;rw[o]at this;refine⟨this,by omega,λst a c=>r st a ?_⟩;refine DD.exp m (by decide:xE 127 46=([46,128],O)) p (DD.tok m p ((v st a c).2 ?_));by_cases q:l=[]
   .right;cases t with
    |true=>rfl
    |false=>exact absurd ⟨q,rfl⟩ j
   .exact .inl q
def seps{k:Nat}(h:∀q,i<=q->q<k->(tk q).k=5/\q<n)(o:i<k):(∀R j,P tk n .stats k R j->P tk n .stats i R j)/\∀st b,DD tk n (100::st) k b->DD tk n (100::st) i b/\DD tk n (101::st) i b:=by
 have r:∀a,i+a<=k->(∀R j,P tk n .stats k R j->P tk n .stats (k-a) R j)/\∀st b,DD tk n (100::st) k b->DD tk n (100::st) (k-a) b:=by
  intro a
  induction a with
  |zero=>intro _;exact⟨λR j h=>h,λst b h=>h⟩
  |succ a p=>
   intro m;have⟨f,e⟩:=p (by omega);have⟨c,d⟩:=h (k-(a+1)) (by omega) (by omega);have l:k-(a+1)+1=k-a:=by omega
   refine⟨λR j g=> .ssep c d (by rw[l];exact f R j g),λst b m=>?_⟩;exact DD.exp c (by decide:xE 100 5=([5,100],O)) d (DD.tok c d (by rw[l];exact e st b m))
 have⟨f,e⟩:=r (k-(i+1)) (by omega);rw[show k-(k-(i+1))=i+1 by omega]at f e;obtain⟨c,d⟩:=h i (ag _) o;exact⟨λR j g=> .ssep c d (f R j g),λst b a=>⟨DD.exp c (by decide:xE 100 5=([5,100],O)) d (DD.tok c d (e st b a)),DD.exp c (by decide:xE 101 5=([5,100],O)) d (DD.tok c d (e st b a))⟩⟩
end
section
variable {l m a b : List Wt} {F G K : Fo} {N : Nd} {q k : Int} {kd : Nat} {w x y z : ByteArray}
def nH.es(h:nH l F 0):ESc l F:=by
 have:=MEc.all h MEc.nil;rw[dk,Fo.app_nil]at this;exact this
def ESc.cons(h:nH l F 0)(g:ESc m G):ESc (l++(sgF 46::m)) (F.app G):=λi f x y t w s p=>by
 have⟨c,C,E⟩:=w.app;have⟨a,b,H⟩:=E.sg;have⟨j,o,L,J,v,r⟩:=g i f (c+1) y t H s p;have⟨d,n,K,e,u,q⟩:=h i f x c b C (uH a);refine⟨d.app j,by rw[fc,n,o],by omega,e,.es (u 0 d c (Int.le_refl _) (.mstop b λg=>by rw[a]at g;exact absurd g (by decide))) ?_,λI z k=>?_⟩
 .cases v with
  |es A B=>exact .ego a b A B
 .refine DD.exp rfl (by rw[agD,e]) (by omega) (q _ _ (DD.exp a (yL (by decide)) b (DD.exp a (by decide:xE 125 46=([46,119,125],O)) b (DD.tok a b ?_))));exact DD.ex rfl (agD _) (by decide) (r I z k)
def nH.item(h:nH l F 0):ENc l (one (bN 40 0 0 z0 []) F):=λa s b i g r f=>by
 have⟨j,n,p,e,q,o⟩:=h a s b i g r f;have c:(a b).k≠48/\(a b).k≠44/\(a b).k≠6:=by refine⟨?_,?_,?_⟩<;>(intro d;rw[d]at e;exact absurd e (by decide))
 refine⟨one (jx 40 (a b) (a (i-1)).t) j,by rw[dh,n];rfl,p,.inl e,.item c.1 c.2.1 c.2.2 (by omega) (q 0 j i (Int.le_refl _) (.mstop g λd=>by rw[f.no]at d;cases d)),λv u m=>?_⟩;exact DD.exp rfl (by simp[xE,anz,c.1,c.2.1,e]:xE 131 (a b).k=([119],O)) (by omega) (o _ _ (DD.exp rfl (yL f.no) g m))
def nH.pair(h:nH l F 0)(g:nH m G 0):ENc (sgF 44::(l++(sgF 45::sgF 47::m))) (one (bN 41 0 0 z0 []) (F.app G)):=λd s r j i B e=>by
 have⟨b,f,C⟩:=B.sg;have⟨k,E,H⟩:=C.app;have⟨a,c,I⟩:=H.sg;have⟨p,q,J⟩:=I.sg;have⟨n,v,ad,K,z,x⟩:=h d s (r+1) k c E (uH a);have⟨o,w,af,L,A,y⟩:=g d s (k+1+1) j i J e;refine⟨one (jx 41 (d r) (d (j-1)).t) (n.app o),by rw[dh,fc,v,w];rfl,by omega,.inr (.inr b),.pair b f (z 0 n k (Int.le_refl _) (.mstop c λg=>by rw[a]at g;exact absurd g (by decide))) a p q (A 0 o j (Int.le_refl _) (.mstop i λg=>by rw[e.no]at g;cases g)),λal ak u=>?_⟩;exact DD.exp b (by decide:xE 131 44=([44,119,45,47,119],O)) f (DD.tok b f (x _ _ (DD.exp a (yL (by decide)) c (DD.tok a c (DD.tok p q (y _ _ (DD.exp rfl (yL e.no) i u)))))))
def nH.named(h:nH l F 0):ENc (sgF 48::mi x::sgF 47::l) (one (bN 42 0 0 x []) F):=λa y c g f w e=>by
 have⟨b,n,z⟩:=w.sg;have⟨d,_,r,u,A⟩:=z.head;have⟨j,o,B⟩:=A.sg
 change (a (c+1)).k=1 at d
 have⟨i,q,E,C,v,s⟩:=h a y (c+1+1+1) g f B e;refine⟨one (nd 42 (a c) (a (g-1)).t 0 0 (a (c+1)).x []) i,by rw[dh,q,r];rfl,by omega,.inr (.inl b),.named b d j o (v 0 i g (Int.le_refl _) (.mstop f λm=>by rw[e.no]at m;cases m)),λH G p=>?_⟩;exact DD.exp b (by decide:xE 131 48=([48,1,47,119],O)) n (DD.tok b n (DD.tok d u (DD.tok j o (s _ _ (DD.exp rfl (yL e.no) f p)))))
def aml(h:eE t=O\/t=48\/t=44):xE 129 t=([131,130],O):=by
 rcases h with h|rfl|rfl
 .simp[xE,anx,h]
 .decide
 .decide
def amm(h:eE t=O\/t=48\/t=44):t≠43:=by
 rcases h with h|rfl|rfl
 .intro a;rw[a]at h;exact absurd h (by decide)
 .decide
 .decide
def TBc.nil:TBc [] .nil:=λj h e f b d a=>by
 obtain rfl:=d.nils;exact⟨.nil,rfl,ag _,.nstop a b,λi g c=>DD.exp a (by decide:xE 129 43=([],O)) b c⟩
def ENc.last(h:ENc l F):TBc l F:=λo n k m b j a=>by
 have⟨d,f,p,c,i,g⟩:=h o n k m b j (uH a);refine⟨d,f,by omega,?_,λr q e=>DD.exp rfl (aml c) (by omega) (g _ _ (DD.exp a (by decide:xE 130 43=([],O)) b e))⟩;have:=P.nlast (amm c) (by omega) i (by rw[a];decide) b (.nstop a b);rw[Fo.app_nil]at this;exact this
def ENc.cons(h:ENc l F)(g:TBc m G):TBc (l++(sgF 46::m)) (F.app G):=λf e w x s v p=>by
 have⟨d,y,z⟩:=v.app;have⟨a,b,A⟩:=z.sg;have⟨j,o,C,u,r⟩:=g f e (d+1) x s A p;have⟨i,n,B,c,t,q⟩:=h f e w d b y (uH a);refine⟨i.app j,by rw[fc,n,o],by omega,.ncom (amm c) (by omega) t a b u,λH E k=>?_⟩;exact DD.exp rfl (aml c) (by omega) (q _ _ (DD.exp a (by decide:xE 130 46=([46,129],O)) b (DD.tok a b (r _ _ k))))
def TBc.un(h:TBc l F):Ar (sgF 42::(l++[sgF 43])) (one (bN 35 0 0 z0 []) F):=λd q f y n p w=>by
 have⟨a,c,r⟩:=p.sg;have⟨g,s,u⟩:=r.app;have⟨b,e,v⟩:=u.sg;obtain rfl:=v.nils;have⟨i,k,x,o,m⟩:=h d q (f+1) g e s b;exact⟨one (jx 35 (d f) (d g).t) i,by rw[dh,k];rfl,by omega,by rw[a];decide,.utab a c o b n,λA z j=>DD.exp a (by decide:xE 120 42=([42,129,43],O)) c (DD.tok a c (m _ _ (DD.tok b e j)))⟩
def anJ:Iq [sgF 42,sgF 43] (one (bN 1 0 0 z0 []) .nil):=λf n e l h i=>by
 have⟨a,c,j⟩:=i.sg;have⟨b,d,k⟩:=j.sg;obtain rfl:=k.nils;exact⟨one (jx 1 (f e) (f (e+1)).t) .nil,rfl,by omega,a,.block a c (.sstop (.inl b) d) b h,λo m g=>DD.exp a (by decide:xE 132 42=([42,100,43],O)) c (DD.tok a c (DD.exp b (by decide:xE 100 43=([],O)) d (DD.tok b d g)))⟩
def SLc.bl(h:SLc l F):Iq (sgF 42::(l++[sgF 43])) (one (bN 1 0 0 z0 []) F):=λd q g y n p=>by
 have⟨a,c,r⟩:=p.sg;have⟨i,s,u⟩:=r.app;have⟨b,f,v⟩:=u.sg;obtain rfl:=v.nils;have⟨j,m,w,x,o,e⟩:=h d q (g+1) i f s (.inl b);rw[b]at e;exact⟨one (jx 1 (d g) (d i).t) j,by rw[dh,m];rfl,by omega,a,.block a c o b n,λA z k=>DD.exp a (by decide:xE 132 42=([42,100,43],O)) c (DD.tok a c (e _ _ (DD.tok b f k)).1)⟩
def aqC(h:t=43\/t=6):xE 100 t=([],O):=by rcases h with rfl|rfl<;>decide
def SLc.nil:SLc [nlW] .nil:=λp n i k c h b=>by
 have⟨m,a,j,d⟩:=h.nl rfl;obtain rfl:=j.nils;have⟨e,f⟩:=seps d a;exact⟨.nil,rfl,(d i (ag _) a).1,a,e _ _ (.sstop b c),λo l g=>f _ _ (DD.exp rfl (aqC b) c g)⟩
def SLc.cons(h:Bl l F)(g:SLc m G):SLc (nlW::(l++m)) (F.app G):=λf e z A v y u=>by
 have⟨B,b,C,c⟩:=y.nl rfl;have⟨d,E,H⟩:=C.app;have⟨k,n⟩:=seps c b;have⟨j,q,r,J,x,t⟩:=g f e d A v H u;have⟨i,p,I,a,w,s⟩:=h f e B d (by omega) E (.inl r);refine⟨i.app j,by rw[fc,p,q],(c z (ag _) b).1,by omega,k _ _ (.sgo (λg=>a (.inl g)) (λg=>a (.inr (.inl g))) (λg=>a (.inr (.inr g))) (by omega) w x),λL K o=>n _ _ (s _ _ (t _ _ o).2)⟩
def anK(h:Bl l F)(g:SLc m G):∀(tk:Nat->Tk)(n j:Nat),j<n->pu tk n 0 (l++m) j->(tk j).k=6->∃X:Fo,X.bare=F.app G/\P tk n .stats 0 X j/\DD tk n [100,6] 0 (j+1):=λtk n j d t b=>by
 have⟨e,u,v⟩:=t.app;have⟨f,o,p,x,s,c⟩:=g tk n e j d v (.inr b);have⟨X,i,w,a,r,q⟩:=h tk n 0 e (by omega) u (.inl p);rw[b]at c;exact⟨X.app f,by rw[fc,i,o],.sgo (λg=>a (.inl g)) (λg=>a (.inr (.inl g))) (λg=>a (.inr (.inr g))) (by omega) r s,q _ _ (c _ _ (DD.tok b d ⟨0,.nil⟩)).2⟩
def Iq.body(h:Iq l F)(nm:List ByteArray)(r:Bool):BDc (sgF 40::(D2 nm r++(sgF 41::l))) (one (bN 36 (if r=O then 1 else 0) 0 z0 nm) F):=λf v u d w o s=>by
 have⟨a,b,x⟩:=s.sg;have⟨e,y,z⟩:=x.app;have⟨c,p,A⟩:=z.sg;have⟨g,j,E,C,q,n⟩:=h f v (e+1) d o A;have⟨k,B,m⟩:=amk nm r (u+1) e y c (by omega);refine⟨one (nd 36 w (f (d-1)).t (if r=O then 1 else 0) 0 z0 nm) g,by rw[dh,j];rfl,by omega,a,.body a b k q,λH G i=>?_⟩;exact DD.exp a (by decide:xE 133 40=([40,126,41,132],O)) b (DD.tok a b (m _ _ (DD.tok c p (n _ _ i))).1)
def BDc.un(h:BDc l F):Ar (sgF 18::l) F:=λd o c n j m r=>by
 have⟨a,b,p⟩:=m.sg;have⟨e,g,s,q,k,i⟩:=h d o (c+1) n (d c) j p;exact⟨e,g,by omega,by rw[a];decide,.ufn a b k,λu t f=>DD.exp a (by decide:xE 120 18=([18,133],O)) b (DD.tok a b (i _ _ f))⟩
end
def TMc(l:List Wt)(e:Fo):Prop:=∀(tk:Nat->Tk)(n i j:Nat),j<n->pu tk n i l j->(tk j).k=47->
 ∃b:Fo,b.bare=e/\i<=j/\P tk n .moreB i b j/\∀d c a,(a=110\/a=114)->DD tk n (47::124::d) j c->DD tk n (a::d) i c
def wy(h:(tk i).k=k)(a:¬(k=5\/k=6\/k=43):=by decide):¬FG (tk i).k:=by rw[h];exact a
section
variable {l m p a b : List Wt} {F G H K : Fo} {N : Nd} {q k : Int} {kd : Nat} {w x y z : ByteArray} {r : List ByteArray}
def TMc.nil:TMc [] .nil:=λl j g h b e a=>by
 obtain rfl:=e.nils;exact⟨.nil,rfl,ag _,.bstop (by rw[a];decide) b,λk i f d c=>by rcases d with rfl|rfl<;>exact DD.exp (L:=[47,124]) a (by decide) b c⟩
def TMc.cons(h:xy l F kd)(af:kd<2)(g:TMc m G):TMc (sgF 46::(l++m)) (F.app G):=λd k C E y B f=>by
 have⟨a,b,H⟩:=B.sg;have⟨c,I,J⟩:=H.app;have⟨p,t,al,i,x⟩:=g d k c E y J f;have⟨o,s,ak,ad,A,w⟩:=h d k (C+1) c (by omega) I;have u:aft 2 kd=114:=by rcases(show kd=0\/kd=1 by omega) with rfl|rfl<;>rfl
 have z:yJ (d c).k=U:=by
  cases i with
  |bstop e=>rw[f];decide
  |bgo e=>rw[e];decide
 refine⟨o.app p,by rw[fc,s,t],by omega,.bgo a b (A _ _ (.pstop (by omega) z)) i,λn j K v q=>?_⟩;have r:=w 2 n j (by decide) (by rw[u];exact x n j 114 (.inr rfl) q);rcases v with rfl|rfl<;>exact DD.exp (L:=[46,113]) a (by decide) b (DD.tok a b r)
def Iq.st(h:Iq l F):Bl l F:=λo n k m f j p=>by
 have⟨b,d,g,a,i,e⟩:=h o n k m f j;exact⟨b,d,g,wy a,.tblock a (by omega) i,λst q c=>DD.exp a (by decide:xE 100 42=([132,101],O)) (by omega) (e _ _ c)⟩
def akd:Bl (sgF 22::KC (x::r)) (one (bN 2 0 0 z0 (x::r)) .nil):=λs w p g f o n=>by
 have⟨a,d,q⟩:=o.sg;have⟨t,i,b,_⟩:=n.e;have⟨c,j,u,l,m⟩:=agF r x (p+1) g q f i;refine⟨_,?_,by omega,wy a,.tlet0 a (by omega) c l b,λy v h=>?_⟩
 .rw[dh,j];rfl
 .exact DD.exp a (by decide:xE 100 22=([22,1,104,103,101],O)) d (DD.tok a d (DD.tok c (by omega) (m _ _ (DD.exp rfl (by simp[xE,ano,b]:xE 103 (s g).k=([],O)) f h))))
def ESc.let_(h:ESc l F):Bl (sgF 22::(KC (x::r)++(sgF 47::l))) (one (bN 2 0 0 z0 (x::r)) F):=λC w u v q t f=>by
 have⟨a,g,y⟩:=t.sg;have⟨i,z,A⟩:=y.app;have⟨b,c,B⟩:=A.sg;have⟨d,m,G,n,o⟩:=agF r x (u+1) i z c (by rw[b];decide);have⟨E,k,I,H,s,p⟩:=h C w (i+1) v q B f.e.1 f.e.2.1;refine⟨_,?_,by omega,wy a,.tlet a (by omega) d n b s,λK J j=>?_⟩
 .rw[dh,m,k];rfl
 .exact DD.exp a (by decide:xE 100 22=([22,1,104,103,101],O)) g (DD.tok a g (DD.tok d (by omega) (o _ _ (DD.exp b (by decide:xE 103 47=([47,124],O)) c (DD.tok b c (p _ _ j))))))
def mst{s:Tk}{X:Fo}(b:j<n)(h:oG 0 (tk j).k):P tk n (.more 0 s X) j X j:= .mstop b λa=>by rw[h.no]at a;cases a
def dst{a:Nat}{st:List Int}(b:j<n)(h:oG 0 (tk j).k)(d:DD tk n st j a):DD tk n (121::st) j a:=DD.exp rfl (yL h.no) b d
def nH.const(h:nH l F 0):Bl (sgF 13::mi x::sgF 47::l) (one (bN 3 0 0 z0 [x]) F):=λn w j m d v c=>by
 have⟨a,g,y⟩:=v.sg;have⟨b,_,r,t,z⟩:=y.head;have⟨f,i,A⟩:=z.sg
 change (n (j+1)).k=1 at b
 have⟨o,q,C,B,u,s⟩:=h n w (j+1+1+1) m d A c.e.1;refine⟨_,?_,by omega,wy a,.tcon a b f i (u 0 o m (Int.le_refl _) (mst d c.e.1)),λG E p=>?_⟩
 .rw[dh,r,q];rfl
 .exact DD.exp a (by decide:xE 100 13=([13,1,47,119,101],O)) g (DD.tok a g (DD.tok b t (DD.tok f i (s _ _ (dst d c.e.1 p)))))
def BDc.fn(h:BDc l F):Bl (sgF 18::mi x::l) (one (bN 4 0 0 z0 [x]) F):=λd s c r n q w=>by
 have⟨a,e,t⟩:=q.sg;have⟨b,_,i,o,u⟩:=t.head
 change (d (c+1)).k=1 at b
 have⟨v,g,y,j,p,m⟩:=h d s (c+1+1) r (d (c+2)) n u;refine⟨_,?_,by omega,wy a,.tfn a b j (by omega) p,λA z f=>?_⟩
 .rw[dh,i,g];rfl
 .exact DD.exp a (by decide:xE 100 18=([18,1,133,101],O)) e (DD.tok a e (DD.tok b o (m _ _ f)))
def xy.fol(h:(tk i).k=1\/(tk i).k=40):¬FG (tk i).k:=by rcases h with g|g<;>rw[g]<;>unfold FG<;>decide
def xy.set(h:xy l F kd)(a0:kd<2)(g:TMc m G)(e:ESc p H):Bl (l++(m++(sgF 47::p))) (one (bN 5 0 (F.app G).len z0 []) ((F.app G).app H)):=λa j u v J af r=>by
 have⟨i,al,an⟩:=af.app;have⟨w,ao,ap⟩:=an.app;have⟨b,f,ar⟩:=ap.sg;have⟨d,o,a2,s,E⟩:=g a j i w f ao b;have⟨c,n,a1,q,L,C⟩:=h a j u i (by omega) al;have⟨x,A,a3,aK,ad,I⟩:=e a j (w+1) v J ar r.e.1 r.e.2.1;have B:aft 1 kd=110:=by rcases(show kd=0\/kd=1 by omega) with rfl|rfl<;>rfl
 have K:yJ (a i).k=U:=by
  cases s with
  |bstop k=>rw[b];decide
  |bgo k=>rw[k];decide
 refine⟨one (nd 5 (a u) (a (v-1)).t 0 ((c.app d).len:Nat) z0 []) ((c.app d).app x),?_,by omega,xy.fol q,.tset q (by omega) (L _ _ (.pstop (by omega) K)) s b f ad,λav ak y=>?_⟩
 .have z:(c.app d).len=(F.app G).len:=by rw[<-yK,fc,n,o]
  rw[dh,fc,fc,n,o,A,z];rfl
 .exact C 1 av ak (by decide) (by rw[B];exact E _ _ 110 (.inl rfl) (DD.tok b f (I _ _ y)))
def xy.do_(h:xy l F 2):Bl l (one (bN 6 0 0 z0 []) F):=λc u i j a r f=>by
 have⟨k,n,p,d,q,o⟩:=h c u i j a r;have b:=f.e;refine⟨one (jx 6 (c i) (c (j-1)).t) k,by rw[dh,n];rfl,p,xy.fol d,.tdo d (by omega) (q _ _ (.pstop a b.2.2.2.2.2.2.1)) b.2.1 b.2.2.1 a,λv s m=>?_⟩;refine o 1 v s (by decide) (DD.exp (L:=[]) rfl ?_ a m);rcases f with g|g|g<;>rw[g]<;>decide
def xy.defer(h:xy l F 2):Bl (sgF 14::l) (one (bN 16 0 0 z0 []) F):=λd s i j c q f=>by
 have⟨a,b,u⟩:=q.sg;have⟨k,n,w,v,p,o⟩:=h d s (i+1) j c u;refine⟨one (jx 16 (d i) (d (j-1)).t) k,by rw[dh,n];rfl,by omega,wy a,.tdefer a b (p _ _ (.pstop c f.e.2.2.2.2.2.2.1)),λx r m=>?_⟩;refine DD.exp a (by decide:xE 100 14=([14,116,101],O)) b (DD.tok a b (o 3 _ r (by decide) (DD.exp (L:=[]) rfl ?_ c m)));rcases f with g|g|g<;>rw[g]<;>decide
def nH.throw(h:nH l F 0):Bl (sgF 28::l) (one (bN 15 0 0 z0 []) F):=λg q j f d p b=>by
 have⟨a,c,r⟩:=p.sg;have⟨i,m,u,s,o,n⟩:=h g q (j+1) f d r b.e.1;exact⟨one (jx 15 (g j) (g (f-1)).t) i,by rw[dh,m];rfl,by omega,wy a,.tthrow a c (o 0 i f (Int.le_refl _) (mst d b.e.1)),λw v k=>DD.exp a (by decide:xE 100 28=([28,119,101],O)) c (DD.tok a c (n _ _ (dst d b.e.1 k)))⟩
def acF{k:Int}{d:Int}(h:(k=11/\d=11)\/(k=23/\d=12)):Bl [sgF k] (one (bN d 0 0 z0 []) .nil):=λj p i o f g n=>by
 rcases h with⟨rfl,rfl⟩|⟨rfl,rfl⟩
 .have⟨a,b,e⟩:=g.sg
  change (j i).k=11 at a
  obtain rfl:=e.nils;exact⟨_,rfl,by omega,wy a,.tbreak a f,λm l c=>DD.exp a (by decide:xE 100 11=([11,101],O)) b (DD.tok a b c)⟩
 .have⟨a,b,e⟩:=g.sg
  change (j i).k=23 at a
  obtain rfl:=e.nils;exact⟨_,rfl,by omega,wy a,.tnext a f,λm l c=>DD.exp a (by decide:xE 100 23=([23,101],O)) b (DD.tok a b c)⟩
def ake:Bl [sgF 27] (one (bN 13 0 0 z0 []) .nil):=λj n h l d g b=>by
 have⟨a,c,i⟩:=g.sg;obtain rfl:=i.nils;exact⟨_,rfl,by omega,wy a,.tret0 a d b,λo m f=>DD.exp a (by decide:xE 100 27=([27,108,101],O)) c (DD.tok a c (DD.exp rfl (by simp[xE,aj2,b.e.2.2.2.2.2.1]:xE 108 (j (h+1)).k=([],O)) d f))⟩
def ESc.ret(h:ESc l F):Bl (sgF 27::l) (one (bN 13 0 0 z0 []) F):=λb s c i p r f=>by
 have⟨a,g,u⟩:=r.sg;have⟨j,n,v,d,q,o⟩:=h b s (c+1) i p u f.e.1 f.e.2.1;exact⟨one (jx 13 (b c) (b (i-1)).t) j,by rw[dh,n];rfl,by omega,wy a,.tret a (by omega) d q,λx w m=>DD.exp a (by decide:xE 100 27=([27,108,101],O)) g (DD.tok a g (DD.exp rfl (by simp[xE,aj2,d]:xE 108 (b (c+1)).k=([124],O)) (by omega) (o _ _ m)))⟩
def nH.while_(h:nH l F 0)(g:Iq m G):Bl (sgF 31::(l++m)) (one (bN 8 0 0 z0 []) (F.app G)):=λa k i j v y E=>by
 have⟨b,d,z⟩:=y.sg;have⟨c,A,B⟩:=z.app;have⟨n,q,I,r,x,u⟩:=g a k c j v B;have e:oG 0 (a c).k:=uH r;have⟨f,p,H,C,w,s⟩:=h a k (i+1) c (by omega) A e;exact⟨one (jx 8 (a i) (a (j-1)).t) (f.app n),by rw[dh,fc,p,q];rfl,by omega,wy b,.twhile b d (w 0 f c (Int.le_refl _) (mst (by omega) e)) x,λK J o=>DD.exp b (by decide:xE 100 31=([31,119,132,101],O)) d (DD.tok b d (s _ _ (dst (by omega) e (u _ _ o))))⟩
def nH.for_(h:nH l F 0)(g:ESc m G)(e:Iq p H)(B:∀(tk:Nat->Tk) (n i j:Nat),j<n->pu tk n i m j->(tk j).k=42->∀st q,DD tk n (132::st) j q->DD tk n (119::107::132::st) i q):
  Bl (sgF 19::mi x::sgF 47::((l++(sgF 46::m))++p)) (one (bN 9 0 0 z0 [x]) ((F.app G).app H)):=λtk n i j I af a5=>by
 have⟨a,t,ak⟩:=af.sg;have⟨c,_,A,J,al⟩:=ak.head;have⟨b,o,an⟩:=al.sg
 change (tk (i+1)).k=1 at c
 have⟨k,v,ao⟩:=an.app;have⟨a1,z,a8,d,ad,E⟩:=e tk n k j I ao;have K:oG 0 (tk k).k:=uH d;have⟨a0,y,a7,a4,L,_⟩:=(ESc.cons h g) tk n (i+1+1+1) k (by omega) v K (by rw[d];decide);have⟨r,ap,ar⟩:=v.app;have⟨s,f,av⟩:=ar.sg;have u:oG 0 (tk r).k:=uH s;have⟨aK,a2,a6,a3,a9,C⟩:=h tk n (i+1+1+1) r f ap u;refine⟨_,?_,by omega,wy a,.tfor a (by omega) c (.stop (by rw[b];decide) o) b L ad,λst q w=>?_⟩
 .rw[dh,fc,y,z,A];rfl
 .refine DD.exp a (by decide:xE 100 19=([19,1,106,101],O)) t (DD.tok a t (DD.tok c J (DD.exp b (by decide:xE 106 47=([47,119,46,119,107,132],O)) o (DD.tok b o ?_))));exact C _ _ (dst f u (DD.tok s f (B tk n (r+1) k (by omega) av d _ _ (E _ _ w))))
def akf(h:nH l F 0):∀(tk:Nat->Tk)(n i j:Nat),j<n->pu tk n i l j->(tk j).k=42->∀st b,DD tk n (132::st) j b->DD tk n (119::107::132::st) i b:=λtk n i j a g c st b e=>by
 have d:oG 0 (tk j).k:=uH c;have⟨m,o,q,p,r,f⟩:=h tk n i j a g d;exact f _ _ (dst a d (DD.exp c (by decide:xE 107 42=([],O)) a e))
def aeJ(h:nH l F 0)(g:nH m G 0):∀(tk:Nat->Tk)(n i j:Nat),j<n->pu tk n i (l++(sgF 46::m)) j->(tk j).k=42->∀st c,DD tk n (132::st) j c->DD tk n (119::107::132::st) i c:=λtk n i j d s p st c o=>by
 have e:oG 0 (tk j).k:=uH p;have⟨k,t,u⟩:=s.app;have⟨b,a,v⟩:=u.sg;have f:oG 0 (tk k).k:=uH b;have⟨w,y,C,A,H,q⟩:=h tk n i k a t f;have⟨x,z,E,B,I,r⟩:=g tk n (k+1) j d v e;exact q _ _ (dst a f (DD.exp b (by decide:xE 107 46=([46,119],O)) a (DD.tok b a (r _ _ (dst d e o)))))
def nH.each(h:nH l F 0)(g:Iq m G):Bl (sgF 19::(KC (x::r)++(sgF 21::(l++m)))) (one (bN 10 0 0 z0 (x::r)) (F.app G)):=λa q d L E J aK=>by
 have⟨b,n,ad⟩:=J.sg;have⟨p,af,ak⟩:=ad.app;have⟨c,o,al⟩:=ak.sg;have⟨e,an,ao⟩:=al.app;have⟨i,y,ar,j,z⟩:=agF r x (d+1) p af o (by rw[c];decide);have⟨ap,w,a1,k,I,B⟩:=g a q e L E ao;have f:oG 0 (a e).k:=uH k;have⟨s,v,a0,av,H,A⟩:=h a q (p+1) e (by omega) an f;refine⟨_,?_,by omega,wy b,.teach b (by omega) i j c (H 0 s e (Int.le_refl _) (mst (by omega) f)) k (by omega) I,λa3 a2 u=>?_⟩
 .rw[dh,fc,y,v,w];rfl
 .have C:(a (d+1+1)).k=46\/(a (d+1+1)).k=21:=by
   cases j with
   |stop=>exact .inr c
   |go t=>exact .inl t
  have K:xE 106 (a (d+1+1)).k=([104,21,119,132],O):=by rcases C with g|g<;>rw[g]<;>decide
  refine DD.exp b (by decide:xE 100 19=([19,1,106,101],O)) n (DD.tok b n (DD.tok i (by omega) (DD.exp rfl K (by omega) (z _ _ (DD.tok c o ?_)))));exact A _ _ (dst (by omega) f (B _ _ u))
def Iq.try_(h:Iq l F)(g:Iq m G)(I:r.length<=1):Bl (sgF 30::(l++(sgF 12::(KC (x::r)++m)))) (one (bN 14 0 0 z0 (x::r)) (F.app G)):=λq p K L C J a1=>by
 have⟨a,b,ad⟩:=J.sg;have⟨n,af,ak⟩:=ad.app;have⟨e,k,al⟩:=ak.sg;have⟨o,an,ao⟩:=al.app;have⟨ar,y,a3,j,H,B⟩:=g q p o L C ao;have⟨f,z,av,i,aK⟩:=agF r x (n+1) o an (by omega) (by rw[j];decide);have⟨ap,w,a2,a0,E,A⟩:=h q p (K+1) n k af;refine⟨_,?_,by omega,wy a,.ttry a b E e (by omega) f i H,λa5 a4 v=>?_⟩
 .rw[dh,fc,z,w,y];rfl
 .refine DD.exp a (by decide:xE 100 30=([30,132,12,1,109,132,101],O)) b (DD.tok a b (A _ _ (DD.tok e k (DD.tok f (by omega) ?_))));have d:=B _ _ v;cases i with
  |stop=>exact DD.exp j (by decide:xE 109 42=([],O)) (by omega) d
  |go c s t u=>
   cases u with
   |stop=>exact DD.exp c (by decide:xE 109 46=([46,1],O)) (by omega) (DD.tok c (by omega) (DD.tok t s d))
   |go=>simp at I
def nH.br0(h:nH l F 0)(g:Iq m G):BRc (l++m) (one (bN 7 0 0 z0 []) (F.app G)):=λa n k i A w d z b=>by
 have⟨c,B,C⟩:=z.app;have⟨o,r,I,s,y,v⟩:=g a n c i d C;have f:oG 0 (a c).k:=uH s;have⟨j,q,H,E,x,u⟩:=h a n (k+1) c (by omega) B f;exact⟨one (jx 7 (a k) (a (i-1)).t) (j.app o),by rw[dh,fc,q,r];rfl,by omega,.bno A w (x 0 j c (Int.le_refl _) (mst (by omega) f)) y b.e.2.2.2.1 b.e.2.2.2.2.1 d,λK J p=>u _ _ (dst (by omega) f (v _ _ (DD.exp rfl (by simp[xE,anq,b.e.2.2.2.1,b.e.2.2.2.2.1]:xE 105 (a i).k=([],O)) d p)))⟩
def nH.br1(h:nH l F 0)(g:Iq m G)(e:Iq p H):BRc (l++(m++(sgF 16::p))) (one (bN 7 0 0 z0 []) ((F.app G).app H)):=λa i k n L B C K ar=>by
 have⟨c,ad,af⟩:=K.app;have⟨o,ak,al⟩:=af.app;have⟨d,b,an⟩:=al.sg;have⟨q,v,aK,x,I,z⟩:=g a i c o b ak;have f:oG 0 (a c).k:=uH x;have⟨j,u,av,ao,E,y⟩:=h a i (k+1) c (by omega) ad f;have⟨r,w,a0,ap,J,A⟩:=e a i (o+1) n C an;exact⟨one (jx 7 (a k) (a (n-1)).t) ((j.app q).app r),by rw[dh,fc,fc,u,v,w];rfl,by omega,.belse L B (E 0 j c (Int.le_refl _) (mst (by omega) f)) I d b J,λa2 a1 s=>y _ _ (dst (by omega) f (z _ _ (DD.exp d (by decide:xE 105 16=([16,132],O)) b (DD.tok d b (A _ _ s)))))⟩
def nH.br2(h:nH l F 0)(g:Iq m G)(e:BRc p H):BRc (l++(m++(sgF 15::p))) (one (bN 7 0 0 z0 []) ((F.app G).app H)):=λa i k n ad C E L B=>by
 have⟨d,af,ak⟩:=L.app;have⟨o,al,an⟩:=ak.app;have⟨c,b,ao⟩:=an.sg;have⟨q,v,av,x,J,z⟩:=g a i d o b al;have f:oG 0 (a d).k:=uH x;have⟨j,u,ar,ap,I,y⟩:=h a i (k+1) d (by omega) af f;have⟨r,w,aK,K,A⟩:=e a i o n (.inr c) b E ao B;exact⟨one (jx 7 (a k) (a (n-1)).t) ((j.app q).app r),by rw[dh,fc,fc,u,v,w];rfl,by omega,.belif ad C (I 0 j d (Int.le_refl _) (mst (by omega) f)) J c b K,λa1 a0 s=>y _ _ (dst (by omega) f (z _ _ (DD.exp c (by decide:xE 105 15=([15,119,132,105],O)) b (DD.tok c b (A _ _ s)))))⟩
def BRc.st(h:BRc l F):Bl (sgF 20::l) F:=λq o m n i k g=>by
 have⟨a,b,p⟩:=k.sg;have⟨c,e,r,j,f⟩:=h q o m n (.inl a) b i p g;exact⟨c,e,by omega,wy a,.tif a b j,λst s d=>DD.exp a (by decide:xE 100 20=([20,119,132,105,101],O)) b (DD.tok a b (f _ _ d))⟩
end
def Fo.plc:Fo->Int->Int->Prop
 | .nil,a,b=>a<=b
 | .cons N k r,a,b=>a<=N.f/\N.f<=N.t/\k.plc N.f N.t/\r.plc N.t b
def anL:∀{R:Fo}{a b c:Int},R.plc a b->c<=a->R.plc c b
 | .nil,a,b,c,h,d=>by simp only[Fo.plc]at h⊢;omega
 | .cons N k r,a,b,c,h,d=>⟨Int.le_trans d h.1,h.2⟩
def acG:∀{x y:Fo}{a b c:Int},x.plc a b->y.plc b c->(x.app y).plc a c
 | .nil,y,a,b,c,h,g=>anL g h
 | .cons N k r,y,a,b,c,h,g=>⟨h.1,h.2.1,h.2.2.1,acG h.2.2.2 g⟩
structure FH (tk:Nat->Tk) (n:Nat):Prop where
 ft:∀{q r:Nat},q<=r->r<n->(tk q).f<=(tk r).t
 o:∀{q r:Nat},q<r->r<n->(tk q).t<=(tk r).f
section
variable {tk : Nat → Tk} {n : Nat} {x y : Fo} {N : Nd} {q r i j k k' : Nat}
def FH.tt(a:FH tk n)(h:q<=r)(b:r<n):(tk q).t<=(tk r).t:=by
 rcases ie h with rfl|g
 .exact Int.le_refl _
 .exact Int.le_trans (a.o g b) (a.ft (ag _) b)
def FH.ff(a:FH tk n)(h:q<=r)(b:r<n):(tk q).f<=(tk r).f:=by
 rcases ie h with rfl|g
 .exact Int.le_refl _
 .exact Int.le_trans (a.ft (ag _) (by omega)) (a.o g b)
def pj(tk:Nat->Tk)(x:Fo)(i j:Nat):Prop:=∀a b,a<=(tk i).f->(∀r,r<j->(tk r).t<=b)->a<=b->x.plc a b
def acH:pj tk .nil i j:=λb c _ _ a=>a
def pj.up(a:FH tk n)(h:pj tk x i j)(d:q<=i:=by omega)(m:j<=r:=by omega)(e:i<n:=by omega):pj tk x q r:=λb c f k g=>h b c (Int.le_trans f (a.ff d e)) (λl o=>k l (by omega)) g
def pj.app(a:FH tk n)(f:pj tk x i k)(g:pj tk y k' j)(h:i<k:=by omega)(l:k<=k':=by omega)(m:k'<=j:=by omega)(p:j<n:=by omega):pj tk (x.app y) i j:=λd e b c q=>
 acG (f d (tk (k-1)).t b (λs r=>a.tt (by omega) (by omega)) (Int.le_trans b (a.ft (by omega) (by omega)))) (g _ e (a.o (by omega) (by omega)) c (c _ (by omega)))
def pj.one(a:FH tk n)(o:pj tk x i k)(c:N.f=(tk q).f)(ht:N.t=(tk r).t)(e:q<=i:=by omega)(u:k<=r+1:=by omega)(b:r<n:=by omega)(d:q<=r:=by omega)(g:i<n:=by omega)(h:r<j:=by omega):pj tk (Go.Proofs.YtbkolnpplhbdmaaGreatDoor.one N x) q j:=λp s l m v=>
 ⟨by rw[c];exact l,by rw[c,ht];exact a.ft d b,by rw[c,ht];exact o _ _ (a.ff e g) (λy w=>a.tt (by omega) b) (a.ft d b),by rw[ht];exact m r h⟩
def pj.leaf(a:FH tk n)(b:N.f=(tk q).f)(ht:N.t=(tk r).t)(c:r<n:=by omega)(d:q<=r:=by omega)(e:r<j:=by omega):pj tk (Go.Proofs.YtbkolnpplhbdmaaGreatDoor.one N .nil) q j:=pj.one a (i:=q) (k:=0) acH b ht
def PlT(tk:Nat->Tk):uE->Nat->Fo->Nat->Prop
 | .more _ s x,i,R,j=>∀q,q<i->s=tk q->pj tk x q i->pj tk R q j
 | .post s x,i,R,j=>∀q,q<i->s=tk q->pj tk x q i->pj tk R q j
 | .body s,i,R,j=>∀q,q<=i->s=tk q->pj tk R q j
 |_,i,R,j=>pj tk R i j
def agG(k:Int)(s:Tk)(e:Int):(sn k s e).f=s.f/\(sn k s e).t=e:=by unfold sn;split;exact⟨rfl,rfl⟩;split<;>exact⟨rfl,rfl⟩
def P.plx(a:FH tk n){t:uE}{R:Fo}(h:P tk n t i R j):PlT tk t i R j:=by
 induction h
 case upre h1 h2 h3 ih=>have b:=h3.pos;simp only[bH]at b;exact pj.one a ih rfl rfl
 case ufn h1 h2 h3 ih=>exact ih _ (by omega) rfl
 case utab h1 h2 h3 h4 h5 ih=>have b:=h3.pos;simp only[bH]at b;exact pj.one a ih rfl rfl
 case ubas h1 h2 h3 ih=>exact ih
 case ex h1 h2 h3 h4 i1 i2=>have b:=h3.pos;simp only[bH]at b;exact i2 _ (by omega) rfl i1
 case mstop h1 h2=>exact λd _ _ h=>h
 case mgo s x y R k k1 j h1 h2 h3 h4 h5 i1 i2=>
  intro d g e f;have b:=h4.pos;simp only[bH]at b;subst e;exact i2 d (by omega) rfl (pj.one a (f.app a i1) (agG ..).1 (agG ..).2)
 case bname h1 h2 h3 ih=>have b:=h3.pos;simp only[bH]at b;exact ih _ (by omega) rfl (pj.leaf a rfl rfl)
 case bopen i k j N ks R h1 h2 h3 h4 h5 h6 i1 i2=>
  have b:=h3.pos;simp only[bH]at b;refine i2 _ (by omega) rfl ?_;unfold mh;split
  .exact pj.one a i1 rfl rfl
  .exact i1.up a
 case pstop h1 h2=>exact λd _ _ h=>h
 case pdot h1 h2 h3 h4 ih=>
  intro d g e f;subst e;exact ih d (by omega) rfl (pj.one a f rfl rfl)
 case pcall0 h1 h2 h3 h4 ih=>
  intro d g e f;subst e;exact ih d (by omega) rfl (pj.one a f rfl rfl)
 case psq h1 h2 h3 h4 h5 h6 i1 i2=>
  intro d g e f;have b:=h3.pos;simp only[bH]at b;subst e;exact i2 d (by omega) rfl (pj.one a (f.app a i1) rfl rfl)
 case pcall h1 h2 h3 h4 h5 h6 h7 i1 i2=>
  intro d g e f;have b:=h4.pos;simp only[bH]at b;subst e;exact i2 d (by omega) rfl (pj.one a (f.app a i1) rfl rfl)
 case es h1 h2 i1 i2=>have c:=h1.pos;have p2:=h2.pos;simp only[bH]at c p2;exact i1.app a i2
 case ego h1 h2 h3 h4 i1 i2=>have c:=h3.pos;have p2:=h4.pos;simp only[bH]at c p2;exact(i1.app a i2).up a
 case bgo h1 h2 h3 h4 i1 i2=>have c:=h3.pos;have p2:=h4.pos;simp only[bH]at c p2;exact(i1.app a i2).up a
 case body h1 h2 h3 h4 ih=>
  intro d g e;have b:=h3.pos;have p2:=h4.pos;simp only[bH]at p2;subst e;exact pj.one a ih rfl rfl
 case block h1 h2 h3 h4 h5 ih=>have b:=h3.pos;simp only[bH]at b;exact pj.one a ih rfl rfl
 case ssep h1 h2 h3 ih=>have b:=h3.pos;simp only[bH]at b;exact ih.up a
 case sgo h1 h2 h3 h4 h5 h6 i1 i2=>have c:=h5.pos;have p2:=h6.pos;simp only[bH]at c p2;exact i1.app a i2
 case ncom h1 h2 h3 h4 h5 h6 i1 i2=>have c:=h3.pos;have p2:=h6.pos;simp only[bH]at c p2;exact i1.app a i2
 case nlast h1 h2 h3 h4 h5 h6 i1 i2=>have c:=h3.pos;have p2:=h6.pos;simp only[bH]at c p2;exact i1.app a i2
 case item h1 h2 h3 h4 h5 ih=>have b:=h5.pos;simp only[bH]at b;exact pj.one a ih rfl rfl
 case pair h1 h2 h3 h4 h5 h6 h7 i1 i2=>have c:=h3.pos;have p2:=h7.pos;simp only[bH]at c p2;exact pj.one a (i1.app a i2) rfl rfl
 case named h1 h2 h3 h4 h5 ih=>have b:=h5.pos;simp only[bH]at b;exact pj.one a ih rfl rfl
 case belif h1 h2 h3 h4 h5 h6 h7 i1 i2 i3=>have c:=h3.pos;have p2:=h4.pos;have l:=h7.pos;simp only[bH]at c p2 l;exact pj.one a ((i1.app a i2).app a i3) rfl rfl
 case belse h1 h2 h3 h4 h5 h6 h7 i1 i2 i3=>have c:=h3.pos;have p2:=h4.pos;have l:=h7.pos;simp only[bH]at c p2 l;exact pj.one a ((i1.app a i2).app a i3) rfl rfl
 case bno h1 h2 h3 h4 h5 h6 h7 i1 i2=>have c:=h3.pos;have p2:=h4.pos;simp only[bH]at c p2;exact pj.one a (i1.app a i2) rfl rfl
 case tlet0 h1 h2 h3 h4 h5=>have b:=h4.pos;exact pj.leaf a rfl rfl
 case tlet h1 h2 h3 h4 h5 h6 ih=>have b:=h4.pos;have p2:=h6.pos;simp only[bH]at p2;exact pj.one a ih rfl rfl
 case tcon h1 h2 h3 h4 h5 ih=>have b:=h5.pos;simp only[bH]at b;exact pj.one a ih rfl rfl
 case tfn h1 h2 h3 h4 h5 ih=>have b:=h5.pos;simp only[bH]at b;exact pj.one a (ih _ (ag _) rfl) rfl rfl
 case tif h1 h2 h3 ih=>exact ih
 case twhile h1 h2 h3 h4 i1 i2=>have c:=h3.pos;have p2:=h4.pos;simp only[bH]at c p2;exact pj.one a (i1.app a i2) rfl rfl
 case tfor h1 h2 h3 h4 h5 h6 h7 i1 i2=>have b:=h4.pos;have c:=h6.pos;have p2:=h7.pos;simp only[bH]at c p2;exact pj.one a (i1.app a i2) rfl rfl
 case teach h1 h2 h3 h4 h5 h6 h7 h8 h9 i1 i2=>have b:=h4.pos;have c:=h6.pos;have p2:=h9.pos;simp only[bH]at c p2;exact pj.one a (i1.app a i2) rfl rfl
 case tret h1 h2 h3 h4 ih=>have b:=h4.pos;simp only[bH]at b;exact pj.one a ih rfl rfl
 case ttry h1 h2 h3 h4 h5 h6 h7 h8 i1 i2=>have b:=h7.pos;have c:=h3.pos;have p2:=h8.pos;simp only[bH]at c p2;exact pj.one a (i1.app a i2) rfl rfl
 case tthrow h1 h2 h3 ih=>have b:=h3.pos;simp only[bH]at b;exact pj.one a ih rfl rfl
 case tdefer h1 h2 h3 ih=>have b:=h3.pos;simp only[bH]at b;exact pj.one a ih rfl rfl
 case tblock h1 h2 h3 ih=>exact ih
 case tdo h1 h2 h3 h4 h5 h6 ih=>have b:=h3.pos;simp only[bH]at b;exact pj.one a ih rfl rfl
 case tset h1 h2 h3 h4 h5 h6 h7 i1 i2 i3=>have c:=h3.pos;have p2:=h4.pos;have l:=h7.pos;simp only[bH]at c p2 l;exact pj.one a ((i1.app a i2).app a i3) rfl rfl
 all_goals first
  |exact acH
  |exact pj.leaf a rfl rfl
end
def KD(w:Z)(base mb n:Nat)(R:List (Int×List (List Int)))(H:RM w base mb n R)(c:n<=100):
  Ak S 47 #[.map (T mb)] w λe b=>e= .returned (.tuple #[])/\RM b base mb (n+10) ((109,[[46,1,109],[]])::(108,[[42,100,43]])::(107,[[15,117,108,107],[16,108],[]])::(106,[[46,1],[]])::(105,[[46,117],[]])::(104,[[47,117,46,117,105,108],[21,117,108],[46,1,109,21,117,108]])::(103,[[47,110],[]])::(102,[[22,1,109,103],[13,1,47,117],[18,1,113],[20,117,108,107],[31,117,108],[19,1,104],[11],[23],[27,111],[30,108,12,1,106,108],[28,117],[14,131],[108],[1,125],[40,117,41,127]])::(101,[[5,100],[]])::(100,[[5,100],[102,101],[]])::R)/\Below base w b:=by
 have a:Below base w w:=ah _ _;go_in;go_wp2_with (at_mapUpdate;first
  |(refine bi rfl _ _ _ rfl rfl H ((ah _ _).alloc (ag _) _) (by omega) 100 (by decide) (by decide) rfl _ rfl [[5,100],[102,101],[]] ?own a ?_;(case own=>exact eu _ _ [[5,100],[102,101],[]] 3 rfl rfl (by decide) (by decide));clear H a;intro w1 H a)
  |(refine bi rfl _ _ _ rfl rfl H ((ah _ _).alloc (ag _) _) (by omega) 101 (by decide) (by decide) rfl _ rfl [[5,100],[]] ?own a ?_;(case own=>exact eu _ _ [[5,100],[]] 2 rfl rfl (by decide) (by decide));clear H a;intro w1 H a)
  |(refine bi rfl _ _ _ rfl rfl H ((ah _ _).alloc (ag _) _) (by omega) 102 (by decide) (by decide) rfl _ rfl [[22,1,109,103],[13,1,47,117],[18,1,113],[20,117,108,107],[31,117,108],[19,1,104],[11],[23],[27,111],[30,108,12,1,106,108],[28,117],[14,131],[108],[1,125],[40,117,41,127]] ?own a ?_;(case own=>exact eu _ _ [[22,1,109,103],[13,1,47,117],[18,1,113],[20,117,108,107],[31,117,108],[19,1,104],[11],[23],[27,111],[30,108,12,1,106,108],[28,117],[14,131],[108],[1,125],[40,117,41,127]] 15 rfl rfl (by decide) (by decide));clear H a;intro w1 H a)
  |(refine bi rfl _ _ _ rfl rfl H ((ah _ _).alloc (ag _) _) (by omega) 103 (by decide) (by decide) rfl _ rfl [[47,110],[]] ?own a ?_;(case own=>exact eu _ _ [[47,110],[]] 2 rfl rfl (by decide) (by decide));clear H a;intro w1 H a)
  |(refine bi rfl _ _ _ rfl rfl H ((ah _ _).alloc (ag _) _) (by omega) 104 (by decide) (by decide) rfl _ rfl [[47,117,46,117,105,108],[21,117,108],[46,1,109,21,117,108]] ?own a ?_;(case own=>exact eu _ _ [[47,117,46,117,105,108],[21,117,108],[46,1,109,21,117,108]] 3 rfl rfl (by decide) (by decide));clear H a;intro w1 H a)
  |(refine bi rfl _ _ _ rfl rfl H ((ah _ _).alloc (ag _) _) (by omega) 105 (by decide) (by decide) rfl _ rfl [[46,117],[]] ?own a ?_;(case own=>exact eu _ _ [[46,117],[]] 2 rfl rfl (by decide) (by decide));clear H a;intro w1 H a)
  |(refine bi rfl _ _ _ rfl rfl H ((ah _ _).alloc (ag _) _) (by omega) 106 (by decide) (by decide) rfl _ rfl [[46,1],[]] ?own a ?_;(case own=>exact eu _ _ [[46,1],[]] 2 rfl rfl (by decide) (by decide));clear H a;intro w1 H a)
  |(refine bi rfl _ _ _ rfl rfl H ((ah _ _).alloc (ag _) _) (by omega) 107 (by decide) (by decide) rfl _ rfl [[15,117,108,107],[16,108],[]] ?own a ?_;(case own=>exact eu _ _ [[15,117,108,107],[16,108],[]] 3 rfl rfl (by decide) (by decide));clear H a;intro w1 H a)
  |(refine bi rfl _ _ _ rfl rfl H ((ah _ _).alloc (ag _) _) (by omega) 108 (by decide) (by decide) rfl _ rfl [[42,100,43]] ?own a ?_;(case own=>exact eu _ _ [[42,100,43]] 1 rfl rfl (by decide) (by decide));clear H a;intro w1 H a)
  |(refine bi rfl _ _ _ rfl rfl H ((ah _ _).alloc (ag _) _) (by omega) 109 (by decide) (by decide) rfl _ rfl [[46,1,109],[]] ?own a ?_;(case own=>exact eu _ _ [[46,1,109],[]] 2 rfl rfl (by decide) (by decide));clear H a;intro w1 H a))
 go_end0
 exact⟨rfl,H,a⟩
