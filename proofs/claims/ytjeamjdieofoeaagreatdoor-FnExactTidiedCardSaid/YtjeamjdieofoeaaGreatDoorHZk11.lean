import Derived.Test.YtjeamjdieofoeaaGreatDoorHZk09
import Derived.WalkSmall
set_option linter.all false
set_option maxRecDepth 100000
set_option maxHeartbeats 25600000
open Option renaming some->M,none->O
open Go.Value renaming int->U,ownBlock->A2,slice->A5,int->B0,slice->E2,string->F0,string->F1,bool->Ga,agg->G3,tuple->Hm,pointer->H0
open Go.IntKind renaming i64->Y,u8->Hn
open Go.Proofs.Tryz renaming prog->Ax
open Go renaming Value->A0,World->A9,Calls->B4,TypeId->E0,maxLen->E1,ownsRow_succ->Fs,wpList_append_own_at->G2
open Go.RowKit renaming Below->Br,Hid->B1,intOf->F2
open Go.Ending renaming returned->Bs
open Go.World renaming setCell->B3,news_of_block->B7,putObj_heap_other->G0
open Go.Obj renaming cells->B6
open Bool renaming false->Cb,true->Er
open List renaming replicate->C2,set->H1
namespace Go.Proofs.YtjeamjdieofoeaaGreatDoor
open Go.RowKit Go.Maps Go.WideMaps
variable{B base e g gb i j k m mb n s size:Nat}{C:List (Int×Int)}{L:List (List Int)}{L1:List Mb}{Q:Exit->Act->World->Prop}{R:Fo}{Res:List Int×Bool}{W W' w w':World}{a:Act}{c:List Nat}{ns:List ByteArray}{o:Oper}{ops:Array Oper}{p r:Nat×TypeId×Array Value}{st:List Int}{t:TypeId}{tk:Nat->Tk}{u v v0:Value}{xs:List Value}
theorem Gk:(Tryz.prog.info? 191).map (fun i=>(i.zero,i.size,i.bytes))=M (M (G3 #[U Hn 0,U Hn 0,U Hn 0,U Hn 0,U Hn 0,U Hn 0]),6,6):=by kernel_rfl
def rc(r:List Int):List A0:=(r++C2 (6-r.length) 0).map (B0 Hn)
def Cj(a:List (List Int)):List A0:=a.flatMap rc
theorem abk(a B:List (List Int)):Cj (a++B)=Cj a++Cj B:=by simp[Cj]
def we(v:A0):Option (DataW A0×List MemPlace):=M (.held v,[])
def zb(R:List (Int×List (List Int)))(a:Int):List (List Int):=((R.find? (fun p=>p.1==a)).map (·.2)).getD []
theorem rl(a:Int)(b:List (List Int))(R:List (Int×List (List Int))):zb ((a,b)::R) a=b:=by simp[zb]
theorem pi{a b:Int}(h:a≠b)(c:List (List Int))(R:List (Int×List (List Int))):zb ((a,c)::R) b=zb R b:=by
 unfold zb;rw[List.find?_cons_of_neg (by simpa using h)]
def im(W:A9)(base:Nat)(v:A0)(a:List (List Int)):Prop:=W.ownsRow base 191 6 v a.length (Cj a)
def afd(f:Int->A0):Prop:=∀a b,0<=a->a<=255->0<=b->b<=255->a≠b->(f a).ownBlock=O\/(f a).ownBlock≠(f b).ownBlock
structure RM (W:A9) (base mb n:Nat) (R:List (Int×List (List Int))):Prop where
 ex:∃(D:DataW A0) (f:Int->A0),W.ownsMap Ax 115 we mb n D/\(∀a,0<=a->a<=255->D.atKey (.int .u8 a) (.held (.slice O 0 0))= .held (f a)/\im W base (f a) (zb R a))/\afd f
 lo:base<=mb
theorem Lx:Keyed Ax 115:=int_keyed Tryz.underlying115
theorem im.keep(h:im W base v L)(a:Br W.heap.size W W'):im W' base v L:=cJ h a
theorem RM.congr{R b:List (Int×List (List Int))}(h:RM W base mb n R)(j:∀a,0<=a->a<=255->zb R a=zb b a):RM W base mb n b:=by
 obtain⟨D,e,f,g,i⟩:=h.ex;exact⟨⟨D,e,f,fun a c d=>by rw[<-j a c d];exact g a c d,i⟩,h.lo⟩
theorem RM.mono{a:Nat}{R:List (Int×List (List Int))}(h:RM W base mb n R)(e:n<=a):RM W base mb a R:=by
 obtain⟨D,b,c,d⟩:=h.ex;exact⟨⟨D,b,c.mono e,d⟩,h.lo⟩
theorem ve{e:Array MapEntry}{c:Nat}(h:im W base v L)(i:W.heap[mb]?=M (.map e c))(g:W.grownBy W' (M mb)):im W' base v L:=by
 refine AK h g ?_;rcases bu h with⟨_,rfl⟩|⟨f,j,rfl⟩
 ·exact .inl rfl
 ·refine .inr ?_;intro d;obtain rfl:f=mb:=by simpa [A2] using d
  rcases h.2 with⟨a,_⟩|⟨m,k,l,a,_,b,_⟩
  ·cases a
  ·cases a;rw[i]at b;cases b
theorem Ly{a:Int}(b:0<=a)(c:a<=255):keyOf Ax 115 (.int .u8 a)=M (.int .u8 a):=keyOf_int_mk Tryz.underlying115 (WalkArith.wf_u8 ⟨b,c⟩)
theorem bi{H:List Oper}{I:A9}{R:List (Int×List (List Int))}
  (k:o.guard=O) (m x v:Operand) (av:o.op=Op.mapUpdate 107 m x v) (ao:a.eval m= .map (M mb)) (h:RM W base mb n R) (f:Br W.heap.size W w) (a9:n<1000) (s:Int) (s0:0<=s) (a4:s<=255) (a3:a.eval x= .int .u8 s)
  (c:A0) (a2:a.eval v=c) (p:List (List Int)) (u:im w W.heap.size c p) (ak:Br base I W)
  (al:∀w',RM w' base mb (n+1) ((s,p)::R)->Br base I w'->wpList Ax ops Q H (a.put o.dst undef) w'):wpList Ax ops Q (o::H) a w:=by
 obtain⟨D,e,q,r,af⟩:=h.ex;have a8:=q.lt;have am:base<=W.heap.size:=by have:=h.lo;omega
 have B:=q.kept (row:=O) ⟨f.os,f.tape,f.output,f.size,fun G an _=>f.block G an⟩ (by simp);refine wpList_mapUpdate_own w k m x v 107 av 115 232 Lx Tryz.underlying107 we mb n D ao B (by unfold E1;omega) _ _ _ a3 a2 (Ly s0 a4) (.held c) [] rfl ?_;intro w' ar t;obtain⟨a7,a5,C,_⟩:=B;refine al w' ⟨⟨_,fun a=>if a=s then c else e a,ar,fun a g i=>?_,?_⟩,h.lo⟩ ?_
 ·by_cases d:a=s
  ·subst d;rw[rl,atKey_put_same q.isMap (by trivial)];show DataW.held c=DataW.held (if a=a then c else e a)/\im w' base (if a=a then c else e a) p;rw[ab rfl];refine⟨rfl,ve (h:=?_) C t⟩;refine⟨u.1,?_⟩;rcases u.2 with h|⟨b,J,K,L,a6,ad⟩
   ·exact .inl h
   ·exact .inr ⟨b,J,K,L,by omega,ad⟩
  ·show _=DataW.held (if a=s then c else e a)/\im w' base (if a=s then c else e a) _;rw[pi (fun h=>d h.symm),aa d,atKey_put_other (by intro h;injection h with _ h;exact d h)];exact⟨(r a g i).1,ve ((r a g i).2.keep f) C t⟩
 ·have F:∀b,c.ownBlock=M b->W.heap.size<=b:=fun b k=>(u.lt b k).1;have E:∀a,0<=a->a<=255->∀b,(e a).ownBlock=M b->b<W.heap.size:=fun a g i b k=>((r a g i).2.lt b k).2;intro a j g i y l ap;show(if a=s then c else e a).ownBlock=O\/(if a=s then c else e a).ownBlock≠(if j=s then c else e j).ownBlock;by_cases z:a=s
  ·rw[ab z,aa (by omega)];cases hq:c.ownBlock with
   |none=>exact .inl rfl
   |some b=>exact .inr (fun d=>by have:=F b hq;have:=E j y l b d.symm;omega)
  ·rw[aa z];by_cases A:j=s
   ·rw[ab A];cases hq:(e a).ownBlock with
    |none=>exact .inl rfl
    |some b=>exact .inr (fun d=>by have:=E a g i b hq;have:=F b d.symm;omega)
   ·rw[aa A];exact af a j g i y l ap
 ·have l:=f.mono am;refine ak.trans ?_;exact l.grown t (by have:=f.size;omega) (fun G d=>by cases d;exact h.lo)
theorem dx(w:A9)(cs:Array A0)(a:List (List Int))(n:Nat)(f:a.length=n)(e:cs.toList=Cj a)(k:n<=1000)(c:∀r∈a,r.length<=6):im (w.alloc (B6 cs 191 (0,0))) w.heap.size (A5 (M ⟨w.heap.size,0,O⟩) n n) a:=by
 have b:∀a:List (List Int),(∀r∈a,r.length<=6)->(Cj a).length=a.length*6:=by
  intro a
  induction a with
  |nil=>intro _;rfl
  |cons r a i=>
   intro d;have:=d r (by simp);rw[show Cj (r::a)=rc r++Cj a from rfl,aK,i (fun j h=>d j (by simp[h]))];simp[rc];omega
 have g:cs.size=n*6:=by rw[<-ib,e,b a c,f]
 refine⟨by rw[b a c],.inr ⟨w.heap.size,n,cs,by rw[f],ag _,aA w _,by omega,by unfold E1;omega,g,?_⟩⟩;rw[e,cA (by rw[b a c];exact ag _)]
theorem Lz(p c:Int)(w:A9):
  B4 Ax 196 #[U Hn p,U Hn c] w fun e w'=>e= Bs (A5 (M ⟨w.heap.size,0,O⟩) 3 3)/\im w' w.heap.size (A5 (M ⟨w.heap.size,0,O⟩) 3 3) (my p c)/\Br w.heap.size w w':=by
 go_in;go_wp2;go_ret;exact⟨rfl,dx _ _ (my p c) 3 rfl rfl (by decide) (by simp[my]),(ah _ _).alloc (ag _) _⟩
theorem abl:∀u∈Cj L,u.oneCell'=Er:=by
 intro u b;unfold Cj at b;rw[List.mem_flatMap]at b;obtain⟨c,_,a⟩:=b;unfold rc at a;rw[List.mem_map]at a;obtain⟨d,_,rfl⟩:=a;rfl
theorem abm:∀{L:List (List Int)},(∀r∈L,r.length<=6)->(Cj L).length=L.length*6:=by
 intro L
 induction L with
 |nil=>intro _;rfl
 |cons r L c=>
  intro a;have:=a r (by simp);rw[show Cj (r::L)=rc r++Cj L from rfl,aK,c (fun d b=>a d (by simp[b]))];simp[rc];omega
theorem ui{g:List Oper}{b:A9}(l:o.guard=O)(s x:Operand)
  (p:o.op= .call {callee:= .builtin .append,args:=#[s,x],argTypes:=#[232,232]}) (t:a.eval s=v) (e:im b W.heap.size v L) (hS:Br W.heap.size W b) (cs:Array A0) (m:Nat) (u:a.eval x= .slice (M ⟨b.heap.size,0,O⟩) m m) (c:List (List Int)) (f:c.length=m) (k:cs.toList=Cj c) (q:∀r∈c,r.length<=6)
  (E:L.length+m<=1000)
  (j:∀d w',im w' W.heap.size d (L++c)->Br W.heap.size W w'->wpList Ax ops Q g (a.put o.dst d) w'):wpList Ax ops Q (o::g) a (b.alloc (.cells cs 191 (0,0))):=by
 obtain⟨w,y,z,A,B⟩:=du Gk;refine oe _ l s x 232 p W.heap.size 191 w _ 6 6 Tryz.underlying232 y z A B rfl (by decide) v L.length (Cj L) t (World.ownsRow.alloc e _) ⟨b.heap.size,0,O⟩ m m (Cj c) u (by rw[abm q,f]) ?_ abl (by unfold E1;omega) (by omega) (by have:=hS.size;simp;omega) ?_
 ·rw[<-k];exact B7 (cs:=cs) (fr:=(0,0)) (aA b _)
 ·intro d w' h i _;refine j d w' ?_ ?_
  ·unfold im;rw[abk,aK,f];exact h
  ·exact(hS.alloc hS.size _).grown i (by have:=hS.size;simp;omega) (fun C n=>(e.lt C n).1)
theorem Je(w:A9)(base mb n:Nat)(R:List (Int×List (List Int)))(H:RM w base mb n R)(g:n<=100):
  B4 Ax 127 #[.map (M mb)] w fun e w'=>e= Bs (Hm #[])/\RM w' base mb (n+10) ((120,my 120 120++[[]])::(133,my 132 133++[[]])::(132,my 132 133)::(131,[[1,132],[40,117,41,132]])::(130,my 129 130)::(129,my 129 130++[[46,128],[47,110]])::(128,[[1,129],[40,117,41,130]])::(127,my 125 126)::(126,my 125 126++[[]])::(125,my 125 126++[[46,128],[47,110]])::R)/\Br base w w':=by
 have a:Br base w w:=ah _ _;go_in;go_wp2_with (first
  |(go_at_call 196;refine(Lz _ _ _).mono ?_;rintro e h ⟨rfl,b,hS⟩)
  |(at_builtin;first
   |(refine ui rfl _ _ rfl rfl b hS _ 2 rfl [[46,128],[47,110]] rfl rfl (by decide) (by decide) ?_;clear b hS;intro d f b hS)
   |(refine ui rfl _ _ rfl rfl b hS _ 1 rfl [[]] rfl rfl (by decide) (by decide) ?_;clear b hS;intro d f b hS))
  |(at_mapUpdate;first
   |(refine bi rfl _ _ _ rfl rfl H hS (by omega) _ (by decide) (by decide) rfl _ rfl _ b a ?_;clear H a b hS;intro c H a)
   |(refine bi rfl _ _ _ rfl rfl H ((ah _ _).alloc (ag _) _) (by omega) 128 (by decide) (by decide) rfl _ rfl [[1,129],[40,117,41,130]] ?own a ?_;(case own=>exact dx _ _ [[1,129],[40,117,41,130]] 2 rfl rfl (by decide) (by decide));clear H a;intro c H a)
   |(refine bi rfl _ _ _ rfl rfl H ((ah _ _).alloc (ag _) _) (by omega) 131 (by decide) (by decide) rfl _ rfl [[1,132],[40,117,41,132]] ?own a ?_;(case own=>exact dx _ _ [[1,132],[40,117,41,132]] 2 rfl rfl (by decide) (by decide));clear H a;intro c H a)))
 go_end0
 exact⟨rfl,H,a⟩
def Jf:Array A0:=#[U Y 26,U Y 1,U Y 2,U Y 10,U Y 2,U Y 3,U Y 73,U Y 3,U Y 4,U Y 74,U Y 3,U Y 4,U Y 75,U Y 3,U Y 4,U Y 76,U Y 3,U Y 4,U Y 77,U Y 3,U Y 4,U Y 78,U Y 3,U Y 4,
 U Y 72,U Y 4,U Y 4,U Y 68,U Y 5,U Y 6,U Y 69,U Y 6,U Y 7,U Y 67,U Y 7,U Y 8,U Y 70,U Y 8,U Y 9,U Y 71,U Y 8,U Y 9,U Y 61,U Y 9,U Y 10,U Y 62,U Y 9,U Y 10,
 U Y 63,U Y 10,U Y 11,U Y 64,U Y 10,U Y 11,U Y 65,U Y 10,U Y 11,U Y 66,U Y 10,U Y 11]
def Gl:List Int:=[26,10,73,74,75,76,77,78,72,68,69,67,70,71,61,62,63,64,65,66]
def aiv(k:Nat):Int:=match Jf.getD k (U Y 0) with| .int _ a=>a|_=>0
theorem aoy(k:Nat)(a:k<20)(w:A9):(Instr.index 234 (G3 Jf) (U Y (k:Int))).run Ax w= .ok (G3 #[U Y (Gl.getD k 0),U Y (aiv (3*k+1)),U Y (aiv (3*k+2))]) w:=by
 rcases(show k=0\/k=1\/k=2\/k=3\/k=4\/k=5\/k=6\/k=7\/k=8\/k=9\/k=10\/k=11\/k=12\/k=13\/k=14\/k=15\/k=16\/k=17\/k=18\/k=19 by omega) with rfl|rfl|rfl|rfl|rfl|rfl|rfl|rfl|rfl|rfl|rfl|rfl|rfl|rfl|rfl|rfl|rfl|rfl|rfl|rfl;all_goals kernel_rfl
def Av(k:Nat):List (List Int):=(Gl.take k).map fun x=>[x,118,119]
theorem ade(k:Nat)(b:k<20):Av (k+1)=Av k++[[Gl.getD k 0,118,119]]:=by
 unfold Av;rw[iI,dF];have a:Gl[k]?=M (Gl.getD k 0):=by
  rw[be];rw[aJ (by simpa [Gl] using b)];rfl
 rw[a];rfl
theorem afe(k:Nat)(a:k<=20):(Av k).length=k:=by
 unfold Av;rw[cj,eD];show min k 20=k;omega
theorem aiw:∀k:Fin 20,0<=Gl.getD k.val 0/\Gl.getD k.val 0<=100:=by decide
theorem aG{b:Nat}{o:Obj}(h:w.heap[b]?=M o):b<w.heap.size:=(Array.getElem?_eq_some_iff.1 h).1
theorem qA{c:List Oper}{D:DataW A0}(p:o.guard=O)(m x:Operand)(r:o.op=Op.lookup 107 m x Cb)(q:a.eval m= .map (M mb))
  (h:W.ownsMap Ax 115 we mb n D) (u:w.heap[mb]?=W.heap[mb]?) (s:Int) (s0:0<=s) (z:s<=255) (y:a.eval x= .int .u8 s) (l:D.atKey (.int .u8 s) (.held (.slice O 0 0))= .held v)
  (j:wpList Ax ops Q c (a.put o.dst v) w):wpList Ax ops Q (o::c) a w:=by
 refine wpList_plain p fun A k=>?_;have i:w.ownsMap Ax 115 we mb n D:=by
  obtain⟨g,d,e,f⟩:=h;exact⟨g,d,u.trans e,f⟩
 obtain⟨C,B,t,b⟩:=i.lookup Lx Tryz.underlying107 (show(zeroValue 232).run Ax w= .ok (.slice O 0 0) w by kernel_rfl) (zd:= .held (.slice O 0 0)) (zp:=[]) rfl (Ly s0 z);rw[l]at b;unfold we at b;simp only[ee,ic,DataW.held.injEq]at b;obtain⟨rfl,_⟩:=b;unfold Oper.wp;simp[execOp,r,q,y,t,Result.andThen];exact k _ _ j
theorem Ck{ap:List Oper}{ar I:A9}{R:List (Int×List (List Int))}{D:DataW A0}{f:Int->A0}
  (E:o.guard=O) (m x v:Operand) (ba:o.op=Op.mapUpdate 107 m x v) (a6:a.eval m= .map (M mb))
  (r:W.ownsMap Ax 115 we mb n D) (p:∀a,0<=a->a<=255->D.atKey (.int .u8 a) (.held (.slice O 0 0))= .held (f a)/\im W base (f a) (zb R a)) (t:afd f) (lo:base<=mb) (s:Int) (q:Br W.heap.size W I) (G:I.grownBy w (f s).ownBlock) (bk:n<1000)
  (s0:0<=s) (j:s<=255) (bd:a.eval x= .int .u8 s) (b:A0) (bc:a.eval v=b) (y:List (List Int)) (a8:im w base b y) (ak:b.ownBlock=(f s).ownBlock\/b.ownBlock=M I.heap.size) (a3:Br base ar W)
  (a4:∀w',RM w' base mb (n+1) ((s,y)::R)->Br base ar w'->wpList Ax ops Q ap (a.put o.dst undef) w'):wpList Ax ops Q (o::ap) a w:=by
 have a7:=r.lt;obtain⟨ad,K,C,an⟩:=r;have al:=(q.block _ a7).trans C;have H:∀c,(f s).ownBlock=M c->mb≠c:=by
  intro c u;have bb:=(p s s0 j).2;rcases bb.2 with⟨h,_⟩|⟨av,bf,bh,h,_,af,_⟩
  ·rw[h]at u;cases u
  ·rw[h]at u;obtain rfl:av=c:=by simpa [A2] using u
   rintro rfl;rw[C]at af;cases af
 have B:=(G.block mb (aG al) (fun e=>H mb e.symm rfl)).trans al;have a2:w.ownsMap Ax 115 we mb n D:=⟨ad,K,B,an⟩;have r:W.ownsMap Ax 115 we mb n D:=⟨ad,K,C,an⟩;refine wpList_mapUpdate_own w E m x v 107 ba 115 232 Lx Tryz.underlying107 we mb n D a6 a2 (by unfold E1;omega) _ _ _ bd bc (Ly s0 j) (.held b) [] rfl ?_;intro w' a9 F;refine a4 w' ⟨⟨_,fun a=>if a=s then b else f a,a9,fun a d g=>?_,?_⟩,lo⟩ ?_
 ·by_cases e:a=s
  ·subst e;rw[rl,atKey_put_same r.isMap (by trivial)];show DataW.held b=DataW.held (if a=a then b else f a)/\im w' base (if a=a then b else f a) y;rw[ab rfl];exact⟨rfl,ve a8 B F⟩
  ·show _=DataW.held (if a=s then b else f a)/\im w' base (if a=s then b else f a) _;rw[pi (fun h=>e h.symm),aa e,atKey_put_other (by intro h;injection h with _ h;exact e h)];exact⟨(p a d g).1,ve (AK ((p a d g).2.keep q) G (t a s d g s0 j e)) B F⟩
 ·have am:∀a,0<=a->a<=255->∀c,(f a).ownBlock=M c->c<W.heap.size:=fun a d g c E=>((p a d g).2.lt c E).2;have bl:=q.size;intro a i d g z k H;show(if a=s then b else f a).ownBlock=O\/(if a=s then b else f a).ownBlock≠(if i=s then b else f i).ownBlock;by_cases A:a=s
  ·rw[ab A,aa (by omega)];rcases ak with e|e
   ·rw[e];exact t s i s0 j z k (by omega)
   ·refine .inr (fun l=>?_);rw[e]at l;have:=am i z k _ l.symm;omega
  ·rw[aa A];by_cases L:i=s
   ·rw[ab L];rcases ak with e|e
    ·rw[e];exact t a s d g s0 j A
    ·cases hq:(f a).ownBlock with
     |none=>exact .inl rfl
     |some c=>exact .inr (fun l=>by rw[e]at l;have:=am a d g c hq;cases l;omega)
   ·rw[aa L];exact t a i d g z k H
 ·have a5:base<=W.heap.size:=by omega
  have k:=q.mono a5;refine a3.trans ?_;have J:=k.grown G (by have:=q.size;omega) (fun ao e=>((p s s0 j).2.lt ao e).1);exact J.grown F (by have:=J.size;omega) (fun ao e=>by cases e;exact lo)
theorem ze{f:List Oper}{b:A9}(p:o.guard=O)(s x:Operand)
  (t:o.op= .call {callee:= .builtin .append,args:=#[s,x],argTypes:=#[232,232]}) (w:a.eval s=v) (h:im b base v L) (G:base<=b.heap.size) (cs:Array A0) (m g:Nat) (y:a.eval x= .slice (M ⟨g,0,O⟩) m m) (q:g=b.heap.size) (d:List (List Int)) (e:d.length=m) (n:cs.toList=Cj d) (u:∀r∈d,r.length<=6)
  (F:L.length+m<=1000)
  (l:∀c w',im w' base c (L++d)->(b.alloc (.cells cs 191 (0,0))).grownBy w' v.ownBlock->(c.ownBlock=v.ownBlock\/c.ownBlock=M (b.alloc (.cells cs 191 (0,0))).heap.size)->wpList Ax ops Q f (a.put o.dst c) w'):wpList Ax ops Q (o::f) a (b.alloc (.cells cs 191 (0,0))):=by
 subst q;obtain⟨z,A,B,C,E⟩:=du Gk;refine G2 _ p s x 232 t base 191 z _ 6 6 Tryz.underlying232 A B C E rfl (by decide) v L.length (Cj L) w (World.ownsRow.alloc h _) ⟨b.heap.size,0,O⟩ m m (Cj d) y (by rw[abm u,e]) ?_ abl (by unfold E1;omega) (by omega) (by simp;omega) ?_
 ·rw[<-n];exact B7 (cs:=cs) (fr:=(0,0)) (aA b _)
 ·intro c w' i j _ k;refine l c w' ?_ j k;unfold im;rw[abk,aK,e];exact i
theorem Jg(w:A9)(base mb n:Nat)(R:List (Int×List (List Int)))(H:RM w base mb n R)(K:n<=100)(t:E0)(fr:Nat×Nat)(x:w.heap[3]?=M (.cells Jf t fr))(y:3<base):
  B4 Ax 128 #[.map (M mb)] w fun e w'=>e= .returned (.tuple #[])/\RM w' base mb (n+34) ((124,[[117],[44,117,45,47,117],[48,1,47,117]])::(123,[[46,122],[]])::(122,[[124,123],[]])::(121,[[42,122,43]])::(119,[]::Av 20)::(118,[[25,118],[62,118],[50,118],[69,118],[1,120],[40,117,41,120],[2],[3],[4],[24],[29],[17],[49],[18,113],[121]])::(117,[[118,119]])::(116,[[46,115],[]])::(115,[[49],[1,116]])::(114,[[115],[]])::(113,[[40,114,41,108]])::(112,[[46,117,112],[]])::(111,[[117,112],[]])::(110,[[117,112]])::R)/\Br base w w':=by
 have a:Br base w w:=ah _ _;obtain⟨L,ad,af,ak,al⟩:=du Gk;go_in;go_wp2_with (first
  |(at_mapUpdate;first
   |(refine bi rfl _ _ _ rfl rfl H ((ah _ _).alloc (ag _) _) (by omega) 110 (by decide) (by decide) rfl _ rfl [[117,112]] ?own a ?_;(case own=>exact dx _ _ [[117,112]] 1 rfl rfl (by decide) (by decide));clear H a;intro c H a)
   |(refine bi rfl _ _ _ rfl rfl H ((ah _ _).alloc (ag _) _) (by omega) 111 (by decide) (by decide) rfl _ rfl [[117,112],[]] ?own a ?_;(case own=>exact dx _ _ [[117,112],[]] 2 rfl rfl (by decide) (by decide));clear H a;intro c H a)
   |(refine bi rfl _ _ _ rfl rfl H ((ah _ _).alloc (ag _) _) (by omega) 112 (by decide) (by decide) rfl _ rfl [[46,117,112],[]] ?own a ?_;(case own=>exact dx _ _ [[46,117,112],[]] 2 rfl rfl (by decide) (by decide));clear H a;intro c H a)
   |(refine bi rfl _ _ _ rfl rfl H ((ah _ _).alloc (ag _) _) (by omega) 113 (by decide) (by decide) rfl _ rfl [[40,114,41,108]] ?own a ?_;(case own=>exact dx _ _ [[40,114,41,108]] 1 rfl rfl (by decide) (by decide));clear H a;intro c H a)
   |(refine bi rfl _ _ _ rfl rfl H ((ah _ _).alloc (ag _) _) (by omega) 114 (by decide) (by decide) rfl _ rfl [[115],[]] ?own a ?_;(case own=>exact dx _ _ [[115],[]] 2 rfl rfl (by decide) (by decide));clear H a;intro c H a)
   |(refine bi rfl _ _ _ rfl rfl H ((ah _ _).alloc (ag _) _) (by omega) 115 (by decide) (by decide) rfl _ rfl [[49],[1,116]] ?own a ?_;(case own=>exact dx _ _ [[49],[1,116]] 2 rfl rfl (by decide) (by decide));clear H a;intro c H a)
   |(refine bi rfl _ _ _ rfl rfl H ((ah _ _).alloc (ag _) _) (by omega) 116 (by decide) (by decide) rfl _ rfl [[46,115],[]] ?own a ?_;(case own=>exact dx _ _ [[46,115],[]] 2 rfl rfl (by decide) (by decide));clear H a;intro c H a)
   |(refine bi rfl _ _ _ rfl rfl H ((ah _ _).alloc (ag _) _) (by omega) 117 (by decide) (by decide) rfl _ rfl [[118,119]] ?own a ?_;(case own=>exact dx _ _ [[118,119]] 1 rfl rfl (by decide) (by decide));clear H a;intro c H a)
   |(refine bi rfl _ _ _ rfl rfl H ((ah _ _).alloc (ag _) _) (by omega) 118 (by decide) (by decide) rfl _ rfl [[25,118],[62,118],[50,118],[69,118],[1,120],[40,117,41,120],[2],[3],[4],[24],[29],[17],[49],[18,113],[121]] ?own a ?_;(case own=>exact dx _ _ [[25,118],[62,118],[50,118],[69,118],[1,120],[40,117,41,120],[2],[3],[4],[24],[29],[17],[49],[18,113],[121]] 15 rfl rfl (by decide) (by decide));clear H a;intro c H a)
   |(refine bi rfl _ _ _ rfl rfl H ((ah _ _).alloc (ag _) _) (by omega) 119 (by decide) (by decide) rfl _ rfl [[]] ?own a ?_;(case own=>exact dx _ _ [[]] 1 rfl rfl (by decide) (by decide));clear H a;intro c H a))
  |(refine uB rfl 234 _ rfl 3 rfl t _ fr _ ((a.block _ y).trans x) Tryz.underlying234 rfl (by kernel_rfl) ?_))
 go_loopw [54] (fun m wr=>∃b:Nat,b<=20/\m= .int .i64 b/\RM wr base mb (n+10+b) ((119,[]::Av b)::(118,[[25,118],[62,118],[50,118],[69,118],[1,120],[40,117,41,120],[2],[3],[4],[24],[29],[17],[49],[18,113],[121]])::(117,[[118,119]])::(116,[[46,115],[]])::(115,[[49],[1,116]])::(114,[[115],[]])::(113,[[40,114,41,108]])::(112,[[46,117,112],[]])::(111,[[117,112],[]])::(110,[[117,112]])::R)/\Br base w wr) (fun m _=>20-(F2 m).toNat)
 case atStart=>exact⟨0,by omega,rfl,H,a⟩
 case round=>
  clear H a;obtain⟨b,B,rfl,H,a⟩:=hrel;by_cases k:b<20
  ·have j:=fun w=>aoy b k w;obtain⟨r,s⟩:=aiw ⟨b,k⟩;simp only at r s;have l:=ade b k;have q:=afe b B;generalize Gl.getD b 0=o at j r s l;generalize aiv (3*b+1)=G at j;generalize aiv (3*b+2)=p2 at j;obtain⟨D,v,f,i,p⟩:=H.ex;have F:=H.lo;have g:=i 119 (by decide) (by decide);rw[rl]at g;have C:=f.lt;have h:B1 (im (wr.alloc (.cells #[.int .i64 o,.int .i64 G,.int .i64 p2] 168)) base (v 119) ([]::Av b)/\Av (b+1)=Av b++[[o,118,119]]/\(Av b).length=b):=⟨g.2.keep ((ah _ _).alloc (ag _) _),l,q⟩;clear l q;go_wp2_with (first
    |(at_lookup;refine qA rfl _ _ rfl rfl f ?blk 119 (by decide) (by decide) rfl g.1 ?_)
    |(at_builtin;go_loud (refine ze rfl _ _ rfl rfl h.1 (by simp;omega) _ 1 (wr.heap.size+1) rfl (by simp) [[o,118,119]] rfl rfl (by simp) (by rw[bB,h.out.2.2];omega) ?_;intro am an E A z))
    |(at_mapUpdate;go_loud (refine Ck rfl _ _ _ rfl rfl f i p F 119 (((ah _ _).alloc (ag _) _).alloc (by simp) _) A (by omega) (by decide) (by decide) rfl _ rfl _ E z a ?_;clear H a f i p g;intro ao H a)))
   case blk=>exact dg _ _ _ C
   go_roundw
   case rel=>
    refine⟨b+1,by omega,by go_num,?_,a⟩;refine RM.congr (n:=n+10+(b+1)) H (fun u I J=>?_);by_cases e:u=119
    ·subst e;rw[rl,rl,h.out.2.1];rfl
    ·rw[pi (fun d=>e d.symm),pi (fun d=>e d.symm),pi (fun d=>e d.symm)]
   case measure=>simp[F2];omega
  ·obtain rfl:b=20:=by omega
   go_wp2_with (at_mapUpdate;first
    |(refine bi rfl _ _ _ rfl rfl H ((ah _ _).alloc (ag _) _) (by omega) 121 (by decide) (by decide) rfl _ rfl [[42,122,43]] ?own a ?_;(case own=>exact dx _ _ [[42,122,43]] 1 rfl rfl (by decide) (by decide));clear H a;intro c H a)
    |(refine bi rfl _ _ _ rfl rfl H ((ah _ _).alloc (ag _) _) (by omega) 122 (by decide) (by decide) rfl _ rfl [[124,123],[]] ?own a ?_;(case own=>exact dx _ _ [[124,123],[]] 2 rfl rfl (by decide) (by decide));clear H a;intro c H a)
    |(refine bi rfl _ _ _ rfl rfl H ((ah _ _).alloc (ag _) _) (by omega) 123 (by decide) (by decide) rfl _ rfl [[46,122],[]] ?own a ?_;(case own=>exact dx _ _ [[46,122],[]] 2 rfl rfl (by decide) (by decide));clear H a;intro c H a)
    |(refine bi rfl _ _ _ rfl rfl H ((ah _ _).alloc (ag _) _) (by omega) 124 (by decide) (by decide) rfl _ rfl [[117],[44,117,45,47,117],[48,1,47,117]] ?own a ?_;(case own=>exact dx _ _ [[117],[44,117,45,47,117],[48,1,47,117]] 3 rfl rfl (by decide) (by decide));clear H a;intro c H a))
   go_end0
   exact⟨rfl,H.mono (by omega),a⟩
theorem aff:((List.range 256).all fun a=>decide (zb ((124,[[117],[44,117,45,47,117],[48,1,47,117]])::(123,[[46,122],[]])::(122,[[124,123],[]])::(121,[[42,122,43]])::(119,[]::Av 20)::(118,[[25,118],[62,118],[50,118],[69,118],[1,120],[40,117,41,120],[2],[3],[4],[24],[29],[17],[49],[18,113],[121]])::(117,[[118,119]])::(116,[[46,115],[]])::(115,[[49],[1,116]])::(114,[[115],[]])::(113,[[40,114,41,108]])::(112,[[46,117,112],[]])::(111,[[117,112],[]])::(110,[[117,112]])::(120,my 120 120++[[]])::(133,my 132 133++[[]])::(132,my 132 133)::(131,[[1,132],[40,117,41,132]])::(130,my 129 130)::(129,my 129 130++[[46,128],[47,110]])::(128,[[1,129],[40,117,41,130]])::(127,my 125 126)::(126,my 125 126++[[]])::(125,my 125 126++[[46,128],[47,110]])::(109,[[46,1,109],[]])::(108,[[42,100,43]])::(107,[[15,117,108,107],[16,108],[]])::(106,[[46,1],[]])::(105,[[46,117],[]])::(104,[[47,117,46,117,105,108],[21,117,108],[46,1,109,21,117,108]])::(103,[[47,110],[]])::(102,[[22,1,109,103],[13,1,47,117],[18,1,113],[20,117,108,107],[31,117,108],[19,1,104],[11],[23],[27,111],[30,108,12,1,106,108],[28,117],[14,131],[108],[1,125],[40,117,41,127]])::(101,[[5,100],[]])::(100,[[5,100],[102,101],[]])::[]) (a:Int)=kF (a:Int)))=Er:=by decide+kernel
theorem Ib.pos(h:Ib tk n k ns j):k<=j/\j<n:=by
 induction h with
 |stop _ h=>exact⟨ag _,h⟩
 |go _ _ _ _ a=>omega
theorem Prm.pos{r:Bool}(h:Prm tk n k ns r j):k+1<=j/\j<n:=by
 induction h with
 |close _ h=>omega
 |rest _ _ h=>omega
 |last _ _ h=>omega
 |go _ _ _ _ a=>omega
def fi:xi->Nat
 | .more _ _ _=>0
 | .post _ _=>0
 | .moreE=>0
 | .moreB=>0
 | .stats=>0
 | .entries=>0
 |_=>1
def slk:xi->Nat
 | .more _ _ _=>0
 | .post _ _=>0
 | .moreE=>0
 | .moreB=>0
 | .stats=>0
 | .entries=>0
 | .entry=>1
 | .stat=>1
 | .branch=>1
 |_=>2
def bas:xi->Nat
 | .more _ _ x=>x.sz
 | .post _ x=>x.sz
 |_=>0
theorem aix(N:Nd)(ks:Fo)(s:Tk)(e:Int):(mc N ks s e).sz<=(one N ks).sz+1:=by
 unfold mc;split
 ·rw[bm];omega
 ·omega
theorem P.pos{t:xi}(h:P tk n t i R j):i+fi t<=j/\j<n/\R.sz+slk t+3*i<=bas t+3*j:=by
 induction h
 case bopen i k j N ks R h1 h2 h3 h4 h5 h6 ih1 ih2=>
  have:=aix N ks (tk i) (tk k).t;simp only[fi,slk,bas,bm,Fo.sz_app,Fo.sz]at *;omega
 case body h1 h2 h3 h4 ih=>
  have:=h3.pos;simp only[fi,slk,bas,bm,Fo.sz_app,Fo.sz]at *;omega
 case tlet0 h1 h2 h3 h4 h5=>have:=h4.pos;simp only[fi,slk,bas,bm,Fo.sz_app,Fo.sz]at *;omega
 case tlet h1 h2 h3 h4 h5 h6 ih=>have:=h4.pos;simp only[fi,slk,bas,bm,Fo.sz_app,Fo.sz]at *;omega
 case tfor h1 h2 h3 h4 h5 h6 h7 ih1 ih2=>have:=h4.pos;simp only[fi,slk,bas,bm,Fo.sz_app,Fo.sz]at *;omega
 case teach h1 h2 h3 h4 h5 h6 h7 h8 h9 ih1 ih2=>have:=h4.pos;simp only[fi,slk,bas,bm,Fo.sz_app,Fo.sz]at *;omega
 case ttry h1 h2 h3 h4 h5 h6 h7 h8 ih1 ih2=>have:=h7.pos;simp only[fi,slk,bas,bm,Fo.sz_app,Fo.sz]at *;omega
 all_goals
  simp only[fi,slk,bas,bm,Fo.sz_app,Fo.sz]at *;omega
def jK(w:A9)(r:List Int×Bool)(e:Ending)(w':A9):Prop:=
 ∃a c,e= Bs (Hm #[A5 a r.1.length c,Ga r.2])/\w'.ownsRow w.heap.size 3 1 (A5 a r.1.length c) r.1.length (r.1.map (B0 Y))/\Br w.heap.size w w'
theorem afg(w:A9)(l:List Int)(n:Nat)(a:l.length=n)(b:n<=100):(w.alloc (B6 (l.map (B0 Y)).toArray 3)).ownsRow w.heap.size 3 1 (A5 (M ⟨w.heap.size,0,O⟩) n n) n (l.map (B0 Y)):=by
 have:=kJ (base:=w.heap.size) (e:=3) (size:=1) w (l.map (B0 Y)).toArray n (ag _) (by unfold E1;omega) (by simp[a]);simpa using this
theorem rm(w:A9)(l:List Int)(b:Bool)(a:l.length<=100):jK w (l,b) (Bs (Hm #[A5 (M ⟨w.heap.size,0,O⟩) l.length l.length,Ga b])) (w.alloc (B6 (l.map (B0 Y)).toArray 3)):=
 ⟨_,_,rfl,afg w l _ rfl a,cK w _⟩
theorem Bh(w:A9)(b:Bool):jK w ([],b) (Bs (Hm #[A5 O 0 0,Ga b])) w:=⟨_,_,rfl,dr _ _ _ _,ah _ w⟩
theorem vf(v:A0)(w:A9):B4 Ax 152 #[v] w fun e w'=>e= Bs v/\w'=w:=by
 go_in;go_wp2;go_ret;exact⟨rfl,rfl⟩
theorem sx(w:A9)(t:Int):B4 Ax 222 #[U Y t] w fun e w'=>e= Bs (Ga (ma t))/\w'=w:=by
 by_cases a:t=25\/t=50\/t=62\/t=69
 ·have e:ma t=Er:=bH a;rw[e];rcases a with rfl|rfl|rfl|rfl;all_goals
   go_in;go_wp2;go_ret;exact⟨rfl,rfl⟩
 ·have e:ma t=Cb:=aC a;rw[e];have b:¬t=25:=by omega
  have c:¬t=50:=by omega
  have d:¬t=62:=by omega
  have f:¬t=69:=by omega
  have g:(t==25)=Cb:=beq_eq_false_iff_ne.2 b;have h:(t==50)=Cb:=beq_eq_false_iff_ne.2 c;have i:(t==62)=Cb:=beq_eq_false_iff_ne.2 d;have j:(t==69)=Cb:=beq_eq_false_iff_ne.2 f;clear a e;go_in;go_wp2;go_ret;exact⟨rfl,rfl⟩
theorem zK(w:A9)(t:Int):B4 Ax 225 #[U Y t] w fun e w'=>e= Bs (Ga (ip t))/\w'=w:=by
 by_cases a:t=10\/t=26
 ·have e:ip t=Er:=bH (by omega);rw[e];rcases a with rfl|rfl;all_goals
   go_in;go_wp2;go_ret;exact⟨rfl,rfl⟩
 ·have b:¬t=10:=by omega
  have c:¬t=26:=by omega
  have d:(t==10)=Cb:=beq_eq_false_iff_ne.2 b;have f:(t==26)=Cb:=beq_eq_false_iff_ne.2 c;by_cases g:60<t
  ·have e:ip t=Er:=bH (by omega);rw[e];clear a e;go_in;go_wp2;go_ret;exact⟨rfl,rfl⟩
  ·have e:ip t=Cb:=aC (by omega);rw[e];clear a e;go_in;go_wp2;go_ret;exact⟨rfl,rfl⟩
theorem sy(w:A9)(t:Int):B4 Ax 154 #[U Y t] w fun e w'=>e= Bs (Ga (dK t))/\w'=w:=by
 by_cases a:t=1\/t=2\/t=3\/t=4\/t=24\/t=29\/t=17\/t=49\/t=18\/t=40\/t=42
 ·have e:dK t=Er:=by unfold dK;rw[bH a];rfl
  rw[e];rcases a with rfl|rfl|rfl|rfl|rfl|rfl|rfl|rfl|rfl|rfl|rfl;all_goals
   go_in;go_wp2;go_ret;exact⟨rfl,rfl⟩
 ·have e:dK t=ma t:=by unfold dK;rw[aC a];rfl
  rw[e];simp only[not_or]at a;obtain⟨_,_,_,_,_,_,_,_,_,_,_⟩:=a;have b:=fun w=>sx w t;clear e;generalize ma t=c at b⊢;go_in;go_wp2_with (go_at_call 222;refine dB (b _) ?_);go_ret;exact⟨rfl,rfl⟩
theorem ieq(t c:Int):(t=c)=((t==c)=Er):=by simp
theorem LA(w:A9)(t:Int):B4 Ax 153 #[U Y t] w (jK w (iB t)):=by
 go_in;go_wp2_with (go_at_call 152;refine dB (vf _ _) ?_);all_goals
  go_ret2;go_tidy
  simp only[iB,ieq, *];simp[*];first|exact rm w _ _ (by simp)|exact Bh w _
theorem LB(w:A9)(t:Int):B4 Ax 224 #[U Y t] w (jK w (Is t)):=by
 have b:=fun w=>sx w t;have a:=fun w=>sy w t;go_in;go_wp2_with (first|(go_at_call 152;refine dB (vf _ _) ?_)|(go_at_call 222;refine dB (b _) ?_)|(go_at_call 154;refine dB (a _) ?_));all_goals
  go_ret2;go_tidy
  simp only[Is,ieq, *];simp[*];first|exact rm w _ _ (by simp)|exact Bh w _
theorem adf{b:A9}{r:List Int×Bool}{e:Ending}(a:Br w.heap.size w b)(h:jK b r e w'):jK w r e w':=by
 obtain⟨c,d,rfl,g,f⟩:=h;exact⟨c,d,rfl,nI g a.size,a.trans (f.mono a.size)⟩
theorem aiy{p:Prop}[Decidable p] {a b:List Int×Bool}(c:a.1.length<=6) (d:b.1.length<=6):(if p then a else b).1.length<=6:=by split<;>assumption
theorem adg(t:Int):(iB t).1.length<=6:=by
 unfold iB
 repeat' (first|(apply aiy<;>skip)|exact Nat.le_of_ble_eq_true rfl)
theorem Cl(w:A9)(t:Int):B4 Ax 90 #[.int .i64 100,.int .i64 t] w (jK w (acC t)):=by
 unfold acC;by_cases g:t=5
 ·subst g;show B4 _ _ _ _ (jK w ([5,100],Er));go_in;go_wp2_with (go_at_call 152;refine dB (vf _ _) ?_);go_ret2;exact rm w [5,100] Er (by simp)
 ·rw[aa g];have a:=fun w=>LA w t;have d:=adg t;generalize iB t=z at a d⊢;obtain⟨y,k⟩:=z;simp only at d⊢;obtain⟨E,c⟩:=az y.length;obtain⟨r,s,u,v,x⟩:=du sj;cases k with
  |true=>
   rw[ab rfl];unfold jK at a⊢;simp only at a⊢;rw[aK,dF];rw[c]at a d⊢;clear c;go_in;go_wp2_with (first|(go_at_call 153;refine(a _).mono ?_;rintro m f ⟨j,l,rfl,e,b⟩;have q:=b.size)|(at_builtin;refine oe _ rfl _ _ 43 rfl w.heap.size 3 r _ 1 8 Tryz.underlying43 s u v x rfl (by decide) _ _ _ rfl (e.alloc _) ⟨f.heap.size,0,O⟩ 1 1 [.int .i64 101] rfl rfl (B7 (cs:=#[.int .i64 101]) (fr:=(0,0)) (aA f _)) (by intro F i;simp at i;subst i;rfl) (by unfold E1;omega) (by omega) (by simp;omega) ?_;intro G H h p C;obtain⟨B,A,rfl⟩:=Fs h));go_ret2;exact⟨_,_,rfl,h,(b.alloc q _).grown p (by simp;omega) (fun n o=>(e.lt n o).1)⟩
  |false=>
   rw[aa (by decide)];unfold jK at a;simp only at a;rw[c]at a;clear c;go_in;go_wp2_with (go_at_call 153;refine(a _).mono ?_;rintro m f ⟨j,l,rfl,e,b⟩);go_ret2;exact adf b (Bh _ Er)
theorem Jh(w:A9)(s t:Int)(b:101<=s)(c:s<=133):B4 Ax 90 #[U Y s,U Y t] w (jK w (xE s t)):=by
 have f:=fun w=>sy w t;have g:=fun w=>zK w t;have h:=fun w=>LB w t;obtain rfl|rfl|rfl|rfl|rfl|rfl|rfl|rfl|rfl|rfl|rfl|rfl|rfl|rfl|rfl|rfl|rfl|rfl|rfl|rfl|rfl|rfl|rfl|rfl|rfl|rfl|rfl|rfl|rfl|rfl|rfl|rfl|rfl:s=101\/s=102\/s=103\/s=104\/s=105\/s=106\/s=107\/s=108\/s=109\/s=110\/s=111\/s=112\/s=113\/s=114\/s=115\/s=116\/s=117\/s=118\/s=119\/s=120\/s=121\/s=122\/s=123\/s=124\/s=125\/s=126\/s=127\/s=128\/s=129\/s=130\/s=131\/s=132\/s=133:=by omega
 all_goals
  clear b c;go_in;go_wp2_with (first|(go_at_call 152;refine dB (vf _ _) ?_)|(go_at_call 154;refine dB (f _) ?_)|(go_at_call 225;refine dB (g _) ?_)|(go_at_call 224;refine(h _).mono ?_;rintro a k ⟨i,j,rfl,e,d⟩)|go_in);all_goals
   go_ret2;first
    |exact⟨_,_,rfl,e,d⟩
    |(go_tidy
      simp only[xE,qg,ah2,am6,ah3,ah4,aen,ah5,ah6,ah7,ah8,aeo,akF,akG,aep,aeq,akH,aer,akI,akJ,ah9,aia,aib,aic,akK,aid,aes,aie,aet,aif,aig,aeu,aev,aih,ieq, *];simp[*];first|exact rm w _ _ (by simp)|exact Bh w _|(by_cases a:t=21<;>simp_all<;>(try rw[show(t==46||t==21)=Cb by simp[*]])<;>exact rm w _ _ (by simp))|(by_cases a:t=44<;>simp_all<;>exact rm w _ _ (show 2<=100 by decide)))
theorem Gm(w:A9)(s t:Int)(c:100<=s)(b:s<=133):B4 Ax 90 #[U Y s,U Y t] w (jK w (xE s t)):=by
 by_cases a:s=100
 ·subst a;exact Cl w t
 ·exact Jh w s t (by omega) b
theorem afh:(Tryz.prog.info? 134).map (fun i=>(i.zero,i.size,i.bytes))=M (M (G3 #[U Y 0,U Y 0]),2,16):=by kernel_rfl
def cCl(C:List (Int×Int)):List A0:=C.flatMap fun c=>[U Y c.1,U Y c.2]
theorem aiz(C:List (Int×Int)):(cCl C).length=C.length*2:=by
 induction C with
 |nil=>rfl
 |cons b c a=>simp only[cCl,xx,aK,bB,dl]at a⊢;omega
theorem abn(C D:List (Int×Int)):cCl (C++D)=cCl C++cCl D:=by simp[cCl]
theorem afi:∀(C:List (Int×Int))(i:Nat)(c:Int×Int),C[i]?=M c->(cCl C)[i*2]?=M (U Y c.1)/\(cCl C)[i*2+1]?=M (U Y c.2)
 |[],i,c,h=>by simp at h
 |a::r,0,c,h=>by
  obtain rfl:a=c:=by simpa using h
  exact⟨rfl,rfl⟩
 |a::r,i+1,c,h=>by
  have e:=afi r i c (by simpa using h);have d:∀b,(cCl (a::r))[b+2]?=(cCl r)[b]?:=fun b=>rfl;rw[show(i+1)*2=i*2+2 by omega,show i*2+2+1=(i*2+1)+2 by omega,d,d];exact e
structure vh (W:A9) (base mb:Nat) (C:List (Int×Int)):Prop where
 ex:∃v,W.heap[mb]?=M (.cells #[v] 76 (0,0))/\W.ownsRow base 134 2 v C.length (cCl C)
 lo:base<=mb
structure Kp (mb:Nat) (w w':A9):Prop where
 os:w'.os=w.os
 tape:w'.tape=w.tape
 output:w'.output=w.output
 size:w.heap.size<=w'.heap.size
 block:∀k,k<w.heap.size->k≠mb->(∀cs fr,w.heap[k]?≠M (.cells cs 134 fr))->w'.heap[k]?=w.heap[k]?
theorem Kp.refl(mb:Nat)(w:A9):Kp mb w w:=⟨rfl,rfl,rfl,ag _,fun _ _ _ _=>rfl⟩
theorem Kp.trans{x e z:A9}(h:Kp mb x e)(k:Kp mb e z):Kp mb x z:=
 ⟨k.os.trans h.os,k.tape.trans h.tape,k.output.trans h.output,bL h.size k.size,fun d b c a=>
  (k.block d (fD b h.size) c (fun f g=>by rw[h.block d b c a];exact a f g)).trans (h.block d b c a)⟩
theorem Kp.of_below(h:Br w.heap.size w w'):Kp mb w w':=⟨h.os,h.tape,h.output,h.size,fun b a _ _=>h.block b a⟩
theorem Kp.blk(h:Kp mb w w'){cs:Array A0}{fr:Nat×Nat}(a:w.heap[k]?=M (B6 cs t fr))(d:t≠134)(c:k≠mb):w'.heap[k]?=M (B6 cs t fr):=
 (h.block k (ai a) c (fun e f b=>by rw[a]at b;cases b;exact d rfl)).trans a
theorem Kp.row(h:Kp mb w w'){f:Nat×Nat}(j:w.heap[mb]?=M (B6 #[v0] 76 f))(o:w.ownsRow base e size v n xs)(k:e≠134)(l:e≠76):w'.ownsRow base e size v n xs:=by
 obtain⟨i,b⟩:=o;refine⟨i,?_⟩;rcases b with b|⟨g,c,d,p,m,a,q⟩
 ·exact .inl b
 ·refine .inr ⟨g,c,d,p,m,h.blk a k ?_,q⟩;rintro rfl;rw[j]at a;simp only[ee,kI]at a;exact l a.2.1.symm
theorem vh.below(h:vh W base mb C)(b:Br W.heap.size W W'):vh W' base mb C:=by
 obtain⟨d,a,c⟩:=h.ex;exact⟨⟨d,(b.block _ (ai a)).trans a,cJ c b⟩,h.lo⟩
def mm(C:List (Int×Int)):Int->List Int->Prop
 |top,[]=>top= -1
 |top,s::r=>∃(i:Nat) (b:Int),top=(i:Int)/\C[i]?=M (s,b)/\mm C b r
theorem mm.app(D:List (Int×Int)):∀{st:List Int}{a:Int},mm C a st->mm (C++D) a st
 |[],a,h=>h
 |s::r,a,⟨i,b,d,c,e⟩=>⟨i,b,d,by rw[iu (List.getElem?_eq_some_iff.1 c).1];exact c,e.app D⟩
theorem mm.push{a:Int}(h:mm C a st)(s:Int):mm (C++[(s,a)]) (C.length:Int) (s::st):=
 ⟨C.length,a,rfl,by rw[fL (ag _),eC];rfl,h.app _⟩
theorem Cm(w:A9)(base mb:Nat)(C:List (Int×Int))(m l:Int)(h:vh w base mb C)(L:C.length<=100000000):
  B4 Ax 91 #[.pointer (M ⟨mb,0,O⟩),.int .i64 m,.int .i64 l] w fun e w'=>e= .returned (.int .i64 (C.length:Nat))/\vh w' base mb (C++[(l,m)])/\Kp mb w w'/\Br base w w':=by
 obtain⟨a1,f,g⟩:=h.ex;have B:=h.lo;obtain⟨k,u⟩:=az C.length;rw[u]at g L⊢;obtain⟨o,p,rfl⟩:=bI g;obtain⟨ak,al,am,an,ao⟩:=du afh;have ad:=ai f;have ap:w.cell? ⟨mb,0,O⟩=M (.slice o k p):=by rw[au _ _ _ _ _ _ f];rfl
 have E:∀c,(E2 o k p).ownBlock=M c->c≠mb/\base<=c:=fun c j=>by
  refine⟨?_,(g.lt c j).1⟩;rintro rfl;rcases g.2 with⟨a,_⟩|⟨r,y,z,a,_,d,_⟩
  ·rw[a]at j;simp[A2]at j
  ·rw[a]at j;obtain rfl:r=c:=by simpa [A2] using j
   rw[d]at f;cases f
 have n:=lD g f u;clear g f u h;go_in;go_wp2_with (at_builtin;refine oe _ rfl _ _ 74 rfl base 134 ak _ 2 16 Tryz.underlying74 al am an ao rfl (by decide) _ _ _ rfl (n.1.alloc _) ⟨w.heap.size,0,O⟩ 1 1 [.int .i64 l,.int .i64 m] rfl rfl (B7 (cs:=#[.int .i64 l,.int .i64 m]) (fr:=(0,0)) (aA w _)) (by intro a0 F;simp at F;rcases F with rfl|rfl<;>rfl) (by unfold E1;omega) (by omega) (by simp;omega) ?_;intro a2 G x b av;obtain⟨A,I,rfl⟩:=Fs x;have s:=(b.block mb (by simp;omega) (fun e=>(E mb e.symm).1 rfl)).trans ((dg _ _ _ ad).trans n.2.1);have a3:G.cell? ⟨mb,0,O⟩=M (.slice o k p):=(by rw[au _ _ _ _ _ _ s];rfl);have ar:G.frozen? ⟨mb,0,O⟩=Cb:=co _ _ _ _ _ s);go_ret;have af:=b.size;rw[cD]at af;refine⟨by go_num,⟨⟨.slice (M ⟨A,0,O⟩) (k+1) I,bz _ mb 0 _ _ _ s,?_⟩,B⟩,?_,?_⟩
 ·rw[aK,n.out.2.2,abn];refine x.kept (row:=M mb) ⟨rfl,rfl,rfl,by simp[B3],fun i t v=>aB _ _ _ _ (fun e=>v (by rw[e]))⟩ ?_;refine .inr ?_;intro e;obtain rfl:A=mb:=by simpa [A2] using e
  rcases x.2 with⟨a,_⟩|⟨r,y,z,a,_,d,_⟩
  ·cases a
  ·cases a;rw[s]at d;cases d
 ·refine⟨b.os,b.tape,b.output,by simp[B3];omega,fun i t v K=>?_⟩;rw[aB _ _ _ _ v];refine(b.block i (by simp;omega) (fun e=>?_)).trans (dg _ _ _ t);have q:(E2 o k p).ownBlock=M i:=e.symm;rcases n.1.2 with⟨a,_⟩|⟨r,y,z,a,_,d,_⟩
  ·rw[a]at q;simp[A2]at q
  ·rw[a]at q;obtain rfl:r=i:=by simpa [A2] using q
   exact K _ _ d
 ·have J:base<=w.heap.size:=by omega
  have H:Br base w (w.alloc (.cells #[.int .i64 l,.int .i64 m] 134)):=(ah _ w).alloc J _;exact(H.grown b (by simp;omega) (fun i t=>(E i t).2)).setCell B _
theorem zg:∀{f:Nat}{st:List Int}{t:Int}{n:Nat}{lo:List Int}{b:Option Bool}{m:Nat},eF f st t n=M (lo,b,m)->n<=m
 |0,_,_,_,_,_,_,h=>by simp[eF]at h
 |f+1,[],t,n,lo,b,m,h=>by
  simp only[eF,ee,ic]at h;omega
 |f+1,s::r,t,n,lo,b,m,h=>by
  by_cases c:s<100
  ·have:=(rh h c).2.2;omega
  ·rcases jJ h (by omega) with⟨_,a⟩|⟨_,_,_,a⟩
   ·have:=zg a;omega
   ·omega
structure Cn (w:A9) (base mb:Nat) (C:List (Int×Int)) (t:Int) (Res:List Int×Bool) (k:Nat) (stk:List Int) (top:Int) (D:List (Int×Int)) (W:A9):Prop where
 m:vh W base mb (C++D)
 s:mm (C++D) top stk
 o:Bg stk
 kp:Kp mb w W
 bl:Br base w W
 d:D.length<=20
 ph:(D=[]/\feedL stk t=Res/\stk.length+9<=k)\/∃cur r f lo b m,stk=cur++r/\eF f cur t D.length=M (lo,M b,m)/\(lo++r,b)=Res/\m<=20/\f<=k
theorem Cn.nil{t:Int}{g:Int}{D:List (Int×Int)}(h:Cn w base mb C t Res k [] g D W):Res=([],Cb):=by
 rcases h.ph with⟨_,d,_⟩|⟨c,m,b,j,i,l,e,a,_⟩
 ·rw[<-d];rfl
 ·have f:c=[]:=(List.append_eq_nil_iff.1 e.symm).1;subst f;cases b with
  |zero=>simp[eF]at a
  |succ b=>simp[eF]at a
theorem Cn.tok{w:A9}{base mb:Nat}{C:List (Int×Int)}{t:Int}{c:List Int×Bool}{k:Nat}{s:Int}{f:List Int}{m:Int}{D:List (Int×Int)}{W:A9}(h:Cn w base mb C t c k (s::f) m D W)(e:s<100):c=(f,decide (s=t)):=by
 rcases h.ph with⟨_,g,_⟩|⟨d,q,b,o,n,p,i,a,j,_⟩
 ·rw[<-g];exact iE e
 ·cases d with
  |nil=>
   cases b with
   |zero=>simp[eF]at a
   |succ b=>simp[eF]at a
  |cons r d=>
   obtain⟨rfl,rfl⟩:=pJ i;cases b with
   |zero=>simp[eF]at a
   |succ b=>
    obtain⟨rfl,l,_⟩:=rh a e;rw[<-j,bp l];rfl
theorem Cn.no{t:Int}{s:Int}{l:List Int}{x:Int}{D:List (Int×Int)}(h:Cn w base mb C t Res k (s::l) x D W)(u:1<=t)(v:t<=78)(d:100<=s)(g:(xE s t).2=Cb):Res=(l,Cb):=by
 rcases h.ph with⟨_,n,_⟩|⟨i,A,c,r,m,y,p,a,q,_⟩
 ·have j:¬((xE s t).1=[]/\(xE s t).2=Er):=by rw[g];simp
  obtain⟨r,m,z,a,_⟩:=ud d (h.o s (cE ..)) u v j;rw[<-n,lr d j a];rcases jJ a d with⟨b,_⟩|⟨_,e,f,_⟩
  ·rw[g]at b;cases b
  ·rw[e,bp f];rfl
 ·cases i with
  |nil=>
   cases c with
   |zero=>simp[eF]at a
   |succ c=>simp[eF]at a
  |cons B i=>
   obtain⟨rfl,rfl⟩:=pJ p;cases c with
   |zero=>simp[eF]at a
   |succ c=>
    rcases jJ a d with⟨b,_⟩|⟨_,e,f,_⟩
    ·rw[g]at b;cases b
    ·rw[<-q,e,bp f];rfl
theorem Cn.step{t:Int}{s:Int}{c:List Int}{ar:Int}{D:List (Int×Int)}(h:Cn w base mb C t Res k (s::c) ar D W)(A:1<=t)(B:t<=78)(e:100<=s)(hx:(xE s t).2=Er){E:List (Int×Int)}{x:Int}(p:E.length=(xE s t).1.length)
  (ad:vh W' base mb (C++D++E)) (al:mm (C++D++E) x ((xE s t).1++c)) (r:Kp mb w W') (q:Br base w W'):D.length+(xE s t).1.length<=20/\∃z,z<k/\Cn w base mb C t Res z ((xE s t).1++c) x (D++E) W':=by
 have y:=h.o s (cE ..);have am:=(abf e y A B).1;have j:Bg ((xE s t).1++c):=fun F hx=>by
  rcases List.mem_append.1 hx with hx|hx
  ·exact am F hx
  ·exact h.o F (dI _ hx)
 have u:vh W' base mb (C++(D++E)):=by rw[<-dy];exact ad
 have i:mm (C++(D++E)) x ((xE s t).1++c):=by rw[<-dy];exact al
 have f:(D++E).length=D.length+(xE s t).1.length:=by rw[aK,p]
 rcases h.ph with⟨J,n,L⟩|⟨m,ap,d,v,l,an,G,b,H,I,av⟩
 ·subst J;by_cases g:(xE s t).1=[]/\(xE s t).2=Er
  ·rw[g.1]at p i j f⊢;have K:E=[]:=ia (by simpa using p);subst K;refine⟨by simp,c.length+9,by simp only[bB]at L;omega,u,i,j,r,q,by simp,.inl ⟨rfl,?_,ag _⟩⟩;rw[dt,<-n,lp e g]
  ·obtain⟨v,l,ao,b,ak⟩:=ud e y A B g;rw[lr e g b]at n;rcases jJ b e with⟨_,a⟩|⟨a,_⟩
   ·rw[dA]at a;have af:=zg a;refine⟨by simp only[dl];omega,7,by omega,u,i,j,r,q,by rw[f];simp only[dl];omega,.inr ⟨(xE s t).1,c,7,v,l,ao,rfl,?_,n,ak,ag _⟩⟩;rw[f];exact a
   ·rw[hx]at a;cases a
 ·cases m with
  |nil=>
   cases d with
   |zero=>simp[eF]at b
   |succ d=>simp[eF]at b
  |cons a0 m=>
   obtain⟨rfl,rfl⟩:=pJ G;cases d with
   |zero=>simp[eF]at b
   |succ d=>
    rcases jJ b e with⟨_,a⟩|⟨a,_⟩
    ·have af:=zg a;refine⟨by omega,d,by omega,u,i,j,r,q,by rw[f];omega,.inr ⟨(xE s t).1++m,ap,d,v,l,an,by rw[dy];rfl,?_,H,I,ag _⟩⟩;rw[f];exact a
    ·rw[hx]at a;cases a
def uj(w:A9)(base mb:Nat)(C:List (Int×Int))(a:List Int×Bool)(e:Ending)(w':A9):Prop:=
 ∃(b:Int) (D:List (Int×Int)),e= Bs (Hm #[U Y b,Ga a.2])/\vh w' base mb (C++D)/\mm (C++D) b a.1/\D.length<=20/\Kp mb w w'/\Br base w w'
theorem yh(w:A9)(base mb:Nat)(C:List (Int×Int))(st:List Int)(K t:Int)(h:vh w base mb C)(bt:mm C K st)(br:Bg st)(a4:1<=t)(a5:t<=78)(c4:C.length<=50000000):
  B4 Ax 26 #[H0 (M ⟨mb,0,O⟩),U Y K,U Y t] w (uj w base mb C (feedL st t)):=by
 obtain⟨A,am⟩:=az (feedL st t);rw[am];have cm:base<=w.heap.size:=by obtain⟨bE,b7,_⟩:=h.ex;have:=ai b7;have:=h.lo;omega
 have ba:B1 (Cn w base mb C t A (st.length+9) st K [] w):=⟨by rw[dA];exact h,by rw[dA];exact bt,br,Kp.refl _ _,ah _ _,by simp,.inl ⟨rfl,am,ag _⟩⟩;clear h bt br am;go_in;go_wp2_with fail;go_loopg [1] (st.length+9) (fun cn a9 wr=>∃(a3:List Int) (s:Int) (D:List (Int×Int)),a9= U Y s/\B1 (Cn w base mb C t A cn a3 s D wr))
 case atStart=>exact⟨st,K,[],rfl,ba⟩
 case round=>
  obtain⟨a3,s,D,rfl,a⟩:=hrel;clear ba;cases a3 with
  |nil=>
   have al:=a.s;subst al;have k:=aq a.nil;go_wp2_with fail;go_ret2;refine⟨-1,D,?_,a.m,?_,a.d,a.kp,a.bl⟩
   ·rw[k.out];rfl
   ·rw[k.out];exact a.s
  |cons e a6=>
   obtain⟨f,l,cc,an,q⟩:=a.s;subst cc;obtain⟨bE,F,H⟩:=a.m.ex;have cf:=(List.getElem?_eq_some_iff.1 an).1;obtain⟨g,ak,rfl⟩:∃g ak,bE= A5 (M ⟨g,0,O⟩) (C++D).length ak:=by
    rcases bu H with⟨hz,_⟩|hz
    ·omega
    ·exact hz
   have ao:=afi _ f _ an;have bc:wr.cell? ⟨g,f*2,O⟩=M (U Y e):=by rw[H.cellAt (f*2) (by omega)];exact ao.1
   have bd:wr.cell? ⟨g,f*2+1,O⟩=M (U Y l):=by rw[H.cellAt (f*2+1) (by omega)];exact ao.2
   obtain⟨a0,G⟩:=az ((C++D).length);have cB:=a.d;have c6:a0<=50000020:=by rw[<-G,aK];omega
   rw[G]at F cf;have bb:wr.cell? ⟨mb,0,O⟩=M (A5 (M ⟨g,0,O⟩) a0 ak):=by rw[au _ _ _ _ _ _ F];rfl
   obtain⟨u,E⟩:∃u:Addr,(⟨g,0,O⟩:Addr)=u:=⟨_,rfl⟩;have b5:wr.cell? (u.add (f*2))=M (U Y e):=by rw[<-E,show((⟨g,0,O⟩:Addr).add (f*2))=⟨g,f*2,O⟩ by unfold Addr.add;split<;>simp_all];exact bc
   have b6:wr.cell? ⟨(u.add (f*2)).block,(u.add (f*2)).off+1,O⟩=M (U Y l):=by rw[<-E,show((⟨g,0,O⟩:Addr).add (f*2))=⟨g,f*2,O⟩ by unfold Addr.add;split<;>simp_all];exact bd
   rw[E]at bb;have cI:(f:Int)<(a0:Int):=by omega
   have cF:(0:Int)<=(f:Int):=by omega
   have cw:base<=wr.heap.size:=bL cm a.bl.size;have z:=lD G F q;clear bc bd ao H F G E an q;by_cases ck:e<100
   ·have k:B1 (A=(a6,decide (e=t))):=a.tok ck;have ca:∀a1,Br base wr (wr.alloc a1).drew:=fun a1=>aw ((ah _ wr).alloc (by omega) a1);have cx:(wr.alloc (B6 #[U Y e,U Y l] 134)).cell? ⟨wr.heap.size,0,O⟩=M (U Y e):=by rw[au _ _ _ _ _ _ (aA wr _)];rfl
    go_wp2_with fail;go_region_held3 (fun cs=>cs.cell? ⟨wr.heap.size,0,O⟩=M (U Y e)) (go_keep) (fail)
    go_wp2_with fail;go_ret2;have p:Br wr.heap.size wr (wr.alloc (B6 #[U Y e,U Y l] 134)).drew:=aw (cK wr _);refine⟨l,D,?_,a.m.below p,?_,a.d,a.kp.trans (Kp.of_below p),a.bl.trans (ca _)⟩
    ·rw[k.out];rfl
    ·rw[k.out];exact z.2.2
   ·have J:100<=e:=by omega
    have bw:e<=133:=a.o e (cE ..);have v:=fun w=>Gm w e t J bw;have bx:=(abf J bw a4 a5).2;obtain⟨r,I⟩:=az ((xE e t).1);obtain⟨cr,ar⟩:=az ((xE e t).2);unfold jK at v;rw[I,ar]at v;rw[I]at bx;obtain⟨i,ap⟩:=az r.length;rw[ap]at v bx;have o:=lD I ar ap;clear I ar ap;have p:=cK wr (B6 #[U Y e,U Y l] 134);go_wp2_with fail;refine(v _).mono ?_;rintro al x ⟨a2,rc,rfl,bs,bh⟩;have af:Br wr.heap.size wr x:=p.trans (bh.mono p.size);have n:B1 (vh x base mb (C++D)/\Kp mb w x/\Br base w x/\x.ownsRow base 3 1 (A5 a2 i rc) i (r.map (B0 Y))):=
     ⟨a.m.below af,a.kp.trans (Kp.of_below af),a.bl.trans (af.mono (by omega)),nI bs (by simp;omega)⟩
    clear v p bs bh bb b5 b6;cases cr with
    |false=>
     have k:B1 (A=(a6,Cb)):=a.no a4 a5 J o.2.1;go_wp2_with fail;go_ret2;refine⟨l,D,?_,n.1,?_,a.d,n.2.1,n.2.2.1⟩
     ·rw[k.out];rfl
     ·rw[k.out];exact z.2.2
    |true=>
     have c5:(C++D).length<=50000020:=by rw[z.out.1];omega
     go_wp2_with fail;go_loopw [1,11] (fun a9 a8 L=>∃(b:Nat) (s:Int) (j:List (Int×Int)),b<=i/\a8= U Y ((b:Int)-1)/\a9= U Y s/\B1 (j.length=i-b/\vh L base mb (C++D++j)/\mm (C++D++j) s (r.drop b++a6)/\Kp mb w L/\Br base w L/\L.ownsRow base 3 1 (A5 a2 i rc) i (r.map (B0 Y)))) (fun _ a8 _=>(F2 a8+1).toNat)
     case atStart=>
      refine⟨i,l,[],ag _,rfl,rfl,by simp,?_,?_,n.2.1,n.2.2.1,n.2.2.2⟩
      ·rw[dA];exact n.1
      ·rw[dA,jE (by rw[o.out.2.2];exact ag _)];exact z.2.2
     case round=>
      obtain⟨b,a7,j,c1,rfl,rfl,c⟩:=hrel;cases b with
      |zero=>
       have q:=c.2.2.1;rw[ey,<-o.out.1]at q;obtain⟨_,cq,cg,bD⟩:=a.step a4 a5 J o.2.1 (by rw[o.out.1,o.out.2.2];exact c.1) c.2.1 q c.2.2.2.1 c.2.2.2.2.1;have b0:=aq bD;clear bD q;go_wp2_with fail;go_roundg cq
       case measure=>exact cg
       case rel=>exact⟨_,a7,_,rfl,b0⟩
      |succ b=>
       have b4:(((b+1:Nat)):Int)-1=(b:Int):=by omega
       rw[b4];have c2:(0:Int)<=(b:Int):=by omega
       have c3:(b:Int)<(i:Int):=by omega
       obtain⟨y,hz⟩:=cy o.2.2 (show b<i by omega);obtain⟨B,cb⟩:∃B,a2=M ⟨B,0,O⟩:=by
        rcases bu c.2.2.2.2.2 with⟨h,_⟩|⟨B,ct,h⟩
        ·omega
        ·cases h;exact⟨_,rfl⟩
       subst cb;have cv:wr.cell? ⟨B,b,O⟩=M (U Y y):=by rw[c.out.2.2.2.2.2.cellAt b (by omega),ce,hz];rfl
       have b8:(C++D++j).length<=100000000:=by rw[aK,c.out.1];omega
       have bA:=Cm wr base mb (C++D++j) a7 y c.2.1 b8;have av:=c.2.2.1.push y;have bk:r.drop b=y::r.drop (b+1):=by
        have bn:=List.getElem?_eq_some_iff.1 hz;rw[jo bn.1,bn.2]
       have bF:=aq bk;obtain⟨ad,bf⟩:∃ad:Int,(((C++D++j).length:Nat):Int)=ad:=⟨_,rfl⟩;rw[bf]at bA av;have b3:=aq av;clear av bk bf hz;go_wp2_with (go_at_call 91;refine bA.mono ?_;rintro al c8 ⟨rfl,ch,bo,b9⟩);refine⟨⟨b,ad,j++[(y,a7)],by omega,rfl,rfl,?_,?_,?_,c.2.2.2.1.trans bo,c.2.2.2.2.1.trans b9,?_⟩,by simp[F2]⟩
       ·rw[aK,c.out.1];simp;omega
       ·rw[<-dy];exact ch
       ·rw[<-dy,bF.out];exact b3
       ·obtain⟨c7,cl,_⟩:=c.2.1.ex;exact bo.row cl c.2.2.2.2.2 (by decide) (by decide)
theorem abo{e:E0}{a b:Nat}{i:List A0}(f:xs.length=n*size)
  (h:w.ownsRow base e size (A5 (M ⟨g,0,O⟩) (n+b) a) (n+b) (xs++i)):w.ownsRow base e size (A5 (M ⟨g,0,O⟩) n a) n xs:=by
 obtain⟨_,k⟩:=h;rcases k with⟨j,_⟩|⟨t,s,c,r,m,o,u,l,p,q⟩
 ·cases j
 ·cases r;refine⟨f,.inr ⟨g,a,c,rfl,m,o,by omega,l,p,?_⟩⟩;have d:(c.toList.take ((n+b)*size)).take (n*size)=(xs++i).take (n*size):=by rw[q]
  rw[List.take_take,uF (Nat.mul_le_mul_right _ (by omega))]at d;rw[d,<-f];exact take_len _ _
theorem abp{e:E0}{a:Nat}(h:w.ownsRow base e size (A5 (M ⟨g,0,O⟩) n a) n xs):n<=a:=by
 rcases h.2 with⟨b,_⟩|⟨j,f,i,d,l,m,c,k,o,p⟩
 ·cases b
 ·cases d;exact c
def lA(st:List Int):Nat->List Int
 |0=>[]
 |j+1=>if(feedL st ((j:Int)+1)).2=Er then lA st j++[(j:Int)+1] else lA st j
def zh(st:List Int):List Int:=lA st 78
theorem vq(st:List Int):∀j,(lA st j).length<=j
 |0=>ag _
 |j+1=>by
  have:=vq st j;rw[lA];split
  ·rw[aK];simp;omega
  ·omega
theorem vh.put(e:W.heap[mb]?=M (B6 #[v0] 76 (0,0)))(lo:base<=mb)(c:W.ownsRow base 134 2 v C.length (cCl C)):vh (W.setCell ⟨mb,0,O⟩ v) base mb C:=by
 refine⟨⟨v,bz _ mb 0 _ _ _ e,?_⟩,lo⟩;refine c.kept (row:=M mb) ⟨rfl,rfl,rfl,by simp[B3],fun m l g=>aB _ _ _ _ (fun a=>g (by rw[a]))⟩ ?_;rcases bu c with⟨_,rfl⟩|⟨f,h,rfl⟩
 ·exact .inl rfl
 ·refine .inr ?_;intro a;obtain rfl:f=mb:=by simpa [A2] using a
  rcases c.2 with⟨b,_⟩|⟨k,i,j,b,_,d,_⟩
  ·cases b
  ·cases b;rw[e]at d;cases d
theorem Kp.put(h:Kp mb w W)(j:Nat)(v:A0):Kp mb w (W.setCell ⟨mb,j,O⟩ v):=
 h.trans ⟨rfl,rfl,rfl,by simp[B3],fun b _ a _=>aB _ _ _ _ a⟩
theorem adh(w:A9)(base mb:Nat)(h:vh w base mb []):
  B4 Ax 85 #[H0 (M ⟨mb,0,O⟩)] w fun e w'=>e= Bs (U Y 1)/\vh w' base mb [(6, -1),(100,0)]/\Kp mb w w'/\Br base w w':=by
 have a:=Cm w base mb [] (-1) 6 h (by simp);go_in;go_wp2_with fail;refine a.mono ?_;rintro e j ⟨rfl,f,i,c⟩;have b:=Cm j base mb [(6, -1)] 0 100 f (by simp);clear a;simp only[dl,Int.natCast_zero];go_wp2_with fail;refine b.mono ?_;rintro e k ⟨rfl,g,p2,d⟩;clear b;simp only[bB,dl,qa,Int.natCast_one];go_wp2_with fail;go_ret;exact⟨rfl,g,i.trans p2,c.trans d⟩
structure aiA (w:A9) (base mb:Nat) (C:List (Int×Int)) (st:List Int) (j:Nat) (vo:A0) (W:A9):Prop where
 m:vh W base mb C
 kp:Kp mb w W
 bl:Br base w W
 row:W.ownsRow w.heap.size 3 1 vo (lA st j).length ((lA st j).map (B0 .i64))
theorem abq(w:A9)(base mb:Nat)(C:List (Int×Int))(st:List Int)(a2:Int)(h:vh w base mb C)(bh:mm C a2 st)(bb:Bg st)(cb:0<C.length)(ba:C.length<=50000000):
  B4 Ax 89 #[.pointer (M ⟨mb,0,O⟩),.int .i64 a2] w fun e w'=>∃a c,e= .returned (.slice a (zh st).length c)/\w'.ownsRow w.heap.size 3 1 (.slice a (zh st).length c) (zh st).length ((zh st).map (B0 .i64))/\vh w' base mb C/\Kp mb w w'/\Br base w w':=by
 obtain⟨cI,al,bd⟩:=h.ex;have df:base<=w.heap.size:=by have:=ai al;have:=h.lo;omega
 have an:=h.lo;obtain⟨j,B⟩:=az C.length;obtain⟨s,q,rfl⟩:∃s q,cI= .slice (M ⟨s,0,O⟩) j q:=by
  rcases bu bd with⟨hz,_⟩|hz
  ·omega
  ·rw[<-B];exact hz
 have b7:w.cell? ⟨mb,0,O⟩=M (.slice (M ⟨s,0,O⟩) j q):=by rw[au _ _ _ _ _ _ al];rfl
 have bE:aiA w base mb C st 0 (.slice O 0 0) w:=⟨h,Kp.refl _ _,ah _ _,dr _ _ _ _⟩;have n:=lD B bh bb;have a5:=aq bE;rw[B]at cb ba;obtain⟨cq,cr,ct,cw,cx⟩:=du sj;clear h bd al bE B bh bb;go_in;go_wp21
 go_loopw [5,7] (fun b0 a3 wr=>∃(b:Nat),b<=78/\a3= .int .i64 ((b:Int)+1)/\(∃a c,∃cz:Nat,b0= .slice a cz c)/\B1 (aiA w base mb C st b b0 wr)) (fun _ a3 _=>(79-F2 a3).toNat)
 case atStart=>exact⟨0,aL _,rfl,⟨_,_,_,rfl⟩,a5⟩
 case round=>
  obtain⟨b,c7,rfl,⟨x,y,mv,rfl⟩,g⟩:=hrel;clear a5 b7;by_cases c8:b<78
  ·have F:((b:Int)+1)<=78:=by omega
   have p:=yh wr base mb C st a2 ((b:Int)+1) g.m n.2.1 n.2.2 (by omega) F (by rw[n.out.1];exact ba);obtain⟨b5,af⟩:=az (feedL st ((b:Int)+1));rw[af]at p;obtain⟨bx,ap⟩:=az b5.2;unfold uj at p;rw[ap]at p;have a4:B1 ((feedL st ((b:Int)+1)).2=bx):=by show _=_;rw[af];exact ap
   obtain⟨m,ak⟩:∃m:Int,(b:Int)+1=m:=⟨_,rfl⟩;have I:=aq ak;have c5:m<=78:=by omega
   have c4:1<=m:=by omega
   rw[ak]at p⊢;clear af ap ak F;go_wp21
   refine p.mono ?_;rintro e l ⟨dk,D,rfl,bs,_,cc,p2,a6⟩;obtain⟨c1,v,E⟩:=bs.ex;rw[aK,n.out.1,abn]at E;obtain⟨t,r,rfl⟩:∃s q,c1= .slice (M ⟨s,0,O⟩) (j+D.length) q:=by
    rcases bu E with⟨hz,_⟩|hz
    ·omega
    ·exact hz
   have hcut:=abo (by rw[aiz,n.out.1]) E;have c6:=abp hcut;have z0:l.cell? ⟨mb,0,O⟩=M (.slice (M ⟨t,0,O⟩) (j+D.length) r):=by rw[au _ _ _ _ _ _ v];rfl
   have dz:l.frozen? ⟨mb,0,O⟩=Cb:=co _ _ _ _ _ v;have bt:=vh.put v an (by rw[n.out.1];exact hcut);obtain⟨ds,bn,_⟩:=g.m.ex;have bA:=p2.row bn g.row (by decide) (by decide);have bD:(l.setCell ⟨mb,0,O⟩ (.slice (M ⟨t,0,O⟩) j r)).ownsRow w.heap.size 3 1 (.slice x mv y) (lA st b).length ((lA st b).map (B0 .i64)):=
    ((Kp.refl mb l).put 0 _).row v bA (by decide) (by decide)
   have f:B1 (aiA w base mb C st b (.slice x mv y) (l.setCell ⟨mb,0,O⟩ (.slice (M ⟨t,0,O⟩) j r))):=
    ⟨bt,(g.kp.trans p2).put _ _,(g.bl.trans a6).setCell an _,bD⟩
   obtain⟨c3,cf⟩:=az (j+D.length);rw[cf]at z0;clear p bs E v hcut bt bA bD bn p2 a6 g cc;have ch:=vq st b;cases bx with
   |false=>
    have e:lA st (b+1)=lA st b:=by rw[lA,a4.out,aa (by decide)]
    go_wp21
    refine⟨⟨b+1,by omega,?_,⟨_,_,_,rfl⟩,⟨f.m,f.kp,f.bl,by rw[e];exact f.row⟩⟩,?_⟩
    ·have:=I.out;congr 1;push_cast;omega
    ·simp[F2];omega
   |true=>
    have e:lA st (b+1)=lA st b++[(b:Int)+1]:=by rw[lA,a4.out,ab rfl]
    have b1:B1 (lA st (b+1)=lA st b++[m]):=by show _=_;rw[e,I.out]
    obtain⟨b6,b8,K⟩:=bI f.row;cases K;obtain⟨mv,A⟩:=az ((lA st b).length);have b3:=aq A;rw[A]at ch⊢;have a0:=f.row;rw[A]at a0;have o:=aq a0;clear e A a0;have cm:=f.kp.size;have u:B1 ((l.setCell ⟨mb,0,O⟩ (.slice (M ⟨t,0,O⟩) j r)).heap.size=l.heap.size):=by show _=_;simp[B3]
    go_wp2_with (at_builtin;rw[<-u.out];generalize l.setCell ⟨mb,0,O⟩ (.slice (M ⟨t,0,O⟩) j r)=J at f o cm⊢;refine oe _ rfl _ _ 43 rfl w.heap.size 3 cq _ 1 8 Tryz.underlying43 cr ct cw cx rfl (by decide) _ _ _ rfl (o.alloc _) ⟨J.heap.size,0,O⟩ 1 1 [.int .i64 m] rfl rfl (B7 (cs:=#[.int .i64 m]) (fr:=(0,0)) (aA J _)) (by intro dn bk;simp at bk;subst bk;rfl) (by unfold E1;omega) (by omega) (by simp;omega) ?_;intro dq H ao k ck;obtain⟨ca,b9,rfl⟩:=Fs ao);obtain⟨c2,bo,bf⟩:=f.m.ex;have bc:∀d,(E2 x mv y).ownBlock=M d->w.heap.size<=d:=fun d i=>(o.out.lt d i).1;have ar:∀(d:Nat)(cs:Array A0)(G:E0)(fr:Nat×Nat),J.heap[d]?=M (.cells cs G fr)->G≠3->H.heap[d]?=M (.cells cs G fr):=fun d cs G fr i F=>by
     refine(k.block d (by simp;have:=ai i;omega) (fun e=>?_)).trans ((dg _ _ _ (ai i)).trans i);have z:(E2 x mv y).ownBlock=M d:=e.symm;rcases o.2 with⟨ad,_⟩|⟨L,a7,a8,ad,_,u,_⟩
     ·rw[ad]at z;simp[A2]at z
     ·rw[ad]at z;obtain rfl:L=d:=by simpa [A2] using z
      rw[i]at u;simp only[ee,kI]at u;exact F u.2.1
    have br:Kp mb w H:=⟨k.os.trans f.kp.os,k.tape.trans f.kp.tape,k.output.trans f.kp.output,by have:=k.size;simp at this;omega,fun d i cl am=>
     (k.block d (by simp;omega) (fun e=>by have:=bc d e.symm;omega)).trans ((dg _ _ _ (by omega)).trans (f.kp.block d i cl am))⟩
    have bw:vh H base mb C:=by
     refine⟨⟨c2,ar _ _ _ _ bo (by decide),?_⟩,an⟩;obtain⟨cB,a1⟩:=bf;refine⟨cB,?_⟩;rcases a1 with a1|⟨L,a7,a8,cn,cg,am,cF⟩
     ·exact .inl a1
     ·exact .inr ⟨L,a7,a8,cn,cg,ar _ _ _ _ am (by decide),cF⟩
    have bF:aiA w base mb C st (b+1) (.slice (M ⟨ca,0,O⟩) (mv+1) b9) H:=by
     refine⟨bw,br,?_,?_⟩
     ·exact(f.bl.alloc (by omega) _).grown k (by simp;omega) (fun d i=>by have:=(o.out.lt d i).1;omega)
     ·rw[b1.out,aK,b3.out,dF];exact ao
    have b4:=aq bF;clear bF bw br bo bf bc ar ao k ck f o;refine⟨⟨b+1,by omega,?_,⟨_,_,_,rfl⟩,b4⟩,?_⟩
    ·have:=I.out;congr 1;push_cast;omega
    ·simp[F2];omega
  ·obtain rfl:b=78:=by omega
   obtain⟨b6,b8,K⟩:=bI g.row;cases K;go_wp21
   go_ret;exact⟨_,_,rfl,g.row,g.m,g.kp,g.bl⟩
theorem jw(o:W.ownsRow base e size v n xs){cs:Array A0}{fr:Nat×Nat}(c:W.heap[g]?=M (B6 cs t fr))(h:t≠e):v.ownBlock≠M g:=fun a=>by
 rcases o.2 with⟨b,_⟩|⟨d,i,j,b,_,f,_⟩
 ·rw[b]at a;simp[A2]at a
 ·rw[b]at a;obtain rfl:d=g:=by simpa [A2] using a
  rw[f]at c;cases c;exact h rfl
theorem Bi(o:W.ownsRow base e size v n xs)(a:v.ownBlock≠M g)(q:Nat)(u:A0):(W.setCell ⟨g,q,O⟩ u).ownsRow base e size v n xs:=
 o.kept (row:=M g) ⟨rfl,rfl,rfl,by simp[B3],fun f d b=>aB _ _ _ _ (fun e=>b (by rw[e]))⟩ (by
  cases hv:v.ownBlock with
  |none=>exact .inl rfl
  |some c=>exact .inr (fun e=>a (by rw[hv,e])))
theorem Gn:(Tryz.prog.info? 45).map (fun i=>(i.zero,i.size,i.bytes))=M (M (G3 #[U Y 0,U Y 0,U Y 0,U Y 0,U Y 0,U Y 0,F1 ⟨#[]⟩,A5 O 0 0,A5 O 0 0]),9,112):=by kernel_rfl
abbrev LD(N:Nd)(vn vk:A0):Array A0:=#[U Y N.k,U Y N.f,U Y N.t,U Y N.l,U Y N.op,U Y N.n,F1 N.x,vn,vk]
structure TkC (cs:Array A0) (T:Tk) (q:Nat) (l:Int):Prop where
 c0:cs[q*6]?=M (.int .i64 T.k)
 c1:cs[q*6+1]?=M (.int .i64 T.f)
 c2:cs[q*6+2]?=M (.int .i64 T.t)
 c3:cs[q*6+3]?=M (.int .i64 l)
 c4:cs[q*6+4]?=M (.int .i64 T.n)
 c5:cs[q*6+5]?=M (.string T.x)
 hl:T.k≠6->l=T.l
def TkR(cs:Array A0)(tk:Nat->Tk)(n:Nat):Prop:=∀q,q<n->∃l,TkC cs (tk q) q l
structure Pe where
 base:Nat
 pb:Nat
 tb:Nat
 cap:Nat
 n:Nat
 tk:Nat->Tk
abbrev pV(E:Pe):A0:= H0 (M ⟨E.pb,0,O⟩)
abbrev s0:A0:= A5 O 0 0
abbrev jr(k:Int)(T:Tk):Array A0:=#[U Y k,U Y T.f,U Y T.t,U Y T.l,U Y T.n,F1 T.x]
abbrev Bxs:=List (Nat×E0×Array A0)
abbrev Rws:=List (E0×A0×List A0)
abbrev TOw(t:E0):Prop:=t=9\/t=3
abbrev iv:Int->A0:= U Y
def Ac(s:Nat)(b c:List Mb)(R:Fo):Prop:=∃a,c=b++a/\a.map Mb.N=R.flat b.length/\∀x∈a,∀g,x.vn.ownBlock=M g\/x.vk.ownBlock=M g->s<=g
theorem Ac.nil(s:Nat)(a:List Mb):Ac s a a .nil:=⟨[],(dA a).symm,rfl,fun c b=>by cases b⟩
theorem Ac.len{b c:List Mb}(h:Ac s b c R):c.length=b.length+R.sz:=by
 obtain⟨d,rfl,a,_⟩:=h;have a:=congrArg List.length a;rw[cj,Fo.flat_len]at a;rw[aK,a]
theorem Ac.app{t:Nat}{a b:List Mb}{x e:Fo}(h:Ac s a L1 x)(k:Ac t L1 b e)(p:s<=t):Ac s a b (x.app e):=by
 have o:=h.len;obtain⟨g,rfl,j,m⟩:=h;obtain⟨i,rfl,l,n⟩:=k;refine⟨g++i,by rw[dy],by rw[dF,j,l,Fo.flat_app,o],fun f hz c d=>?_⟩;rcases List.mem_append.1 hz with hz|hz
 ·exact m f hz c d
 ·exact bL p (n f hz c d)
theorem Ac.add{a:List Mb}(h:Ac s a L1 R)(N:Nd){vn vk:A0}(f:N.ks=R.tops a.length)(fn:∀g,vn.ownBlock=M g\/vk.ownBlock=M g->s<=g):Ac s a (L1++[⟨N,vn,vk⟩]) (one {N with ks:=[]} R):=by
 obtain⟨c,rfl,d,e⟩:=h;refine⟨c++[⟨N,vn,vk⟩],by rw[dy],by rw[dF,d,BG,<-f];rfl,fun i hz g b=>?_⟩;rcases List.mem_append.1 hz with hz|hz
 ·exact e i hz g b
 ·obtain rfl:=List.mem_singleton.1 hz;exact fn g b
def Ap(a b:E0×A0×List A0):Prop:=∀g,a.2.1.ownBlock=M g->b.2.1.ownBlock≠M g
def Ng(E:Pe)(w:A9)(g:Nat):Prop:=∃v,w.cell? ⟨E.pb,2,O⟩=M v/\v.ownBlock=M g
abbrev pC(E:Pe)(i:Int)(v:A0):Obj:= B6 #[A5 (M ⟨E.tb,0,O⟩) E.n E.cap,U Y i,v] 83 (0,0)
theorem nbI{E:Pe}{i:Int}(h:w.heap[E.pb]?=M (pC E i v)):Ng E w g↔v.ownBlock=M g:=by
 have a:w.cell? ⟨E.pb,2,O⟩=M v:=by rw[au _ _ _ _ _ _ h];rfl
 exact⟨fun ⟨d,b,c⟩=>by rw[a]at b;cases b;exact c,fun h=>⟨v,a,h⟩⟩
structure Sq (E:Pe) (W:A9) (G:Option Nat) (L:List Mb) (w:A9) (i:Nat) (L1:List Mb) (D:Fo) (zs:List Int) (B:Bxs) (R:Rws):Prop where
 lo:E.base<=E.pb/\E.pb<W.heap.size/\E.tb<W.heap.size/\E.n<=1048576
 tks:∃cs fr,w.heap[E.tb]?=M (.cells cs 67 fr)/\TkR cs E.tk E.n
 row:∃v,w.heap[E.pb]?=M (pC E i v)/\w.ownsRow E.base 45 9 v L1.length (sv L1)
 nb:(∀g,Ng E w g->G=M g\/W.heap.size<=g)/\∀p∈B,¬Ng E w p.1
 each:∀x∈L1,w.ownsRow E.base 9 1 x.vn x.N.nm.length (x.N.nm.map F0)/\w.ownsRow E.base 3 1 x.vk x.N.ks.length (x.N.ks.map iv)
 ac:Ac W.heap.size L L1 D
 tp:D.tops L.length=zs
 bl:Br E.base W w
 fz:∀k,k<W.heap.size->k≠E.pb->G≠M k->w.heap[k]?=W.heap[k]?
 bx:∀p∈B,W.heap.size<=p.1/\¬TOw p.2.1/\w.heap[p.1]?=M (.cells p.2.2 p.2.1 (0,0))
 bd:(B.map Prod.fst).Nodup
 rw:∀r∈R,TOw r.1/\w.ownsRow W.heap.size r.1 1 r.2.1 r.2.2.length r.2.2/\∀x∈L1,∀g,r.2.1.ownBlock=M g->x.vn.ownBlock≠M g/\x.vk.ownBlock≠M g
 rs:R.Pairwise Ap
section
variable {E : Pe} {W w w' : World} {G o : Option Nat} {L L1 L2 : List Mb} {i j b : Nat} {D X : Fo} {zs ys : List Int} {B : Bxs} {R R2 : Rws} {t : TypeId} {cs : Array Value} {v : Value} {xs : List Value}
theorem TOw.ne{t u:E0}(h:TOw t)(a:u=45\/u=83\/u=67):u≠t:=by
 rcases h with rfl|rfl<;>rcases a with rfl|rfl|rfl<;>decide
theorem Sq.to(S:Sq E W G L w i L1 D zs B R)(K:Br E.base w w')(h:∀k,k<w.heap.size->k≠E.pb->M k≠o->w'.heap[k]?=w.heap[k]?)(ak:∀v,w.heap[E.pb]?=M (pC E i v)->w'.heap[E.pb]?=M (pC E j v))
  (d:∀k,o=M k->W.heap.size<=k/\¬Ng E w k/\(∀x∈L1,x.vn.ownBlock≠M k/\x.vk.ownBlock≠M k)/\(∀p∈B,p.1≠k)/\∀r∈R,r.2.1.ownBlock≠M k):Sq E W G L w' j L1 D zs B R:=by
 obtain⟨H,I,n,al⟩:=S.tks;obtain⟨v,e,p2⟩:=S.row;have u:=S.lo;have am:=S.bl.size;have C:=ak v e;have m:∀{y b size z:Nat}{q:A0}{F:List A0},w.ownsRow y b size q z F->b≠83->(∀k,o=M k->q.ownBlock≠M k)->w'.ownsRow y b size q z F:=fun s ad af=>ju s fun c t f g=>⟨h c g (fun b=>jw s e (dv ad) (b ▸ t)) fun b=>af c b.symm t,f⟩;have A:∀k,k<W.heap.size->M k≠o:=fun k a b=>by have:=(d k b.symm).1;omega
 have b:∀c,Ng E w' c↔Ng E w c:=fun c=>(nbI C).trans (nbI e).symm;exact⟨u,⟨H,I,(h _ (by omega) (fun b=>by rw[b,e]at n;cases n) (A _ u.2.2.1)).trans n,al⟩,⟨v,C,m p2 (by decide) fun k a=>fun b=>(d k a).2.1 ((nbI e).2 b)⟩,⟨fun c a=>S.nb.1 c ((b c).1 a),fun p a=>fun k=>S.nb.2 p a ((b _).1 k)⟩,fun x l=>⟨m (S.each x l).1 (by decide) fun k a=>((d k a).2.2.1 x l).1,m (S.each x l).2 (by decide) fun k a=>((d k a).2.2.1 x l).2⟩,S.ac,S.tp,S.bl.trans K,fun k f g J=>(h k (by omega) g (A k f)).trans (S.fz k f g J),fun p a=>⟨(S.bx p a).1,(S.bx p a).2.1,(h _ (ai (S.bx p a).2.2) (by have:=(S.bx p a).1;omega) fun b=>(d _ b.symm).2.2.2.1 p a rfl).trans (S.bx p a).2.2⟩,S.bd,fun r a=>⟨(S.rw r a).1,m (S.rw r a).2.1 ((S.rw r a).1.ne (.inr (.inl rfl))).symm fun k b=>(d k b).2.2.2.2 r a,(S.rw r a).2.2⟩,S.rs⟩
theorem Sq.low(S:Sq E W G L w i L1 D zs B R):E.base<=W.heap.size/\W.heap.size<=w.heap.size:=by have:=S.lo;have:=S.bl.size;omega
theorem Sq.below(S:B1 (Sq E W G L w i L1 D zs B R))(b:Br w.heap.size w w'):B1 (Sq E W G L w' i L1 D zs B R):=
 S.to (o:=O) (b.mono (by have:=S.low;omega)) (fun c a _ _=>b.block c a) (fun d a=>(b.block _ (ai a)).trans a) fun c a=>by cases a
theorem Sq.sub(S:Sq E W G L w i L1 D zs B R){a:Bxs}(c:∀p∈a,p∈B)(d:(a.map Prod.fst).Nodup):Sq E W G L w i L1 D zs a R:=
 {S with nb:=⟨S.nb.1,fun p b=>S.nb.2 p (c p b)⟩,bx:=fun p b=>S.bx p (c p b),bd:=d}
theorem Sq.less(S:B1 (Sq E W G L w i L1 D zs B R)){a:Rws}(h:a.Sublist R):B1 (Sq E W G L w i L1 D zs B a):={S.out with rw:=fun c b=>S.rw c (h.subset b),rs:=S.rs.sublist h}
theorem Sq.with(S:Sq E W G L w i L1 D zs B R)(e:w.heap[b]?=M (B6 cs t (0,0)))(a:W.heap.size<=b)(j:¬TOw t)(g:¬Ng E w b)(f:∀p∈B,p.1≠b):Sq E W G L w i L1 D zs ((b,t,cs)::B) R:=
 {S with
  nb:=⟨S.nb.1,fun p h=>by rcases List.mem_cons.1 h with rfl|h;exact g;exact S.nb.2 p h⟩
  bx:=fun p h=>by rcases List.mem_cons.1 h with rfl|h;exact⟨a,j,e⟩;exact S.bx p h
  bd:=by rw[kK,List.nodup_cons];exact⟨fun h=>by obtain⟨p,c,d⟩:=List.mem_map.1 h;exact f p c d,S.bd⟩}
theorem Sq.nlt(S:Sq E W G L w i L1 D zs B R)(h:Ng E w g):g<w.heap.size/\∃cs fr,w.heap[g]?=M (B6 cs 45 fr):=by
 obtain⟨k,e,p2⟩:=S.row;have a:=(nbI e).1 h;refine⟨(p2.lt g a).2,?_⟩;rcases p2.2 with⟨b,_⟩|⟨c,f,j,b,_,d,_⟩
 ·rw[b]at a;simp[A2]at a
 ·rw[b]at a;obtain rfl:c=g:=by simpa [A2] using a
  exact⟨_,_,d⟩
theorem Sq.box(S:B1 (Sq E W G L w i L1 D zs B R))(c:¬TOw t:=by decide):B1 (Sq E W G L (w.alloc (B6 cs t)) i L1 D zs ((w.heap.size,t,cs)::B) R):=by
 have e:=Sq.below S (cK w (B6 cs t));obtain⟨f,b,p2⟩:=S.row;exact e.with (aA w _) S.low.2 c (fun a=>by have:=(p2.lt _ ((nbI (((cK w (B6 cs t)).block _ (ai b)).trans b)).1 a)).2;omega) fun d a=>by have:=ai (S.bx d a).2.2;omega
theorem Sq.set{q:Nat}(S:B1 (Sq E W G L w i L1 D zs ((b,t,cs)::B) R)):B1 (Sq E W G L (w.setCell ⟨b,q,O⟩ u) i L1 D zs ((b,t,cs.setIfInBounds q u)::B) R):=by
 obtain⟨h,j,k⟩:=S.bx _ (.head _);obtain⟨v,x⟩:=List.nodup_cons.1 S.bd;have K:=S.lo;have J:=S.low;have g:∀d,d≠b->(w.setCell ⟨b,q,O⟩ u).heap[d]?=w.heap[d]?:=fun d a=>aB _ _ _ _ a;have l:∀e∈B,e.1≠b:=fun e a c=>v (List.mem_map.2 ⟨e,a,c⟩);have f:∀{z c F A:Nat}{u:A0}{I:List A0},w.ownsRow z c F u A I->TOw c->u.ownBlock≠M b:=fun s y=>jw s k fun c=>j (c ▸ y);have C:Sq E W G L (w.setCell ⟨b,q,O⟩ u) i L1 D zs B R:=(S.sub (fun e a=> .tail _ a) x).to (o:=M b) ((ah _ w).setCell (show E.base<=b by omega) _) (fun d _ _ a=>g d fun c=>a (by rw[c])) (fun H a=>(g _ (by omega)).trans a) fun d a=>by
  cases a;exact⟨h,S.nb.2 _ (.head _),fun r m=>⟨f (S.each r m).1 (.inl rfl),f (S.each r m).2 (.inr rfl)⟩,l,fun p a=>f (S.rw p a).2.1 (S.rw p a).1⟩
 obtain⟨H,n,p2⟩:=S.row;exact C.with (bz _ b q _ _ _ k) h j (fun a=>S.nb.2 _ (.head _) ((nbI n).2 ((nbI ((g _ (by omega)).trans n)).1 a))) l
theorem Sq.hd(S:B1 (Sq E W G L w i L1 D zs ((b,t,cs)::B) R)):w.heap[b]?=M (B6 cs t (0,0)):=(S.bx _ (.head _)).2.2
theorem Sq.tail(S:B1 (Sq E W G L w i L1 D zs (p::B) R)):B1 (Sq E W G L w i L1 D zs B R):=S.sub (fun p a=> .tail _ a) (List.nodup_cons.1 S.bd).2
theorem Sq.drop1(S:B1 (Sq E W G L w i L1 D zs (p::r::B) R)):B1 (Sq E W G L w i L1 D zs (p::B) R):=S.sub (fun a h=>by rcases List.mem_cons.1 h with rfl|h;exact .head _;exact .tail _ (.tail _ h)) (by have:=S.bd;simp only[kK,List.nodup_cons,jb,not_or]at this⊢;exact⟨this.1.2,this.2.2⟩)
theorem Sq.swapB(S:B1 (Sq E W G L w i L1 D zs (p::r::B) R)):B1 (Sq E W G L w i L1 D zs (r::p::B) R):=S.sub (fun a h=>by simp only[jb]at h⊢;rcases h with h|h|h<;>simp[h]) (by
 have h:=S.bd;simp only[kK,List.nodup_cons,jb,not_or]at h⊢;exact⟨⟨dv h.1.1,h.2.1⟩,h.1.2,h.2.2⟩)
theorem Sq.rowA(S:Sq E W G L w i L1 D zs B R)(b:TOw t)(o:w.ownsRow W.heap.size t 1 v xs.length xs)(h:∀x∈L1,∀g,v.ownBlock=M g->x.vn.ownBlock≠M g/\x.vk.ownBlock≠M g)(a:∀r∈R,Ap (t,v,xs) r):Sq E W G L w i L1 D zs B ((t,v,xs)::R):=
 {S with rw:=fun r k=>by rcases List.mem_cons.1 k with rfl|k;exact⟨b,o,h⟩;exact S.rw r k,rs:=List.pairwise_cons.2 ⟨a,S.rs⟩}
theorem Sq.nil(S:B1 (Sq E W G L w i L1 D zs B R))(c:TOw t:=by decide):B1 (Sq E W G L w i L1 D zs B ((t,s0,[])::R)):=S.rowA c (dr _ _ _ _) (fun g e b a=>by simp[A2]at a) fun f d b a=>by simp[A2]at a
theorem Sq.elt(S:Sq E W G L w i L1 D zs B R){x:Mb}(b:x∈L1)(h:w.heap.size<=g):x.vn.ownBlock≠M g/\x.vk.ownBlock≠M g:=
 ⟨fun a=>by have:=((S.each x b).1.lt g a).2;omega,fun a=>by have:=((S.each x b).2.lt g a).2;omega⟩
theorem Sq.lit(S:B1 (Sq E W G L w i L1 D zs B R))(g:TOw t:=by decide)(d:Nat.ble xs.length 100=Er:=by rfl):B1 (Sq E W G L (w.alloc (B6 xs.toArray t)) i L1 D zs B ((t,A5 (M ⟨w.heap.size,0,O⟩) xs.length xs.length,xs)::R)):=by
 have j:=kJ (base:=W.heap.size) (e:=t) (size:=1) w xs.toArray xs.length S.low.2 (by have:=Nat.le_of_ble_eq_true d;unfold E1;omega) (by simp);have e:∀{a},(E2 (M ⟨w.heap.size,0,O⟩) xs.length xs.length).ownBlock=M a->w.heap.size=a:=fun b=>by simpa [A2] using b
 exact(Sq.below S (cK w (B6 xs.toArray t))).rowA g (by simpa using j) (fun l h a c=>S.elt h (Nat.le_of_eq (e c))) fun k f a c b=>by have:=e c;have:=((S.rw k f).2.1.lt a b).2;omega
theorem Sq.lit1{V:A9}{o:Obj}(S:B1 (Sq E W G L (V.alloc o) i L1 D zs B R))(b:TOw t:=by decide)(a:Nat.ble xs.length 100=Er:=by rfl):B1 (Sq E W G L ((V.alloc o).alloc (B6 xs.toArray t)) i L1 D zs B ((t,A5 (M ⟨V.heap.size+1,0,O⟩) xs.length xs.length,xs)::R)):=cD V o ▸ Sq.lit S b a
theorem Sq.lit2{V:A9}{a:Addr}(S:B1 (Sq E W G L (V.setCell a u) i L1 D zs B R))(c:TOw t:=by decide)(b:Nat.ble xs.length 100=Er:=by rfl):B1 (Sq E W G L ((V.setCell a u).alloc (B6 xs.toArray t)) i L1 D zs B ((t,A5 (M ⟨V.heap.size,0,O⟩) xs.length xs.length,xs)::R)):=(show(V.setCell a u).heap.size=V.heap.size by simp[B3]) ▸ Sq.lit S c b
theorem Sq.litm(S:B1 (Sq E W G L w i L1 D zs B R))(a:w.heap.size=m)(c:TOw t:=by decide)(b:Nat.ble xs.length 100=Er:=by rfl):B1 (Sq E W G L (w.alloc (B6 xs.toArray t)) i L1 D zs B ((t,A5 (M ⟨m,0,O⟩) xs.length xs.length,xs)::R)):=a ▸ Sq.lit S c b
theorem Sq.put{c:A0}{h:List A0}(S:Sq E W G L w i L1 D zs B ((t,v,xs)::R))(k:w.grownBy w' v.ownBlock)(A:w'.ownsRow W.heap.size t 1 c h.length h)(q:c.ownBlock=v.ownBlock\/c.ownBlock=M w.heap.size):Sq E W G L w' i L1 D zs B ((t,c,h)::R):=by
 obtain⟨l,m,u⟩:=S.rw _ (.head _);have J:=S.lo;have I:=S.low;have n:=fun b a=>(m.lt b a).1;have x:=(List.pairwise_cons.1 S.rs).1;refine((Sq.less S (List.sublist_cons_self _ _)).to (o:=v.ownBlock) ((ah _ w).grown k (by omega) fun b a=>by have:=n b a;omega) (fun b a _ y=>k.block b a y) (fun K a=>(k.block _ (by omega) fun e=>by have:=n _ e.symm;omega).trans a) fun b a=>⟨n b a,fun z=>?_,fun p f=>u p f b a,fun s r e=>?_,fun g d=>x g d b a⟩).rowA l A (fun p f j a=>?_) fun g d j a=>?_
 ·obtain⟨_,F,H,C⟩:=S.nlt z;exact jw m C (l.ne (.inl rfl)) a
 ·exact jw m (S.bx s r).2.2 (fun e=>(S.bx s r).2.1 (e ▸ l)) (e ▸ a)
 ·rcases q with e|e
  ·exact u p f j (e ▸ a)
  ·rw[e]at a;cases a;exact S.elt f (ag _)
 ·rcases q with e|e
  ·exact x g d j (e ▸ a)
  ·rw[show(t,c,h).2.1.ownBlock=_ from e]at a;cases a;exact fun e=>by have:=((S.rw g (.tail _ d)).2.1.lt _ e).2;omega
theorem Sq.swap{r a:E0×A0×List A0}(S:B1 (Sq E W G L w i L1 D zs B (r::a::R))):B1 (Sq E W G L w i L1 D zs B (a::r::R)):=
 {S.out with
  rw:=fun e h=>S.rw e (by simp only[jb]at h⊢;rcases h with h|h|h<;>simp[h])
  rs:=by
   have h:=S.rs;simp only[List.pairwise_cons,jb,forall_eq_or_imp]at h⊢;exact⟨⟨fun d b c=>h.1.1 d c b,h.2.1⟩,h.1.2,h.2.2⟩}
theorem Sq.here(S:Sq E W G L w i L1 D zs B R):∃c,(∀g,c=M g->Ng E w g)/\Sq E w c L1 w i L1 .nil [] [] []:=by
 obtain⟨f,b,p2⟩:=S.row;have d:=S.lo;have h:=S.low;exact⟨f.ownBlock,fun g a=>(nbI b).2 a,⟨d.1,by omega,by omega,d.2.2.2⟩,S.tks,⟨f,b,p2⟩,⟨fun g a=> .inl ((nbI b).1 a),fun e a=>(by cases a)⟩,S.each,Ac.nil _ _,rfl,ah _ _,fun _ _ _ _=>rfl,fun e a=>(by cases a),uD,fun e a=>(by cases a),.nil⟩
theorem Sq.join{p:Option Nat}(S:Sq E W G L w i L1 D zs B R)(m:∀g,p=M g->Ng E w g)(s:Sq E w p L1 w' j L2 X ys [] R2):Sq E W G L w' j L2 (D.app X) (zs++ys) B (R2++R):=by
 have A:=S.lo;have r:=S.low;have ak:=s.bl.size;have t:∀a,W.heap.size<=a->a<w.heap.size->¬Ng E w a->w'.heap[a]?=w.heap[a]?:=fun a h f l=>s.fz a f (by omega) fun e=>l (m a e);have F:∀b∈R,∀g,b.2.1.ownBlock=M g->¬Ng E w g:=fun b hr g k C=>by
  obtain⟨_,ad,af,H⟩:=S.nlt C;exact jw (S.rw b hr).2.1 H ((S.rw b hr).1.ne (.inl rfl)) k
 refine⟨A,s.tks,s.row,⟨fun g k=>?_,fun d c k=>?_⟩,s.each,S.ac.app s.ac r.2,by rw[Fo.tops_app,S.tp,<-S.ac.len,s.tp],S.bl.trans s.bl,fun a h f l=>(s.fz a (by omega) f fun e=>?_).trans (S.fz a h f l),fun d c=>⟨(S.bx d c).1,(S.bx d c).2.1,(t _ (S.bx d c).1 (ai (S.bx d c).2.2) (S.nb.2 d c)).trans (S.bx d c).2.2⟩,S.bd,fun b hr=>?_,List.pairwise_append.2 ⟨s.rs,S.rs,fun v y x z g h f=>by have:=((s.rw v y).2.1.lt g h).1;have:=((S.rw x z).2.1.lt g f).2;omega⟩⟩
 ·rcases s.nb.1 g k with e|e
  ·exact S.nb.1 g (m g e)
  ·exact .inr (by omega)
 ·rcases s.nb.1 _ k with e|e
  ·exact S.nb.2 d c (m _ e)
  ·have:=ai (S.bx d c).2.2;omega
 ·rcases S.nb.1 a (m a e) with e|e
  ·exact l e
  ·omega
 ·rcases List.mem_append.1 hr with hr|hr
  ·exact⟨(s.rw b hr).1,nI (s.rw b hr).2.1 r.2,(s.rw b hr).2.2⟩
  ·obtain⟨I,u,J⟩:=S.rw b hr;refine⟨I,ju u fun g n h f=>⟨t g h f (F b hr g n),h⟩,fun o hx g n=>?_⟩;obtain⟨K,rfl,_,q⟩:=s.ac;have:=(u.lt g n).2;rcases List.mem_append.1 hx with hx|hx
   ·exact J o hx g n
   ·exact⟨fun e=>by have:=q o hx g (.inl e);omega,fun e=>by have:=q o hx g (.inr e);omega⟩
end
def CQ(E:Pe)(f:FuncId)(args:Array A0)(i:Nat)(X:Fo)(j:Nat)(Z:A0->List Int->Rws->Prop):Prop:=
 ∀(W:A9)(G:Option Nat)(L:List Mb),Sq E W G L W i L .nil [] [] []->L.length+X.sz<=50000000->B4 Ax f args W fun e w'=>∃v L2 ys R2,e= Bs v/\Z v ys R2/\B1 (Sq E W G L w' j L2 X ys [] R2)
abbrev CI(E:Pe)(f:FuncId)(args:Array A0)(i:Nat)(X:Fo)(j:Nat):Prop:=CQ E f args i X j fun v ys R2=>∃a,v= U Y a/\ys=[a]/\R2=[]
abbrev CL(E:Pe)(f:FuncId)(args:Array A0)(i:Nat)(X:Fo)(j:Nat):Prop:=CQ E f args i X j fun v ys R2=>∃a c,v= A5 a ys.length c/\R2=[(3,v,ys.map iv)]
abbrev CM(E:Pe)(i:Nat)(b:List ByteArray)(j:Nat):Prop:=CQ E 161 #[pV E] i .nil j fun v ys R2=>∃a c,v= A5 a b.length c/\ys=[]/\R2=[(9,v,b.map F0)]
theorem Sq.cq{E:Pe}{a:Option Nat}{b:List Mb}{D X:Fo}{c:List Int}{B:Bxs}{R:Rws}{f:FuncId}{args:Array A0}{Z:A0->List Int->Rws->Prop}{Q:Ending->A9->Prop}(S:B1 (Sq E W a b w i L1 D c B R))(C:CQ E f args i X j Z)(h:L1.length+X.sz<=50000000)(k:∀w' v L2 ys R2,Z v ys R2->B1 (Sq E W a b w' j L2 (D.app X) (c++ys) B (R2++R))->Q (Bs v) w'):B4 Ax f args w Q:=by
 obtain⟨d,e,g⟩:=S.here;refine(C w d L1 g h).mono ?_;rintro n w' ⟨v,L2,ys,R2,rfl,l,m⟩;exact k w' v L2 ys R2 l (S.join e m)
def Co(S:List Int):List Int->Int->Option Int
 |[],a=>M a
 |k::r,a=>if k=a-1/\S.getD k.toNat 0≠0 then Co S r (a-S.getD k.toNat 0) else O
def sA(S:List Int)(i:Nat)(ks:List Int):Int:=match Co S ks.reverse i with|some a=>(i:Int)-a+1|none=>0
def iG(c:List Nd):List Int:=c.foldl (fun a b=>a++[sA a a.length b.ks]) []
theorem sC(a:List Nd)(N:Nd):iG (a++[N])=iG a++[sA (iG a) (iG a).length N.ks]:=by simp[iG]
theorem Bj{α:Type}{p:List α->Prop}(h0:p [])(h1:∀a x,p a->p (a++[x]))(l:List α):p l:=by
 rw[<-List.reverse_reverse l]
 induction l.reverse with
 |nil=>exact h0
 |cons x r ih=>rw[List.reverse_cons];exact h1 _ x ih
theorem js:∀(ns:List Nd),(iG ns).length=ns.length:=by
 intro ns;refine Bj (p:=fun ns=>(iG ns).length=ns.length) rfl (fun c b a=>?_) ns;rw[sC];simp[a]
structure ak8 (S:List Int) (l:List Int) (a:Int) (R:Option Int):Prop where
 out:Co S l a=R
def Cp(S:List Int):Prop:=∀(j:Nat) z,S[j]?=M z->0<=z/\z<=(j:Int)+1
theorem afj{S:List Int}(hS:Cp S):∀(l:List Int)(a b:Int),(∀k∈l,0<=k)->0<=a->Co S l a=M b->0<=b/\b<=a
 |[],a,b,_,f,h=>by simp[Co]at h;omega
 |k::r,a,b,d,f,h=>by
  rw[Co]at h;split at h
  ·rename_i g;have i:=d k (by simp);have e:0<=S.getD k.toNat 0/\S.getD k.toNat 0<=k+1:=by
    rw[be];cases hs:S[k.toNat]? with
    |none=>simp;omega
    |some c=>have:=hS _ c hs;simp;omega
   have:=afj hS r _ b (fun c e=>d c (by simp[e])) (by omega) h;omega
  ·cases h
theorem aiB{S:List Int}(hS:Cp S)(i:Nat)(ks:List Int)(b:∀k∈ks,0<=k):0<=sA S i ks/\sA S i ks<=(i:Int)+1:=by
 unfold sA;cases h:Co S ks.reverse i with
 |none=>simp;omega
 |some a=>
  have:=afj hS ks.reverse i a (fun k c=>b k (by simpa using c)) (by omega) h;simp;omega
theorem zi(b:List Nd):(∀N∈b,∀k∈N.ks,0<=k)->Cp (iG b):=by
 refine Bj (p:=fun b=>(∀N∈b,∀k∈N.ks,0<=k)->Cp (iG b)) (fun _ c i a=>by simp[iG]at a) (fun d N o f=>?_) b;have h:=o (fun j m=>f j (by simp[m]));intro c i a;rw[sC]at a;rcases bj c (iG d).length with g|g
 ·rw[iu g]at a;exact h c i a
 ·rw[fL g]at a;obtain⟨l,e⟩:=List.getElem?_eq_some_iff.1 a;simp at l e;subst e;obtain rfl:c=(iG d).length:=by omega
  exact aiB h _ _ (fun k n=>f N (by simp) k n)
theorem EB(a:List Int)(n k:Nat)(z:Int)(b:a.length=k)(d:k<n):(a.map (B0 Y)++C2 (n-k) (B0 Y 0)).set k (U Y z)=(a++[z]).map (B0 Y)++C2 (n-(k+1)) (B0 Y 0):=by
 have c:(a.map (B0 Y)).length=k:=by rw[cj,b]
 rw[List.set_append_right _ _ (by omega),c,eC,show n-k=(n-(k+1))+1 by omega,List.replicate_succ,aE];simp
theorem Ji(w:A9)(v:A0)(b:List Nd)(h:fs w v b)(cf:b.length<=3000)(H:∀N∈b,N.ks.length<=1048576)(s:∀(i:Nat) N,b[i]?=M N->∀k∈N.ks,0<=k/\k<(i:Int)):
  B4 Ax 29 #[.agg #[v]] w fun e w'=>∃g,e= .returned (.slice (M ⟨g,0,O⟩) b.length b.length)/\w'.ownsRow w.heap.size 3 1 (.slice (M ⟨g,0,O⟩) b.length b.length) b.length ((iG b).map (B0 .i64))/\Br w.heap.size w w':=by
 obtain⟨F,G,rfl⟩:=h.form;obtain⟨a,ad⟩:=az b.length;have al:=aq ad;have bF:B1 (fs w (.slice F a G) b):=by rw[<-ad];exact h
 have an:B1 ((∀N∈b,N.ks.length<=1048576)/\(∀(i:Nat) N,b[i]?=M N->∀k∈N.ks,0<=k/\k<(i:Int))/\∀k,Cp (iG (b.take k))):=⟨H,s,fun k=>zi _ (fun N H ba m=>by
  obtain⟨i,a3,e⟩:=ie (Bb H);exact(s i N (by rw[aJ a3,e]) ba m).1)⟩
 rw[ad]at cf⊢;clear h ad H s;obtain⟨cn,a3,cg,cl,cm⟩:=du sj;go_in;go_wp2_with (at_make;refine A8 _ rfl _ _ 43 rfl w.heap.size 3 cn (.int .i64 0) 1 Tryz.underlying43 a3 cg cl .i64 .i64 _ _ a rfl rfl rfl rfl (by rw[cm];omega) (by unfold E1;omega) (by simp) ?_;intro bE a6 r;have a1:Br (w.alloc (.cells #[.slice F a G] 26)).heap.size (w.alloc (.cells #[.slice F a G] 26)) bE:=⟨r.os,r.tape,r.output,r.size,fun k s=>r.block k s (by simp)⟩;have cs:bE.cell? ⟨w.heap.size,0,O⟩=M (.slice F a G):=by {rw[au _ _ _ _ _ _ ((a1.block _ (by simp)).trans (aA w _))];rfl});have bf:=((ah _ w).alloc (ag _) _).trans (a1.mono (by simp));rw[cD,show(madeCells (B0 .i64 0).cells (a*1)).toList=C2 a (B0 .i64 0) by rw[sh];exact AI _ a]at a6;clear cs a1 r;go_loopw [17] (fun a8 wr=>∃k:Nat,k<=a/\a8= .int .i64 k/\B1 (wr.ownsRow w.heap.size 3 1 (.slice (M ⟨w.heap.size+1,0,O⟩) a a) a ((iG (b.take k)).map (B0 .i64)++C2 (a-k) (.int .i64 0)))/\Br w.heap.size w wr) (fun a8 _=>a-(F2 a8).toNat)
 case atStart=>exact⟨0,aL _,rfl,a6,bf⟩
 case round=>
  obtain⟨k,s,rfl,B,z⟩:=hrel;clear a6 bf;by_cases bw:k<a
  ·obtain⟨N,A⟩:=cy al.out bw;have cc:=an.1 N (cH A);have bt:=an.2.1 k N A;have a5:=an.2.2 k;obtain⟨cw,rfl,d4,d3,ca⟩:=(bF.below z).get A;obtain⟨b2,b3,b4,b5,b6,b7,b8,bh,bk,bx,a4⟩:=ca;obtain⟨cx,cB,rfl⟩:=bx.form;obtain⟨bd,bl,rfl⟩:=a4.form;obtain⟨d,I⟩:=az (iG (b.take k));have a0:d.length=k:=by rw[<-I,js,eD,al.out];omega
   have bA:iG (b.take (k+1))=d++[sA d k N.ks]:=by
    rw[iI,A];show iG (b.take k++[N])=_;rw[sC,I,a0]
   rw[I]at B a5;obtain⟨q,y⟩:=az N.ks.length;rw[y]at bk cc;have bs:dw wr (.slice bd q bl) N.ks:=by rw[<-y];exact a4
   have l:=akv y bs bt a5 a0 bA;have ao:ak8 d (N.ks.take q).reverse k (Co d N.ks.reverse k):=⟨by rw[<-y,A4]⟩;obtain⟨bc,ar⟩:=az (Co d N.ks.reverse k);rw[ar]at ao;have bb:=aq ar;generalize N.nm.length=ct at bh;clear A bx a4 bs bt a5 a0 bA I y ar;go_wp2_with fail;generalize bo:wr.alloc _=E;obtain⟨bn,J, -⟩:=al1 bo;replace bn:E.cell? ⟨wr.heap.size,8,O⟩=M (.slice bd q bl):=(au _ _ _ _ _ _ bn).trans rfl;have af:=cJ B.out J;clear bo;have b0:=l.2.1.below J;have am:=aq af;have a2:=z.trans (J.mono z.size);have dq:=af.frozenAt k;have df:E.cell? ⟨w.heap.size+1,k,O⟩=M (.int .i64 0):=by
    rw[af.cellAt k (by omega),fL (by rw[cj,l.out.2.2.2.2.1];exact ag _),cj,l.out.2.2.2.2.1,eC,Fq,ab (by omega)]
   clear B af b2 b3 b4 b5 b6 b7 b8 bh bk z J;go_loop [6,7,8] (fun cq cr a9=>∃(f:Nat) (j:Int),cq= .int .i64 j/\cr= .bool Er/\a9= .int .i64 ((f:Int)-1)/\f<=q/\0<=j/\j<=(k:Int)/\ak8 d (N.ks.take f).reverse j bc) (fun _ _ a9=>(F2 a9+1).toNat)
   case atStart=>exact⟨q,k,rfl,rfl,rfl,ag _,by omega,by omega,ao⟩
   case round=>
    obtain⟨f,j,rfl,rfl,rfl,ds,cF,cI,u⟩:=hrel;clear ao;have c:=u.out;cases f with
    |zero=>
     have m:sA d k N.ks=(k:Int)-j+1:=by
      unfold sA;rw[bb.out];rw[Fj,List.reverse_nil,Co]at c;rw[<-c]
     have ap:=aq m;have a7:=(am.stored k (.int .i64 ((k:Int)-j+1))).1;rw[EB d a k _ l.out.2.2.2.2.1 bw]at a7;have C:=aq a7;clear c u m a7;go_wp2_with fail;refine⟨⟨k+1,by omega,by go_num,?_,a2.setCell (by simp) _⟩,by simp[F2];omega⟩;show World.ownsRow _ _ _ _ _ _ _;rw[l.out.2.2.2.2.2,ap.out];exact C
    |succ f=>
     obtain⟨ba,m⟩:=cy l.1 (show f<q by omega);obtain⟨cz,cb,dn⟩:=b0.get m;subst cb;obtain⟨ch,d2⟩:=l.2.2.1 ba (cH m);rw[iI,m]at c;simp only[Fy,List.reverse_append,List.reverse_cons,List.reverse_nil,dt,xl]at c;rw[Co]at c;obtain⟨n,rfl⟩:=uy ch;have bD:n<k:=by omega
     obtain⟨p,t⟩:=cy l.2.2.2.2.1 bD;have c9:=l.2.2.2.1 n p t;have dk:E.cell? ⟨w.heap.size+1,n,O⟩=M (.int .i64 p):=by
      rw[am.out.cellAt n (by omega),iu (by rw[cj,l.out.2.2.2.2.1];exact bD),ce,t];rfl
     have L:d.getD n 0=p:=by rw[be,t];rfl
     simp only[lG,L]at c;have b9:(((f+1:Nat)):Int)-1=(f:Int):=by omega
     rw[b9];have dz:(0:Int)<=(f:Int):=by omega
     have d0:(f:Int)<(q:Int):=by omega
     have d1:(n:Int)<(a:Int):=by omega
     by_cases o:(n:Int)=j-1/\p≠0
     ·rw[ab o]at c;have b1:ak8 d (N.ks.take f).reverse (j-p) bc:=⟨c⟩;have br:=o.2;have K:=o.1;clear c u m t L o;obtain rfl:j=(n:Int)+1:=by omega
      clear K;go_wp2_with fail;go_round
      case rel=>exact⟨f,(n:Int)+1-p,by go_num,rfl,by go_num,by omega,by omega,by omega,b1⟩
      case measure=>simp[F2]
     ·rw[aa o]at c;have ap:B1 (sA d k N.ks=0):=by
       show sA d k N.ks=0;unfold sA;rw[bb.out,<-c]
      have C:B1 (E.ownsRow w.heap.size 3 1 (.slice (M ⟨w.heap.size+1,0,O⟩) a a) a ((iG (b.take (k+1))).map (B0 .i64)++C2 (a-(k+1)) (.int .i64 0))):=by
       have x:=am.out;show World.ownsRow _ _ _ _ _ _ _;rw[l.out.2.2.2.2.2,ap.out,dF];rw[show a-k=(a-(k+1))+1 by omega,List.replicate_succ]at x;rw[dy];exact x
      by_cases K:(n:Int)=j-1
      ·have br:p=0:=by
        rcases Int.lt_trichotomy p 0 with g|g|g
        ·omega
        ·exact g
        ·exact absurd ⟨K,by omega⟩ o
       subst br;clear c u m t L o;obtain rfl:j=(n:Int)+1:=by omega
       clear K;go_wp2_with fail;exact⟨⟨k+1,by omega,by go_num,C,a2⟩,by simp[F2];omega⟩
      ·clear c u m t L o;go_wp2_with fail;exact⟨⟨k+1,by omega,by go_num,C,a2⟩,by simp[F2];omega⟩
  ·obtain rfl:k=a:=by omega
   go_wp2_with fail;go_ret;refine⟨_,rfl,?_,z⟩;have x:=B.out;rw[cA (by rw[al.out];exact ag _),eC,List.replicate_zero,dA]at x;exact x
theorem Jj(w:A9)(base mb n:Nat)(R:List (Int×List (List Int)))(H:RM w base mb n R)(c:n<=100):
  B4 Ax 126 #[.map (M mb)] w fun e w'=>e= Bs (Hm #[])/\RM w' base mb (n+10) ((109,[[46,1,109],[]])::(108,[[42,100,43]])::(107,[[15,117,108,107],[16,108],[]])::(106,[[46,1],[]])::(105,[[46,117],[]])::(104,[[47,117,46,117,105,108],[21,117,108],[46,1,109,21,117,108]])::(103,[[47,110],[]])::(102,[[22,1,109,103],[13,1,47,117],[18,1,113],[20,117,108,107],[31,117,108],[19,1,104],[11],[23],[27,111],[30,108,12,1,106,108],[28,117],[14,131],[108],[1,125],[40,117,41,127]])::(101,[[5,100],[]])::(100,[[5,100],[102,101],[]])::R)/\Br base w w':=by
 have a:Br base w w:=ah _ _;go_in;go_wp2_with (at_mapUpdate;first
  |(refine bi rfl _ _ _ rfl rfl H ((ah _ _).alloc (ag _) _) (by omega) 100 (by decide) (by decide) rfl _ rfl [[5,100],[102,101],[]] ?own a ?_;(case own=>exact dx _ _ [[5,100],[102,101],[]] 3 rfl rfl (by decide) (by decide));clear H a;intro b H a)
  |(refine bi rfl _ _ _ rfl rfl H ((ah _ _).alloc (ag _) _) (by omega) 101 (by decide) (by decide) rfl _ rfl [[5,100],[]] ?own a ?_;(case own=>exact dx _ _ [[5,100],[]] 2 rfl rfl (by decide) (by decide));clear H a;intro b H a)
  |(refine bi rfl _ _ _ rfl rfl H ((ah _ _).alloc (ag _) _) (by omega) 102 (by decide) (by decide) rfl _ rfl [[22,1,109,103],[13,1,47,117],[18,1,113],[20,117,108,107],[31,117,108],[19,1,104],[11],[23],[27,111],[30,108,12,1,106,108],[28,117],[14,131],[108],[1,125],[40,117,41,127]] ?own a ?_;(case own=>exact dx _ _ [[22,1,109,103],[13,1,47,117],[18,1,113],[20,117,108,107],[31,117,108],[19,1,104],[11],[23],[27,111],[30,108,12,1,106,108],[28,117],[14,131],[108],[1,125],[40,117,41,127]] 15 rfl rfl (by decide) (by decide));clear H a;intro b H a)
  |(refine bi rfl _ _ _ rfl rfl H ((ah _ _).alloc (ag _) _) (by omega) 103 (by decide) (by decide) rfl _ rfl [[47,110],[]] ?own a ?_;(case own=>exact dx _ _ [[47,110],[]] 2 rfl rfl (by decide) (by decide));clear H a;intro b H a)
  |(refine bi rfl _ _ _ rfl rfl H ((ah _ _).alloc (ag _) _) (by omega) 104 (by decide) (by decide) rfl _ rfl [[47,117,46,117,105,108],[21,117,108],[46,1,109,21,117,108]] ?own a ?_;(case own=>exact dx _ _ [[47,117,46,117,105,108],[21,117,108],[46,1,109,21,117,108]] 3 rfl rfl (by decide) (by decide));clear H a;intro b H a)
  |(refine bi rfl _ _ _ rfl rfl H ((ah _ _).alloc (ag _) _) (by omega) 105 (by decide) (by decide) rfl _ rfl [[46,117],[]] ?own a ?_;(case own=>exact dx _ _ [[46,117],[]] 2 rfl rfl (by decide) (by decide));clear H a;intro b H a)
  |(refine bi rfl _ _ _ rfl rfl H ((ah _ _).alloc (ag _) _) (by omega) 106 (by decide) (by decide) rfl _ rfl [[46,1],[]] ?own a ?_;(case own=>exact dx _ _ [[46,1],[]] 2 rfl rfl (by decide) (by decide));clear H a;intro b H a)
  |(refine bi rfl _ _ _ rfl rfl H ((ah _ _).alloc (ag _) _) (by omega) 107 (by decide) (by decide) rfl _ rfl [[15,117,108,107],[16,108],[]] ?own a ?_;(case own=>exact dx _ _ [[15,117,108,107],[16,108],[]] 3 rfl rfl (by decide) (by decide));clear H a;intro b H a)
  |(refine bi rfl _ _ _ rfl rfl H ((ah _ _).alloc (ag _) _) (by omega) 108 (by decide) (by decide) rfl _ rfl [[42,100,43]] ?own a ?_;(case own=>exact dx _ _ [[42,100,43]] 1 rfl rfl (by decide) (by decide));clear H a;intro b H a)
  |(refine bi rfl _ _ _ rfl rfl H ((ah _ _).alloc (ag _) _) (by omega) 109 (by decide) (by decide) rfl _ rfl [[46,1,109],[]] ?own a ?_;(case own=>exact dx _ _ [[46,1,109],[]] 2 rfl rfl (by decide) (by decide));clear H a;intro b H a))
 go_end0
 exact⟨rfl,H,a⟩
theorem aiC:(Tryz.prog.info? 115).map (fun i=>(i.zero,i.size,i.bytes))=M (M (U Hn 0),1,1):=by kernel_rfl
def cSy(st:List Int):List A0:=st.reverse.map (B0 Hn)
theorem Jk(a:Int)(st:List Int):cSy (a::st)=cSy st++[U Hn a]:=by simp[cSy]
theorem Gq(st:List Int):(cSy st).length=st.length:=by simp[cSy]
structure Gr (W:A9) (base gb:Nat) (mv:A0) (st:List Int):Prop where
 ex:∃v,W.heap[gb]?=M (.cells #[mv,v] 113 (0,0))/\W.ownsRow base 115 1 v st.length (cSy st)
 lo:base<=gb
theorem Gr.below{mv:A0}(h:Gr W base gb mv st)(b:Br W.heap.size W W'):Gr W' base gb mv st:=by
 obtain⟨d,a,c⟩:=h.ex;exact⟨⟨d,(b.block _ (ai a)).trans a,cJ c b⟩,h.lo⟩
structure Gp (gb:Nat) (w w':A9):Prop where
 os:w'.os=w.os
 tape:w'.tape=w.tape
 output:w'.output=w.output
 size:w.heap.size<=w'.heap.size
 block:∀k,k<w.heap.size->k≠gb->(∀cs fr,w.heap[k]?≠M (.cells cs 115 fr))->w'.heap[k]?=w.heap[k]?
theorem Gp.trans{x e z:A9}(h:Gp gb x e)(k:Gp gb e z):Gp gb x z:=
 ⟨k.os.trans h.os,k.tape.trans h.tape,k.output.trans h.output,bL h.size k.size,fun d b c a=>
  (k.block d (fD b h.size) c (fun f g=>by rw[h.block d b c a];exact a f g)).trans (h.block d b c a)⟩
theorem Gp.of_below(h:Br w.heap.size w w'):Gp gb w w':=⟨h.os,h.tape,h.output,h.size,fun b a _ _=>h.block b a⟩
theorem Gr.put{mv:A0}(e:W.heap[gb]?=M (B6 #[mv,v0] 113 (0,0)))(lo:base<=gb)(c:W.ownsRow base 115 1 v st.length (cSy st)):Gr (W.setCell ⟨gb,1,O⟩ v) base gb mv st:=by
 refine⟨⟨v,bz _ gb 1 _ _ _ e,?_⟩,lo⟩;refine c.kept (row:=M gb) ⟨rfl,rfl,rfl,by simp[B3],fun m l g=>aB _ _ _ _ (fun a=>g (by rw[a]))⟩ ?_;rcases bu c with⟨_,rfl⟩|⟨f,h,rfl⟩
 ·exact .inl rfl
 ·refine .inr ?_;intro a;obtain rfl:f=gb:=by simpa [A2] using a
  rcases c.2 with⟨b,_⟩|⟨k,i,j,b,_,d,_⟩
  ·cases b
  ·cases b;rw[e]at d;cases d
theorem zj(w:A9)(base b:Nat)(mv:A0)(st:List Int)(a:Int)(h:Gr w base b mv st)(L:st.length<=100000000):
  B4 Ax 77 #[.pointer (M ⟨b,1,O⟩),.int .u8 a] w fun e w'=>e= .returned (.tuple #[])/\Gr w' base b mv (a::st)/\Gp b w w'/\Br base w w':=by
 obtain⟨a3,g,i⟩:=h.ex;have z:=h.lo;obtain⟨j,v⟩:=az st.length;rw[v]at i L;obtain⟨n,o,rfl⟩:=bI i;obtain⟨al,am,an,ao,ap⟩:=du aiC;have ad:=ai g;have ar:w.cell? ⟨b,1,O⟩=M (.slice n j o):=by rw[au _ _ _ _ _ _ g];rfl
 have A:∀f,(E2 n j o).ownBlock=M f->f≠b/\base<=f:=fun f k=>by
  refine⟨?_,(i.lt f k).1⟩;rintro rfl;rcases i.2 with⟨c,_⟩|⟨r,F,G,c,_,s,_⟩
  ·rw[c]at k;simp[A2]at k
  ·rw[c]at k;obtain rfl:r=f:=by simpa [A2] using k
   rw[s]at g;cases g
 have m:=lD i g v;clear i g v h;go_in;go_wp2_with (at_builtin;refine oe _ rfl _ _ 109 rfl base 115 al _ 1 1 Tryz.underlying109 am an ao ap rfl (by decide) _ _ _ rfl (m.1.alloc _) ⟨w.heap.size,0,O⟩ 1 1 [.int .u8 a] rfl rfl (B7 (cs:=#[.int .u8 a]) (fr:=(0,0)) (aA w _)) (by intro a2 C;simp at C;subst C;rfl) (by unfold E1;omega) (by omega) (by simp;omega) ?_;intro a4 q B d a1;obtain⟨y,x,rfl⟩:=Fs B;have t:=(d.block b (by simp;omega) (fun e=>(A b e.symm).1 rfl)).trans ((dg _ _ _ ad).trans m.2.1);have a5:q.cell? ⟨b,1,O⟩=M (.slice n j o):=(by rw[au _ _ _ _ _ _ t];rfl);have a0:q.frozen? ⟨b,1,O⟩=Cb:=co _ _ _ _ _ t);have ak:=d.size;rw[cD]at ak;have J:=Gr.put t z (by rw[bB,m.out.2.2,Jk];exact B);have I:Gp b w (q.setCell ⟨b,1,O⟩ (.slice (M ⟨y,0,O⟩) (j+1) x)):=by
  refine⟨d.os,d.tape,d.output,by simp[B3];omega,fun l u af K=>?_⟩;rw[aB _ _ _ _ af];refine(d.block l (by simp;omega) (fun e=>?_)).trans (dg _ _ _ u);have p:(E2 n j o).ownBlock=M l:=e.symm;rcases m.1.2 with⟨c,_⟩|⟨r,F,G,c,_,s,_⟩
  ·rw[c]at p;simp[A2]at p
  ·rw[c]at p;obtain rfl:r=l:=by simpa [A2] using p
   exact K _ _ s
 have H:Br base w (q.setCell ⟨b,1,O⟩ (.slice (M ⟨y,0,O⟩) (j+1) x)):=by
  have E:Br base w (w.alloc (.cells #[.int .u8 a] 115)):=(ah _ w).alloc (by omega) _;exact(E.grown d (by simp;omega) (fun l u=>(A l u).2)).setCell z _
 go_end0
 exact⟨rfl,J,I,H⟩
theorem Jl(w:A9)(base b:Nat)(mv:A0)(st:List Int)(a:Int)(h:Gr w base b mv (a::st))(n:st.length<=100000000):
  B4 Ax 138 #[H0 (M ⟨b,1,O⟩)] w fun e w'=>e= Bs (U Hn a)/\Gr w' base b mv st/\Gp b w w'/\Br base w w':=by
 obtain⟨x,f,d⟩:=h.ex;have k:=h.lo;obtain⟨g,c⟩:=az st.length;rw[bB,Jk,c]at d;rw[c]at n;obtain⟨j,m,rfl⟩:=Fs d;have hcut:=abo (by rw[Gq,c,sh]) d;have t:=abp d;have p:w.cell? ⟨b,1,O⟩=M (A5 (M ⟨j,0,O⟩) (g+1) m):=by rw[au _ _ _ _ _ _ f];rfl
 have q:w.cell? ⟨j,g,O⟩=M (U Hn a):=by
  rw[d.cellAt g (by omega),fL (by rw[Gq];omega),Gq,c,eC];rfl
 have r:w.frozen? ⟨b,1,O⟩=Cb:=co _ _ _ _ _ f;have i:=Gr.put f k (by rw[c];exact hcut);have l:=aq i;clear h d hcut i f c;go_in;go_wp21
 go_ret;refine⟨rfl,l,⟨rfl,rfl,rfl,by simp[B3],fun v u o s=>aB _ _ _ _ o⟩,(ah _ w).setCell k _⟩
def zk(b:Nat):Deferred:={target:= .collected b,args:=#[]}
structure pj (B:Nat) (c:List Nat) (W:A9):Prop where
 nd:c.Nodup
 lo:∀b∈c,B<=b
 at_:∀b∈c,W.heap[b]?=M (.deferred (M []))
structure Gs (c:List Nat) (W W':A9):Prop where
 os:W'.os=W.os
 tape:W'.tape=W.tape
 output:W'.output=W.output
 size:W'.heap.size=W.heap.size
 same:∀k,k ∉ c->W'.heap[k]?=W.heap[k]?
theorem ou{g:Fence}{P:Program}{fn:Func}{tmps:Array A0}{R:Ending->A9->Prop}(B:Nat):∀(c:List Nat)(W:A9),pj B c W->(∀W',Gs c W W'->LeavesInM g n P fn tmps R [] .returning W')->LeavesInM g n P fn tmps R (c.map zk) .returning W
 |[],W,_,h=>h W ⟨rfl,rfl,rfl,rfl,fun _ _=>rfl⟩
 |b::c,W,f,h=>by
  have j:=f.at_ b (by simp);have i:=List.nodup_cons.1 f.nd;refine⟨by simp,.inl ⟨b,_,rfl,run_takeDeferred j,?_⟩⟩;refine ou B c _ ⟨i.2,fun e a=>f.lo e (by simp[a]),fun e a=>?_⟩ (fun W' d=>?_)
  ·exact(G0 (by rintro rfl;exact i.1 a)).trans (f.at_ e (by simp[a]))
  ·refine h W' ⟨d.os,d.tape,d.output,d.size.trans (by simp),fun e a=>?_⟩;simp at a;exact(d.same e a.2).trans (G0 a.1)
theorem Gs.below(h:Gs c W W')(a:Br B w W)(e:∀b∈c,B<=b)(i:B<=w.heap.size):Br B w W':=
 ⟨h.os.trans a.os,h.tape.trans a.tape,h.output.trans a.output,by rw[h.size];exact a.size,fun d f=>(h.same d (fun g=>by have:=e d g;omega)).trans (a.block d f)⟩
theorem pj.below(h:pj B c W)(d:Br W.heap.size W W'):pj B c W':=
 ⟨h.nd,h.lo,fun a b=>(d.block a (Array.getElem?_eq_some_iff.1 (h.at_ a b)).1).trans (h.at_ a b)⟩
theorem pj.keeps(h:pj B c W)(b:KeepsOthers W W'):pj B c W':=
 ⟨h.nd,h.lo,fun a d=>b.same a _ (h.at_ a d) rfl⟩
section
variable {E : Pe} {W w w' : World} {G : Option Nat} {L L1 : List Mb} {i j b q : Nat} {D : Fo} {zs : List Int} {B : Bxs} {R : Rws} {k : Int}
theorem Sq.cells(S:Sq E W G L w i L1 D zs B R):w.cell? ⟨E.pb,0,O⟩=M (A5 (M ⟨E.tb,0,O⟩) E.n E.cap)/\w.cell? ⟨E.pb,1,O⟩=M (U Y i)/\∀j,w.frozen? ⟨E.pb,j,O⟩=Cb:=by
 obtain⟨b,a,_⟩:=S.row;exact⟨by rw[au _ _ _ _ _ _ a];rfl,by rw[au _ _ _ _ _ _ a];rfl,fun j=>co _ _ _ _ _ a⟩
theorem Sq.tok(S:Sq E W G L w i L1 D zs B R)(d:q<E.n):∃l,((E.tk q).k≠6->l=(E.tk q).l)/\w.cell? ⟨E.tb,q*6,O⟩=M (U Y (E.tk q).k)/\w.cell? ⟨E.tb,q*6+1,O⟩=M (U Y (E.tk q).f)/\w.cell? ⟨E.tb,q*6+2,O⟩=M (U Y (E.tk q).t)/\w.cell? ⟨E.tb,q*6+3,O⟩=M (U Y l)/\w.cell? ⟨E.tb,q*6+4,O⟩=M (U Y (E.tk q).n)/\w.cell? ⟨E.tb,q*6+5,O⟩=M (F1 (E.tk q).x):=by
 obtain⟨e,g,b,c⟩:=S.tks;obtain⟨l,a⟩:=c q d;exact⟨l,a.hl,by rw[au _ _ _ _ _ _ b];exact a.c0,by rw[au _ _ _ _ _ _ b];exact a.c1,by rw[au _ _ _ _ _ _ b];exact a.c2,by rw[au _ _ _ _ _ _ b];exact a.c3,by rw[au _ _ _ _ _ _ b];exact a.c4,by rw[au _ _ _ _ _ _ b];exact a.c5⟩
theorem anb(S:Sq E W G L w i L1 D zs B R)(a:i<E.n):B4 Ax 92 #[pV E] w fun e w'=>e= Bs (U Y (E.tk i).k)/\Br w.heap.size w w':=by
 have b:=S.cells;obtain⟨g,f,h⟩:=S.tok a;have d:(i:Int)<(E.n:Int):=by omega
 have c:(0:Int)<=(i:Int):=by omega
 clear S a;go_in;go_wp2_with fail;go_quiet (fail)
 go_wp2;go_ret;exact⟨rfl,rfl,rfl,rfl,ag _,fun _ _=>rfl⟩
theorem Sq.kind(S:B1 (Sq E W G L w i L1 D zs B R))(c:(E.tk i).k=k)(b:i<E.n:=by omega):B4 Ax 92 #[pV E] w fun e w'=>e= Bs (U Y k)/\B1 (Sq E W G L w' i L1 D zs B R):=c ▸ (anb S b).mono fun _ _ a=>⟨a.1,Sq.below S a.2⟩
def TkW(E:Pe)(q:Nat)(w:A9):Prop:=w.cell? ⟨E.tb,q*6,O⟩=M (U Y (E.tk q).k)/\w.cell? ⟨E.tb,q*6+1,O⟩=M (U Y (E.tk q).f)/\w.cell? ⟨E.tb,q*6+2,O⟩=M (U Y (E.tk q).t)/\w.cell? ⟨E.tb,q*6+3,O⟩=M (U Y (E.tk q).l)/\w.cell? ⟨E.tb,q*6+4,O⟩=M (U Y (E.tk q).n)/\w.cell? ⟨E.tb,q*6+5,O⟩=M (F1 (E.tk q).x)
theorem Sq.tkw(S:Sq E W G L w i L1 D zs B R)(d:q<E.n)(b:(E.tk q).k≠6):TkW E q w:=by
 obtain⟨l,c,e,f,g,a,h,j⟩:=S.tok d;rw[c b]at a;exact⟨e,f,g,a,h,j⟩
theorem Sq.next(S:Sq E W G L w i L1 D zs B R):Sq E W G L (w.setCell ⟨E.pb,1,O⟩ (U Y ((i:Int)+1))) (i+1) L1 D zs B R:=
 S.to (o:=O) ((ah _ w).setCell S.lo.1 _) (fun b _ a _=>aB _ _ _ _ a) (fun c a=>(bz _ E.pb 1 _ _ _ a).trans (by rw[show((i+1:Nat):Int)=(i:Int)+1 by omega];rfl)) fun b a=>by cases a
theorem Sq.take(S:B1 (Sq E W G L w i L1 D zs B R))(v:(E.tk i).k=k)(s:i<E.n:=by omega)(r:k≠6:=by omega):B4 Ax 159 #[pV E] w fun e w'=>e= .returned (.agg (jr k (E.tk i)))/\B1 (Sq E W G L w' (i+1) L1 D zs B R):=by
 subst v;have d:=Sq.box (cs:=#[.int .i64 0,.int .i64 0,.int .i64 0,.int .i64 0,.int .i64 0,.string ⟨#[]⟩]) (t:=67) S;have p:=d.cells;have F:=S.lo;have C:=S.low;have b:=aq d.next
 have j:=b.cells;have t:=b.tkw s r;unfold TkW at t;rw[show((i+1:Nat):Int)=(i:Int)+1 by omega]at j;have A:(i:Int)<(E.n:Int):=by omega
 have z:(0:Int)<=(i:Int):=by omega
 have J:IntKind.i64.wrap ((i:Int)+1-1)=(i:Int):=by rw[ed];omega
 have K:IntKind.i64.wrap (i:Int)=(i:Int):=by rw[ed];omega
 have ad:IntKind.i64.wrap ((i:Int)+1)=(i:Int)+1:=by rw[ed];omega
 go_in;go_wp2_with fail;clear p d S;generalize B3 _ _ _=h at b j t⊢;have af:=gg (Sq.hd b);have ak:=pc (Sq.hd b);have H:E.pb≠w.heap.size:=by omega
 have I:E.tb≠w.heap.size:=by omega
 have m:=fun k (c:k≠w.heap.size) a=>nh (W:=h) c a;unfold six at m;go_region_held3 (fun o=>∀k,k≠w.heap.size->∀a,o.cell? ⟨k,a,O⟩=h.cell? ⟨k,a,O⟩) (first|with_reducible exact fun k c a=>m k c a _ _ _ _ _ _|exact fun _ _ _=>rfl) (fail)
 have g:=Sq.below (Sq.set (q:=5) (u:= .string (E.tk i).x) (Sq.set (q:=4) (u:= .int .i64 (E.tk i).n) (Sq.set (q:=3) (u:= .int .i64 (E.tk i).l) (Sq.set (q:=2) (u:= .int .i64 (E.tk i).t) (Sq.set (q:=1) (u:= .int .i64 (E.tk i).f) (Sq.set (q:=0) (u:= .int .i64 (E.tk i).k) b)))))) (aw (ah _ _));generalize World.drew _=y at g⊢;go_wp2;exact aI (eu rfl _ _ w.heap.size _ _ _ _ rfl (Sq.hd g) Tryz.underlying67 rfl (by kernel_rfl)) rfl ⟨rfl,Sq.tail g⟩
theorem Bk(k c:Int)(T:Tk)(w:A9):B4 Ax 160 #[.int .i64 k,.agg (jr c T)] w fun e w'=>e= .returned (.agg #[.int .i64 k,.int .i64 T.f,.int .i64 0,.int .i64 T.l,.int .i64 0,.int .i64 0,.string ⟨#[]⟩,s0,s0])/\Br w.heap.size w w':=by
 go_in;go_wp2_with fail;exact aI (eu rfl _ _ (w.heap.size+1) _ _ _ _ rfl (DB rfl).2.1 Tryz.underlying45 rfl (by kernel_rfl)) rfl ⟨rfl,(cK w _).alloc (by simp) _⟩
theorem Sq.node(S:B1 (Sq E W G L w i L1 D zs B R)){c:Int}{T:Tk}:B4 Ax 160 #[U Y k,G3 (jr c T)] w fun e w'=>e= Bs (G3 #[U Y k,U Y T.f,U Y 0,U Y T.l,U Y 0,U Y 0,F1 ⟨#[]⟩,s0,s0])/\B1 (Sq E W G L w' i L1 D zs B R):=(Bk k c T w).mono fun _ _ a=>⟨a.1,Sq.below S a.2⟩
theorem Sq.isY(S:B1 (Sq E W G L w i L1 D zs B R))(b:(E.tk i).k=k)(c:i<E.n:=by omega):B4 Ax 93 #[pV E,U Y k] w fun e w'=>e= Bs (Ga Er)/\B1 (Sq E W G L w' (i+1) L1 D zs B R):=by
 have g:(k !=k)=Cb:=by simp
 have j:=S.lo.2.2.2;have d:=Sq.kind S b c;clear S b;go_in;go_wp2_with fail;refine bv d fun l a=>?_;have f:=a.cells;have h:=a.lo.1;go_wp2_with fail;go_ret;exact⟨rfl,a.next⟩
theorem Sq.isN(S:B1 (Sq E W G L w i L1 D zs B R))(b:(E.tk i).k≠k)(a:i<E.n:=by omega):B4 Ax 93 #[pV E,U Y k] w fun e w'=>e= Bs (Ga Cb)/\B1 (Sq E W G L w' i L1 D zs B R):=by
 have f:((E.tk i).k !=k)=Er:=by simp[b]
 have c:=Sq.kind S rfl a;clear S b a;go_in;go_wp2_with fail;refine bv c fun g d=>?_;go_wp2_with fail;go_ret;exact⟨rfl,d⟩
end
def Rin(R:Rws)(t:E0)(v:A0)(xs:List A0):Prop:=(v=s0/\xs=[])\/(t,v,xs)∈R
section
variable {E : Pe} {W w w' : World} {G : Option Nat} {L L1 : List Mb} {i j b q : Nat} {D : Fo} {zs : List Int} {B : Bxs} {R : Rws} {k f t l op n : Int} {x : ByteArray}
theorem Rin.own{u:E0}(h:Rin R u v xs)(S:Sq E W G L w i L1 D zs B R):w.ownsRow W.heap.size u 1 v xs.length xs:=by
 rcases h with⟨rfl,rfl⟩|h
 ·exact dr _ _ _ _
 ·exact(S.rw _ h).2.1
theorem Sq.push(S:Sq E W G L w i L1 D zs B R)(ad:w.heap[E.pb]?=M (pC E i v)){c:A9}{r k:Nat}(a2:L1.length+1=r)(x:Mb)(al:c.ownsRow E.base 45 9 (A5 (M ⟨g,0,O⟩) r k) r (sv (L1++[x])))(o:w.grownBy c v.ownBlock)(J:v.ownBlock=M g\/g=w.heap.size)
  (on:Rin R 9 x.vn (x.N.nm.map F0)) (a4:Rin R 3 x.vk (x.N.ks.map iv)) (a1:x.N.ks=zs):
  Sq E W G L (c.setCell ⟨E.pb,2,O⟩ (A5 (M ⟨g,0,O⟩) r k)) i (L1++[x]) (one {x.N with ks:=[]} D) [(L1.length:Int)] B []/\c.heap[E.pb]?=M (pC E i v):=by
 subst a2;obtain⟨a6,f,p2⟩:=S.row;obtain rfl:a6=v:=by rw[f]at ad;cases ad;rfl
 have K:=S.lo;have s:=S.low;obtain⟨ar,q,p,a5⟩:=S.tks;have I:∀a,a<w.heap.size->¬Ng E w a->c.heap[a]?=w.heap[a]?:=fun a h m=>o.block a h fun e=>m ((nbI f).2 e.symm);have a3:¬Ng E w E.pb:=fun h=>by obtain⟨_,F,q,j⟩:=S.nlt h;rw[f]at j;cases j
 have C:=(I _ (by omega) a3).trans f;have t:∀a,a<w.heap.size->a≠E.pb->¬Ng E w a->(c.setCell ⟨E.pb,2,O⟩ (A5 (M ⟨g,0,O⟩) (L1.length+1) k)).heap[a]?=w.heap[a]?:=fun a n d l=>(aB _ _ _ _ d).trans (I a n l);have u:∀{af ak e size m:Nat}{an:A0}{ao:List A0},w.ownsRow af e size an m ao->ak<=af->e≠45->e≠83->(c.setCell ⟨E.pb,2,O⟩ (A5 (M ⟨g,0,O⟩) (L1.length+1) k)).ownsRow ak e size an m ao:=fun y s n d=>ju y fun g o l av=>⟨t g av (fun e=>jw y f (dv d) (e ▸ o)) fun m=>(by obtain⟨_,F,q,j⟩:=S.nlt m;exact jw y j (dv n) o),bL s l⟩;have am:=bz c E.pb 2 _ _ (A5 (M ⟨g,0,O⟩) (L1.length+1) k) C;have A:=on.own S;have z:=a4.own S;have H:∀{a},Ng E (c.setCell ⟨E.pb,2,O⟩ (A5 (M ⟨g,0,O⟩) (L1.length+1) k)) a->g=a:=fun h=>by simpa [A2] using(nbI am).1 h
 refine⟨⟨K,⟨ar,q,(t _ (ai p) (fun e=>by rw[e,f]at p;cases p) fun h=>?_).trans p,a5⟩,⟨_,am,by rw[aK];exact Bi al (jw al C (by decide)) 2 _⟩,⟨fun a h=>?_,fun b h d=>?_⟩,fun ap hy=>?_,S.ac.add x.N (a1.trans S.tp.symm) fun a h=>?_,by rw[aex,S.ac.len],S.bl.trans (((ah _ w).grown o (by omega) fun a a0=>(p2.lt a a0).1).setCell K.1 _),fun a n d l=>(t a (by omega) d fun h=>?_).trans (S.fz a n d l),fun b h=>⟨(S.bx b h).1,(S.bx b h).2.1,(t _ (ai (S.bx b h).2.2) (by have:=(S.bx b h).1;omega) (S.nb.2 b h)).trans (S.bx b h).2.2⟩,S.bd,fun r h=>(by cases h),.nil⟩,C⟩
 ·obtain⟨_,F,q,j⟩:=S.nlt h;rw[p]at j;cases j
 ·obtain rfl:=H h;rcases J with e|e
  ·exact S.nb.1 g ((nbI f).2 e)
  ·exact .inr (by omega)
 ·obtain rfl:=H d;rcases J with e|e
  ·exact S.nb.2 b h ((nbI f).2 e)
  ·have:=ai (S.bx b h).2.2;omega
 ·rcases List.mem_append.1 hy with hy|hy
  ·exact⟨u (S.each ap hy).1 (ag _) (by decide) (by decide),u (S.each ap hy).2 (ag _) (by decide) (by decide)⟩
  ·obtain rfl:=List.mem_singleton.1 hy;rw[cj]at A z;exact⟨u A s.1 (by decide) (by decide),u z s.1 (by decide) (by decide)⟩
 ·rcases h with h|h
  ·exact(A.lt a h).1
  ·exact(z.lt a h).1
 ·rcases S.nb.1 a h with e|e
  ·exact l e
  ·omega
theorem Sq.add(S:B1 (Sq E W G L w i L1 D zs B R)){vn vk:A0}{nm:List ByteArray}(bd:(vn=s0/\nm=[])\/(9,vn,nm.map F0)∈R)(af:Rin R 3 vk (zs.map iv))(bw:L1.length<=50000000)(cb:1<=i:=by omega)(cg:i<=E.n:=by omega):
  B4 Ax 163 #[pV E,.agg #[.int .i64 k,.int .i64 f,.int .i64 t,.int .i64 l,.int .i64 op,.int .i64 n,.string x,vn,vk]] w fun e w'=>∃z,e= .returned (.int .i64 z)/\∃L2,B1 (Sq E W G L w' i L2 (one ⟨k,f,(E.tk (i-1)).t,l,op,n,x,nm,[]⟩ D) [z] B []):=by
 have am:Rin R 9 vn (nm.map F0):=bd.imp (fun u=>⟨u.1,by rw[u.2];rfl⟩) id;clear bd;obtain⟨q,rfl⟩:∃q,i=q+1:=⟨i-1,by omega⟩;obtain⟨j,o,rfl⟩:=bI (am.own S);obtain⟨h,m,rfl⟩:=bI (af.own S);simp only[cj]at am af⊢;rw[mI];obtain⟨c,al⟩:=az L1.length;obtain⟨r,bE⟩:=az nm.length;obtain⟨p,bD⟩:=az zs.length;rw[al]at bw;rw[bE]at am⊢;rw[bD]at af⊢;have cm:=S.lo;have bA:=S.low;have bt:((q+1:Nat):Int)=(q:Int)+1:=by omega
 have K:=fun s=>(Sq.below S (cK w s)).cells;have ao:∀s,(w.alloc s).cell? ⟨E.tb,q*6+2,O⟩=M (.int .i64 (E.tk q).t):=fun s=>by
  obtain⟨l,bA,cx,cz,ao,cB,cF,cI⟩:=(Sq.below S (cK w s)).tok (q:=q) (by omega);exact ao
 rw[bt]at K;have cf:(q:Int)<(E.n:Int):=by omega
 have cc:(0:Int)<=(q:Int):=by omega
 have cq:IntKind.i64.wrap ((q:Int)+1-1)=(q:Int):=by rw[ed];omega
 have cr:IntKind.i64.wrap (q:Int)=(q:Int):=by rw[ed];omega
 have bl:=Sq.box (cs:=LD ⟨k,f,(E.tk q).t,l,op,n,x,nm,zs⟩ (.slice j r o) (.slice h p m)) (t:=45) S;go_in;go_wp2_with fail;go_region_held3 (fun w'=>w'.cell? ⟨E.pb,0,O⟩=M (.slice (M ⟨E.tb,0,O⟩) E.n E.cap)/\w'.cell? ⟨E.pb,1,O⟩=M (.int .i64 ((q:Int)+1))/\w'.cell? ⟨E.tb,q*6+2,O⟩=M (.int .i64 (E.tk q).t)) (exact⟨(K _).1,(K _).2.1,ao _⟩) (fail)
 have J:=Sq.below bl (aw (ah _ _));have bh:(w.alloc (.cells (LD ⟨k,f,(E.tk q).t,l,op,n,x,nm,zs⟩ (.slice j r o) (.slice h p m)) 45)).drew.heap.size=w.heap.size+1:=cD _ _;generalize World.drew _=g at J bh⊢;clear bl K ao;obtain⟨v,ad,a3⟩:=J.row;obtain⟨A,H,rfl⟩:=bI a3;have a2:g.cell? ⟨E.pb,2,O⟩=M (.slice A L1.length H):=by rw[au _ _ _ _ _ _ ad];rfl
 rw[al]at a2 ad a3;go_wp2_with fail;have a4:=Sq.hd J;refine wp_region_held_drew (S:=fun a0=>a0.heap[w.heap.size]?=M (.cells (LD ⟨k,f,(E.tk q).t,l,op,n,x,nm,zs⟩ (.slice j r o) (.slice h p m)) 45 (0,0))) (by kernel_rfl) a4 (fun hS=>?_);simp only[gj,bB,dl,Nat.reduceAdd,gD,iw,ix,dt,ej];refine bG 0 (.pointer (M ⟨E.pb,0,O⟩)) rfl rfl (by kernel_rfl) (fun _ _ _=>id) hS (fun w' y=>by go_simp) ?_;simp only[H1];refine bG 1 (.pointer (M ⟨E.pb,0,O⟩)) rfl rfl (by kernel_rfl) (fun _ _ _=>id) hS (fun w' y=>by go_simp) ?_;simp only[H1];refine bG 2 (.pointer (M ⟨E.pb,0,O⟩)) rfl rfl (by kernel_rfl) (fun _ _ _=>id) hS (fun w' y=>by go_simp) ?_;simp only[H1];refine bG 3 (.pointer (M ⟨E.pb,2,O⟩)) rfl rfl (by kernel_rfl) (fun _ _ _=>id) hS (fun w' y=>by go_simp) ?_;simp only[H1];refine fC 5 23 (.agg (LD ⟨k,f,(E.tk q).t,l,op,n,x,nm,zs⟩ (.slice j r o) (.slice h p m))) rfl rfl (by kernel_rfl) (by kernel_rfl) (by kernel_rfl) (fun _ _ _ u=>u) (by rfl) hS (fun w' y=>by have z:=cd (N:=⟨k,f,(E.tk q).t,l,op,n,x,nm,zs⟩) y;go_simp) ?_;simp only[Act.put,aD,aE,aF];have bx:=a2;refine re (S:=fun a0=>a0.cell? ⟨E.pb,2,O⟩=M (.slice A c H)) (C:=fun I=>!(I==7||I==8||I==9||I==10)) (i:=4) (v:= .slice A c H) rfl (xn (by kernel_rfl)) (fun _ _ _ u=>u) ?hC _ _ _ _ (xo rfl (by kernel_rfl)) (List.contains_iff_mem.1 (by kernel_rfl)) (Or.inl ⟨by rfl,fun w' y=>by go_simp⟩) hS bx ?_
 case hC=>
  intro I cw bc b;simp only[Bool.not_eq_false',xu,ja]at b;rcases b with((rfl|rfl)|rfl)|rfl
  ·obtain rfl:=bp bc;exact⟨{on:=4,ground:=Ground.data},by simp,rfl,rfl⟩
  all_goals
   obtain rfl:=bp bc;exact⟨{on:=4,ground:=Ground.phase},by simp,rfl,rfl⟩
 simp only[Act.put,aD,aE,aF];refine dC (i:=6) (by kernel_rfl) rfl (fun d a=>?_);go_simp;have a1:∀s,Br g.heap.size g (g.drew.alloc s):=fun s=>(aw (ah _ _)).alloc (by simp) _;refine a _ _ (((a1 _).block _ (ai a4)).trans a4) (fun _=>aj (a1 _) a2) ?_;clear a d hS a1;try simp only[aD,aE,aF]
 have F:=aw (cK g (.cells (LD ⟨k,f,(E.tk q).t,l,op,n,x,nm,zs⟩ (.slice j r o) (.slice h p m)) 45));have bn:(g.alloc (.cells (LD ⟨k,f,(E.tk q).t,l,op,n,x,nm,zs⟩ (.slice j r o) (.slice h p m)) 45)).drew.heap[g.heap.size]?=_:=aA g _;generalize World.drew (World.alloc _ _)=br at F bn⊢;have b7:=Sq.below J F;have b6:=(F.block _ (ai ad)).trans ad;have ch:=J.low;obtain⟨bF,b0,b1,b2,b5⟩:=du Gn;refine dC (i:=7) (by kernel_rfl) rfl (fun d a=>?_);refine step_append_lies _ (by rfl) _ _ 24 (by rfl) E.base 45 bF _ 9 112 Tryz.underlying24 b0 b1 b2 b5 rfl (by decide) (.slice A c H) c _ (by rfl) (cJ a3 F) ⟨g.heap.size,0,O⟩ 1 1 (LD ⟨k,f,(E.tk q).t,l,op,n,x,nm,zs⟩ (.slice j r o) (.slice h p m)).toList (by rw[bh];rfl) rfl (B7 bn) (by intro c0 bf;simp at bf;rcases bf with rfl|rfl|rfl|rfl|rfl|rfl|rfl|rfl|rfl<;>rfl) (by decide) (by unfold E1;omega) (by omega) (by have:=F.size;omega) br.heap.size rfl ?_;intro a9 a8 a7 bk bb ba cl;obtain⟨a6,a5⟩:=b7.push b6 (by rw[al]) ⟨⟨k,f,(E.tk q).t,l,op,n,x,nm,zs⟩,.slice j r o,.slice h p m⟩ (by rw[Cc];exact bk) bb ba am af rfl;have bo:=Sq.hd a6;have ap:=bo;rw[aB _ _ _ _ (by show w.heap.size≠E.pb;omega)]at ap;have b9:a7.cell? ⟨E.pb,2,O⟩=M (.slice A c H):=by rw[au _ _ _ _ _ _ a5];rfl
 have ca:a7.frozen? ⟨E.pb,2,O⟩=Cb:=co _ _ _ _ _ a5;have ar:=Sq.tail a6;clear a6 bk bb ba;refine a _ _ ap (fun b=>by cases b) ?_;clear a d;simp only[Act.put,aD,aE,aF];refine dC (i:=8) (by kernel_rfl) rfl (fun d a=>?_);go_simp;refine a _ _ ap (fun b=>by cases b) ?_;clear a d;try simp only[aD,aE,aF]
 refine dC (i:=9) (by kernel_rfl) rfl (fun d a=>?_);go_simp;refine a _ _ ap (fun b=>by cases b) ?_;clear a d;try simp only[aD,aE,aF]
 refine dC (i:=10) (by kernel_rfl) rfl (fun d a=>?_);go_simp;refine a _ _ bo (fun b=>by cases b) ?_;clear a d;refine uc (by kernel_rfl) ?_ _;have bs:(a7.setCell ⟨E.pb,2,O⟩ (.slice (M ⟨a9,0,O⟩) (c+1) a8)).cell? ⟨E.pb,2,O⟩=M (.slice (M ⟨a9,0,O⟩) (c+1) a8):=by rw[au _ _ _ _ _ _ (bz _ E.pb 2 _ _ _ a5)];rfl
 rw[al]at ar;generalize B3 _ _ _=b8 at ar bs⊢;have ct:IntKind.i64.wrap ((c:Int)+1-1)=(c:Int):=by rw[ed];omega
 go_wp2_with fail;go_ret;exact⟨c,by go_num,_,ar⟩
end
def Trw(st t:E0):Prop:=∃a b,Tryz.prog.underlying st=M (.slice t)/\(Tryz.prog.info? t).map (fun i=>(i.zero,i.size,i.bytes))=M (M a,1,b)/\a.cells.size=1/\b<=100
theorem tI:Trw 43 3:=⟨.int .i64 0,8,Tryz.underlying43,by kernel_rfl,rfl,by decide⟩
theorem tS:Trw 42 9:=⟨.string ⟨#[]⟩,16,Tryz.underlying42,by kernel_rfl,rfl,by decide⟩
section
variable {E : Pe} {W w w' : World} {G : Option Nat} {L L1 : List Mb} {i j b q : Nat} {D : Fo} {zs : List Int} {B : Bxs} {R : Rws} {k : Int} {t : TypeId} {cs : Array Value}
theorem Sq.rd(S:B1 (Sq E W G L w i L1 D zs ((b,t,cs)::B) R)):(∀q,w.cell? ⟨b,q,O⟩=cs[q]?)/\(∀q,w.frozen? ⟨b,q,O⟩=Cb)/\b<w.heap.size:=by
 have a:=Sq.hd S;exact⟨fun q=>by rw[au _ _ _ _ _ _ a],fun q=>co _ _ _ _ _ a,ai a⟩
theorem Sq.fin(S:B1 (Sq E W G L w i L1 D zs B R)):B1 (Sq E W G L w i L1 D zs [] R):=S.sub (fun b a=>by cases a) uD
theorem Sq.fin0(S:B1 (Sq E W G L w i L1 D zs B R)):B1 (Sq E W G L w i L1 D zs [] []):=Sq.fin (Sq.less S (List.nil_sublist _))
theorem Sq.ln(S:B1 (Sq E W G L w i L1 D zs B R)):L1.length=L.length+D.sz:=S.ac.len
theorem ak9{t:Int}{b:Bool}(h:ma t=b)(w:A9):B4 Ax 222 #[U Y t] w fun e w'=>e= Bs (Ga b)/\w'=w:=h ▸ sx w t
theorem ala(k:Int)(w:A9):B4 Ax 259 #[U Y k] w fun e w'=>e= Bs (U Y (acF k))/\w'=w:=by
 unfold acF;by_cases a:k=25
 ·subst a;go_in;go_wp2;go_ret;exact⟨rfl,rfl⟩
 by_cases b:k=50
 ·subst b;go_in;go_wp2;go_ret;exact⟨rfl,rfl⟩
 by_cases c:k=69
 ·subst c;go_in;go_wp2;go_ret;exact⟨rfl,rfl⟩
 ·rw[aa a,aa b,aa c];have d:(k==25)=Cb:=by simp[a]
  have f:(k==50)=Cb:=by simp[b]
  have g:(k==69)=Cb:=by simp[c]
  go_in;go_wp2;go_ret;exact⟨rfl,rfl⟩
theorem aoz{t:Int}{b:Bool}(h:dK t=b)(w:A9):B4 Ax 154 #[U Y t] w fun e w'=>e= Bs (Ga b)/\w'=w:=h ▸ sy w t
theorem aoA(a b c d e f:A0)(w:A9):(Instr.field 67 (G3 #[a,b,c,d,e,f]) 0).run Ax w= .ok a w:=by kernel_rfl
theorem Sq.rn{b:Option Addr}{c:Nat}(S:B1 (Sq E W G L w i L1 D zs B ((t,A5 b n c,xs)::R))):xs.length=n:=by
 obtain⟨d,e,a⟩:=bI (S.rw _ (.head _)).2.1;simp at a;exact a.2.1.symm
theorem Sq.at2{r:E0×A0×List A0}{a:Option Addr}{c q:Nat}{k:List Int}{x:Int}(S:B1 (Sq E W G L w i L1 D zs B (r::(3,A5 a n c,k.map iv)::R)))(h:k[q]?=M x):∃g,a=M ⟨g,0,O⟩/\w.cell? ⟨g,q,O⟩=M (U Y x):=by
 have j:=(S.rw _ (.tail _ (.head _))).2.1;have e:=(List.getElem?_eq_some_iff.1 h).1;rcases bu j with⟨d,_⟩|⟨g,l,f⟩
 ·simp at d;rw[d]at e;simp at e
 ·simp only[Value.slice.injEq]at f;obtain⟨rfl,_,_⟩:=f;have b:=j.cells rfl q (U Y x) (by rw[ce,h];rfl);rw[show(⟨g,0,O⟩:Addr).add q=⟨g,q,O⟩ by unfold Addr.add;split<;>simp_all]at b;exact⟨g,rfl,b⟩
section
variable {ops : Array Oper} {rest : List Oper} {o : Oper} {a : Act} {Q : Exit → Act → World → Prop} {av : Option Addr} {n cv : Nat} {xs : List Value}
theorem Sq.apG{st:E0}(T:Trw st t)(S:B1 (Sq E W G L w i L1 D zs B ((t,A5 av n cv,xs)::R)))(am:n<=50000000)(H:u.oneCell'=Er)(z:o.guard=O)(s x:Operand)(C:o.op= .call {callee:= .builtin .append,args:=#[s,x],argTypes:=#[st,st]})(F:a.eval s= A5 av n cv)(J:a.eval x= A5 (M ⟨m,0,O⟩) 1 1)(f:w.heap.size=m)
  (h:∀g b c,B1 (Sq E W G L c i L1 D zs B ((t,A5 (M ⟨g,0,O⟩) (n+1) b,xs++[u])::R))->wpList Ax ops Q rest (a.put o.dst (A5 (M ⟨g,0,O⟩) (n+1) b)) c):wpList Ax ops Q (o::rest) a (w.alloc (B6 #[u] t)):=by
 subst f;obtain⟨al,e,l,p,q,r⟩:=T;obtain⟨ak,A,K,ad,af⟩:=du p;have d:=Sq.below S (cK w (B6 #[u] t));have k:=(d.rw _ (.head _)).2.1;simp only[Sq.rn S]at k;have f:(n+1)*e<=50000001*100:=Nat.mul_le_mul (by omega) r;refine G2 _ z s x st C W.heap.size t ak al 1 e l A K ad af q (by decide) _ _ _ F k ⟨w.heap.size,0,O⟩ 1 1 [u] J rfl (cell_one_new _ _ _) (by intro an I;rw[List.mem_singleton.1 I];exact H) (by unfold E1;omega) (by omega) (Sq.low d).2 ?_;intro ao c j y _ v;obtain⟨g,b,rfl⟩:=Fs j;exact h g b c (Sq.put d y (by simpa [Sq.rn S] using j) v)
theorem Sq.app{l:List Int}{z:Int}(S:B1 (Sq E W G L w i L1 D (l++[z]) B ((3,A5 av n cv,xs)::R)))(u:L1.length<=50000000)(j:o.guard=O)(s x:Operand)(k:o.op= .call {callee:= .builtin .append,args:=#[s,x],argTypes:=#[43,43]})(m:a.eval s= A5 av n cv)(p:a.eval x= A5 (M ⟨w.heap.size,0,O⟩) 1 1)(q:xs=l.map iv)
  (h:∀g b c,B1 (Sq E W G L c i L1 D (l++[z]) B ((3,A5 (M ⟨g,0,O⟩) (n+1) b,(l++[z]).map iv)::R))->wpList Ax ops Q rest (a.put o.dst (A5 (M ⟨g,0,O⟩) (n+1) b)) c):wpList Ax ops Q (o::rest) a (w.alloc (B6 #[U Y z] 3)):=by
 subst q;have e:=Sq.rn S;have f:=congrArg List.length S.tp;have r:=D.len_le;have t:=S.ac.len;rw[Fo.tops_len,aK]at f;rw[cj]at e;exact Sq.apG tI S (by omega) rfl j s x k m p rfl fun g b c d=>h g b c (by rw[dF];exact d)
end
end
abbrev tkV(k:Int)(T:Tk):A0:= G3 (jr k T)
abbrev fnV(T:Tk):A0:= G3 #[U Y 36,U Y T.f,U Y 0,U Y T.l,U Y 0,U Y 0,F1 ⟨#[]⟩,s0,s0]
abbrev ndA(k a n:Int)(x:ByteArray)(T:Tk)(vn vk:A0):Array A0:=#[U Y k,U Y T.f,U Y 0,U Y T.l,U Y a,U Y n,F1 x,vn,vk]
section
variable (E : Pe)
abbrev CX(p:Int)(i:Nat)(x:Fo)(j:Nat):Prop:=CI E 164 #[pV E,U Y p] i x j
abbrev CU(i:Nat)(x:Fo)(j:Nat):Prop:=CI E 226 #[pV E] i x j
abbrev CB(i:Nat)(x:Fo)(j:Nat):Prop:=CI E 168 #[pV E] i x j
abbrev CK(i:Nat)(x:Fo)(j:Nat):Prop:=CI E 157 #[pV E] i x j
abbrev CLx(i:Nat)(x:Fo)(j:Nat):Prop:=CL E 162 #[pV E] i x j
abbrev CSs(i:Nat)(x:Fo)(j:Nat):Prop:=CL E 27 #[pV E,U Y 43] i x j
abbrev CBd(T:Tk)(i:Nat)(x:Fo)(j:Nat):Prop:=CI E 165 #[pV E,fnV T] i x j
abbrev CBr(k:Int)(i:Nat)(x:Fo)(j:Nat):Prop:=CI E 166 #[pV E,tkV k (E.tk i)] (i+1) x j
inductive Wu (i:Nat):FuncId->Fo->Nat->Prop
 |leaf {k nk:Int}:(k=24/\nk=20)\/(k=29/\nk=21)\/(k=17/\nk=22)\/(k=49/\nk=27)->(E.tk i).k=k->i+1<E.n->Wu i 226 (one (ig nk (E.tk i) (E.tk i).t) .nil) (i+1)
 |int:(E.tk i).k=2->i+1<E.n->Wu i 226 (one (nd 23 (E.tk i) (E.tk i).t 0 (E.tk i).n z0 []) .nil) (i+1)
 |word {k nk:Int}:(k=3/\nk=24)\/(k=4/\nk=25)->(E.tk i).k=k->i+1<E.n->Wu i 226 (one (nd nk (E.tk i) (E.tk i).t 0 0 (E.tk i).x []) .nil) (i+1)
 |pre {k:Int}{x:Fo}{j:Nat}:k=25\/k=50\/k=62\/k=69->(E.tk i).k=k->i<E.n->CU E (i+1) x j->i+1<=j->j<=E.n->Wu i 226 (one (nd 30 (E.tk i) (E.tk (j-1)).t (acF k) 0 z0 []) x) j
 |fn {x:Fo}{j:Nat}:(E.tk i).k=18->i<E.n->CBd E (E.tk i) (i+1) x j->Wu i 226 x j
 |base {k:Int}{x:Fo}{j:Nat}:k=1\/k=40->(E.tk i).k=k->i<E.n->CB E i x j->Wu i 226 x j
 |block {k:Nat}{x:Fo}:(E.tk i).k=42->i<E.n->CSs E (i+1) x k->(E.tk k).k=43->k+1<E.n->Wu i 157 (one (ig 1 (E.tk i) (E.tk k).t) x) (k+1)
end
theorem pm{E:Pe}{f:FuncId}{X:Fo}(h:Wu E i f X j):CI E f #[pV E] i X j:=by
 cases h
 case' leaf h _ _=>rcases h with⟨rfl,rfl⟩|⟨rfl,rfl⟩|⟨rfl,rfl⟩|⟨rfl,rfl⟩
 case' word h _ _=>rcases h with⟨rfl,rfl⟩|⟨rfl,rfl⟩
 case' pre h _ _ _ _ _=>rcases h with rfl|rfl|rfl|rfl
 case' base h _ _ _=>rcases h with rfl|rfl
 all_goals
  intro n l m h g;have a:=aq h;clear h;try simp only[bm,Fo.sz_app,Fo.sz]at g
  go_in
  repeat' (go_wp2_with fail;first
   |(go_at_call 92;refine bv (Sq.kind a (by assumption)) fun c a=>?_)
   |(go_at_call 159;refine bv (Sq.take (by first|exact a|exact Sq.set a) (by assumption)) fun c a=>?_;(try have e:=Sq.rd a))
   |(go_at_call 222;first|refine dB (ak9 (b:=Er) (by decide) _) ?_|refine dB (ak9 (b:=Cb) (by decide) _) ?_)
   |(go_at_call 259;refine dB (ala _ _) ?_)
   |(go_at_call 160;refine bv (Sq.node (by first|exact a|exact Sq.box a)) fun c a=>?_;(try have e:=Sq.rd a))
   |(go_at_call 163;refine(Sq.add (by first|exact a|exact Sq.lit1 (Sq.box a)|exact Sq.box a) (.inl ⟨rfl,rfl⟩) (by first|exact .inl ⟨rfl,rfl⟩|exact .inr (.head _)) (by have:=Sq.ln a;simp only[Fo.sz_app,Fo.sz]at this;omega)).mono ?_;rintro q c ⟨k,rfl,d,a⟩)
   |(refine Sq.cq (by first|exact a|exact Sq.box a) (by assumption) (by have:=Sq.ln a;simp only[Fo.sz_app,Fo.sz]at this;omega) ?_;(first|rintro c _ d _ _ ⟨k,rfl,rfl,rfl⟩ a|rintro c _ d r _ ⟨o,p,rfl,rfl⟩ a);(try have e:=Sq.rd a)))
  all_goals
   go_wp2_with fail;go_ret;exact⟨_,_,_,_,rfl,⟨_,rfl,rfl,rfl⟩,Sq.fin a⟩
inductive Ls (E:Pe) (C:Nat->Fo->Nat->Prop):Nat->Nat->Fo->Nat->Prop where
 |stop {k:Nat}:(E.tk k).k≠46->k<E.n->Ls E C 0 k .nil k
 |go {m k k1 j:Nat}{x R:Fo}:(E.tk k).k=46->k<E.n->C (k+1) x k1->Ls E C m k1 R j->Ls E C (m+1) k (x.app R) j
inductive Ss (E:Pe) (C:Nat->Fo->Nat->Prop):Nat->Nat->Fo->Nat->Prop where
 |stop {k:Nat}:k<E.n->Ss E C 0 k .nil k
 |sep {m k j:Nat}{R:Fo}:(E.tk k).k=5->k<E.n->Ss E C m (k+1) R j->Ss E C (m+1) k R j
 |go {m k k1 j:Nat}{x R:Fo}:(E.tk k).k≠5->(E.tk k).k≠6->(E.tk k).k≠43->k<E.n->C k x k1->Ss E C m k1 R j->Ss E C (m+1) k (x.app R) j
inductive Es (E:Pe) (C:Nat->Fo->Nat->Prop):Nat->Nat->Fo->Nat->Prop where
 |stop {k:Nat}:(E.tk k).k=43->k<E.n->Es E C 0 k .nil k
 |com {m k k1 j:Nat}{x R:Fo}:(E.tk k).k≠43->k<E.n->C k x k1->(E.tk k1).k=46->k1<E.n->Es E C m (k1+1) R j->Es E C (m+1) k (x.app R) j
 |last {m k k1 j:Nat}{x R:Fo}:(E.tk k).k≠43->k<E.n->C k x k1->(E.tk k1).k≠46->k1<E.n->Es E C m k1 R j->Es E C (m+1) k (x.app R) j
theorem szL{a b c:Fo}(h:a.app b=c)(d:n+c.sz<=m):n+(a.sz+b.sz)<=m:=by rw[<-h,Fo.sz_app]at d;exact d
theorem Sq.six{E:Pe}{a:Option Nat}{c:List Mb}{b:Nat}{D:Fo}{l:List Int}{B:Bxs}{R:Rws}{m n o p q r:A0}(S:B1 (Sq E W a c w i L1 D l ((b,t,#[m,n,o,p,q,r])::B) R))(d e f g h j:A0):∃k,((((((w.setCell ⟨b,0,O⟩ d).setCell ⟨b,1,O⟩ e).setCell ⟨b,2,O⟩ f).setCell ⟨b,3,O⟩ g).setCell ⟨b,4,O⟩ h).setCell ⟨b,5,O⟩ j)=k/\B1 (Sq E W a c k i L1 D l ((b,t,#[d,e,f,g,h,j])::B) R):=⟨_,rfl,Sq.set (Sq.set (Sq.set (Sq.set (Sq.set (Sq.set S)))))⟩
section
variable {E : Pe} {i j : Nat}
theorem aiD{x:Fo}(L:CX E 0 i x k)(v:Ls E (CX E 0) m k R j):CLx E i (x.app R) j:=by
 intro G y B s u;have a:=aq s;have A:=aq v;clear s v;go_in;go_wp2_with fail;refine Sq.cq a L (by rw[Fo.sz_app]at u;omega) ?_;rintro e _ q _ _ ⟨f,rfl,rfl,rfl⟩ a;go_wp2_with fail;go_loopg [3,4] m (fun gk am al wr=>∃(k:Nat) (D g:Fo) (w:Int) (b:Option Addr) (d c:Nat) (C:List Mb) (o:List Int),am= U Y w/\al= A5 b d c/\B1 (Ls E (CX E 0) gk k g j/\Sq E G y B wr k C D o [] [(3,A5 b d c,o.map iv)]/\D.app g=x.app R))
 case atStart=>exact⟨k,_,R,f,_,1,1,_,_,rfl,rfl,A,Sq.lit (xs:=[iv f]) a,rfl⟩
 case round=>
  clear a;obtain⟨ao,D,g,w,b,d,c,q,o,rfl,rfl,p⟩:=hrel;obtain⟨J,a,n⟩:=p.out;have ad:=szL n u;have t:=aq n;clear n p;cases J with
  |stop h l=>
   go_wp2_with fail;refine bv (Sq.isN a h l) fun e a=>?_;go_wp2_with fail;go_ret;rw[<-t.out,Fo.app_nil];exact⟨A5 b d c,_,_,_,rfl,⟨b,c,by rw[<-Sq.rn a,cj],rfl⟩,a⟩
  |@go ak _ af _ ap F h l I r=>
   rw[Fo.sz_app]at ad;have z:=aq r;clear r;go_wp2_with fail;refine bv (Sq.isY a h l) fun e a=>?_;go_wp2_with fail;refine Sq.cq a I (by have:=Sq.ln a;omega) ?_;rintro e _ q _ _ ⟨f,rfl,rfl,rfl⟩ a;have K:=Sq.ln a;rw[Fo.sz_app]at K;go_wp2_with (at_builtin;refine Sq.app a (by omega) rfl _ _ rfl rfl rfl rfl ?_;intro an H e a);go_roundg ak
   case measure=>omega
   case rel=>exact⟨af,_,F,f,_,d+1,H,_,_,rfl,rfl,z,a,by rw[Fo.app_app];exact t⟩
theorem abr{u:Int}(y:u=43\/u=6)(af:(E.tk j).k=u)(x:Ss E (CI E 94 #[pV E]) m i R j):CL E 27 #[pV E,U Y u] i R j:=by
 intro H A t w ak;have a:=aq w;have B:=aq x;clear w x;go_in;go_wp2_with fail;go_loopg [5,6] m (fun gk ao ar wr=>∃(k:Nat) (D h:Fo) (c:Option Addr) (e d:Nat) (C:List Mb) (n:List Int),ao= A5 c e d/\B1 (Ss E (CI E 94 #[pV E]) gk k h j/\Sq E H A t wr k C D n [] [(3,A5 c e d,n.map iv)]/\D.app h=R))
 case atStart=>exact⟨i,.nil,R,O,0,0,t,[],rfl,B,Sq.nil a,rfl⟩
 case round=>
  clear a;obtain⟨z,D,h,c,e,d,F,n,rfl,s⟩:=hrel;obtain⟨ad,a,p⟩:=s.out;have am:=szL p ak;have q:=aq p;clear p s;cases ad with
  |stop b=>
   have v:(u !=u)=Cb:=by simp
   go_wp2_with fail;refine bv (Sq.kind a af b) fun f a=>?_;go_wp2_with fail;go_ret;rw[<-q.out,Fo.app_nil];exact⟨A5 c e d,_,_,_,rfl,⟨c,d,by rw[<-Sq.rn a,cj],rfl⟩,a⟩
  |@sep r _ _ _ l b g=>
   have o:=aq g;clear g;have v:((5:Int)!=u)=Er:=by rcases y with rfl|rfl<;>rfl
   go_wp2_with fail;refine bv (Sq.kind a l b) fun f a=>?_;go_wp2_with fail;refine bv (Sq.isY a l b) fun f a=>?_;go_wp2_with fail;go_roundg r
   case measure=>omega
   case rel=>exact⟨z+1,D,h,c,e,d,_,n,rfl,o,a,q⟩
  |@go r _ an _ a0 G l J K b L g=>
   rw[Fo.sz_app]at am;have o:=aq g;clear g;have v:((E.tk z).k !=u)=Er:=by rcases y with rfl|rfl<;>simp[J,K]
   go_wp2_with fail;refine bv (Sq.kind a rfl b) fun f a=>?_;go_wp2_with fail;refine bv (Sq.isN a l b) fun f a=>?_;go_wp2_with fail;refine Sq.cq a L (by have:=Sq.ln a;omega) ?_;rintro f _ F _ _ ⟨a1,rfl,rfl,rfl⟩ a;have al:=Sq.ln a;rw[Fo.sz_app]at al;go_wp2_with (at_builtin;refine Sq.app a (by omega) rfl _ _ rfl rfl rfl rfl ?_;intro ap I f a);go_roundg r
   case measure=>omega
   case rel=>exact⟨an,_,G,_,e+1,I,_,_,rfl,o,a,by rw[Fo.app_app];exact q⟩
theorem vv(J:(E.tk i).k=1)(ak:i<E.n)(v:Ib E.tk E.n (i+1) ns j):CM E i ((E.tk i).x::ns) j:=by
 intro C z o r al;have a:=aq r;have B:=aq v;have am:=a.lo.2.2.2;clear r v;go_in;go_wp2_with fail;refine bv (Sq.take a J) fun e a=>?_;have a:=Sq.lit1 (xs:=[F1 (E.tk i).x]) (t:=9) (Sq.box (cs:=jr 1 (E.tk i)) (t:=67) a);go_wp2_with fail;go_loopg [4] ns.length (fun gk L wr=>∃(k:Nat) (D g:List ByteArray) (c:Option Addr) (n d y:Nat),L= A5 c n d/\gk=g.length/\B1 (Ib E.tk E.n k g j/\Sq E C z o wr k o .nil [] [(e.heap.size,67,jr 1 (E.tk y))] [(9,A5 c n d,D.map F0)]/\D++g=(E.tk i).x::ns/\i+2*D.length=k+1))
 case atStart=>exact⟨i+1,[(E.tk i).x],ns,_,1,1,i,rfl,rfl,B,a,rfl,by simp⟩
 case round=>
  clear a;obtain⟨b,D,g,c,n,d,y,rfl,I,m⟩:=hrel;obtain⟨H,a,s,af⟩:=m.out;have u:=aq s;clear s m;cases H with
  |stop h p=>
   go_wp2_with fail;refine bv (Sq.isN a h p) fun e a=>?_;go_wp2_with fail;go_ret;obtain rfl:D=(E.tk i).x::ns:=by simpa using u.out
   exact⟨A5 c n d,_,_,_,rfl,⟨c,d,by rw[<-Sq.rn a,cj];rfl,rfl,rfl⟩,Sq.fin a⟩
  |@go _ _ w h p G q=>
   have A:=aq q;have K:n<=50000000:=by have:=Sq.rn a;rw[cj]at this;omega
   clear q;go_wp2_with fail;refine bv (Sq.isY a h (by omega)) fun e a=>?_;go_wp2_with fail;refine bv (Sq.take a G) fun e a=>?_;have ap:=Sq.rd a;obtain⟨ao,an,a⟩:=Sq.six a (iv 1) (iv (E.tk (b+1)).f) (iv (E.tk (b+1)).t) (iv (E.tk (b+1)).l) (iv (E.tk (b+1)).n) (F1 (E.tk (b+1)).x);have ar:=Sq.rd a;go_wp2_with (at_builtin;refine Sq.apG tS a K rfl rfl _ _ rfl rfl rfl rfl ?_;intro ad F e a);go_roundg w.length
   case measure=>simp at I;omega
   case rel=>exact⟨b+2,D++[(E.tk (b+1)).x],w,_,n+1,F,b+1,rfl,rfl,A,by rw[dF];exact a,by rw[dy];exact u,by simp;omega⟩
theorem afk{Ex:Fo}(l:(E.tk i).k=42)(a1:i<E.n)(y:Es E (CI E 260 #[pV E]) m (i+1) Ex j)(x:(E.tk j).k=43)(a2:j+1<E.n):CU E i (one (ig 35 (E.tk i) (E.tk j).t) Ex) (j+1):=by
 intro H A d v ad;have a:=aq v;have C:=aq y;clear v y;go_in;go_wp2_with fail;refine bv (Sq.kind a l) fun c a=>?_;go_wp2_with fail;refine bv (Sq.kind a l) fun c a=>?_;go_wp2_with fail;refine bv (Sq.take a l) fun c a=>?_;go_wp2_with fail;refine dB (ak9 (b:=Cb) (by decide) _) ?_;go_wp2_with fail;refine bv (Sq.node (Sq.box a)) fun c a=>?_;go_wp2_with fail;rw[bm]at ad;go_loopg [10] m (fun gk a4 wr=>∃(k:Nat) (D e:Fo) (f:Option Addr) (n g:Nat) (F:List Mb) (o:List Int),B1 (Es E (CI E 260 #[pV E]) gk k e j/\Sq E H A d wr k F D o [(c.heap.size,45,ndA 35 0 0 ⟨#[]⟩ (E.tk i) s0 (A5 f n g))] [(3,A5 f n g,o.map iv)]/\D.app e=Ex))
 case atStart=>exact⟨i+1,.nil,Ex,O,0,0,d,[],C,Sq.nil (Sq.drop1 (Sq.box a)),rfl⟩
 case round=>
  clear a;obtain⟨al,D,e,f,n,g,q,o,p⟩:=hrel;obtain⟨L,a,h⟩:=p.out;have ak:=szL h (show d.length+Ex.sz<=49999999 by omega);have w:=aq h;clear h p;cases L
  case stop r J=>
   go_wp2_with fail;refine bv (Sq.kind a x) fun c a=>?_;go_wp2_with fail;refine bv (Sq.take a x) fun c a=>?_;have z:=Sq.rd a;go_wp2_with fail;refine(Sq.add a (.inl ⟨rfl,rfl⟩) (.inr (.head _)) (by have:=Sq.ln a;omega)).mono ?_;rintro ao c ⟨an,rfl,q,a⟩;go_wp2_with fail;go_ret;obtain rfl:D=Ex:=by rw[<-w.out,Fo.app_nil]
   exact⟨_,_,_,_,rfl,⟨_,rfl,rfl,rfl⟩,Sq.fin a⟩
  all_goals
   rename_i am a3 a5 G s ar _ r J K u;rw[Fo.sz_app]at ak;have B:=aq u;clear u;have a0:((E.tk al).k !=43)=Er:=by simp[r]
   go_wp2_with fail;refine bv (Sq.kind a rfl) fun c a=>?_;go_wp2_with fail;refine Sq.cq a K (by have:=Sq.ln a;omega) ?_;rintro c _ q _ _ ⟨an,rfl,rfl,rfl⟩ a;have af:=Sq.ln a;rw[Fo.sz_app]at af;have z:=Sq.rd a;go_wp2_with (at_builtin;refine Sq.app a (by omega) rfl _ _ rfl rfl rfl rfl ?_;intro ap I c a;have z:=Sq.rd a);first
    |refine bv (Sq.isY (Sq.set a) s) fun c a=>?_
    |refine bv (Sq.isN (Sq.set a) s) fun c a=>?_
   go_wp2_with fail;go_roundg am
   case measure=>omega
   case rel=>exact⟨_,_,G,_,n+1,I,_,_,B,a,by rw[Fo.app_app];exact w⟩
end
