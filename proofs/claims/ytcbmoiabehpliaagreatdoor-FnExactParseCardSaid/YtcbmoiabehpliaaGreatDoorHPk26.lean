import Derived.Test.YtcbmoiabehpliaaGreatDoorHPk07
import Derived.Test.YtcbmoiabehpliaaGreatDoorHPk25
import Derived.Maps.Own
import Derived.Maps.OwnSet
import Derived.Maps.AppendAt
import Derived.Test.YtcbmoiabehpliaaGreatDoorHPk01
import Derived.Test.YtcbmoiabehpliaaGreatDoorHPk11
set_option linter.unusedVariables false
set_option maxRecDepth 100000
set_option maxHeartbeats 12800000
namespace Go.Proofs.YtcbmoiabehpliaaGreatDoor
open Go.RowKit Go.Maps Go.WideMaps
theorem rE:(Tryz.prog.info? 133).map (fun i=>(i.zero,i.size,i.bytes))=some (some (.agg #[.int .u8 0,.int .u8 0,.int .u8 0,.int .u8 0,.int .u8 0,.int .u8 0]),6,6):=by kernel_rfl
def rc(r:List Int):List Value:=(r++List.replicate (6-r.length) 0).map (Value.int .u8)
def oB(a:List (List Int)):List Value:=a.flatMap rc
theorem xZ(a B:List (List Int)):oB (a++B)=oB a++oB B:=by simp[oB]
def iz(v:Value):Option (DataW Value×List MemPlace):=some (.held v,[])
def lE(R:List (Int×List (List Int)))(a:Int):List (List Int):=((R.find? (fun b=>b.1==a)).map (·.2)).getD []
theorem gh(a:Int)(b:List (List Int))(R:List (Int×List (List Int))):lE ((a,b)::R) a=b:=by simp[lE]
theorem eX{a b:Int}(h:a≠b)(c:List (List Int))(R:List (Int×List (List Int))):lE ((a,c)::R) b=lE R b:=by
 unfold lE;rw[List.find?_cons_of_neg (by simpa using h)]
def cj(W:World)(base:Nat)(v:Value)(a:List (List Int)):Prop:=W.ownsRow base 133 6 v a.length (oB a)
def BL(f:Int->Value):Prop:=∀a b,0<=a->a<=255->0<=b->b<=255->a≠b->(f a).ownBlock=none\/(f a).ownBlock≠(f b).ownBlock
structure RM (W:World) (base mb n:Nat) (R:List (Int×List (List Int))):Prop where
 ex:∃(D:DataW Value) (f:Int->Value),W.ownsMap Tryz.prog 81 iz mb n D/\(∀a,0<=a->a<=255->D.atKey (.int .u8 a) (.held (.slice none 0 0))= .held (f a)/\cj W base (f a) (lE R a))/\BL f
 lo:base<=mb
theorem ww:Keyed Tryz.prog 81:=int_keyed Tryz.underlying81
theorem cj.keep{W a:World}{base:Nat}{v:Value}{b:List (List Int)}(h:cj W base v b)(c:Below W.heap.size W a):cj a base v b:=ai h c
theorem RM.below{W f:World}{base mb n:Nat}{R:List (Int×List (List Int))}(h:RM W base mb n R)(a:Below W.heap.size W f):RM f base mb n R:=by
 obtain⟨D,k,l,e,i⟩:=h.ex;exact⟨⟨D,k,l.kept (row:=none) ⟨a.os,a.tape,a.output,a.size,fun g j _=>a.block g j⟩ (by simp),fun c d b=>⟨(e c d b).1,(e c d b).2.keep a⟩,i⟩,h.lo⟩
theorem RM.congr{W:World}{base mb n:Nat}{R c:List (Int×List (List Int))}(h:RM W base mb n R)(j:∀a,0<=a->a<=255->lE R a=lE c a):RM W base mb n c:=by
 obtain⟨D,f,i,g,e⟩:=h.ex;exact⟨⟨D,f,i,fun a d b=>by rw[<-j a d b];exact g a d b,e⟩,h.lo⟩
theorem RM.mono{W:World}{base mb n a:Nat}{R:List (Int×List (List Int))}(h:RM W base mb n R)(c:n<=a):RM W base mb a R:=by
 obtain⟨D,b,e,d⟩:=h.ex;exact⟨⟨D,b,e.mono c,d⟩,h.lo⟩
theorem iQ{W e:World}{base mb:Nat}{v:Value}{b:List (List Int)}{f:Array MapEntry}{c:Nat}(h:cj W base v b)(j:W.heap[mb]?=some (.map f c))(i:W.grownBy e (some mb)):cj e base v b:=by
 refine World.ownsRow.kept h i ?_;rcases ay h with⟨_,rfl⟩|⟨k,o,rfl⟩
 ·exact .inl rfl
 ·refine .inr ?_;intro g;obtain rfl:k=mb:=by simpa [Value.ownBlock] using g
  rcases h.2 with⟨a,_⟩|⟨l,m,n,a,_,d,_⟩
  ·cases a
  ·cases a;rw[j]at d;cases d
theorem wy{a:Int}(b:0<=a)(c:a<=255):keyOf Tryz.prog 81 (.int .u8 a)=some (.int .u8 a):=keyOf_int_mk Tryz.underlying81 (WalkArith.wf_u8 ⟨b,c⟩)
theorem az{A:Array Oper}{G:List Oper}{o:Oper}{a:Act}{Q:Exit->Act->World->Prop}{J W w:World}{base mb n:Nat}{R:List (Int×List (List Int))}
  (l:o.guard=none) (m x v:Operand) (af:o.op=Op.mapUpdate 73 m x v) (ak:a.eval m= .map (some mb)) (h:RM W base mb n R) (f:Below W.heap.size W w) (ao:n<1000) (s:Int) (s0:0<=s) (U:s<=255) (an:a.eval x= .int .u8 s)
  (c:Value) (N:a.eval v=c) (u:List (List Int)) (t:cj w W.heap.size c u) (Z:Below base J W)
  (T:∀j,RM j base mb (n+1) ((s,u)::R)->Below base J j->wpList Tryz.prog A Q G (a.put o.dst undef) j):wpList Tryz.prog A Q (o::G) a w:=by
 have ar:=h.below f;obtain⟨D,d,r,y,S⟩:=h.ex;have a3:=r.lt;have V:base<=W.heap.size:=by have:=h.lo;omega
 have H:w.ownsMap Tryz.prog 81 iz mb n D:=r.kept (row:=none) ⟨f.os,f.tape,f.output,f.size,fun F al _=>f.block F al⟩ (by simp);refine wpList_mapUpdate_own w l m x v 73 af 81 176 ww Tryz.underlying73 iz mb n D ak H (by unfold maxLen;omega) _ _ _ an N (wy s0 U) (.held c) [] rfl ?_;intro j Y q;obtain⟨a2,av,K,_⟩:=H;refine T j ⟨⟨_,fun a=>if a=s then c else d a,Y,fun a i g=>?_,?_⟩,h.lo⟩ ?_
 ·by_cases e:a=s
  ·subst e;rw[gh,atKey_put_same r.isMap (by trivial)];show DataW.held c=DataW.held (if a=a then c else d a)/\cj j base (if a=a then c else d a) u;rw[if_pos rfl];refine⟨rfl,iQ (h:=?_) K q⟩;refine⟨t.1,?_⟩;rcases t.2 with h|⟨b,am,O,L,ap,X⟩
   ·exact .inl h
   ·exact .inr ⟨b,am,O,L,by omega,X⟩
  ·show _=DataW.held (if a=s then c else d a)/\cj j base (if a=s then c else d a) _;rw[eX (fun h=>e h.symm),if_neg e,atKey_put_other (by intro h;injection h with _ h;exact e h)];exact⟨(y a i g).1,iQ ((y a i g).2.keep f) K q⟩
 ·have B:∀b,c.ownBlock=some b->W.heap.size<=b:=fun b l=>(t.lt b l).1;have E:∀a,0<=a->a<=255->∀b,(d a).ownBlock=some b->b<W.heap.size:=fun a i g b l=>((y a i g).2.lt b l).2;intro a k i g z p M;show(if a=s then c else d a).ownBlock=none\/(if a=s then c else d a).ownBlock≠(if k=s then c else d k).ownBlock;by_cases I:a=s
  ·rw[if_pos I,if_neg (by omega)];cases hq:c.ownBlock with
   |none=>exact .inl rfl
   |some b=>exact .inr (fun e=>by have:=B b hq;have:=E k z p b e.symm;omega)
  ·rw[if_neg I];by_cases C:k=s
   ·rw[if_pos C];cases hq:(d a).ownBlock with
    |none=>exact .inl rfl
    |some b=>exact .inr (fun e=>by have:=E a i g b hq;have:=B b e.symm;omega)
   ·rw[if_neg C];exact S a k i g z p M
 ·have p:Below base W w:=f.mono V;refine Z.trans ?_;exact p.grown q (by have:=f.size;omega) (fun F e=>by cases e;exact h.lo)
theorem aQ(w:World)(cs:Array Value)(a:List (List Int))(n:Nat)(f:a.length=n)(e:cs.toList=oB a)(k:n<=1000)(b:∀r∈a,r.length<=6):cj (w.alloc (.cells cs 133 (0,0))) w.heap.size (.slice (some ⟨w.heap.size,0,none⟩) n n) a:=by
 have c:∀a:List (List Int),(∀r∈a,r.length<=6)->(oB a).length=a.length*6:=by
  intro a
  induction a with
  |nil=>intro _;rfl
  |cons r a h=>
   intro d;have:=d r (by simp);rw[show oB (r::a)=rc r++oB a from rfl,List.length_append,h (fun j i=>d j (by simp[i]))];simp[rc];omega
 have g:cs.size=n*6:=by rw[<-Array.length_toList,e,c a b,f]
 refine⟨by rw[c a b],.inr ⟨w.heap.size,n,cs,by rw[f],Nat.le_refl _,heap_alloc_new w _,by omega,by unfold maxLen;omega,g,?_⟩⟩;rw[e,List.take_of_length_le (by rw[c a b];exact Nat.le_refl _)]
theorem wA(p c:Int)(w:World):
  Calls Tryz.prog 113 #[.int .u8 p,.int .u8 c] w fun e a=>e= .returned (.slice (some ⟨w.heap.size,0,none⟩) 3 3)/\cj a w.heap.size (.slice (some ⟨w.heap.size,0,none⟩) 3 3) (dW p c)/\Below w.heap.size w a:=by
 go_in;go_wp2;go_ret;exact⟨rfl,aQ _ _ (dW p c) 3 rfl rfl (by decide) (by simp[dW]),(Below.refl _ _).alloc (Nat.le_refl _) _⟩
theorem ya{c:List (List Int)}:∀u∈oB c,u.oneCell'=true:=by
 intro u b;unfold oB at b;rw[List.mem_flatMap]at b;obtain⟨e,_,a⟩:=b;unfold rc at a;rw[List.mem_map]at a;obtain⟨d,_,rfl⟩:=a;rfl
theorem yc:∀{a:List (List Int)},(∀r∈a,r.length<=6)->(oB a).length=a.length*6:=by
 intro a
 induction a with
 |nil=>intro _;rfl
 |cons r a c=>
  intro b;have:=b r (by simp);rw[show oB (r::a)=rc r++oB a from rfl,List.length_append,c (fun e d=>b e (by simp[d]))];simp[rc];omega
theorem iA{g:Array Oper}{h:List Oper}{o:Oper}{a:Act}{Q:Exit->Act->World->Prop}{W b:World}{v:Value}{e:List (List Int)}(n:o.guard=none)(s x:Operand)
  (B:o.op= .call {callee:= .builtin .append,args:=#[s,x],argTypes:=#[176,176]}) (C:a.eval s=v) (i:cj b W.heap.size v e) (hS:Below W.heap.size W b) (cs:Array Value) (m:Nat) (G:a.eval x= .slice (some ⟨b.heap.size,0,none⟩) m m) (c:List (List Int)) (j:c.length=m) (q:cs.toList=oB c) (l:∀r∈c,r.length<=6)
  (H:e.length+m<=1000)
  (t:∀f d,cj d W.heap.size f (e++c)->Below W.heap.size W d->wpList Tryz.prog g Q h (a.put o.dst f) d):wpList Tryz.prog g Q (o::h) a (b.alloc (.cells cs 133 (0,0))):=by
 obtain⟨y,z,w,A,p⟩:=info_parts rE;refine wpList_append_own _ n s x 176 B W.heap.size 133 y _ 6 6 Tryz.underlying176 z w A p rfl (by decide) v e.length (oB e) C (World.ownsRow.alloc i _) ⟨b.heap.size,0,none⟩ m m (oB c) G (by rw[yc l,j]) ?_ ya (by unfold maxLen;omega) (by omega) (by have:=hS.size;simp;omega) ?_
 ·rw[<-q];exact World.news_of_block (cs:=cs) (fr:=(0,0)) (heap_alloc_new b _)
 ·intro f d E F _;refine t f d ?_ ?_
  ·unfold cj;rw[xZ,List.length_append,j];exact E
  ·exact(hS.alloc hS.size _).grown F (by have:=hS.size;simp;omega) (fun k u=>(i.lt k u).1)
theorem uc(w:World)(base mb n:Nat)(R:List (Int×List (List Int)))(H:RM w base mb n R)(h:n<=100):
  Calls Tryz.prog 55 #[.map (some mb)] w fun e c=>e= .returned (.tuple #[])/\RM c base mb (n+10) ((120,dW 120 120++[[]])::(133,dW 132 133++[[]])::(132,dW 132 133)::(131,[[1,132],[40,117,41,132]])::(130,dW 129 130)::(129,dW 129 130++[[46,128],[47,110]])::(128,[[1,129],[40,117,41,130]])::(127,dW 125 126)::(126,dW 125 126++[[]])::(125,dW 125 126++[[46,128],[47,110]])::R)/\Below base w c:=by
 have a:Below base w w:=Below.refl _ _;go_in;go_wp2_with (first
  |(go_at_call 113;refine(wA _ _ _).mono ?_;rintro e i ⟨rfl,b,hS⟩)
  |(at_builtin;first
   |(refine iA rfl _ _ rfl rfl b hS _ 2 rfl [[46,128],[47,110]] rfl rfl (by decide) (by decide) ?_;clear b hS;intro f g b hS)
   |(refine iA rfl _ _ rfl rfl b hS _ 1 rfl [[]] rfl rfl (by decide) (by decide) ?_;clear b hS;intro f g b hS))
  |(at_mapUpdate;first
   |(refine az rfl _ _ _ rfl rfl H hS (by omega) _ (by decide) (by decide) rfl _ rfl _ b a ?_;clear H a b hS;intro d H a)
   |(refine az rfl _ _ _ rfl rfl H ((Below.refl _ _).alloc (Nat.le_refl _) _) (by omega) 128 (by decide) (by decide) rfl _ rfl [[1,129],[40,117,41,130]] ?own a ?_;(case own=>exact aQ _ _ [[1,129],[40,117,41,130]] 2 rfl rfl (by decide) (by decide));clear H a;intro d H a)
   |(refine az rfl _ _ _ rfl rfl H ((Below.refl _ _).alloc (Nat.le_refl _) _) (by omega) 131 (by decide) (by decide) rfl _ rfl [[1,132],[40,117,41,132]] ?own a ?_;(case own=>exact aQ _ _ [[1,132],[40,117,41,132]] 2 rfl rfl (by decide) (by decide));clear H a;intro d H a)))
 go_end0
 exact⟨rfl,H,a⟩
def ud:Array Value:=#[.int .i64 26,.int .i64 1,.int .i64 2,.int .i64 10,.int .i64 2,.int .i64 3,.int .i64 73,.int .i64 3,.int .i64 4,.int .i64 74,.int .i64 3,.int .i64 4,.int .i64 75,.int .i64 3,.int .i64 4,.int .i64 76,.int .i64 3,.int .i64 4,.int .i64 77,.int .i64 3,.int .i64 4,.int .i64 78,.int .i64 3,.int .i64 4,
 .int .i64 72,.int .i64 4,.int .i64 4,.int .i64 68,.int .i64 5,.int .i64 6,.int .i64 69,.int .i64 6,.int .i64 7,.int .i64 67,.int .i64 7,.int .i64 8,.int .i64 70,.int .i64 8,.int .i64 9,.int .i64 71,.int .i64 8,.int .i64 9,.int .i64 61,.int .i64 9,.int .i64 10,.int .i64 62,.int .i64 9,.int .i64 10,
 .int .i64 63,.int .i64 10,.int .i64 11,.int .i64 64,.int .i64 10,.int .i64 11,.int .i64 65,.int .i64 10,.int .i64 11,.int .i64 66,.int .i64 10,.int .i64 11]
def rF:List Int:=[26,10,73,74,75,76,77,78,72,68,69,67,70,71,61,62,63,64,65,66]
def EB(k:Nat):Int:=match ud.getD k (.int .i64 0) with| .int _ a=>a|_=>0
theorem J2(k:Nat)(a:k<20)(w:World):(Instr.index 180 (.agg ud) (.int .i64 (k:Int))).run Tryz.prog w= .ok (.agg #[.int .i64 (rF.getD k 0),.int .i64 (EB (3*k+1)),.int .i64 (EB (3*k+2))]) w:=by
 rcases(show k=0\/k=1\/k=2\/k=3\/k=4\/k=5\/k=6\/k=7\/k=8\/k=9\/k=10\/k=11\/k=12\/k=13\/k=14\/k=15\/k=16\/k=17\/k=18\/k=19 by omega) with rfl|rfl|rfl|rfl|rfl|rfl|rfl|rfl|rfl|rfl|rfl|rfl|rfl|rfl|rfl|rfl|rfl|rfl|rfl|rfl;all_goals kernel_rfl
def mI(k:Nat):List (List Int):=(rF.take k).map fun a=>[a,118,119]
theorem zC(k:Nat)(a:k<20):mI (k+1)=mI k++[[rF.getD k 0,118,119]]:=by
 unfold mI;rw[List.take_add_one,List.map_append];have b:rF[k]?=some (rF.getD k 0):=by
  rw[List.getD_eq_getElem?_getD];rw[List.getElem?_eq_getElem (by simpa [rF] using a)];rfl
 rw[b];rfl
theorem BM(k:Nat)(a:k<=20):(mI k).length=k:=by
 unfold mI;rw[List.length_map,List.length_take];show min k 20=k;omega
theorem EC:∀k:Fin 20,0<=rF.getD k.val 0/\rF.getD k.val 0<=100:=by decide
theorem aj{w:World}{b:Nat}{o:Obj}(h:w.heap[b]?=some o):b<w.heap.size:=(Array.getElem?_eq_some_iff.1 h).1
theorem fO{c:Array Oper}{d:List Oper}{o:Oper}{a:Act}{Q:Exit->Act->World->Prop}{W w:World}{mb n:Nat}{D:DataW Value}{v:Value}(y:o.guard=none)(m x:Operand)(u:o.op=Op.lookup 73 m x false)(A:a.eval m= .map (some mb))
  (z:W.ownsMap Tryz.prog 81 iz mb n D) (e:w.heap[mb]?=W.heap[mb]?) (s:Int) (s0:0<=s) (l:s<=255) (t:a.eval x= .int .u8 s) (p:D.atKey (.int .u8 s) (.held (.slice none 0 0))= .held v)
  (j:wpList Tryz.prog c Q d (a.put o.dst v) w):wpList Tryz.prog c Q (o::d) a w:=by
 refine wpList_plain y fun E r=>?_;have i:w.ownsMap Tryz.prog 81 iz mb n D:=by
  obtain⟨k,h,f,q⟩:=z;exact⟨k,h,e.trans f,q⟩
 obtain⟨C,B,g,b⟩:=i.lookup ww Tryz.underlying73 (show(zeroValue 176).run Tryz.prog w= .ok (.slice none 0 0) w by kernel_rfl) (zd:= .held (.slice none 0 0)) (zp:=[]) rfl (wy s0 l);rw[p]at b;unfold iz at b;simp only[Option.some.injEq,Prod.mk.injEq,DataW.held.injEq]at b;obtain⟨rfl,_⟩:=b;unfold Oper.wp;simp[execOp,u,A,t,g,Result.andThen];exact r _ _ j
theorem oC{N:Array Oper}{X:List Oper}{o:Oper}{a:Act}{Q:Exit->Act->World->Prop}{af W l w:World}{base mb n:Nat}{R:List (Int×List (List Int))}{D:DataW Value}{f:Int->Value}
  (H:o.guard=none) (m x v:Operand) (a2:o.op=Op.mapUpdate 73 m x v) (a3:a.eval m= .map (some mb))
  (B:W.ownsMap Tryz.prog 81 iz mb n D) (t:∀a,0<=a->a<=255->D.atKey (.int .u8 a) (.held (.slice none 0 0))= .held (f a)/\cj W base (f a) (lE R a)) (y:BL f) (lo:base<=mb) (s:Int) (q:Below W.heap.size W l) (K:l.grownBy w (f s).ownBlock) (a8:n<1000)
  (s0:0<=s) (k:s<=255) (a6:a.eval x= .int .u8 s) (b:Value) (av:a.eval v=b) (G:List (List Int)) (ar:cj w base b G) (Z:b.ownBlock=(f s).ownBlock\/b.ownBlock=some l.heap.size) (ao:Below base af W)
  (a4:∀i,RM i base mb (n+1) ((s,G)::R)->Below base af i->wpList Tryz.prog N Q X (a.put o.dst undef) i):wpList Tryz.prog N Q (o::X) a w:=by
 have ap:=B.lt;obtain⟨A,u,I,Y⟩:=B;have O:l.heap[mb]?=some (.map A u):=(q.block _ ap).trans I;have F:∀c,(f s).ownBlock=some c->mb≠c:=by
  intro c z;have am:=(t s s0 k).2;rcases am.2 with⟨d,_⟩|⟨ak,a9,bb,d,_,M,_⟩
  ·rw[d]at z;cases z
  ·rw[d]at z;obtain rfl:ak=c:=by simpa [Value.ownBlock] using z
   rintro rfl;rw[I]at M;cases M
 have L:w.heap[mb]?=some (.map A u):=(K.block mb (aj O) (fun e=>F mb e.symm rfl)).trans O;have an:w.ownsMap Tryz.prog 81 iz mb n D:=⟨A,u,L,Y⟩;have B:W.ownsMap Tryz.prog 81 iz mb n D:=⟨A,u,I,Y⟩;refine wpList_mapUpdate_own w H m x v 73 a2 81 176 ww Tryz.underlying73 iz mb n D a3 an (by unfold maxLen;omega) _ _ _ a6 av (wy s0 k) (.held b) [] rfl ?_;intro i al E;refine a4 i ⟨⟨_,fun a=>if a=s then b else f a,al,fun a h g=>?_,?_⟩,lo⟩ ?_
 ·by_cases e:a=s
  ·subst e;rw[gh,atKey_put_same B.isMap (by trivial)];show DataW.held b=DataW.held (if a=a then b else f a)/\cj i base (if a=a then b else f a) G;rw[if_pos rfl];exact⟨rfl,iQ ar L E⟩
  ·show _=DataW.held (if a=s then b else f a)/\cj i base (if a=s then b else f a) _;rw[eX (fun d=>e d.symm),if_neg e,atKey_put_other (by intro d;injection d with _ d;exact e d)];exact⟨(t a h g).1,iQ (World.ownsRow.kept ((t a h g).2.keep q) K (y a s h g s0 k e)) L E⟩
 ·have T:∀a,0<=a->a<=255->∀c,(f a).ownBlock=some c->c<W.heap.size:=fun a h g c H=>((t a h g).2.lt c H).2;have a7:=q.size;intro a j h g C r F;show(if a=s then b else f a).ownBlock=none\/(if a=s then b else f a).ownBlock≠(if j=s then b else f j).ownBlock;by_cases J:a=s
  ·rw[if_pos J,if_neg (by omega)];rcases Z with e|e
   ·rw[e];exact y s j s0 k C r (by omega)
   ·refine .inr (fun p=>?_);rw[e]at p;have:=T j C r _ p.symm;omega
  ·rw[if_neg J];by_cases U:j=s
   ·rw[if_pos U];rcases Z with e|e
    ·rw[e];exact y a s h g s0 k J
    ·cases hq:(f a).ownBlock with
     |none=>exact .inl rfl
     |some c=>exact .inr (fun p=>by rw[e]at p;have:=T a h g c hq;cases p;omega)
   ·rw[if_neg U];exact y a j h g C r F
 ·have a5:base<=W.heap.size:=by omega
  have r:Below base W l:=q.mono a5;refine ao.trans ?_;have S:Below base W w:=r.grown K (by have:=q.size;omega) (fun V e=>((t s s0 k).2.lt V e).1);exact S.grown E (by have:=S.size;omega) (fun V e=>by cases e;exact lo)
theorem lF{h:Array Oper}{i:List Oper}{o:Oper}{a:Act}{Q:Exit->Act->World->Prop}{b:World}{base:Nat}{v:Value}{f:List (List Int)}(q:o.guard=none)(s x:Operand)
  (A:o.op= .call {callee:= .builtin .append,args:=#[s,x],argTypes:=#[176,176]}) (p:a.eval s=v) (l:cj b base v f) (J:base<=b.heap.size) (cs:Array Value) (m g:Nat) (G:a.eval x= .slice (some ⟨g,0,none⟩) m m) (B:g=b.heap.size) (e:List (List Int)) (j:e.length=m) (n:cs.toList=oB e) (k:∀r∈e,r.length<=6)
  (I:f.length+m<=1000)
  (t:∀c d,cj d base c (f++e)->(b.alloc (.cells cs 133 (0,0))).grownBy d v.ownBlock->(c.ownBlock=v.ownBlock\/c.ownBlock=some (b.alloc (.cells cs 133 (0,0))).heap.size)->wpList Tryz.prog h Q i (a.put o.dst c) d):wpList Tryz.prog h Q (o::i) a (b.alloc (.cells cs 133 (0,0))):=by
 subst B;obtain⟨H,u,C,E,w⟩:=info_parts rE;refine wpList_append_own_at _ q s x 176 A base 133 H _ 6 6 Tryz.underlying176 u C E w rfl (by decide) v f.length (oB f) p (World.ownsRow.alloc l _) ⟨b.heap.size,0,none⟩ m m (oB e) G (by rw[yc k,j]) ?_ ya (by unfold maxLen;omega) (by omega) (by simp;omega) ?_
 ·rw[<-n];exact World.news_of_block (cs:=cs) (fr:=(0,0)) (heap_alloc_new b _)
 ·intro c d y F _ z;refine t c d ?_ F z;unfold cj;rw[xZ,List.length_append,j];exact y
theorem ue(w:World)(base mb n:Nat)(R:List (Int×List (List Int)))(H:RM w base mb n R)(M:n<=100)(r:TypeId)(fr:Nat×Nat)(B:w.heap[1]?=some (.cells ud r fr))(z:1<base):
  Calls Tryz.prog 56 #[.map (some mb)] w fun e q=>e= .returned (.tuple #[])/\RM q base mb (n+34) ((124,[[117],[44,117,45,47,117],[48,1,47,117]])::(123,[[46,122],[]])::(122,[[124,123],[]])::(121,[[42,122,43]])::(119,[]::mI 20)::(118,[[25,118],[62,118],[50,118],[69,118],[1,120],[40,117,41,120],[2],[3],[4],[24],[29],[17],[49],[18,113],[121]])::(117,[[118,119]])::(116,[[46,115],[]])::(115,[[49],[1,116]])::(114,[[115],[]])::(113,[[40,114,41,108]])::(112,[[46,117,112],[]])::(111,[[117,112],[]])::(110,[[117,112]])::R)/\Below base w q:=by
 have a:Below base w w:=Below.refl _ _;obtain⟨L,V,T,U,Y⟩:=info_parts rE;go_in;go_wp2_with (first
  |(at_mapUpdate;first
   |(refine az rfl _ _ _ rfl rfl H ((Below.refl _ _).alloc (Nat.le_refl _) _) (by omega) 110 (by decide) (by decide) rfl _ rfl [[117,112]] ?own a ?_;(case own=>exact aQ _ _ [[117,112]] 1 rfl rfl (by decide) (by decide));clear H a;intro c H a)
   |(refine az rfl _ _ _ rfl rfl H ((Below.refl _ _).alloc (Nat.le_refl _) _) (by omega) 111 (by decide) (by decide) rfl _ rfl [[117,112],[]] ?own a ?_;(case own=>exact aQ _ _ [[117,112],[]] 2 rfl rfl (by decide) (by decide));clear H a;intro c H a)
   |(refine az rfl _ _ _ rfl rfl H ((Below.refl _ _).alloc (Nat.le_refl _) _) (by omega) 112 (by decide) (by decide) rfl _ rfl [[46,117,112],[]] ?own a ?_;(case own=>exact aQ _ _ [[46,117,112],[]] 2 rfl rfl (by decide) (by decide));clear H a;intro c H a)
   |(refine az rfl _ _ _ rfl rfl H ((Below.refl _ _).alloc (Nat.le_refl _) _) (by omega) 113 (by decide) (by decide) rfl _ rfl [[40,114,41,108]] ?own a ?_;(case own=>exact aQ _ _ [[40,114,41,108]] 1 rfl rfl (by decide) (by decide));clear H a;intro c H a)
   |(refine az rfl _ _ _ rfl rfl H ((Below.refl _ _).alloc (Nat.le_refl _) _) (by omega) 114 (by decide) (by decide) rfl _ rfl [[115],[]] ?own a ?_;(case own=>exact aQ _ _ [[115],[]] 2 rfl rfl (by decide) (by decide));clear H a;intro c H a)
   |(refine az rfl _ _ _ rfl rfl H ((Below.refl _ _).alloc (Nat.le_refl _) _) (by omega) 115 (by decide) (by decide) rfl _ rfl [[49],[1,116]] ?own a ?_;(case own=>exact aQ _ _ [[49],[1,116]] 2 rfl rfl (by decide) (by decide));clear H a;intro c H a)
   |(refine az rfl _ _ _ rfl rfl H ((Below.refl _ _).alloc (Nat.le_refl _) _) (by omega) 116 (by decide) (by decide) rfl _ rfl [[46,115],[]] ?own a ?_;(case own=>exact aQ _ _ [[46,115],[]] 2 rfl rfl (by decide) (by decide));clear H a;intro c H a)
   |(refine az rfl _ _ _ rfl rfl H ((Below.refl _ _).alloc (Nat.le_refl _) _) (by omega) 117 (by decide) (by decide) rfl _ rfl [[118,119]] ?own a ?_;(case own=>exact aQ _ _ [[118,119]] 1 rfl rfl (by decide) (by decide));clear H a;intro c H a)
   |(refine az rfl _ _ _ rfl rfl H ((Below.refl _ _).alloc (Nat.le_refl _) _) (by omega) 118 (by decide) (by decide) rfl _ rfl [[25,118],[62,118],[50,118],[69,118],[1,120],[40,117,41,120],[2],[3],[4],[24],[29],[17],[49],[18,113],[121]] ?own a ?_;(case own=>exact aQ _ _ [[25,118],[62,118],[50,118],[69,118],[1,120],[40,117,41,120],[2],[3],[4],[24],[29],[17],[49],[18,113],[121]] 15 rfl rfl (by decide) (by decide));clear H a;intro c H a)
   |(refine az rfl _ _ _ rfl rfl H ((Below.refl _ _).alloc (Nat.le_refl _) _) (by omega) 119 (by decide) (by decide) rfl _ rfl [[]] ?own a ?_;(case own=>exact aQ _ _ [[]] 1 rfl rfl (by decide) (by decide));clear H a;intro c H a))
  |(refine wpList_load_row rfl 180 _ rfl 1 rfl r _ fr _ ((a.block _ z).trans B) Tryz.underlying180 rfl (by kernel_rfl) ?_))
 go_loopw [54] (fun o wr=>∃b:Nat,b<=20/\o= .int .i64 b/\RM wr base mb (n+10+b) ((119,[]::mI b)::(118,[[25,118],[62,118],[50,118],[69,118],[1,120],[40,117,41,120],[2],[3],[4],[24],[29],[17],[49],[18,113],[121]])::(117,[[118,119]])::(116,[[46,115],[]])::(115,[[49],[1,116]])::(114,[[115],[]])::(113,[[40,114,41,108]])::(112,[[46,117,112],[]])::(111,[[117,112],[]])::(110,[[117,112]])::R)/\Below base w wr) (fun o _=>20-(intOf o).toNat)
 case atStart=>exact⟨0,by omega,rfl,H,a⟩
 case round=>
  clear H a;obtain⟨b,C,rfl,H,a⟩:=hrel;by_cases j:b<20
  ·have l:=fun w=>J2 b j w;obtain⟨p,t⟩:=EC ⟨b,j⟩;simp only at p t;have i:=zC b j;have u:=BM b C;generalize rF.getD b 0=f at l p t i;generalize EB (3*b+1)=F at l;generalize EB (3*b+2)=p2 at l;have N:IntKind.u8.wrap f=f:=by rw[IntKind.wrap_u8];omega
   obtain⟨D,y,h,m,s⟩:=H.ex;have I:=H.lo;have g:=m 119 (by decide) (by decide);rw[gh]at g;have Q:(b:Int)<20:=by omega
   have A:=h.lt;have O:base<=wr.heap.size:=by omega
   have k:Hid (cj (wr.alloc (.cells #[.int .i64 f,.int .i64 F,.int .i64 p2] 179)) base (y 119) ([]::mI b)/\mI (b+1)=mI b++[[f,118,119]]/\(mI b).length=b):=⟨g.2.keep ((Below.refl _ _).alloc (Nat.le_refl _) _),i,u⟩;clear i u;go_wp2_with (first
    |(at_lookup;refine fO rfl _ _ rfl rfl h ?blk 119 (by decide) (by decide) rfl g.1 ?_)
    |(at_builtin;go_loud (refine lF rfl _ _ rfl rfl k.out.1 (by simp;omega) _ 1 (wr.heap.size+1) rfl (by simp) [[f,118,119]] rfl rfl (by simp) (by rw[List.length_cons,k.out.2.2];omega) ?_;intro S X G v x))
    |(at_mapUpdate;go_loud (refine oC rfl _ _ _ rfl rfl h m s I 119 (((Below.refl _ _).alloc (Nat.le_refl _) _).alloc (by simp) _) v (by omega) (by decide) (by decide) rfl _ rfl _ G x a ?_;clear H a h m s g;intro J H a)))
   case blk=>exact Below.heap_alloc _ _ _ A
   go_roundw
   case rel=>
    refine⟨b+1,by omega,by go_num,?_,a⟩;refine RM.congr (n:=n+10+(b+1)) H (fun E W K=>?_);by_cases e:E=119
    ·subst e;rw[gh,gh,k.out.2.1];rfl
    ·rw[eX (fun d=>e d.symm),eX (fun d=>e d.symm),eX (fun d=>e d.symm)]
   case measure=>simp[intOf];omega
  ·obtain rfl:b=20:=by omega
   go_wp2_with (at_mapUpdate;first
    |(refine az rfl _ _ _ rfl rfl H ((Below.refl _ _).alloc (Nat.le_refl _) _) (by omega) 121 (by decide) (by decide) rfl _ rfl [[42,122,43]] ?own a ?_;(case own=>exact aQ _ _ [[42,122,43]] 1 rfl rfl (by decide) (by decide));clear H a;intro c H a)
    |(refine az rfl _ _ _ rfl rfl H ((Below.refl _ _).alloc (Nat.le_refl _) _) (by omega) 122 (by decide) (by decide) rfl _ rfl [[124,123],[]] ?own a ?_;(case own=>exact aQ _ _ [[124,123],[]] 2 rfl rfl (by decide) (by decide));clear H a;intro c H a)
    |(refine az rfl _ _ _ rfl rfl H ((Below.refl _ _).alloc (Nat.le_refl _) _) (by omega) 123 (by decide) (by decide) rfl _ rfl [[46,122],[]] ?own a ?_;(case own=>exact aQ _ _ [[46,122],[]] 2 rfl rfl (by decide) (by decide));clear H a;intro c H a)
    |(refine az rfl _ _ _ rfl rfl H ((Below.refl _ _).alloc (Nat.le_refl _) _) (by omega) 124 (by decide) (by decide) rfl _ rfl [[117],[44,117,45,47,117],[48,1,47,117]] ?own a ?_;(case own=>exact aQ _ _ [[117],[44,117,45,47,117],[48,1,47,117]] 3 rfl rfl (by decide) (by decide));clear H a;intro c H a))
   go_end0
   exact⟨rfl,H.mono (by omega),a⟩
theorem BN:((List.range 256).all fun a=>decide (lE ((124,[[117],[44,117,45,47,117],[48,1,47,117]])::(123,[[46,122],[]])::(122,[[124,123],[]])::(121,[[42,122,43]])::(119,[]::mI 20)::(118,[[25,118],[62,118],[50,118],[69,118],[1,120],[40,117,41,120],[2],[3],[4],[24],[29],[17],[49],[18,113],[121]])::(117,[[118,119]])::(116,[[46,115],[]])::(115,[[49],[1,116]])::(114,[[115],[]])::(113,[[40,114,41,108]])::(112,[[46,117,112],[]])::(111,[[117,112],[]])::(110,[[117,112]])::(120,dW 120 120++[[]])::(133,dW 132 133++[[]])::(132,dW 132 133)::(131,[[1,132],[40,117,41,132]])::(130,dW 129 130)::(129,dW 129 130++[[46,128],[47,110]])::(128,[[1,129],[40,117,41,130]])::(127,dW 125 126)::(126,dW 125 126++[[]])::(125,dW 125 126++[[46,128],[47,110]])::(109,[[46,1,109],[]])::(108,[[42,100,43]])::(107,[[15,117,108,107],[16,108],[]])::(106,[[46,1],[]])::(105,[[46,117],[]])::(104,[[47,117,46,117,105,108],[21,117,108],[46,1,109,21,117,108]])::(103,[[47,110],[]])::(102,[[22,1,109,103],[13,1,47,117],[18,1,113],[20,117,108,107],[31,117,108],[19,1,104],[11],[23],[27,111],[30,108,12,1,106,108],[28,117],[14,131],[108],[1,125],[40,117,41,127]])::(101,[[5,100],[]])::(100,[[5,100],[102,101],[]])::[]) (a:Int)=dl (a:Int)))=true:=by decide+kernel
end Go.Proofs.YtcbmoiabehpliaaGreatDoor
namespace Go.Proofs.YtcbmoiabehpliaaGreatDoor
open Go.RowKit
theorem yd{w:World}{base:Nat}{e:TypeId}{size g cap n b:Nat}{a c:List Value}(i:a.length=n*size)
  (h:w.ownsRow base e size (.slice (some ⟨g,0,none⟩) (n+b) cap) (n+b) (a++c)):w.ownsRow base e size (.slice (some ⟨g,0,none⟩) n cap) n a:=by
 obtain⟨_,r⟩:=h;rcases r with⟨k,_⟩|⟨u,t,d,m,q,p,s,j,l,o⟩
 ·cases k
 ·cases m;refine⟨i,.inr ⟨g,cap,d,rfl,q,p,by omega,j,l,?_⟩⟩;have f:(d.toList.take ((n+b)*size)).take (n*size)=(a++c).take (n*size):=by rw[o]
  rw[List.take_take,Nat.min_eq_left (Nat.mul_le_mul_right _ (by omega))]at f;rw[f,<-i];exact take_len _ _
theorem rG{w:World}{base:Nat}{e:TypeId}{size g cap n:Nat}{a:List Value}(h:w.ownsRow base e size (.slice (some ⟨g,0,none⟩) n cap) n a):n<=cap:=by
 rcases h.2 with⟨b,_⟩|⟨p,o,m,d,l,k,c,f,i,j⟩
 ·cases b
 ·cases d;exact c
def dF(st:List Int):Nat->List Int
 |0=>[]
 |j+1=>if(feedL st ((j:Int)+1)).2=true then dF st j++[(j:Int)+1] else dF st j
def lG(st:List Int):List Int:=dF st 78
theorem iR(st:List Int):∀j,(dF st j).length<=j
 |0=>Nat.le_refl _
 |j+1=>by
  have:=iR st j;rw[dF];split
  ·rw[List.length_append];simp;omega
  ·omega
theorem im.put{W:World}{base mb:Nat}{C:List (Int×Int)}{f:Value}(d:W.heap[mb]?=some (.cells #[f] 58 (0,0)))(lo:base<=mb){v:Value}(a:W.ownsRow base 111 2 v C.length (Ae C)):im (W.setCell ⟨mb,0,none⟩ v) base mb C:=by
 refine⟨⟨v,heap_setCell_same _ mb 0 _ _ _ d,?_⟩,lo⟩;refine a.kept (row:=some mb) ⟨rfl,rfl,rfl,by simp[World.setCell],fun l n g=>heap_setCell_other _ _ _ _ (fun b=>g (by rw[b]))⟩ ?_;rcases ay a with⟨_,rfl⟩|⟨h,j,rfl⟩
 ·exact .inl rfl
 ·refine .inr ?_;intro b;obtain rfl:h=mb:=by simpa [Value.ownBlock] using b
  rcases a.2 with⟨c,_⟩|⟨i,k,m,c,_,e,_⟩
  ·cases c
  ·cases c;rw[d]at e;cases e
theorem Kp.put{mb:Nat}{w W:World}(h:Kp mb w W)(j:Nat)(v:Value):Kp mb w (W.setCell ⟨mb,j,none⟩ v):=
 h.trans ⟨rfl,rfl,rfl,by simp[World.setCell],fun b _ a _=>heap_setCell_other _ _ _ _ a⟩
theorem zD(w:World)(base mb:Nat)(h:im w base mb []):
  Calls Tryz.prog 41 #[.pointer (some ⟨mb,0,none⟩)] w fun e a=>e= .returned (.int .i64 1)/\im a base mb [(6, -1),(100,0)]/\Kp mb w a/\Below base w a:=by
 have c:=nZ w base mb [] (-1) 6 h (by simp);go_in;go_wp2_with fail;refine c.mono ?_;rintro e d ⟨rfl,i,k,g⟩;have b:=nZ d base mb [(6, -1)] 0 100 i (by simp);clear c;simp only[List.length_nil,Int.natCast_zero];go_wp2_with fail;refine b.mono ?_;rintro e l ⟨rfl,f,p2,j⟩;clear b;simp only[List.length_cons,List.length_nil,Nat.zero_add,Int.natCast_one];go_wp2_with fail;go_ret;exact⟨rfl,f,k.trans p2,g.trans j⟩
structure ED (w:World) (base mb:Nat) (C:List (Int×Int)) (st:List Int) (j:Nat) (vo:Value) (W:World):Prop where
 m:im W base mb C
 kp:Kp mb w W
 bl:Below base w W
 row:W.ownsRow w.heap.size 3 1 vo (dF st j).length ((dF st j).map (Value.int .i64))
theorem ye(w:World)(base mb:Nat)(C:List (Int×Int))(st:List Int)(W:Int)(h:im w base mb C)(bd:dT C W st)(bs:mR st)(ct:0<C.length)(bb:C.length<=50000000):
  Calls Tryz.prog 45 #[.pointer (some ⟨mb,0,none⟩),.int .i64 W] w fun e F=>∃a c,e= .returned (.slice a (lG st).length c)/\F.ownsRow w.heap.size 3 1 (.slice a (lG st).length c) (lG st).length ((lG st).map (Value.int .i64))/\im F base mb C/\Kp mb w F/\Below base w F:=by
 obtain⟨cr,Y,a6⟩:=h.ex;have cF:base<=w.heap.size:=by have:=lt_of_block Y;have:=h.lo;omega
 have Z:=h.lo;obtain⟨g,B⟩:=ah C.length;obtain⟨x,t,rfl⟩:∃x t,cr= .slice (some ⟨x,0,none⟩) g t:=by
  rcases ay a6 with⟨hz,_⟩|hz
  ·omega
  ·rw[<-B];exact hz
 have b1:w.cell? ⟨mb,0,none⟩=some (.slice (some ⟨x,0,none⟩) g t):=by rw[cell_of_row _ _ _ _ _ _ Y];rfl
 have a0:ED w base mb C st 0 (.slice none 0 0) w:=⟨h,Kp.refl _ _,Below.refl _ _,World.ownsRow_nil _ _ _ _⟩;have r:=cS B bd bs;have bn:=ab a0;rw[B]at ct bb;obtain⟨b6,bE,b3,cw,bN⟩:=info_parts gD;clear h a6 Y a0 B bd bs;go_in;go_wp2_with fail;go_loopw [5,7] (fun bk X wr=>∃(b:Nat),b<=78/\X= .int .i64 ((b:Int)+1)/\(∃a c,∃b4:Nat,bk= .slice a b4 c)/\Hid (ED w base mb C st b bk wr)) (fun _ X _=>(79-intOf X).toNat)
 case atStart=>exact⟨0,Nat.zero_le _,rfl,⟨_,_,_,rfl⟩,bn⟩
 case round=>
  obtain⟨b,cI,rfl,⟨E,G,s,rfl⟩,i⟩:=hrel;clear bn b1;by_cases cT:b<78
  ·have A:((b:Int)+1)<=78:=by omega
   have p:=jY wr base mb C st W ((b:Int)+1) i.out.m r.out.2.1 r.out.2.2 (by omega) A (by rw[r.out.1];exact bb);obtain⟨bA,O⟩:=ah (feedL st ((b:Int)+1));rw[O]at p;obtain⟨bh,S⟩:=ah bA.2;unfold io at p;rw[S]at p;have a4:Hid ((feedL st ((b:Int)+1)).2=bh):=by show _=_;rw[O];exact S
   obtain⟨o,V⟩:∃o:Int,(b:Int)+1=o:=⟨_,rfl⟩;have ak:=ab V;have cz:o<=78:=by omega
   have c6:1<=o:=by omega
   rw[V]at p⊢;clear O S V A;go_wp2_with fail;refine p.mono ?_;rintro e j ⟨c5,D,rfl,al,_,cl,p2,a1⟩;obtain⟨cc,y,u⟩:=al.ex;rw[List.length_append,r.out.1,xM]at u;obtain⟨n,l,rfl⟩:∃x t,cc= .slice (some ⟨x,0,none⟩) (g+D.length) t:=by
    rcases ay u with⟨hz,_⟩|hz
    ·omega
    ·exact hz
   have hcut:=yd (by rw[xL,r.out.1]) u;have c1:=rG hcut;have ck:=rG u;have z0:j.cell? ⟨mb,0,none⟩=some (.slice (some ⟨n,0,none⟩) (g+D.length) l):=by rw[cell_of_row _ _ _ _ _ _ y];rfl
   have c4:j.frozen? ⟨mb,0,none⟩=false:=frozen_of_row _ _ _ _ _ y;have a7:im (j.setCell ⟨mb,0,none⟩ (.slice (some ⟨n,0,none⟩) g l)) base mb C:=im.put y Z (by rw[r.out.1];exact hcut);obtain⟨cP,bo,_⟩:=i.out.m.ex;have ar:=p2.row bo i.out.row (by decide) (by decide);have a8:(j.setCell ⟨mb,0,none⟩ (.slice (some ⟨n,0,none⟩) g l)).ownsRow w.heap.size 3 1 (.slice E s G) (dF st b).length ((dF st b).map (Value.int .i64)):=
    ((Kp.refl mb j).put 0 _).row y ar (by decide) (by decide)
   have f:Hid (ED w base mb C st b (.slice E s G) (j.setCell ⟨mb,0,none⟩ (.slice (some ⟨n,0,none⟩) g l))):=
    ⟨a7,(i.out.kp.trans p2).put _ _,(i.out.bl.trans a1).setCell Z _,a8⟩
   have c3:(0:Int)<=(g:Int):=by omega
   have cN:(g:Int)<=(l:Int):=by omega
   obtain⟨cB,b5⟩:=ah (g+D.length);rw[b5]at z0;clear p al u y hcut a7 ar a8 bo p2 a1 i cl ck;have cn:=iR st b;cases bh with
   |false=>
    have e:dF st (b+1)=dF st b:=by rw[dF,a4.out,if_neg (by decide)]
    go_wp2_with fail;refine⟨⟨b+1,by omega,?_,⟨_,_,_,rfl⟩,⟨f.out.m,f.out.kp,f.out.bl,by rw[e];exact f.out.row⟩⟩,?_⟩
    ·have:=ak.out;congr 1;push_cast;omega
    ·simp[intOf];omega
   |true=>
    have e:dF st (b+1)=dF st b++[(b:Int)+1]:=by rw[dF,a4.out,if_pos rfl]
    have cg:Hid (dF st (b+1)=dF st b++[o]):=by show _=_;rw[e,ak.out]
    obtain⟨ca,cf,K⟩:=aB f.out.row;cases K;obtain⟨s,z⟩:=ah ((dF st b).length);have b7:=ab z;rw[z]at cn⊢;have U:=f.out.row;rw[z]at U;have q:=ab U;clear e z U;have cq:w.heap.size<=(j.setCell ⟨mb,0,none⟩ (.slice (some ⟨n,0,none⟩) g l)).heap.size:=f.out.kp.size;have v:Hid ((j.setCell ⟨mb,0,none⟩ (.slice (some ⟨n,0,none⟩) g l)).heap.size=j.heap.size):=by show _=_;simp[World.setCell]
    go_wp2_with (at_builtin;rw[<-v.out];generalize j.setCell ⟨mb,0,none⟩ (.slice (some ⟨n,0,none⟩) g l)=M at f q cq⊢;refine wpList_append_own _ rfl _ _ 67 rfl w.heap.size 3 b6 _ 1 8 Tryz.underlying67 bE b3 cw bN rfl (by decide) _ _ _ rfl (q.out.alloc _) ⟨M.heap.size,0,none⟩ 1 1 [.int .i64 o] rfl rfl (World.news_of_block (cs:=#[.int .i64 o]) (fr:=(0,0)) (heap_alloc_new M _)) (by intro c7 a3;simp at a3;subst a3;rfl) (by unfold maxLen;omega) (by omega) (by simp;omega) ?_;intro c2 I af m b8;obtain⟨ch,cx,rfl⟩:=ownsRow_succ af);obtain⟨cb,a5,ao⟩:=f.out.m.ex;have bt:∀d,(Value.slice E s G).ownBlock=some d->w.heap.size<=d:=fun d k=>(q.out.lt d k).1;have Q:∀(d:Nat)(cs:Array Value)(J:TypeId)(fr:Nat×Nat),M.heap[d]?=some (.cells cs J fr)->J≠3->I.heap[d]?=some (.cells cs J fr):=fun d cs J fr k A=>by
     refine(m.block d (by simp;have:=lt_of_block k;omega) (fun e=>?_)).trans ((Below.heap_alloc _ _ _ (lt_of_block k)).trans k);have H:(Value.slice E s G).ownBlock=some d:=e.symm;rcases q.out.2 with⟨R,_⟩|⟨N,am,ap,R,_,v,_⟩
     ·rw[R]at H;simp[Value.ownBlock]at H
     ·rw[R]at H;obtain rfl:N=d:=by simpa [Value.ownBlock] using H
      rw[k]at v;simp only[Option.some.injEq,Obj.cells.injEq]at v;exact A v.2.1
    have br:Kp mb w I:=⟨m.os.trans f.out.kp.os,m.tape.trans f.out.kp.tape,m.output.trans f.out.kp.output,by have:=m.size;simp at this;omega,fun d k b9 L=>
     (m.block d (by simp;omega) (fun e=>by have:=bt d e.symm;omega)).trans ((Below.heap_alloc _ _ _ (by omega)).trans (f.out.kp.block d k b9 L))⟩
    have an:im I base mb C:=by
     refine⟨⟨cb,Q _ _ _ _ a5 (by decide),?_⟩,Z⟩;obtain⟨cm,T⟩:=ao;refine⟨cm,?_⟩;rcases T with T|⟨N,am,ap,bx,b0,L,bD⟩
     ·exact .inl T
     ·exact .inr ⟨N,am,ap,bx,b0,Q _ _ _ _ L (by decide),bD⟩
    have a2:ED w base mb C st (b+1) (.slice (some ⟨ch,0,none⟩) (s+1) cx) I:=by
     refine⟨an,br,?_,?_⟩
     ·exact(f.out.bl.alloc (by omega) _).grown m (by simp;omega) (fun d k=>by have:=(q.out.lt d k).1;omega)
     ·rw[cg.out,List.length_append,b7.out,List.map_append];exact af
    have bw:=ab a2;clear a2 an br a5 ao bt Q af m b8 f q;refine⟨⟨b+1,by omega,?_,⟨_,_,_,rfl⟩,bw⟩,?_⟩
    ·have:=ak.out;congr 1;push_cast;omega
    ·simp[intOf];omega
  ·obtain rfl:b=78:=by omega
   obtain⟨ca,cf,K⟩:=aB i.out.row;cases K;go_wp2_with fail;go_ret;exact⟨_,_,rfl,i.out.row,i.out.m,i.out.kp,i.out.bl⟩
theorem eB{w d:World}{lo i e size n:Nat}{v:Value}{b:List Value}(o:w.ownsRow lo e size v n b)(h:∀g,v.ownBlock=some g->lo<=g->g<w.heap.size->d.heap[g]?=w.heap[g]?/\i<=g):d.ownsRow i e size v n b:=by
 obtain⟨j,a⟩:=o;refine⟨j,?_⟩;rcases a with a|⟨g,p,l,rfl,k,c,m⟩
 ·exact .inl a
 ·have f:=h g rfl k (lt_of_block c);exact .inr ⟨g,p,l,rfl,f.2,f.1.trans c,m⟩
structure Lw (w:World) (lo:Nat) (lv:Value) (L:List Mb):Prop where
 row:w.ownsRow lo 69 9 lv L.length (cQ L)
 each:∀x∈L,w.ownsRow lo 9 1 x.vn x.N.nm.length (x.N.nm.map Value.string)/\w.ownsRow lo 3 1 x.vk x.N.ks.length (x.N.ks.map (Value.int .i64))
theorem Lw.mono{w f:World}{lo:Nat}{v:Value}{i:List Mb}(h:Lw w lo v i)(d:∀k,lo<=k->k<w.heap.size->f.heap[k]?=w.heap[k]?):Lw f lo v i:=
 ⟨eB h.row fun b _ a c=>⟨d b a c,a⟩,fun e g=>⟨eB (h.each e g).1 fun b _ a c=>⟨d b a c,a⟩,eB (h.each e g).2 fun b _ a c=>⟨d b a c,a⟩⟩⟩
theorem Lw.nds{w:World}{lo:Nat}{v:Value}{d:List Mb}(h:Lw w lo v d):bf w v (d.map Mb.N):=by
 rcases ay h.row with⟨m,rfl⟩|⟨c,j,rfl⟩
 ·exact .inl ⟨by rw[List.eq_nil_of_length_eq_zero m];rfl,_,_,rfl⟩
 ·refine .inr ⟨⟨c,0,none⟩,j,by rw[List.length_map],fun e N a=>?_⟩;rw[List.getElem?_map]at a;cases hx:d[e]? with
  |none=>rw[hx]at a;cases a
  |some b=>
   rw[hx]at a;obtain rfl:=Option.some.inj a;rw[show(⟨c,0,none⟩:Addr).add (e*9)=⟨c,e*9,none⟩ by unfold Addr.add;split<;>simp_all];obtain⟨l,p,k,g,o,q,i,r,n⟩:=gc h.row hx;have f:=h.each b (List.mem_of_getElem? hx);exact⟨b.vn,b.vk,l,p,k,g,o,q,i,r,n,lC f.1,ga f.2⟩
end Go.Proofs.YtcbmoiabehpliaaGreatDoor
namespace Go.Proofs.YtcbmoiabehpliaaGreatDoor
open Go.RowKit Go.Maps Go.WideMaps
theorem RM.size{W:World}{base mb n:Nat}{R:List (Int×List (List Int))}(h:RM W base mb n R):base<W.heap.size:=by
 obtain⟨D,b,a,_⟩:=h.ex;have:=a.lt;have:=h.lo;omega
theorem ug(w:World)(base mb n:Nat)(R:List (Int×List (List Int)))(H:RM w base mb n R)(d:n<=100):
  Calls Tryz.prog 54 #[.map (some mb)] w fun e c=>e= .returned (.tuple #[])/\RM c base mb (n+10) ((109,[[46,1,109],[]])::(108,[[42,100,43]])::(107,[[15,117,108,107],[16,108],[]])::(106,[[46,1],[]])::(105,[[46,117],[]])::(104,[[47,117,46,117,105,108],[21,117,108],[46,1,109,21,117,108]])::(103,[[47,110],[]])::(102,[[22,1,109,103],[13,1,47,117],[18,1,113],[20,117,108,107],[31,117,108],[19,1,104],[11],[23],[27,111],[30,108,12,1,106,108],[28,117],[14,131],[108],[1,125],[40,117,41,127]])::(101,[[5,100],[]])::(100,[[5,100],[102,101],[]])::R)/\Below base w c:=by
 have a:Below base w w:=Below.refl _ _;go_in;go_wp2_with (at_mapUpdate;first
  |(refine az rfl _ _ _ rfl rfl H ((Below.refl _ _).alloc (Nat.le_refl _) _) (by omega) 100 (by decide) (by decide) rfl _ rfl [[5,100],[102,101],[]] ?own a ?_;(case own=>exact aQ _ _ [[5,100],[102,101],[]] 3 rfl rfl (by decide) (by decide));clear H a;intro b H a)
  |(refine az rfl _ _ _ rfl rfl H ((Below.refl _ _).alloc (Nat.le_refl _) _) (by omega) 101 (by decide) (by decide) rfl _ rfl [[5,100],[]] ?own a ?_;(case own=>exact aQ _ _ [[5,100],[]] 2 rfl rfl (by decide) (by decide));clear H a;intro b H a)
  |(refine az rfl _ _ _ rfl rfl H ((Below.refl _ _).alloc (Nat.le_refl _) _) (by omega) 102 (by decide) (by decide) rfl _ rfl [[22,1,109,103],[13,1,47,117],[18,1,113],[20,117,108,107],[31,117,108],[19,1,104],[11],[23],[27,111],[30,108,12,1,106,108],[28,117],[14,131],[108],[1,125],[40,117,41,127]] ?own a ?_;(case own=>exact aQ _ _ [[22,1,109,103],[13,1,47,117],[18,1,113],[20,117,108,107],[31,117,108],[19,1,104],[11],[23],[27,111],[30,108,12,1,106,108],[28,117],[14,131],[108],[1,125],[40,117,41,127]] 15 rfl rfl (by decide) (by decide));clear H a;intro b H a)
  |(refine az rfl _ _ _ rfl rfl H ((Below.refl _ _).alloc (Nat.le_refl _) _) (by omega) 103 (by decide) (by decide) rfl _ rfl [[47,110],[]] ?own a ?_;(case own=>exact aQ _ _ [[47,110],[]] 2 rfl rfl (by decide) (by decide));clear H a;intro b H a)
  |(refine az rfl _ _ _ rfl rfl H ((Below.refl _ _).alloc (Nat.le_refl _) _) (by omega) 104 (by decide) (by decide) rfl _ rfl [[47,117,46,117,105,108],[21,117,108],[46,1,109,21,117,108]] ?own a ?_;(case own=>exact aQ _ _ [[47,117,46,117,105,108],[21,117,108],[46,1,109,21,117,108]] 3 rfl rfl (by decide) (by decide));clear H a;intro b H a)
  |(refine az rfl _ _ _ rfl rfl H ((Below.refl _ _).alloc (Nat.le_refl _) _) (by omega) 105 (by decide) (by decide) rfl _ rfl [[46,117],[]] ?own a ?_;(case own=>exact aQ _ _ [[46,117],[]] 2 rfl rfl (by decide) (by decide));clear H a;intro b H a)
  |(refine az rfl _ _ _ rfl rfl H ((Below.refl _ _).alloc (Nat.le_refl _) _) (by omega) 106 (by decide) (by decide) rfl _ rfl [[46,1],[]] ?own a ?_;(case own=>exact aQ _ _ [[46,1],[]] 2 rfl rfl (by decide) (by decide));clear H a;intro b H a)
  |(refine az rfl _ _ _ rfl rfl H ((Below.refl _ _).alloc (Nat.le_refl _) _) (by omega) 107 (by decide) (by decide) rfl _ rfl [[15,117,108,107],[16,108],[]] ?own a ?_;(case own=>exact aQ _ _ [[15,117,108,107],[16,108],[]] 3 rfl rfl (by decide) (by decide));clear H a;intro b H a)
  |(refine az rfl _ _ _ rfl rfl H ((Below.refl _ _).alloc (Nat.le_refl _) _) (by omega) 108 (by decide) (by decide) rfl _ rfl [[42,100,43]] ?own a ?_;(case own=>exact aQ _ _ [[42,100,43]] 1 rfl rfl (by decide) (by decide));clear H a;intro b H a)
  |(refine az rfl _ _ _ rfl rfl H ((Below.refl _ _).alloc (Nat.le_refl _) _) (by omega) 109 (by decide) (by decide) rfl _ rfl [[46,1,109],[]] ?own a ?_;(case own=>exact aQ _ _ [[46,1,109],[]] 2 rfl rfl (by decide) (by decide));clear H a;intro b H a))
 go_end0
 exact⟨rfl,H,a⟩
end Go.Proofs.YtcbmoiabehpliaaGreatDoor
namespace Go.Proofs.YtcbmoiabehpliaaGreatDoor
open Go.RowKit
theorem EE:(Tryz.prog.info? 81).map (fun i=>(i.zero,i.size,i.bytes))=some (some (.int .u8 0),1,1):=by kernel_rfl
def EF(st:List Int):List Value:=st.reverse.map (Value.int .u8)
theorem uh(a:Int)(st:List Int):EF (a::st)=EF st++[.int .u8 a]:=by simp[EF]
theorem rH(st:List Int):(EF st).length=st.length:=by simp[EF]
structure pQ (W:World) (base gb:Nat) (mv:Value) (st:List Int):Prop where
 ex:∃v,W.heap[gb]?=some (.cells #[mv,v] 79 (0,0))/\W.ownsRow base 81 1 v st.length (EF st)
 lo:base<=gb
theorem pQ.below{W c:World}{base b:Nat}{a:Value}{st:List Int}(h:pQ W base b a st)(d:Below W.heap.size W c):pQ c base b a st:=by
 obtain⟨f,e,g⟩:=h.ex;exact⟨⟨f,(d.block _ (lt_of_block e)).trans e,ai g d⟩,h.lo⟩
structure Gp (gb:Nat) (w w':World):Prop where
 os:w'.os=w.os
 tape:w'.tape=w.tape
 output:w'.output=w.output
 size:w.heap.size<=w'.heap.size
 block:∀k,k<w.heap.size->k≠gb->(∀cs fr,w.heap[k]?≠some (.cells cs 81 fr))->w'.heap[k]?=w.heap[k]?
theorem Gp.refl(a:Nat)(w:World):Gp a w w:=⟨rfl,rfl,rfl,Nat.le_refl _,fun _ _ _ _=>rfl⟩
theorem Gp.trans{c:Nat}{x f z:World}(h:Gp c x f)(k:Gp c f z):Gp c x z:=
 ⟨k.os.trans h.os,k.tape.trans h.tape,k.output.trans h.output,Nat.le_trans h.size k.size,fun e d b a=>
  (k.block e (Nat.lt_of_lt_of_le d h.size) b (fun i g=>by rw[h.block e d b a];exact a i g)).trans (h.block e d b a)⟩
theorem Gp.of_below{c:Nat}{w a:World}(h:Below w.heap.size w a):Gp c w a:=⟨h.os,h.tape,h.output,h.size,fun b d _ _=>h.block b d⟩
theorem pQ.put{W:World}{base a:Nat}{g h:Value}(e:W.heap[a]?=some (.cells #[g,h] 79 (0,0)))(lo:base<=a){v:Value}{st:List Int}(b:W.ownsRow base 81 1 v st.length (EF st)):pQ (W.setCell ⟨a,1,none⟩ v) base a g st:=by
 refine⟨⟨v,heap_setCell_same _ a 1 _ _ _ e,?_⟩,lo⟩;refine b.kept (row:=some a) ⟨rfl,rfl,rfl,by simp[World.setCell],fun n p i=>heap_setCell_other _ _ _ _ (fun c=>i (by rw[c]))⟩ ?_;rcases ay b with⟨_,rfl⟩|⟨j,l,rfl⟩
 ·exact .inl rfl
 ·refine .inr ?_;intro c;obtain rfl:j=a:=by simpa [Value.ownBlock] using c
  rcases b.2 with⟨d,_⟩|⟨k,m,o,d,_,f,_⟩
  ·cases d
  ·cases d;rw[e]at f;cases f
theorem lH(w:World)(base b:Nat)(r:Value)(st:List Int)(a:Int)(h:pQ w base b r st)(K:st.length<=100000000):
  Calls Tryz.prog 28 #[.pointer (some ⟨b,1,none⟩),.int .u8 a] w fun e y=>e= .returned (.tuple #[])/\pQ y base b r (a::st)/\Gp b w y/\Below base w y:=by
 obtain⟨ak,g,k⟩:=h.ex;have C:=h.lo;obtain⟨c,u⟩:=ah st.length;rw[u]at k K;obtain⟨l,o,rfl⟩:=aB k;obtain⟨W,O,S,T,Q⟩:=info_parts EE;have U:=lt_of_block g;have an:b≠w.heap.size:=by omega
 have al:w.cell? ⟨b,1,none⟩=some (.slice l c o):=by rw[cell_of_row _ _ _ _ _ _ g];rfl
 have B:∀i,(Value.slice l c o).ownBlock=some i->i≠b/\base<=i:=fun i n=>by
  refine⟨?_,(k.lt i n).1⟩;rintro rfl;rcases k.2 with⟨d,_⟩|⟨s,J,M,d,_,v,_⟩
  ·rw[d]at n;simp[Value.ownBlock]at n
  ·rw[d]at n;obtain rfl:s=i:=by simpa [Value.ownBlock] using n
   rw[v]at g;cases g
 have p:=cS k g u;clear k g u h;go_in;go_wp2_with (at_builtin;refine wpList_append_own _ rfl _ _ 75 rfl base 81 W _ 1 1 Tryz.underlying75 O S T Q rfl (by decide) _ _ _ rfl (p.out.1.alloc _) ⟨w.heap.size,0,none⟩ 1 1 [.int .u8 a] rfl rfl (World.news_of_block (cs:=#[.int .u8 a]) (fr:=(0,0)) (heap_alloc_new w _)) (by intro am E;simp at E;subst E;rfl) (by unfold maxLen;omega) (by omega) (by simp;omega) ?_;intro af j F f Y;obtain⟨x,A,rfl⟩:=ownsRow_succ F;have t:j.heap[b]?=some (.cells #[r,.slice l c o] 79 (0,0)):=(f.block b (by simp;omega) (fun e=>(B b e.symm).1 rfl)).trans ((Below.heap_alloc _ _ _ U).trans p.out.2.1);have X:j.cell? ⟨b,1,none⟩=some (.slice l c o):=(by rw[cell_of_row _ _ _ _ _ _ t];rfl);have Z:j.frozen? ⟨b,1,none⟩=false:=frozen_of_row _ _ _ _ _ t);have I:=f.size;rw[World.size_alloc]at I;have N:pQ (j.setCell ⟨b,1,none⟩ (.slice (some ⟨x,0,none⟩) (c+1) A)) base b r (a::st):=pQ.put t C (by rw[List.length_cons,p.out.2.2,uh];exact F);have V:Gp b w (j.setCell ⟨b,1,none⟩ (.slice (some ⟨x,0,none⟩) (c+1) A)):=by
  refine⟨f.os,f.tape,f.output,by simp[World.setCell];omega,fun m z H G=>?_⟩;rw[heap_setCell_other _ _ _ _ H];refine(f.block m (by simp;omega) (fun e=>?_)).trans (Below.heap_alloc _ _ _ z);have q:(Value.slice l c o).ownBlock=some m:=e.symm;rcases p.out.1.2 with⟨d,_⟩|⟨s,J,M,d,_,v,_⟩
  ·rw[d]at q;simp[Value.ownBlock]at q
  ·rw[d]at q;obtain rfl:s=m:=by simpa [Value.ownBlock] using q
   exact G _ _ v
 have L:Below base w (j.setCell ⟨b,1,none⟩ (.slice (some ⟨x,0,none⟩) (c+1) A)):=by
  have R:Below base w (w.alloc (.cells #[.int .u8 a] 81)):=(Below.refl _ w).alloc (by omega) _;exact(R.grown f (by simp;omega) (fun m z=>(B m z).2)).setCell C _
 go_end0
 exact⟨rfl,N,V,L⟩
theorem ui(w:World)(base c:Nat)(l:Value)(st:List Int)(a:Int)(h:pQ w base c l (a::st))(q:st.length<=100000000):
  Calls Tryz.prog 66 #[.pointer (some ⟨c,1,none⟩)] w fun e k=>e= .returned (.int .u8 a)/\pQ k base c l st/\Gp c w k/\Below base w k:=by
 obtain⟨t,g,f⟩:=h.ex;have n:=h.lo;obtain⟨b,d⟩:=ah st.length;rw[List.length_cons,uh,d]at f;rw[d]at q;obtain⟨j,i,rfl⟩:=ownsRow_succ f;have hcut:=yd (by rw[rH,d,Nat.mul_one]) f;have z:=rG f;have x:w.cell? ⟨c,1,none⟩=some (.slice (some ⟨j,0,none⟩) (b+1) i):=by rw[cell_of_row _ _ _ _ _ _ g];rfl
 have B:w.cell? ⟨j,b,none⟩=some (.int .u8 a):=by
  rw[f.cellAt b (by omega),List.getElem?_append_right (by rw[rH];omega),rH,d,Nat.sub_self];rfl
 have A:w.frozen? ⟨c,1,none⟩=false:=frozen_of_row _ _ _ _ _ g;have m:pQ (w.setCell ⟨c,1,none⟩ (.slice (some ⟨j,0,none⟩) b i)) base c l st:=pQ.put g n (by rw[d];exact hcut);have o:=ab m;have r:((b+1:Nat):Int)-1=(b:Int):=by omega
 have y:(0:Int)<=(b:Int):=by omega
 have C:(b:Int)<(b:Int)+1:=by omega
 have E:(b:Int)<=(i:Int):=by omega
 clear h f hcut m g d;go_in;go_wp2_with fail;go_ret;refine⟨rfl,o.out,⟨rfl,rfl,rfl,by simp[World.setCell],fun s u p v=>heap_setCell_other _ _ _ _ p⟩,(Below.refl _ w).setCell n _⟩
theorem oD(w:World)(K:Nat)(a:Option Addr)(b:Nat):
  Calls Tryz.prog 39 #[.slice a 0 b,.int .i64 K] w fun e c=>e= .returned (.int .i64 K)/\c=w:=by
 go_in;go_wp2_with fail;refine wp_loop_rounds 1 ?_;rw[rounds_succ];go_wp2;go_ret;exact⟨rfl,rfl⟩
theorem pR(w:World)(a:List Mb)(K lo b:Nat)(v:Value)(i:0<K)(g:cnt K (a.map Mb.N)<=40000000)(d:a.length<=1048576)(o:bY w lo b v a):
  Calls Tryz.prog 39 #[v,.int .i64 K] w fun e c=>e= .returned (.int .i64 (cnt K (a.map Mb.N):Nat))/\bY c lo b v (dz K a)/\mV lo b w c:=by
 rcases ay o.row with⟨j,rfl⟩|⟨f,h,rfl⟩
 ·obtain rfl:a=[]:=List.eq_nil_of_length_eq_zero j;refine bc (oD w K none 0) ?_;exact⟨rfl,o,mV.refl _ _ _⟩
 ·exact oz w a K lo b _ f h i g rfl d o
theorem rI(w:World)(a:List Mb)(lo c:Nat)(v:Value)(i:cnt 1 (a.map Mb.N)<=40000000)(k:a.length<=1048576)(q:c<=w.heap.size)(o:bY w lo c v a):
  Calls Tryz.prog 20 #[.agg #[v],.int .i64 1] w fun e f=>e= .returned (.int .i64 (cnt 1 (a.map Mb.N):Nat))/\bY f lo c v (dz 1 a)/\mV lo c w f:=by
 have l:∀o,Below w.heap.size w (w.alloc o):=fun o=>(Below.refl _ w).alloc (Nat.le_refl _) o;have d:=fun g=>pR (w.alloc g) a 1 lo c v (by omega) i k (o.below (l g));obtain⟨r,p,rfl⟩:=aB o.row;generalize cnt 1 (a.map Mb.N)=u at d i;generalize a.length=s at d;go_in;go_wp2_with (go_at_call 39;refine(d _).mono ?_;rintro e t ⟨rfl,m,b⟩);go_ret;refine⟨rfl,m,b.os,b.tape,b.output,Nat.le_trans (by simp) b.size,fun h n j=>(b.block h (by simp;omega) j).trans (Below.heap_alloc w _ h n)⟩
theorem pS(w:World)(v:Value)(ns:List Nd)(K n:Nat)(bd:0<K)(O:cnt K ns<=40000000)(X:ns.length=n)(bt:n<=1048576)(h:bf w v (mkNs K ns)):
  Calls Tryz.prog 40 #[v,.int .i64 K] w fun e k=>e= .returned (.int .i64 (cnt K ns:Nat))/\Below w.heap.size w k:=by
 obtain⟨R,b0,rfl⟩:=h.form;rw[BH,X]at h⊢;have bo:=ab h;have bn:=ab O;clear h O;go_in;go_wp2_with fail;go_loopw [1,5] (fun a0 s wr=>∃b a:Nat,b<=n/\s= .int .i64 b/\a0= .int .i64 a/\0<a/\Hid (cnt K (ns.take b)=a)/\Below w.heap.size w wr) (fun _ s _=>n-(intOf s).toNat)
 case atStart=>exact⟨0,K,Nat.zero_le _,rfl,rfl,bd,rfl,Below.refl _ _⟩
 case round=>
  obtain⟨b,a,bN,rfl,rfl,b1,r,p⟩:=hrel;by_cases bh:b<n
  ·have bw:(b:Int)<(n:Int):=by omega
   have bE:(0:Int)<=(b:Int):=by omega
   obtain⟨m,z⟩:=aF X bh;have j:cnt K (ns.take (b+1))=vz a m:=by rw[xX z,xV,r.out]
   have F:vz a m<=40000000:=by
    have a7:=tZ ns K (b+1);rw[j]at a7;have:=bn.out;omega
   have u:=Ey ns K b m z;rw[r.out]at u;obtain⟨i,rfl,b3,a0,bk⟩:=(bo.out.below p).get u;obtain⟨U,y,x,I,C,E,q,ar,G,d,c⟩:=bk;unfold tX at U y x I C E q d c;simp only at U y x I C E q d c;have af:((a+1:Nat):Int)=(a:Int)+1:=by omega
   have W:((a+2:Nat):Int)=(a:Int)+1+1:=by omega
   have Y:((a+3:Nat):Int)=(a:Int)+1+1+1:=by omega
   have al:((a+4:Nat):Int)=(a:Int)+1+1+1+1:=by omega
   have Q:((a+5:Nat):Int)=(a:Int)+1+1+1+1+1:=by omega
   rw[af]at y;rw[W]at x;rw[Y]at I;rw[al]at C;rw[Q]at E;unfold vz at j F;obtain⟨g,H⟩:=ah m.nm.length;obtain⟨l,av⟩:=ah m.ks.length;rw[H]at d j F;rw[av]at c j F;rw[H]at c;have a2:=ab j;have S:=fun w=>nU ((a:Int)+1+1+1+1+1+1) (a+6) (by omega) (by omega) (by omega) w;have a4:=d;have a3:=c;obtain⟨am,ap,rfl⟩:=d.form;obtain⟨a1,ao,rfl⟩:=c.form;rw[jW]at d ar;rw[jX]at c G;have M:=cK d c;generalize vy (a+6)=bl at q S;clear j z u d c a4 a3 H av af W Y al Q;have T:(((a+7:Nat)):Int)=(a:Int)+1+1+1+1+1+1+1:=by omega
   have a8:=ab T;clear T;go_wp2_with fail;go_region_held3 (fun k=>k.cell? ⟨(i.add (b*9)).block,(i.add (b*9)).off+6,none⟩=some (.string bl)/\k.cell? ⟨(i.add (b*9)).block,(i.add (b*9)).off+7,none⟩=some (.slice am g ap)/\k.cell? ⟨(i.add (b*9)).block,(i.add (b*9)).off+8,none⟩=some (.slice a1 l ao)) (first|go_keep|exact⟨aa o q,aa o ar,aa o G⟩) ((go_at_call 75;refine(S _).mono ?_;rintro e V ⟨rfl,o⟩))
   have J:Below wr.heap.size wr V:=(aE (Below.refl _ wr)).trans o;have bb:=pP ((a:Int)+1+1+1+1+1+1+1) V (.slice am g ap) (a+7) g a8.out.symm (by omega) (by omega) (M.out.1.below J);go_wp2_with fail;refine bb.mono ?_;rintro e Z ⟨rfl,a9⟩;have A:Below wr.heap.size wr Z:=J.trans (a9.mono J.size);have bx:=aa A G;have L:=fun R a5=>wm R Z (.slice a1 l ao) (a+7+g) l a5 (by omega) (by omega) (M.out.2.below A);obtain⟨f,t⟩:∃f:Int,((a+7+g:Nat):Int)=f:=⟨_,rfl⟩;have L:=L f t.symm;have br:¬f<0:=by omega
   have bA:f<=40000000:=by omega
   rw[t];clear t;go_wp2_with fail;refine L.mono ?_;rintro e bs ⟨rfl,rfl⟩;obtain⟨N,B⟩:∃f:Int,((a+7+g+l:Nat):Int)=f:=⟨_,rfl⟩;have b2:¬N<0:=by omega
   have bD:N<=40000000:=by omega
   rw[B];have a6:=ab B;clear B;go_wp2_with fail;exact⟨⟨b+1,a+7+g+l,by omega,by go_num,by rw[a6.out],by omega,a2,p.trans (A.mono p.size)⟩,by simp[intOf];omega⟩
  ·obtain rfl:b=n:=by omega
   go_wp2_with fail;go_ret;refine⟨by rw[List.take_of_length_le (by omega)]at r;rw[r.out];rfl,p⟩
theorem rJ(w:World)(v:Value)(ns:List Nd)(i:cnt 1 ns<=40000000)(k:ns.length<=1048576)(h:bf w v (mkNs 1 ns)):
  Calls Tryz.prog 21 #[.agg #[v],.int .i64 1] w fun e j=>e= .returned (.int .i64 (cnt 1 ns:Nat))/\Below w.heap.size w j:=by
 have d:∀b,Below w.heap.size w (w.alloc b):=fun b=>(Below.refl _ w).alloc (Nat.le_refl _) b;have a:=fun g=>pS (w.alloc g) v ns 1 _ (by omega) i rfl k (h.below (d g));obtain⟨n,m,rfl⟩:=h.form;obtain⟨c,f⟩:∃c:Int,((cnt 1 ns:Nat):Int)=c:=⟨_,rfl⟩;have q:¬c<0:=by omega
 rw[f]at a⊢;generalize (mkNs 1 ns).length=o at a;clear f h;go_in;go_wp2_with (go_at_call 40;refine(a _).mono ?_;rintro e p ⟨rfl,l⟩);go_ret;exact⟨rfl,(d _).trans (l.mono (by simp))⟩
end Go.Proofs.YtcbmoiabehpliaaGreatDoor
