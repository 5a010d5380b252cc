import Derived.Test.YtcbmoiabehpliaaGreatDoorHPk01
import Derived.Test.YtcbmoiabehpliaaGreatDoorHPk07
import Derived.Test.YtcbmoiabehpliaaGreatDoorHPk09
import Derived.Deep.LoopGhost
import Derived.WalkSmall
set_option linter.unusedSimpArgs false
set_option linter.unusedVariables false
set_option maxRecDepth 100000
set_option maxHeartbeats 25600000
namespace Go.Proofs.YtcbmoiabehpliaaGreatDoor
open Go.RowKit
def dh(w:World)(r:List Int×Bool)(e:Ending)(c:World):Prop:=
 ∃b a,e= .returned (.tuple #[.slice b r.1.length a,.bool r.2])/\c.ownsRow w.heap.size 3 1 (.slice b r.1.length a) r.1.length (r.1.map (Value.int .i64))/\Below w.heap.size w c
theorem fY(w:World)(l:List Int)(n:Nat)(a:l.length=n)(b:n<=100):(w.alloc (.cells (l.map (Value.int .i64)).toArray 3)).ownsRow w.heap.size 3 1 (.slice (some ⟨w.heap.size,0,none⟩) n n) n (l.map (Value.int .i64)):=by
 have:=World.ownsRow_lit (base:=w.heap.size) (e:=3) (size:=1) w (l.map (Value.int .i64)).toArray n (Nat.le_refl _) (by unfold maxLen;omega) (by simp[a]);simpa using this
theorem ax(w:World)(o:Obj):Below w.heap.size w (w.alloc o):=(Below.refl _ w).alloc (Nat.le_refl _) o
theorem fZ(w:World)(l:List Int)(b:Bool)(a:l.length<=100):dh w (l,b) (.returned (.tuple #[.slice (some ⟨w.heap.size,0,none⟩) l.length l.length,.bool b])) (w.alloc (.cells (l.map (Value.int .i64)).toArray 3)):=
 ⟨_,_,rfl,fY w l _ rfl a,ax w _⟩
theorem mS(w:World)(b:Bool):dh w ([],b) (.returned (.tuple #[.slice none 0 0,.bool b])) w:=⟨_,_,rfl,World.ownsRow_nil _ _ _ _,Below.refl _ w⟩
theorem iN(v:Value)(w:World):Calls Tryz.prog 89 #[v] w fun e a=>e= .returned v/\a=w:=by
 go_in;go_wp2;go_ret;exact⟨rfl,rfl⟩
theorem gF(w:World)(t:Int):Calls Tryz.prog 149 #[.int .i64 t] w fun e g=>e= .returned (.bool (dM t))/\g=w:=by
 by_cases a:t=25\/t=50\/t=62\/t=69
 ·have e:dM t=true:=decide_eq_true a;rw[e];rcases a with rfl|rfl|rfl|rfl;all_goals
   go_in;go_wp2;go_ret;exact⟨rfl,rfl⟩
 ·have e:dM t=false:=decide_eq_false a;rw[e];have d:¬t=25:=by omega
  have c:¬t=50:=by omega
  have b:¬t=62:=by omega
  have f:¬t=69:=by omega
  have k:(t==25)=false:=beq_eq_false_iff_ne.2 d;have i:(t==50)=false:=beq_eq_false_iff_ne.2 c;have h:(t==62)=false:=beq_eq_false_iff_ne.2 b;have j:(t==69)=false:=beq_eq_false_iff_ne.2 f;clear a e;go_in;go_wp2;go_ret;exact⟨rfl,rfl⟩
theorem lY(w:World)(t:Int):Calls Tryz.prog 152 #[.int .i64 t] w fun e d=>e= .returned (.bool (cu t))/\d=w:=by
 by_cases a:t=10\/t=26
 ·have e:cu t=true:=decide_eq_true (by omega);rw[e];rcases a with rfl|rfl;all_goals
   go_in;go_wp2;go_ret;exact⟨rfl,rfl⟩
 ·have c:¬t=10:=by omega
  have b:¬t=26:=by omega
  have h:(t==10)=false:=beq_eq_false_iff_ne.2 c;have g:(t==26)=false:=beq_eq_false_iff_ne.2 b;by_cases f:60<t
  ·have e:cu t=true:=decide_eq_true (by omega);rw[e];clear a e;go_in;go_wp2;go_ret;exact⟨rfl,rfl⟩
  ·have e:cu t=false:=decide_eq_false (by omega);rw[e];clear a e;go_in;go_wp2;go_ret;exact⟨rfl,rfl⟩
theorem gG(w:World)(t:Int):Calls Tryz.prog 91 #[.int .i64 t] w fun e c=>e= .returned (.bool (aZ t))/\c=w:=by
 by_cases a:t=1\/t=2\/t=3\/t=4\/t=24\/t=29\/t=17\/t=49\/t=18\/t=40\/t=42
 ·have e:aZ t=true:=by unfold aZ;rw[decide_eq_true a];rfl
  rw[e];rcases a with rfl|rfl|rfl|rfl|rfl|rfl|rfl|rfl|rfl|rfl|rfl;all_goals
   go_in;go_wp2;go_ret;exact⟨rfl,rfl⟩
 ·have e:aZ t=dM t:=by unfold aZ;rw[decide_eq_false a];rfl
  rw[e];have o:¬t=1:=by omega
  have j:¬t=2:=by omega
  have g:¬t=3:=by omega
  have p:¬t=4:=by omega
  have k:¬t=24:=by omega
  have m:¬t=29:=by omega
  have f:¬t=17:=by omega
  have h:¬t=49:=by omega
  have l:¬t=18:=by omega
  have d:¬t=40:=by omega
  have n:¬t=42:=by omega
  have b:=fun w=>gF w t;clear a e;generalize dM t=i at b⊢;go_in;go_wp2_with (go_at_call 149;refine bc (b _) ?_);go_ret;exact⟨rfl,rfl⟩
theorem JX(t c:Int):(t=c)=((t==c)=true):=by simp
theorem vZ(w:World)(t:Int):Calls Tryz.prog 90 #[.int .i64 t] w (dh w (cC t)):=by
 go_in;go_wp2_with (go_at_call 89;refine bc (iN _ _) ?_);all_goals
  go_ret2;go_tidy
  simp only[cC,JX, *];simp[*];first|exact fZ w _ _ (by simp)|exact mS w _
theorem wd(w:World)(t:Int):Calls Tryz.prog 151 #[.int .i64 t] w (dh w (tq t)):=by
 have b:=fun w=>gF w t;have a:=fun w=>gG w t;go_in;go_wp2_with (first|(go_at_call 89;refine bc (iN _ _) ?_)|(go_at_call 149;refine bc (b _) ?_)|(go_at_call 91;refine bc (a _) ?_));all_goals
  go_ret2;go_tidy
  simp only[tq,JX, *];simp[*];first|exact fZ w _ _ (by simp)|exact mS w _
theorem ze{w c:World}{r:List Int×Bool}{e:Ending}{b:World}(a:Below w.heap.size w c)(h:dh c r e b):dh w r e b:=by
 obtain⟨f,d,rfl,g,i⟩:=h;exact⟨f,d,rfl,cU g a.size,a.trans (i.mono a.size)⟩
theorem Ec{p:Prop}[Decidable p] {a b:List Int×Bool}(d:a.1.length<=6) (c:b.1.length<=6):(if p then a else b).1.length<=6:=by split<;>assumption
theorem zg(t:Int):(cC t).1.length<=6:=by
 unfold cC
 repeat' (first|(apply Ec<;>skip)|exact Nat.le_of_ble_eq_true rfl)
theorem nY(w:World)(t:Int):Calls Tryz.prog 46 #[.int .i64 100,.int .i64 t] w (dh w (yV t)):=by
 unfold yV;by_cases d:t=5
 ·subst d;show Calls _ _ _ _ (dh w ([5,100],true));go_in;go_wp2_with (go_at_call 89;refine bc (iN _ _) ?_);go_ret2;exact fZ w [5,100] true (by simp)
 ·rw[if_neg d];have a:=fun w=>vZ w t;have e:=zg t;have C:(t==5)=false:=beq_eq_false_iff_ne.2 d;generalize cC t=q at a e⊢;obtain⟨l,o⟩:=q;simp only at e⊢;obtain⟨F,b⟩:=ah l.length;obtain⟨y,x,s,v,z⟩:=info_parts gD;cases o with
  |true=>
   rw[if_pos rfl];unfold dh at a⊢;simp only at a⊢;rw[List.length_append,List.map_append];rw[b]at a e⊢;clear b;go_in;go_wp2_with (first|(go_at_call 90;refine(a _).mono ?_;rintro n f ⟨r,k,rfl,g,c⟩;have m:=c.size)|(at_builtin;refine wpList_append_own _ rfl _ _ 67 rfl w.heap.size 3 y _ 1 8 Tryz.underlying67 x s v z rfl (by decide) _ _ _ rfl (g.alloc _) ⟨f.heap.size,0,none⟩ 1 1 [.int .i64 101] rfl rfl (World.news_of_block (cs:=#[.int .i64 101]) (fr:=(0,0)) (heap_alloc_new f _)) (by intro G h;simp at h;subst h;rfl) (by unfold maxLen;omega) (by omega) (by simp;omega) ?_;intro E I i j A;obtain⟨B,H,rfl⟩:=ownsRow_succ i));go_ret2;exact⟨_,_,rfl,i,(c.alloc m _).grown j (by simp;omega) (fun u p=>(g.lt u p).1)⟩
  |false=>
   rw[if_neg (by decide)];unfold dh at a;simp only at a;rw[b]at a;clear b;go_in;go_wp2_with (go_at_call 90;refine(a _).mono ?_;rintro n f ⟨r,k,rfl,g,c⟩);go_ret2;exact ze c (mS _ true)
theorem tI(w:World)(s t:Int)(d:101<=s)(h:s<=133):Calls Tryz.prog 46 #[.int .i64 s,.int .i64 t] w (dh w (xE s t)):=by
 have c:=fun w=>gG w t;have f:=fun w=>lY w t;have b:=fun w=>wd w t;obtain rfl|rfl|rfl|rfl|rfl|rfl|rfl|rfl|rfl|rfl|rfl|rfl|rfl|rfl|rfl|rfl|rfl|rfl|rfl|rfl|rfl|rfl|rfl|rfl|rfl|rfl|rfl|rfl|rfl|rfl|rfl|rfl|rfl:s=101\/s=102\/s=103\/s=104\/s=105\/s=106\/s=107\/s=108\/s=109\/s=110\/s=111\/s=112\/s=113\/s=114\/s=115\/s=116\/s=117\/s=118\/s=119\/s=120\/s=121\/s=122\/s=123\/s=124\/s=125\/s=126\/s=127\/s=128\/s=129\/s=130\/s=131\/s=132\/s=133:=by omega
 all_goals
  clear d h;go_in;go_wp2_with (first|(go_at_call 89;refine bc (iN _ _) ?_)|(go_at_call 91;refine bc (c _) ?_)|(go_at_call 152;refine bc (f _) ?_)|(go_at_call 151;refine(b _).mono ?_;rintro a k ⟨j,i,rfl,e,g⟩)|go_in);all_goals
   go_ret2;first
    |exact⟨_,_,rfl,e,g⟩
    |(go_tidy
      simp only[xE,fy,DP,II,DR,DS,Aw,DT,DU,DV,DW,Ay,Gk,Gl,Az,AB,Gm,AC,Gn,Gq,DX,DY,DZ,D0,Gr,D1,AD,D2,AE,D3,D4,AF,AG,D5,JX, *];simp[*];first|exact fZ w _ _ (by simp)|exact mS w _|(by_cases a:t=21<;>simp_all<;>(try rw[show(t==46||t==21)=false by simp[*]])<;>exact fZ w _ _ (by simp))|(by_cases a:t=44<;>simp_all<;>exact fZ w _ _ (show 2<=100 by decide)))
theorem qZ(w:World)(s t:Int)(c:100<=s)(a:s<=133):Calls Tryz.prog 46 #[.int .i64 s,.int .i64 t] w (dh w (xE s t)):=by
 by_cases b:s=100
 ·subst b;exact nY w t
 ·exact tI w s t (by omega) a
theorem AR:(Tryz.prog.info? 111).map (fun i=>(i.zero,i.size,i.bytes))=some (some (.agg #[.int .i64 0,.int .i64 0]),2,16):=by kernel_rfl
def Ae(C:List (Int×Int)):List Value:=C.flatMap fun a=>[.int .i64 a.1,.int .i64 a.2]
theorem xL(C:List (Int×Int)):(Ae C).length=C.length*2:=by
 induction C with
 |nil=>rfl
 |cons b c a=>simp only[Ae,List.flatMap_cons,List.length_append,List.length_cons,List.length_nil]at a⊢;omega
theorem xM(C D:List (Int×Int)):Ae (C++D)=Ae C++Ae D:=by simp[Ae]
theorem AS:∀(C:List (Int×Int))(i:Nat)(c:Int×Int),C[i]?=some c->(Ae C)[i*2]?=some (.int .i64 c.1)/\(Ae C)[i*2+1]?=some (.int .i64 c.2)
 |[],i,c,h=>by simp at h
 |a::r,0,c,h=>by
  obtain rfl:a=c:=by simpa using h
  exact⟨rfl,rfl⟩
 |a::r,i+1,c,h=>by
  have e:=AS r i c (by simpa using h);have d:∀b,(Ae (a::r))[b+2]?=(Ae r)[b]?:=fun b=>rfl;rw[show(i+1)*2=i*2+2 by omega,show i*2+2+1=(i*2+1)+2 by omega,d,d];exact e
structure im (W:World) (base mb:Nat) (C:List (Int×Int)):Prop where
 ex:∃v,W.heap[mb]?=some (.cells #[v] 58 (0,0))/\W.ownsRow base 111 2 v C.length (Ae C)
 lo:base<=mb
structure Kp (mb:Nat) (w w':World):Prop where
 os:w'.os=w.os
 tape:w'.tape=w.tape
 output:w'.output=w.output
 size:w.heap.size<=w'.heap.size
 block:∀k,k<w.heap.size->k≠mb->(∀cs fr,w.heap[k]?≠some (.cells cs 111 fr))->w'.heap[k]?=w.heap[k]?
theorem Kp.refl(mb:Nat)(w:World):Kp mb w w:=⟨rfl,rfl,rfl,Nat.le_refl _,fun _ _ _ _=>rfl⟩
theorem Kp.trans{mb:Nat}{x e z:World}(h:Kp mb x e)(k:Kp mb e z):Kp mb x z:=
 ⟨k.os.trans h.os,k.tape.trans h.tape,k.output.trans h.output,Nat.le_trans h.size k.size,fun d c b a=>
  (k.block d (Nat.lt_of_lt_of_le c h.size) b (fun g f=>by rw[h.block d c b a];exact a g f)).trans (h.block d c b a)⟩
theorem Kp.of_below{mb:Nat}{w a:World}(h:Below w.heap.size w a):Kp mb w a:=⟨h.os,h.tape,h.output,h.size,fun b c _ _=>h.block b c⟩
theorem Kp.blk{mb:Nat}{w c:World}(h:Kp mb w c){k:Nat}{cs:Array Value}{t:TypeId}{fr:Nat×Nat}(a:w.heap[k]?=some (.cells cs t fr))(e:t≠111)(d:k≠mb):c.heap[k]?=some (.cells cs t fr):=
 (h.block k (lt_of_block a) d (fun g f b=>by rw[a]at b;cases b;exact e rfl)).trans a
theorem Kp.row{mb:Nat}{w d:World}(h:Kp mb w d){f:Value}{r:Nat×Nat}(i:w.heap[mb]?=some (.cells #[f] 58 r)){base e size n:Nat}{v:Value}{c:List Value}(o:w.ownsRow base e size v n c)(t:e≠111)(p:e≠58):d.ownsRow base e size v n c:=by
 obtain⟨s,b⟩:=o;refine⟨s,?_⟩;rcases b with b|⟨q,m,k,g,j,a,l⟩
 ·exact .inl b
 ·refine .inr ⟨q,m,k,g,j,h.blk a t ?_,l⟩;rintro rfl;rw[i]at a;simp only[Option.some.injEq,Obj.cells.injEq]at a;exact p a.2.1.symm
theorem im.below{W a:World}{base mb:Nat}{C:List (Int×Int)}(h:im W base mb C)(b:Below W.heap.size W a):im a base mb C:=by
 obtain⟨d,c,e⟩:=h.ex;exact⟨⟨d,(b.block _ (lt_of_block c)).trans c,ai e b⟩,h.lo⟩
theorem im.alloc{W:World}{base mb:Nat}{C:List (Int×Int)}(h:im W base mb C)(o:Obj):im (W.alloc o) base mb C:=h.below (ax W o)
def dT(C:List (Int×Int)):Int->List Int->Prop
 |top,[]=>top= -1
 |top,s::r=>∃(i:Nat) (b:Int),top=(i:Int)/\C[i]?=some (s,b)/\dT C b r
theorem dT.app{C:List (Int×Int)}(D:List (Int×Int)):∀{st:List Int}{a:Int},dT C a st->dT (C++D) a st
 |[],a,h=>h
 |s::r,a,⟨i,b,e,c,d⟩=>⟨i,b,e,by rw[List.getElem?_append_left (List.getElem?_eq_some_iff.1 c).1];exact c,d.app D⟩
theorem dT.push{C:List (Int×Int)}{st:List Int}{a:Int}(h:dT C a st)(s:Int):dT (C++[(s,a)]) (C.length:Int) (s::st):=
 ⟨C.length,a,rfl,by rw[List.getElem?_append_right (Nat.le_refl _),Nat.sub_self];rfl,h.app _⟩
theorem dT.lt{C:List (Int×Int)}:∀{st:List Int}{a:Int},dT C a st-> -1<=a/\a<(C.length:Int)
 |[],a,h=>by obtain rfl:a= -1:=h;omega
 |s::c,a,⟨g,f,e,b,d⟩=>by have:=(List.getElem?_eq_some_iff.1 b).1;omega
theorem nZ(w:World)(base mb:Nat)(C:List (Int×Int))(m k:Int)(h:im w base mb C)(K:C.length<=100000000):
  Calls Tryz.prog 47 #[.pointer (some ⟨mb,0,none⟩),.int .i64 m,.int .i64 k] w fun e y=>e= .returned (.int .i64 (C.length:Nat))/\im y base mb (C++[(k,m)])/\Kp mb w y/\Below base w y:=by
 obtain⟨Z,c,j⟩:=h.ex;have G:=h.lo;obtain⟨i,v⟩:=ah C.length;rw[v]at j K⊢;obtain⟨l,n,rfl⟩:=aB j;obtain⟨U,L,O,Q,M⟩:=info_parts AR;have R:=lt_of_block c;have al:mb≠w.heap.size:=by omega
 have af:w.cell? ⟨mb,0,none⟩=some (.slice l i n):=by rw[cell_of_row _ _ _ _ _ _ c];rfl
 have F:∀g,(Value.slice l i n).ownBlock=some g->g≠mb/\base<=g:=fun g o=>by
  refine⟨?_,(j.lt g o).1⟩;rintro rfl;rcases j.2 with⟨a,_⟩|⟨p,A,B,a,_,f,_⟩
  ·rw[a]at o;simp[Value.ownBlock]at o
  ·rw[a]at o;obtain rfl:p=g:=by simpa [Value.ownBlock] using o
   rw[f]at c;cases c
 have q:=cS j c v;clear j c v h;go_in;go_wp2_with (at_builtin;refine wpList_append_own _ rfl _ _ 56 rfl base 111 U _ 2 16 Tryz.underlying56 L O Q M rfl (by decide) _ _ _ rfl (q.out.1.alloc _) ⟨w.heap.size,0,none⟩ 1 1 [.int .i64 k,.int .i64 m] rfl rfl (World.news_of_block (cs:=#[.int .i64 k,.int .i64 m]) (fr:=(0,0)) (heap_alloc_new w _)) (by intro ak H;simp at H;rcases H with rfl|rfl<;>rfl) (by unfold maxLen;omega) (by omega) (by simp;omega) ?_;intro Y x z b W;obtain⟨E,S,rfl⟩:=ownsRow_succ z;have r:x.heap[mb]?=some (.cells #[.slice l i n] 58 (0,0)):=(b.block mb (by simp;omega) (fun e=>(F mb e.symm).1 rfl)).trans ((Below.heap_alloc _ _ _ R).trans q.out.2.1);have V:x.cell? ⟨mb,0,none⟩=some (.slice l i n):=(by rw[cell_of_row _ _ _ _ _ _ r];rfl);have X:x.frozen? ⟨mb,0,none⟩=false:=frozen_of_row _ _ _ _ _ r);go_ret;have J:=b.size;rw[World.size_alloc]at J;refine⟨by go_num,⟨⟨.slice (some ⟨E,0,none⟩) (i+1) S,heap_setCell_same _ mb 0 _ _ _ r,?_⟩,G⟩,?_,?_⟩
 ·rw[List.length_append,q.out.2.2,xM];refine z.kept (row:=some mb) ⟨rfl,rfl,rfl,by simp[World.setCell],fun d t u=>heap_setCell_other _ _ _ _ (fun e=>u (by rw[e]))⟩ ?_;refine .inr ?_;intro e;obtain rfl:E=mb:=by simpa [Value.ownBlock] using e
  rcases z.2 with⟨a,_⟩|⟨p,A,B,a,_,f,_⟩
  ·cases a
  ·cases a;rw[r]at f;cases f
 ·refine⟨b.os,b.tape,b.output,by simp[World.setCell];omega,fun d t u I=>?_⟩;rw[heap_setCell_other _ _ _ _ u];refine(b.block d (by simp;omega) (fun e=>?_)).trans (Below.heap_alloc _ _ _ t);have s:(Value.slice l i n).ownBlock=some d:=e.symm;rcases q.out.1.2 with⟨a,_⟩|⟨p,A,B,a,_,f,_⟩
  ·rw[a]at s;simp[Value.ownBlock]at s
  ·rw[a]at s;obtain rfl:p=d:=by simpa [Value.ownBlock] using s
   exact I _ _ f
 ·have T:base<=w.heap.size:=by omega
  have N:Below base w (w.alloc (.cells #[.int .i64 k,.int .i64 m] 111)):=(Below.refl _ w).alloc T _;exact(N.grown b (by simp;omega) (fun d t=>(F d t).2)).setCell G _
theorem lr:∀{f:Nat}{st:List Int}{t:Int}{n:Nat}{lo:List Int}{b:Option Bool}{m:Nat},bp f st t n=some (lo,b,m)->n<=m
 |0,_,_,_,_,_,_,h=>by simp[bp]at h
 |f+1,[],t,n,lo,b,m,h=>by
  simp only[bp,Option.some.injEq,Prod.mk.injEq]at h;omega
 |f+1,s::r,t,n,lo,b,m,h=>by
  by_cases c:s<100
  ·have:=(fW h c).2.2;omega
  ·rcases dg h (by omega) with⟨_,a⟩|⟨_,_,_,a⟩
   ·have:=lr a;omega
   ·omega
structure oa (w:World) (base mb:Nat) (C:List (Int×Int)) (t:Int) (Res:List Int×Bool) (k:Nat) (stk:List Int) (top:Int) (D:List (Int×Int)) (W:World):Prop where
 m:im W base mb (C++D)
 s:dT (C++D) top stk
 o:mR stk
 kp:Kp mb w W
 bl:Below base w W
 d:D.length<=20
 ph:(D=[]/\feedL stk t=Res/\stk.length+9<=k)\/∃cur r f lo b m,stk=cur++r/\bp f cur t D.length=some (lo,some b,m)/\(lo++r,b)=Res/\m<=20/\f<=k
theorem oa.nil{w:World}{base mb:Nat}{C:List (Int×Int)}{t:Int}{c:List Int×Bool}{k:Nat}{i:Int}{D:List (Int×Int)}{W:World}(h:oa w base mb C t c k [] i D W):c=([],false):=by
 rcases h.ph with⟨_,f,_⟩|⟨g,l,a,n,j,m,d,b,_⟩
 ·rw[<-f];rfl
 ·have e:g=[]:=(List.append_eq_nil_iff.1 d.symm).1;subst e;cases a with
  |zero=>simp[bp]at b
  |succ a=>simp[bp]at b
theorem oa.tok{w:World}{base mb:Nat}{C:List (Int×Int)}{t:Int}{d:List Int×Bool}{k:Nat}{s:Int}{e:List Int}{l:Int}{D:List (Int×Int)}{W:World}(h:oa w base mb C t d k (s::e) l D W)(c:s<100):d=(e,decide (s=t)):=by
 rcases h.ph with⟨_,i,_⟩|⟨f,o,a,r,n,p,g,b,m,_⟩
 ·rw[<-i];exact cD c
 ·cases f with
  |nil=>
   cases a with
   |zero=>simp[bp]at b
   |succ a=>simp[bp]at b
  |cons q f=>
   obtain⟨rfl,rfl⟩:=List.cons.inj g;cases a with
   |zero=>simp[bp]at b
   |succ a=>
    obtain⟨rfl,j,_⟩:=fW b c;rw[<-m,Option.some.inj j];rfl
theorem oa.no{w:World}{base mb:Nat}{C:List (Int×Int)}{t:Int}{j:List Int×Bool}{k:Nat}{s:Int}{l:List Int}{v:Int}{D:List (Int×Int)}{W:World}(h:oa w base mb C t j k (s::l) v D W)(p:1<=t)(u:t<=78)(d:100<=s)(g:(xE s t).2=false):j=(l,false):=by
 rcases h.ph with⟨_,q,_⟩|⟨m,z,c,y,r,A,n,a,x,_⟩
 ·have i:¬((xE s t).1=[]/\(xE s t).2=true):=by rw[g];simp
  obtain⟨y,r,B,a,_⟩:=ij d (h.o s (List.mem_cons_self ..)) p u i;rw[<-q,dC d i a];rcases dg a d with⟨b,_⟩|⟨_,f,e,_⟩
  ·rw[g]at b;cases b
  ·rw[f,Option.some.inj e];rfl
 ·cases m with
  |nil=>
   cases c with
   |zero=>simp[bp]at a
   |succ c=>simp[bp]at a
  |cons E m=>
   obtain⟨rfl,rfl⟩:=List.cons.inj n;cases c with
   |zero=>simp[bp]at a
   |succ c=>
    rcases dg a d with⟨b,_⟩|⟨_,f,e,_⟩
    ·rw[g]at b;cases b
    ·rw[<-x,f,Option.some.inj e];rfl
theorem oa.step{w:World}{base mb:Nat}{C:List (Int×Int)}{t:Int}{z:List Int×Bool}{k:Nat}{s:Int}{c:List Int}{L:Int}{D:List (Int×Int)}{W:World}(h:oa w base mb C t z k (s::c) L D W)(F:1<=t)(H:t<=78)(e:100<=s)(hx:(xE s t).2=true){E:List (Int×Int)}{u:Int}{g:World}(x:E.length=(xE s t).1.length)
  (S:im g base mb (C++D++E)) (V:dT (C++D++E) u ((xE s t).1++c)) (y:Kp mb w g) (p:Below base w g):D.length+(xE s t).1.length<=20/\∃G,G<k/\oa w base mb C t z G ((xE s t).1++c) u (D++E) g:=by
 have A:=h.o s (List.mem_cons_self ..);have T:=(xH e A F H).1;have l:mR ((xE s t).1++c):=fun B hx=>by
  rcases List.mem_append.1 hx with hx|hx
  ·exact T B hx
  ·exact h.o B (List.mem_cons_of_mem _ hx)
 have r:im g base mb (C++(D++E)):=by rw[<-List.append_assoc];exact S
 have i:dT (C++(D++E)) u ((xE s t).1++c):=by rw[<-List.append_assoc];exact V
 have f:(D++E).length=D.length+(xE s t).1.length:=by rw[List.length_append,x]
 rcases h.ph with⟨Q,m,R⟩|⟨q,U,d,v,n,X,I,b,N,O,af⟩
 ·subst Q;by_cases j:(xE s t).1=[]/\(xE s t).2=true
  ·rw[j.1]at x i l f⊢;have K:E=[]:=List.eq_nil_of_length_eq_zero (by simpa using x);subst K;refine⟨by simp,c.length+9,by simp only[List.length_cons]at R;omega,r,i,l,y,p,by simp,.inl ⟨rfl,?_,Nat.le_refl _⟩⟩;rw[List.nil_append,<-m,dB e j]
  ·obtain⟨v,n,M,b,Y⟩:=ij e A F H j;rw[dC e j b]at m;rcases dg b e with⟨_,a⟩|⟨a,_⟩
   ·rw[List.append_nil]at a;have J:=lr a;refine⟨by simp only[List.length_nil];omega,7,by omega,r,i,l,y,p,by rw[f];simp only[List.length_nil];omega,.inr ⟨(xE s t).1,c,7,v,n,M,rfl,?_,m,Y,Nat.le_refl _⟩⟩;rw[f];exact a
   ·rw[hx]at a;cases a
 ·cases q with
  |nil=>
   cases d with
   |zero=>simp[bp]at b
   |succ d=>simp[bp]at b
  |cons Z q=>
   obtain⟨rfl,rfl⟩:=List.cons.inj I;cases d with
   |zero=>simp[bp]at b
   |succ d=>
    rcases dg b e with⟨_,a⟩|⟨a,_⟩
    ·have J:=lr a;refine⟨by omega,d,by omega,r,i,l,y,p,by rw[f];omega,.inr ⟨(xE s t).1++q,U,d,v,n,X,by rw[List.append_assoc];rfl,?_,N,O,Nat.le_refl _⟩⟩;rw[f];exact a
    ·rw[hx]at a;cases a
def io(w:World)(base mb:Nat)(C:List (Int×Int))(c:List Int×Bool)(e:Ending)(a:World):Prop:=
 ∃(b:Int) (D:List (Int×Int)),e= .returned (.tuple #[.int .i64 b,.bool c.2])/\im a base mb (C++D)/\dT (C++D) b c.1/\D.length<=20/\Kp mb w a/\Below base w a
theorem jY(w:World)(base mb:Nat)(C:List (Int×Int))(st:List Int)(K t:Int)(h:im w base mb C)(a7:dT C K st)(a9:mR st)(T:1<=t)(W:t<=78)(cB:C.length<=50000000):
  Calls Tryz.prog 23 #[.pointer (some ⟨mb,0,none⟩),.int .i64 K,.int .i64 t] w (io w base mb C (feedL st t)):=by
 obtain⟨B,Q⟩:=ah (feedL st t);rw[Q];have bA:base<=w.heap.size:=by obtain⟨bk,bx,_⟩:=h.ex;have:=lt_of_block bx;have:=h.lo;omega
 have a8:Hid (oa w base mb C t B (st.length+9) st K [] w):=⟨by rw[List.append_nil];exact h,by rw[List.append_nil];exact a7,a9,Kp.refl _ _,Below.refl _ _,by simp,.inl ⟨rfl,Q,Nat.le_refl _⟩⟩;clear h a7 a9 Q;go_in;go_wp2_with fail;go_loopg [1] (st.length+9) (fun bs an wr=>∃(U:List Int) (n:Int) (D:List (Int×Int)),an= .int .i64 n/\Hid (oa w base mb C t B bs U n D wr))
 case atStart=>exact⟨st,K,[],rfl,a8⟩
 case round=>
  obtain⟨U,n,D,rfl,a⟩:=hrel;clear a8;cases U with
  |nil=>
   have ak:n= -1:=a.out.s;subst ak;have l:=ab a.out.nil;go_wp2_with fail;go_ret2;refine⟨-1,D,?_,a.out.m,?_,a.out.d,a.out.kp,a.out.bl⟩
   ·rw[l.out];rfl
   ·rw[l.out];exact a.out.s
  |cons c R=>
   obtain⟨f,k,b7,N,s⟩:=a.out.s;subst b7;obtain⟨bk,z,H⟩:=a.out.m.ex;have bD:=(List.getElem?_eq_some_iff.1 N).1;obtain⟨g,X,rfl⟩:∃g X,bk= .slice (some ⟨g,0,none⟩) (C++D).length X:=by
    rcases ay H with⟨hz,_⟩|hz
    ·omega
    ·exact hz
   have O:=AS _ f _ N;have ca:=xL (C++D);have a3:wr.cell? ⟨g,f*2,none⟩=some (.int .i64 c):=by rw[H.cellAt (f*2) (by omega)];exact O.1
   have a4:wr.cell? ⟨g,f*2+1,none⟩=some (.int .i64 k):=by rw[H.cellAt (f*2+1) (by omega)];exact O.2
   obtain⟨S,A⟩:=ah ((C++D).length);have ct:=a.out.d;have cl:S<=50000020:=by rw[<-A,List.length_append];omega
   rw[A]at z bD;have a2:wr.cell? ⟨mb,0,none⟩=some (.slice (some ⟨g,0,none⟩) S X):=by rw[cell_of_row _ _ _ _ _ _ z];rfl
   obtain⟨u,E⟩:∃u:Addr,(⟨g,0,none⟩:Addr)=u:=⟨_,rfl⟩;have b6:wr.cell? (u.add (f*2))=some (.int .i64 c):=by rw[<-E,show((⟨g,0,none⟩:Addr).add (f*2))=⟨g,f*2,none⟩ by unfold Addr.add;split<;>simp_all];exact a3
   have cb:wr.cell? ⟨(u.add (f*2)).block,(u.add (f*2)).off+1,none⟩=some (.int .i64 k):=by rw[<-E,show((⟨g,0,none⟩:Addr).add (f*2))=⟨g,f*2,none⟩ by unfold Addr.add;split<;>simp_all];exact a4
   rw[E]at a2;have cP:(f:Int)<(S:Int):=by omega
   have cv:(0:Int)<=(f:Int):=by omega
   have cx:=lt_of_block z;have cs:base<=wr.heap.size:=Nat.le_trans bA a.out.bl.size;have L:=cS A z s;clear a3 a4 O ca H z A E N s;by_cases br:c<100
   ·have l:Hid (B=(R,decide (c=t))):=a.out.tok br;have b3:∀Y,Below base wr (wr.alloc Y).drew:=fun Y=>aE ((Below.refl _ wr).alloc (by omega) Y);have ck:(wr.alloc (.cells #[.int .i64 c,.int .i64 k] 111)).cell? ⟨wr.heap.size,0,none⟩=some (.int .i64 c):=by rw[cell_of_row _ _ _ _ _ _ (heap_alloc_new wr _)];rfl
    go_wp2_with fail;go_region_held3 (fun bN=>bN.cell? ⟨wr.heap.size,0,none⟩=some (.int .i64 c)) (go_keep) (fail)
    go_wp2_with fail;go_ret2;have o:Below wr.heap.size wr (wr.alloc (.cells #[.int .i64 c,.int .i64 k] 111)).drew:=aE (ax wr _);refine⟨k,D,?_,a.out.m.below o,?_,a.out.d,a.out.kp.trans (Kp.of_below o),a.out.bl.trans (b3 _)⟩
    ·rw[l.out];rfl
    ·rw[l.out];exact L.out.2.2
   ·have M:100<=c:=by omega
    have bb:c<=133:=a.out.o c (List.mem_cons_self ..);have v:=fun w=>qZ w c t M bb;have a0:=(xH M bb T W).2;obtain⟨r,J⟩:=ah ((xE c t).1);obtain⟨b8,Z⟩:=ah ((xE c t).2);unfold dh at v;rw[J,Z]at v;rw[J]at a0;obtain⟨i,V⟩:=ah r.length;rw[V]at v a0;have q:=cS J Z V;clear J Z V;have o:=ax wr (.cells #[.int .i64 c,.int .i64 k] 111);go_wp2_with fail;have b9:=ab o;refine(v _).mono ?_;rintro ak y ⟨ao,rc,rfl,a1,bn⟩;have F:Below wr.heap.size wr y:=o.trans (bn.mono o.size);have c1:=F.size;have p:Hid (im y base mb (C++D)/\Kp mb w y/\Below base w y/\y.ownsRow base 3 1 (.slice ao i rc) i (r.map (Value.int .i64))):=
     ⟨a.out.m.below F,a.out.kp.trans (Kp.of_below F),a.out.bl.trans (F.mono (by omega)),cU a1 (by simp;omega)⟩
    clear v o b9 a1 bn a2 b6 cb;cases b8 with
    |false=>
     have l:Hid (B=(R,false)):=a.out.no T W M q.out.2.1;go_wp2_with fail;go_ret2;refine⟨k,D,?_,p.out.1,?_,a.out.d,p.out.2.1,p.out.2.2.1⟩
     ·rw[l.out];rfl
     ·rw[l.out];exact L.out.2.2
    |true=>
     have cI:(C++D).length<=50000020:=by rw[L.out.1];omega
     go_wp2_with fail;go_loopw [1,11] (fun an ap G=>∃(b:Nat) (n:Int) (j:List (Int×Int)),b<=i/\ap= .int .i64 ((b:Int)-1)/\an= .int .i64 n/\Hid (j.length=i-b/\im G base mb (C++D++j)/\dT (C++D++j) n (r.drop b++R)/\Kp mb w G/\Below base w G/\G.ownsRow base 3 1 (.slice ao i rc) i (r.map (Value.int .i64)))) (fun _ ap _=>(intOf ap+1).toNat)
     case atStart=>
      refine⟨i,k,[],Nat.le_refl _,rfl,rfl,by simp,?_,?_,p.out.2.1,p.out.2.2.1,p.out.2.2.2⟩
      ·rw[List.append_nil];exact p.out.1
      ·rw[List.append_nil,List.drop_of_length_le (by rw[q.out.2.2];exact Nat.le_refl _)];exact L.out.2.2
     case round=>
      obtain⟨b,am,j,cn,rfl,rfl,e⟩:=hrel;cases b with
      |zero=>
       have cq:¬(0:Int)<=((0:Nat):Int)-1:=by omega
       have s:=e.out.2.2.1;rw[List.drop_zero,<-q.out.1]at s;obtain⟨_,b0,bw,bh⟩:=a.out.step T W M q.out.2.1 (by rw[q.out.1,q.out.2.2];exact e.out.1) e.out.2.1 s e.out.2.2.2.1 e.out.2.2.2.2.1;have cf:=ab bh;clear bh s;go_wp2_with fail;go_roundg b0
       case measure=>exact bw
       case rel=>exact⟨_,am,_,rfl,cf⟩
      |succ b=>
       have ch:(((b+1:Nat)):Int)-1=(b:Int):=by omega
       rw[ch];have cm:(0:Int)<=(b:Int):=by omega
       have cF:(b:Int)<(i:Int):=by omega
       obtain⟨x,hz⟩:=aF q.out.2.2 (show b<i by omega);obtain⟨I,cc⟩:∃I,ao=some ⟨I,0,none⟩:=by
        rcases ay e.out.2.2.2.2.2 with⟨h,_⟩|⟨I,cT,h⟩
        ·omega
        ·cases h;exact⟨_,rfl⟩
       subst cc;have cr:wr.cell? ⟨I,b,none⟩=some (.int .i64 x):=by rw[e.out.2.2.2.2.2.cellAt b (by omega),List.getElem?_map,hz];rfl
       have b4:(C++D++j).length<=100000000:=by rw[List.length_append,e.out.1];omega
       have ar:=nZ wr base mb (C++D++j) am x e.out.2.1 b4;have af:=e.out.2.2.1.push x;have bd:r.drop b=x::r.drop (b+1):=by
        have av:=List.getElem?_eq_some_iff.1 hz;rw[List.drop_eq_getElem_cons av.1,av.2]
       have cg:=ab bd;obtain⟨al,a5⟩:∃al:Int,(((C++D++j).length:Nat):Int)=al:=⟨_,rfl⟩;rw[a5]at ar af;have bE:=ab af;clear af bd a5 hz;go_wp2_with (go_at_call 47;refine ar.mono ?_;rintro ak cw ⟨rfl,bt,a6,bo⟩);refine⟨⟨b,al,j++[(x,am)],by omega,rfl,rfl,?_,?_,?_,e.out.2.2.2.1.trans a6,e.out.2.2.2.2.1.trans bo,?_⟩,by simp[intOf]⟩
       ·rw[List.length_append,e.out.1];simp;omega
       ·rw[<-List.append_assoc];exact bt
       ·rw[<-List.append_assoc,cg.out];exact bE.out
       ·obtain⟨cN,b5,_⟩:=e.out.2.1.ex;exact a6.row b5 e.out.2.2.2.2.2 (by decide) (by decide)
end Go.Proofs.YtcbmoiabehpliaaGreatDoor
