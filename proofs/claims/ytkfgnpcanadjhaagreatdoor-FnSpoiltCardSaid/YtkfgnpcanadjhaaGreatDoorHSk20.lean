import Derived.Test.YtkfgnpcanadjhaaGreatDoorHSk13
import Derived.Test.YtkfgnpcanadjhaaGreatDoorHSk09
import Derived.Test.YtkfgnpcanadjhaaGreatDoorHSk08
import Derived.Test.YtkfgnpcanadjhaaGreatDoorHSk18
set_option linter.all false
set_option maxRecDepth 100000
set_option maxHeartbeats 25600000
namespace Go.Proofs.YtkfgnpcanadjhaaGreatDoor
def GF:List ByteArray:=[⟨#[32]⟩,⟨#[32,32]⟩,⟨#[9]⟩,⟨#[13]⟩,⟨#[32,9,32]⟩]
def Ki:List ByteArray:=[⟨#[10]⟩,⟨#[32,45,45,122,10]⟩,⟨#[13,10,10]⟩]
def abq:List ByteArray:=[⟨#[10]⟩,⟨#[59]⟩,⟨#[10,10]⟩,⟨#[32,59,32]⟩,⟨#[10,45,45,122,10]⟩,⟨#[59,59]⟩]
def PcT(s:ByteArray)(T:Tk)(b:ByteArray):Prop:=T.k≠6/\((T.k=5/\b∈abq)\/(T.k≠5/\∃a,(a∈GF\/(opn T.k=true/\a∈Ki))/\b=s.extract T.f.toNat T.t.toNat++a))
inductive LoC (s:ByteArray):List Tk->ByteArray->Prop where
 |nil:LoC s [] ⟨#[]⟩
 |cons {T:Tk}{b y:ByteArray}{ts:List Tk}:PcT s T b->LoC s ts y->LoC s (T::ts) (b++y)
open Go.RowKit
def ndD:Nd:=⟨0,0,0,0,0,0,ByteArray.empty,[],[]⟩
def ae(a:List Nd)(i:Int):Nd:=a.getD i.toNat ndD
def dl(N:Nd)(j:Nat):Int:=N.ks.getD j 0
def fC(l:List ByteArray):ByteArray:=l.foldl (· ++·) ByteArray.empty
def ft(x:ByteArray):ByteArray:=⟨#[40]⟩++x++⟨#[41]⟩
def mo(a:List Nd)(E:Int->ByteArray)(k b:Int):ByteArray:=if gB (ae a k).k (ae a k).op<b then ft (E k) else E k
def vK(N:Nd)(a:Int):Int:=if qc N.k N.op=a then a+1 else a
def C0(a:List Nd)(E:Int->ByteArray)(N:Nd)(c:ByteArray)(b:Int):ByteArray:=mo a E (dl N 0) (vK N b)++c++mo a E (dl N 1) (qc N.k N.op)
def C1(N:Nd):Bool:=N.k==30&&N.op==19
def unS(a:List Nd)(N:Nd):ByteArray:=if N.op=21 then⟨#[110,111,116,32]⟩ else if N.op=22 then⟨#[35]⟩ else if N.op=20 then⟨#[126]⟩ else if C1 (ae a (dl N 0))=true then⟨#[45]⟩++⟨#[32]⟩ else⟨#[45]⟩
def unB(a:List Nd)(E:Int->ByteArray)(N:Nd):ByteArray:=unS a N++mo a E (dl N 0) 11
def Ly(a:List Nd)(E:Int->ByteArray)(k:Int):ByteArray:=if pL (ae a k).k=true then E k else ft (E k)
def plB(N:Nd):ByteArray:=
 if N.k=20 then⟨#[110,105,108]⟩ else if N.k=21 then⟨#[116,114,117,101]⟩ else if N.k=22 then⟨#[102,97,108,115,101]⟩ else if N.k=23 then wu N.n
 else if N.k=24\/N.k=26 then N.x else if N.k=25 then eI (iK N.x) else if N.k=27 then⟨#[46,46,46]⟩ else ByteArray.empty
def wy(a:List Nd)(E:Int->ByteArray)(X:Nd):ByteArray:=
 if X.k=41 then⟨#[91]⟩++E (dl X 0)++⟨#[93,32,61,32]⟩++E (dl X 1) else if X.k=42 then(⟨#[46]⟩++X.x++⟨#[32,61,32]⟩)++E (dl X 0) else E (dl X 0)
def abr(a:List Nd)(E:Int->ByteArray)(N:Nd):ByteArray:=⟨#[123]⟩++bK (N.ks.map fun b=>wy a E (ae a b))++⟨#[125]⟩
def wA(S:Int->Nat->ByteArray)(ks:List Int)(tab:Nat):ByteArray:=
 if ks=[] then⟨#[123,125]⟩ else⟨#[123]⟩++fC (ks.map fun a=>fK (tab+1)++S a (tab+1))++fK tab++⟨#[125]⟩
def Kj(N:Nd):ByteArray:=⟨#[40]⟩++bK N.nm++(if N.op=1 then(if N.nm=[] then⟨#[46,46,46]⟩ else dx++⟨#[46,46,46]⟩) else ByteArray.empty)++⟨#[41,32]⟩
def EF(a:List Nd)(S:Int->Nat->ByteArray)(N:Nd)(tab:Nat):ByteArray:=Kj N++wA S (ae a (dl N 0)).ks tab
def prE(a:List Nd)(E:Int->ByteArray)(S:Int->Nat->ByteArray)(N:Nd)(tab:Nat):ByteArray:=
 if N.k=28 then C0 a E N ⟨#[32,97,110,100,32]⟩ (gB N.k N.op)
 else if N.k=29 then C0 a E N ⟨#[32,111,114,32]⟩ (gB N.k N.op)
 else if N.k=31 then C0 a E N (⟨#[32]⟩++wh (60+N.op)++⟨#[32]⟩) (gB N.k N.op)
 else if N.k=30 then unB a E N
 else if N.k=32 then Ly a E (dl N 0)++⟨#[91]⟩++E (dl N 1)++⟨#[93]⟩
 else if N.k=33 then Ly a E (dl N 0)++(⟨#[46]⟩++N.x)
 else if N.k=34 then Ly a E (dl N 0)++⟨#[40]⟩++bK ((N.ks.drop 1).map E)++⟨#[41]⟩
 else if N.k=35 then abr a E N
 else if N.k=36 then⟨#[102,110]⟩++EF a S N tab
 else if N.k=37 then ft (E (dl N 0))
 else plB N
def za(a:List Nd)(E:Int->ByteArray)(S:Int->Nat->ByteArray)(b:Int->ByteArray->ByteArray)(N:Nd)(c:ByteArray)(tab:Nat):ByteArray:=
 c++E (dl N 0)++⟨#[32]⟩++wA S (ae a (dl N 1)).ks tab++
  (if N.ks.length<3 then ByteArray.empty else if(ae a (dl N 2)).k=7 then b (dl N 2) ⟨#[32,101,108,105,102,32]⟩ else⟨#[32,101,108,115,101,32]⟩++wA S (ae a (dl N 2)).ks tab)
def nm0(N:Nd):ByteArray:=N.nm.getD 0 ByteArray.empty
def prS(a:List Nd)(E:Int->ByteArray)(S:Int->Nat->ByteArray)(b:Int->ByteArray->ByteArray)(N:Nd)(tab:Nat):ByteArray:=
 if N.k=1 then wA S N.ks tab
 else if N.k=2 then⟨#[108,101,116,32]⟩++bK N.nm++(if N.ks=[] then ByteArray.empty else⟨#[32,61,32]⟩++bK (N.ks.map E))
 else if N.k=3 then(⟨#[99,111,110,115,116,32]⟩++nm0 N++⟨#[32,61,32]⟩)++E (dl N 0)
 else if N.k=4 then(⟨#[102,110,32]⟩++nm0 N)++EF a S (ae a (dl N 0)) tab
 else if N.k=5 then bK ((N.ks.take N.n.toNat).map E)++⟨#[32,61,32]⟩++bK ((N.ks.drop N.n.toNat).map E)
 else if N.k=6 then E (dl N 0)
 else if N.k=7 then b (-1) ⟨#[105,102,32]⟩
 else if N.k=8 then⟨#[119,104,105,108,101,32]⟩++E (dl N 0)++⟨#[32]⟩++wA S (ae a (dl N 1)).ks tab
 else if N.k=9\/N.k=10 then⟨#[102,111,114,32]⟩++bK N.nm++(if N.k=9 then⟨#[32,61,32]⟩ else⟨#[32,105,110,32]⟩)++bK ((N.ks.take (N.ks.length-1)).map E)++⟨#[32]⟩++wA S (ae a (dl N (N.ks.length-1))).ks tab
 else if N.k=11 then⟨#[98,114,101,97,107]⟩
 else if N.k=12 then⟨#[110,101,120,116]⟩
 else if N.k=13 then⟨#[114,101,116,117,114,110]⟩++(if N.ks=[] then ByteArray.empty else⟨#[32]⟩++bK (N.ks.map E))
 else if N.k=14 then⟨#[116,114,121,32]⟩++wA S (ae a (dl N 0)).ks tab++⟨#[32,99,97,116,99,104,32]⟩++bK N.nm++⟨#[32]⟩++wA S (ae a (dl N 1)).ks tab
 else if N.k=15 then⟨#[116,104,114,111,119,32]⟩++E (dl N 0)
 else if N.k=16 then⟨#[100,101,102,101,114,32]⟩++E (dl N 0)
 else ByteArray.empty
mutual
def oG(a:List Nd):Nat->Int->Nat->ByteArray
 |0,_,_=>ByteArray.empty
 |f+1,i,tab=>prE a (fun k=>oG a f k tab) (fun k t=>oH a f k t) (ae a i) tab
def oH(a:List Nd):Nat->Int->Nat->ByteArray
 |0,_,_=>ByteArray.empty
 |f+1,i,tab=>prS a (fun k=>oG a f k tab) (fun k t=>oH a f k t) (fun _ w=>za a (fun k=>oG a f k tab) (fun k t=>oH a f k t) (fun k w=>tJ a f k w tab) (ae a i) w tab) (ae a i) tab
def tJ(a:List Nd):Nat->Int->ByteArray->Nat->ByteArray
 |0,_,_,_=>ByteArray.empty
 |f+1,i,w,tab=>za a (fun k=>oG a f k tab) (fun k t=>oH a f k t) (fun k w=>tJ a f k w tab) (ae a i) w tab
end
def jl(a:List Nd):ByteArray:=fC ((ae a ((a.length:Int)-1)).ks.map fun b=>oH a a.length b 0++⟨#[10]⟩)
def uG(a:List Nd):ByteArray:=if 65536<(jl a).size then ByteArray.empty else jl a
theorem uH{b:Nat}{w a:World}(o:Obj)(c:Kq b (w.alloc o) a):Kq b w a:=(Kq.of_below ((ag _ w).alloc (ah _) o)).trans c
theorem Kk(g:World)(i vn vk:Value)(N:Nd)(T:ByteArray)(t:Int)(w:World)(H:Pr g i T t w)(u:20<=N.k/\N.k<=27)(al: -9223372036854775808<=N.n)(am:N.n<=9223372036854775807)(s:N.k=25->N.x.size<=4000)(r:T.size+(plB N).size<=140737488355328):
  Calls Tryz.prog 159 #[.pointer (some ⟨g.heap.size,0,none⟩),gF N vn vk] w fun e I=>e= .returned (.tuple #[])/\Pr g i (T++plB N) t I/\Kq g.heap.size w I:=by
 have E:Below w.heap.size w (w.alloc (.cells #[.int .i64 N.k,.int .i64 N.f,.int .i64 N.t,.int .i64 N.l,.int .i64 N.op,.int .i64 N.n,.string N.x,vn,vk] 50)):=(ag _ w).alloc (ah _) _
 have h:Hid (Pr g i T t (w.alloc (.cells #[.int .i64 N.k,.int .i64 N.f,.int .i64 N.t,.int .i64 N.l,.int .i64 N.op,.int .i64 N.n,.string N.x,vn,vk] 50))/\Below w.heap.size w (w.alloc (.cells #[.int .i64 N.k,.int .i64 N.f,.int .i64 N.t,.int .i64 N.l,.int .i64 N.op,.int .i64 N.n,.string N.x,vn,vk] 50))):=⟨H.below E,E⟩
 have p:=AJ N.n al am
 obtain⟨an,a⟩:=aE (plB N)
 rw[a]at r⊢
 unfold plB at a
 clear H E
 unfold gF
 have c:∀y:Int,N.k=y->(N.k==y)=true:=fun y e=>by simpa using e
 have b:∀y:Int,N.k≠y->(N.k==y)=false:=fun y e=>by simpa using e
 by_cases j:N.k=20
 ·have J:=c _ j
  rw[ab j]at a
  subst a
  clear j c b u s p
  go_in
  go_wp2_with (go_at_call 32;refine(eD g i _ _ _ _ h.1 r).mono ?_;rintro e A ⟨rfl,p2,d⟩)
  go_end0
  exact⟨rfl,p2,uH _ d⟩
 have J:=b _ j
 rw[aa j]at a
 by_cases m:N.k=21
 ·have K:=c _ m
  rw[ab m]at a
  subst a
  clear j m c b u s p
  go_in
  go_wp2_with (go_at_call 32;refine(eD g i _ _ _ _ h.1 r).mono ?_;rintro e A ⟨rfl,p2,d⟩)
  go_end0
  exact⟨rfl,p2,uH _ d⟩
 have K:=b _ m
 rw[aa m]at a
 by_cases o:N.k=22
 ·have L:=c _ o
  rw[ab o]at a
  subst a
  clear j m o c b u s p
  go_in
  go_wp2_with (go_at_call 32;refine(eD g i _ _ _ _ h.1 r).mono ?_;rintro e A ⟨rfl,p2,d⟩)
  go_end0
  exact⟨rfl,p2,uH _ d⟩
 have L:=b _ o
 rw[aa o]at a
 by_cases q:N.k=23
 ·have ad:=c _ q
  rw[ab q]at a
  rw[a]at p
  clear j m o q c b u s a
  go_in
  go_wp2_with fail
  refine dG (p _) fun w1 v=>?_
  have B:Hid (Pr g i T t w1/\Below w.heap.size w w1):=⟨h.1.below v,h.2.trans (v.mono h.2.size)⟩
  clear v p
  go_wp2_with fail
  refine(eD g i _ _ _ _ B.1 r).mono ?_
  rintro e A ⟨rfl,p2,d⟩
  go_wp2_with fail
  go_end0
  exact⟨rfl,p2,(Kq.of_below B.2).trans d⟩
 have ad:=b _ q
 rw[aa q]at a
 by_cases e4:N.k=24\/N.k=26
 ·rw[ab e4]at a
  rcases e4 with e4|e4
  ·have G:=c _ e4
   rw[a]at h⊢
   clear j m o q e4 c b u s p a
   go_in
   go_wp2_with (go_at_call 32;refine(eD g i _ _ _ _ h.1 r).mono ?_;rintro e A ⟨rfl,p2,d⟩)
   go_end0
   exact⟨rfl,p2,uH _ d⟩
  ·have G:(N.k==24)=false:=b _ (by omega)
   have af:=c _ e4
   rw[a]at h⊢
   clear j m o q e4 c b u s p a
   go_in
   go_wp2_with (go_at_call 32;refine(eD g i _ _ _ _ h.1 r).mono ?_;rintro e A ⟨rfl,p2,d⟩)
   go_end0
   exact⟨rfl,p2,uH _ d⟩
 rw[aa e4]at a
 have G:(N.k==24)=false:=b _ (by omega)
 have af:(N.k==26)=false:=b _ (by omega)
 by_cases z:N.k=25
 ·have ak:=c _ z
  rw[ab z]at a
  have F:=Ju N.x (s z)
  rw[a]at F
  clear j m o q e4 z c b u s a p
  go_in
  go_wp2_with fail
  refine dG (F _) fun w1 v=>?_
  have B:Hid (Pr g i T t w1/\Below w.heap.size w w1):=⟨h.1.below v,h.2.trans (v.mono h.2.size)⟩
  clear v F
  go_wp2_with fail
  refine(eD g i _ _ _ _ B.1 r).mono ?_
  rintro e A ⟨rfl,p2,d⟩
  go_wp2_with fail
  go_end0
  exact⟨rfl,p2,(Kq.of_below B.2).trans d⟩
 have ak:=b _ z
 rw[aa z]at a
 have C:N.k=27:=by omega
 have ao:=c _ C
 rw[ab C]at a
 subst a
 clear j m o q e4 z C c b u s p
 go_in
 go_wp2_with (go_at_call 32;refine(eD g i _ _ _ _ h.1 r).mono ?_;rintro e A ⟨rfl,p2,d⟩)
 go_end0
 exact⟨rfl,p2,uH _ d⟩
theorem aet(op:Int):3<=(rB op).1/\(rB op).1<=10:=by
 unfold rB
 repeat' split
 all_goals exact⟨by decide,by decide⟩
theorem zb(k op:Int):0<gB k op/\gB k op<=12:=by
 have:=aet op
 unfold gB
 repeat' split
 all_goals omega
theorem afH(a:List Nd)(E:Int->ByteArray)(k:Int):mo a E k 0=E k:=by
 unfold mo
 rw[aa]
 have:=zb (ae a k).k (ae a k).op
 omega
theorem rq(x:ByteArray):(ft x).size=x.size+2:=by unfold ft;rw[ax,ax];show 1+x.size+1=_;omega
theorem C2{a:List Nd}{k:Nat}(b:k<a.length):a[k]?=some (ae a (k:Int)):=by
 unfold ae
 rw[mH,List.getD,aF b];rfl
def OkE(c:World)(g:Value)(f:List Nd)(E:Int->ByteArray)(t:Int)(i:Nat):Prop:=
 ∀(a:Nat)(b:Int)(d:ByteArray)(e:World),a<i->eB (ae f a).k=true->0<=b->b<=100->Pr c g d t e->d.size+(mo f E a b).size<=140737488355328->
  Calls Tryz.prog 95 #[.pointer (some ⟨c.heap.size,0,none⟩),.int .i64 (a:Int),.int .i64 b] e fun j h=>j= .returned (.tuple #[])/\Pr c g (d++mo f E a b) t h/\Kq c.heap.size e h
theorem OkE.zero{a:World}{b:Value}{d:List Nd}{E:Int->ByteArray}{t:Int}{c:Nat}(g:OkE a b d E t c)(k:Nat)(T:ByteArray)(W:World)(i:k<c)(h:eB (ae d k).k=true)(l:Pr a b T t W)(j:T.size+(E k).size<=140737488355328):
  Calls Tryz.prog 95 #[.pointer (some ⟨a.heap.size,0,none⟩),.int .i64 (k:Int),.int .i64 0] W fun e f=>e= .returned (.tuple #[])/\Pr a b (T++E k) t f/\Kq a.heap.size W f:=by
 have:=g k 0 T W i h (by omega) (by omega) l (by rw[afH];exact j)
 rw[afH]at this
 exact this
theorem abt(a:World)(i:Value)(b:List Nd)(E:Int->ByteArray)(t:Int)(p:Nat)(x:OkE a i b E t p)(l:dK a i b)(ak:b.length<=1048576)(k:Nat)(z:k<p)(A:k<b.length)(y:eB (ae b k).k=true)
  (T:ByteArray) (w:World) (g:Pr a i T t w) (m:T.size+(Ly b E k).size<=140737488355328):
  Calls Tryz.prog 157 #[.pointer (some ⟨a.heap.size,0,none⟩),.int .i64 (k:Int)] w fun e J=>e= .returned (.tuple #[])/\Pr a i (T++Ly b E k) t J/\Kq a.heap.size w J:=by
 have B:=C2 A
 obtain⟨am,u,rfl⟩:=l.form
 obtain⟨G,rfl,ar,ap,v⟩:=(l.below g.bel).get B
 obtain⟨z0,av,a0⟩:=g.cells
 have af:=v.c0
 have f:=Gj (ae b k).k
 have d:=jw g y x
 clear g l v B y x
 obtain⟨n,j⟩:=aE b.length
 rw[j]at z0 d ak A
 have ao:(k:Int)<(n:Int):=by omega
 have an:(0:Int)<=(k:Int):=by omega
 obtain⟨al,c⟩:=aE (Ly b E k)
 rw[c]at m⊢
 rw[j]
 unfold Ly at c
 clear j
 generalize (ae b k).k=ad at af f c
 cases hb:pL ad with
 |true=>
  rw[hb]at f c
  rw[ab rfl]at c
  subst c
  clear hb
  go_in
  go_wp2_with (go_at_call 192;refine dj (f _) ?_)
  refine(d.2.2.zero k T w z d.2.1 d.1 m).mono ?_
  rintro e K ⟨rfl,p2,h⟩
  go_wp2_with fail
  exact aH (gx rfl _ _ _) rfl ⟨rfl,p2,h⟩
 |false=>
  rw[hb]at f c
  rw[aa (by simp)]at c
  subst c
  rw[rq]at m
  clear hb
  go_in
  go_wp2_with (go_at_call 192;refine dj (f _) ?_)
  refine(eD a _ T _ t w d.1 (by show T.size+1<=_;omega)).mono ?_
  rintro e K ⟨rfl,p2,h⟩
  have q:=eJ p2 h
  clear p2 h
  go_wp2_with fail
  refine(d.2.2.zero k _ K z d.2.1 q.1 (by rw[ax];show T.size+1+_<=_;omega)).mono ?_
  rintro e o ⟨rfl,H,C⟩
  have r:Hid (Pr a (.slice (some G) n u) (T++⟨#[40]⟩++E k) t o/\Kq a.heap.size w o):=⟨H,q.2.trans C⟩
  clear H C
  go_wp2_with fail
  refine(eD a _ _ _ t o r.1 (by rw[ax,ax];show T.size+1+_+1<=_;omega)).mono ?_
  rintro e L ⟨rfl,I,F⟩
  have s:Hid (Pr a (.slice (some G) n u) (T++ft (E k)) t L/\Kq a.heap.size w L):=⟨by unfold ft;rw[<-be,<-be];exact I,r.2.trans F⟩
  clear I F
  go_wp2_with fail
  go_end0
  exact⟨rfl,s.1,s.2⟩
theorem Kq.box{b k:Nat}{w d:World}{N:Nd}{vn vk:Value}(e:Kq b w d)(a:nc k w 50 N vn vk)(f:k≠b):nc k d 50 N vn vk:=by
 refine(e.block k (aw a) f ?_).trans a
 intro g h c
 unfold nc at a
 rw[a]at c
 cases c
theorem zd{W:World}{p:Addr}{i:Nat}{v:Value}(a:W.cell? (p.add i)=some v)(b:i≠0):W.cell? ⟨p.block,p.off+i,none⟩=some v:=by
 unfold Addr.add at a
 rw[aa b]at a
 exact a
def Wr(c:World)(e:Value)(t:Int)(f:FuncId)(args:Array Value)(d:ByteArray):Prop:=
 ∀(a:ByteArray)(b:World),Pr c e a t b->a.size+d.size<=140737488355328->Calls Tryz.prog f args b fun h g=>h= .returned (.tuple #[])/\Pr c e (a++d) t g/\Kq c.heap.size b g
theorem ze{b:World}{g:Value}{t:Int}(a:ByteArray):Wr b g t 32 #[.pointer (some ⟨b.heap.size,0,none⟩),.string a] a:=fun c d f e=>eD b _ c a _ d f e
theorem Wr.at_{a:World}{c:Value}{t:Int}{f:FuncId}{args:Array Value}{b:ByteArray}(g:Wr a c t f args b){T:ByteArray}{W:World}(p:Pr a c T t W)(h:T.size+b.size<=140737488355328:=by(try simp only[ax]);omega):Calls Tryz.prog f args W fun e d=>e= .returned (.tuple #[])/\Pr a c (T++b) t d/\Kq a.heap.size W d:=g _ _ p h
abbrev pW(a:World):Value:= .pointer (some ⟨a.heap.size,0,none⟩)
abbrev ait(N:Nd)(vn vk:Value):Obj:= .cells #[.int .i64 N.k,.int .i64 N.f,.int .i64 N.t,.int .i64 N.l,.int .i64 N.op,.int .i64 N.n,.string N.x,vn,vk] 50
structure NdR (w0:World) (p1:Addr) (i:Nat) (N:Nd) (an:Option Addr) (M cn:Nat) (ak:Option Addr) (L ck:Nat):Prop where
 nm:bp w0 (.slice an M cn) N.nm
 ks:cH w0 (.slice ak L ck) N.ks
 hM:N.nm.length=M
 hL:N.ks.length=L
 cap:L<=ck
 rd:∀W,Below w0.heap.size w0 W->FG W (p1.add (i*9)) N (.slice an M cn) (.slice ak L ck)
def zg(g:World)(d:Addr)(f:List Nd):Prop:=
 ∀b a e c,f[b]?=some a->g.cell? ⟨(d.add (b*9)).block,(d.add (b*9)).off+8,none⟩=some (.slice e a.ks.length c)->a.ks.length<=c
theorem tK{g:World}{f:Addr}{n j:Nat}{c:List Nd}(l:dK g (.slice (some f) n j) c)(o:zg g f c){i:Nat}(p:i<c.length):∃d M e b L ck,NdR g f i (ae c i) d M e b L ck:=by
 have h:=C2 p
 obtain⟨r,k,t,s,a⟩:=l.get h
 cases k
 obtain⟨d,e,rfl⟩:=a.hn.form
 obtain⟨b,ck,rfl⟩:=a.hk.form
 exact⟨d,_,e,b,_,ck,a.hn,a.hk,rfl,rfl,o i _ b ck h a.c8,fun q m=>a.below m⟩
abbrev NdC(W:World)(a:Addr)(N:Nd)(vn vk:Value):Prop:=W.cell? a=some (.int .i64 N.k)/\W.cell? ⟨a.block,a.off+1,none⟩=some (.int .i64 N.f)/\W.cell? ⟨a.block,a.off+2,none⟩=some (.int .i64 N.t)/\W.cell? ⟨a.block,a.off+3,none⟩=some (.int .i64 N.l)/\W.cell? ⟨a.block,a.off+4,none⟩=some (.int .i64 N.op)/\W.cell? ⟨a.block,a.off+5,none⟩=some (.int .i64 N.n)/\W.cell? ⟨a.block,a.off+6,none⟩=some (.string N.x)/\W.cell? ⟨a.block,a.off+7,none⟩=some vn/\W.cell? ⟨a.block,a.off+8,none⟩=some vk
structure Bx (w0:World) (vt:Value) (t:Int) (w:World) (N:Nd) (vn vk:Value) (T:ByteArray) (W:World):Prop where
 pr:Pr w0 vt T t W
 kq:Kq w0.heap.size w W
 bx:nc w.heap.size W 50 N vn vk
theorem Bx.new{c:World}{b:Value}{t:Int}{w:World}{T:ByteArray}(d:Pr c b T t w)(N:Nd)(vn vk:Value):Bx c b t w N vn vk T (w.alloc (ait N vn vk)):=by
 have a:Below w.heap.size w (w.alloc (ait N vn vk)):=(ag _ w).alloc (ah _) _
 exact⟨d.below a,Kq.of_below a,ay w _⟩
theorem Bx.next{a:World}{c:Value}{t:Int}{w:World}{N:Nd}{vn vk:Value}{T d:ByteArray}{W b:World}(e:Bx a c t w N vn vk T W)(f:a.heap.size<w.heap.size)(p:Pr a c d t b)(k:Kq a.heap.size W b):Bx a c t w N vn vk d b:=
 ⟨p,e.kq.trans k,k.box e.bx (by omega)⟩
theorem Bx.below{e:World}{d:Value}{t:Int}{w:World}{N:Nd}{vn vk:Value}{T:ByteArray}{W c:World}(a:Bx e d t w N vn vk T W)(b:Below W.heap.size W c):Bx e d t w N vn vk T c:=
 ⟨a.pr.below b,a.kq.trans (Kq.of_below b),a.bx.below b⟩
theorem Bx.cells{p:World}{o:Value}{t:Int}{w:World}{N:Nd}{vn vk:Value}{T:ByteArray}{W:World}(m:Bx p o t w N vn vk T W):W.cell? ⟨w.heap.size,0,none⟩=some (.int .i64 N.k)/\W.cell? ⟨w.heap.size,1,none⟩=some (.int .i64 N.f)/\W.cell? ⟨w.heap.size,2,none⟩=some (.int .i64 N.t)/\W.cell? ⟨w.heap.size,3,none⟩=some (.int .i64 N.l)/\W.cell? ⟨w.heap.size,4,none⟩=some (.int .i64 N.op)/\W.cell? ⟨w.heap.size,5,none⟩=some (.int .i64 N.n)/\W.cell? ⟨w.heap.size,6,none⟩=some (.string N.x)/\W.cell? ⟨w.heap.size,7,none⟩=some vn/\W.cell? ⟨w.heap.size,8,none⟩=some vk:=by
 obtain⟨a,b,c,d,e,g,h,i,j,q⟩:=bz m.bx
 exact⟨a,b,c,d,e,g,h,i,j⟩
theorem Bx.kid0{b:World}{g:Value}{t:Int}{w:World}{N:Nd}{vn:Value}{a:Addr}{L ck:Nat}{T:ByteArray}{W:World}(d:Bx b g t w N vn (.slice (some a) L ck) T W)(e:cH b (.slice (some a) L ck) N.ks){q:Int}(f:N.ks[0]?=some q):W.cell? a=some (.int .i64 q):=by
 obtain⟨i,c,h⟩:=(e.below d.pr.bel).get f
 cases c
 simpa [Addr.add] using h
theorem Bx.kid{b:World}{h:Value}{t:Int}{w:World}{N:Nd}{vn:Value}{a:Addr}{L ck:Nat}{T:ByteArray}{W:World}(d:Bx b h t w N vn (.slice (some a) L ck) T W)(f:cH b (.slice (some a) L ck) N.ks){j:Nat}{q:Int}(g:N.ks[j]?=some q)(e:j≠0):W.cell? ⟨a.block,a.off+j,none⟩=some (.int .i64 q):=by
 obtain⟨k,c,i⟩:=(f.below d.pr.bel).get g
 cases c
 exact zd i e
theorem Bx.name0{c:World}{h:Value}{t:Int}{w:World}{N:Nd}{a:Addr}{M b:Nat}{vk:Value}{T:ByteArray}{W:World}(e:Bx c h t w N (.slice (some a) M b) vk T W)(f:bp c (.slice (some a) M b) N.nm){s:ByteArray}(g:N.nm[0]?=some s):W.cell? a=some (.string s):=by
 obtain⟨j,d,i⟩:=(f.below e.pr.bel).get g
 cases d
 simpa [Addr.add] using i
theorem cH.ptr{W:World}{a:Option Addr}{L ck:Nat}{l:List Int}(c:cH W (.slice a L ck) l)(d:0<l.length:=by omega):∃f,a=some f:=by
 obtain⟨e,b,_⟩:=c.get (aF d)
 exact⟨e,b⟩
theorem bp.ptr{W:World}{a:Option Addr}{L ck:Nat}{l:List ByteArray}(c:bp W (.slice a L ck) l)(d:0<l.length:=by omega):∃f,a=some f:=by
 obtain⟨e,b,_⟩:=c.get (aF d)
 exact⟨e,b⟩
theorem nI{N:Nd}{j:Nat}{q:Int}(a:N.ks[j]?=some q):j<N.ks.length:=(List.getElem?_eq_some_iff.1 a).1
theorem Bx.stp{a:World}{d:Value}{t:Int}{w W:World}{N:Nd}{vn vk:Value}{T b:ByteArray}{f:FuncId}{args:Array Value}{g:Ending->World->Prop}{V:World}(e:Hid (Bx a d t w N vn vk T V))(i:Below V.heap.size V W)(S:Hid (Wr a d t f args b))(l:a.heap.size<w.heap.size)(j:T.size+b.size<=140737488355328)(k:∀h,Bx a d t w N vn vk (T++b) h->g (.returned (.tuple #[])) h):Calls Tryz.prog f args W g:=
 (S _ _ (e.below i).pr j).mono fun n m c=>c.1 ▸ k m ((e.below i).next l c.2.1 c.2.2)
theorem Bx.fin{a:World}{d:Value}{t:Int}{w W:World}{N:Nd}{vn vk:Value}{T c:ByteArray}(b:Hid (Bx a d t w N vn vk c W))(e:c=T):Ending.returned (.tuple #[])= .returned (.tuple #[])/\Pr a d T t W/\Kq a.heap.size w W:=⟨rfl,e ▸ b.pr,b.kq⟩
section
variable (w0 : World) (vt : Value) (t : Nat)
abbrev WE(q:Nat)(a:ByteArray):Prop:=Wr w0 vt t 95 #[pW w0,.int .i64 (q:Int),.int .i64 0] a
abbrev WB(q:Nat)(a:ByteArray):Prop:=Wr w0 vt t 92 #[pW w0,.int .i64 (q:Int)] a
abbrev WD(q:Nat)(a:ByteArray):Prop:=Wr w0 vt t 96 #[pW w0,.int .i64 (q:Int)] a
abbrev WX(l:List Int)(b:ByteArray):Prop:=∀a,cH w0 a l->Wr w0 vt t 94 #[pW w0,a] b
abbrev WA(q:Nat)(a:ByteArray):Prop:=Wr w0 vt t 157 #[pW w0,.int .i64 (q:Int)] a
end
theorem add_add(a:Addr)(i j:Nat):(a.add i).add j=a.add (i+j):=by
 unfold Addr.add
 by_cases b:i=0
 ·subst b;simp
 ·by_cases c:j=0
  ·subst c;simp[b]
  ·simp[b,c];omega
theorem cH.take{W:World}{a:Option Addr}{n c:Nat}{l:List Int}(h:cH W (.slice a n c) l)(k:Nat)(f:k<=l.length):cH W (.slice a k c) (l.take k):=by
 rcases h with⟨rfl,d,g,e⟩|⟨d,g,e,j⟩
 ·have:k=0:=by simpa using f
  subst this
  exact .inl ⟨rfl,a,c,rfl⟩
 ·cases e
  by_cases i:k=0
  ·subst i;exact .inl ⟨by simp,_,_,rfl⟩
  ·refine .inr ⟨d,c,by rw[dt,pd f],fun m o b=>j m o ?_⟩
   rw[iE]at b
   split at b
   ·exact b
   ·cases b
theorem cH.drop{W:World}{a:Addr}{n c b:Nat}{l:List Int}(h:cH W (.slice (some a) n c) l)(k m:Nat)(q:k<=l.length)(j:m=l.length-k):cH W (.slice (some (a.add k)) m b) (l.drop k):=by
 subst j
 rcases h with⟨rfl,f,g,d⟩|⟨f,g,d,i⟩
 ·exact .inl ⟨by simp,some (a.add k),b,by simp⟩
 ·cases d
  refine .inr ⟨a.add k,b,by rw[dH],fun o p e=>?_⟩
  rw[mF]at e
  rw[add_add]
  exact i (k+o) p e
section
variable (w0 : World) (vt : Value) (t : Nat)
inductive Ba (p1:Addr) (n i:Nat) (ns:List Nd) (N:Nd) (vn vk:Value):FuncId->Array Value->ByteArray->Prop
 |blk {Y:ByteArray}:Hid (N.k=1)->Hid (WB w0 vt t i Y)->Ba p1 n i ns N vn vk 31 #[pW w0,.int .i64 (i:Int)] (Y)
 |let0:N.nm.length<=200->Hid (N.k=2)->N.ks.length=0->Ba p1 n i ns N vn vk 31 #[pW w0,.int .i64 (i:Int)] (⟨#[108,101,116,32]⟩++bK N.nm)
 |let1 {X:ByteArray}:N.nm.length<=200->Hid (N.k=2)->0<N.ks.length->Hid (WX w0 vt t N.ks X)->Ba p1 n i ns N vn vk 31 #[pW w0,.int .i64 (i:Int)] (⟨#[108,101,116,32]⟩++bK N.nm++(⟨#[32,61,32]⟩++X))
 |cst {s E:ByteArray}{q:Nat}:Hid (N.k=3)->N.ks.length=1->N.nm.length=1->N.nm[0]?=some s->N.ks[0]?=some (q:Int)->Hid (WE w0 vt t q E)->Ba p1 n i ns N vn vk 31 #[pW w0,.int .i64 (i:Int)] (⟨#[99,111,110,115,116,32]⟩++s++⟨#[32,61,32]⟩++E)
 |fns {s Y:ByteArray}{q:Nat}:Hid (N.k=4)->N.ks.length=1->N.nm.length=1->N.nm[0]?=some s->N.ks[0]?=some (q:Int)->Hid (WD w0 vt t q Y)->Ba p1 n i ns N vn vk 31 #[pW w0,.int .i64 (i:Int)] (⟨#[102,110,32]⟩++s++Y)
 |set {X Z:ByteArray}{m:Nat}:Hid (N.k=5)->1<=m/\m<N.ks.length->Hid (N.n=(m:Int))->Hid (WX w0 vt t (N.ks.take m) X)->Hid (WX w0 vt t (N.ks.drop m) Z)->Ba p1 n i ns N vn vk 31 #[pW w0,.int .i64 (i:Int)] (X++⟨#[32,61,32]⟩++Z)
 |one {E:ByteArray}{q:Nat}:Hid (N.k=6)->N.ks.length=1->N.ks[0]?=some (q:Int)->Hid (WE w0 vt t q E)->Ba p1 n i ns N vn vk 31 #[pW w0,.int .i64 (i:Int)] (E)
 |iff {Y:ByteArray}:Hid (N.k=7)->Hid (Wr w0 vt t 97 #[pW w0,gF N vn vk,.string ⟨#[105,102,32]⟩] Y)->Ba p1 n i ns N vn vk 31 #[pW w0,.int .i64 (i:Int)] (Y)
 |whl {E Y:ByteArray}{q r:Nat}:Hid (N.k=8)->N.ks.length=2->N.ks[0]?=some (q:Int)->N.ks[1]?=some (r:Int)->Hid (WE w0 vt t q E)->Hid (WB w0 vt t r Y)->Ba p1 n i ns N vn vk 31 #[pW w0,.int .i64 (i:Int)] (⟨#[119,104,105,108,101,32]⟩++E++⟨#[32]⟩++Y)
 |fr {X Y Z:ByteArray}{k q:Nat}:N.nm.length<=200->Hid (N.k=9)/\Z=⟨#[32,61,32]⟩/\(k=2\/k=3)\/Hid (N.k=10)/\Z=⟨#[32,105,110,32]⟩/\k=1->N.ks.length=k+1->N.ks[k]?=some (q:Int)->Hid (WX w0 vt t (N.ks.take k) X)->Hid (WB w0 vt t q Y)->Ba p1 n i ns N vn vk 31 #[pW w0,.int .i64 (i:Int)] (⟨#[102,111,114,32]⟩++bK N.nm++Z++X++⟨#[32]⟩++Y)
 |brk:Hid (N.k=11)->Ba p1 n i ns N vn vk 31 #[pW w0,.int .i64 (i:Int)] (⟨#[98,114,101,97,107]⟩)
 |nxt:Hid (N.k=12)->Ba p1 n i ns N vn vk 31 #[pW w0,.int .i64 (i:Int)] (⟨#[110,101,120,116]⟩)
 |ret0:Hid (N.k=13)->N.ks.length=0->Ba p1 n i ns N vn vk 31 #[pW w0,.int .i64 (i:Int)] (⟨#[114,101,116,117,114,110]⟩)
 |ret1 {X:ByteArray}:Hid (N.k=13)->0<N.ks.length->Hid (WX w0 vt t N.ks X)->Ba p1 n i ns N vn vk 31 #[pW w0,.int .i64 (i:Int)] (⟨#[114,101,116,117,114,110]⟩++(⟨#[32]⟩++X))
 |try_ {X Y:ByteArray}{q r:Nat}:N.nm.length<=200->Hid (N.k=14)->N.ks.length=2->N.ks[0]?=some (q:Int)->N.ks[1]?=some (r:Int)->Hid (WB w0 vt t q X)->Hid (WB w0 vt t r Y)->Ba p1 n i ns N vn vk 31 #[pW w0,.int .i64 (i:Int)] (⟨#[116,114,121,32]⟩++X++⟨#[32,99,97,116,99,104,32]⟩++bK N.nm++⟨#[32]⟩++Y)
 |thr {E:ByteArray}{q:Nat}:Hid (N.k=15)->N.ks.length=1->N.ks[0]?=some (q:Int)->Hid (WE w0 vt t q E)->Ba p1 n i ns N vn vk 31 #[pW w0,.int .i64 (i:Int)] (⟨#[116,104,114,111,119,32]⟩++E)
 |dfr {E:ByteArray}{q:Nat}:Hid (N.k=16)->N.ks.length=1->N.ks[0]?=some (q:Int)->Hid (WE w0 vt t q E)->Ba p1 n i ns N vn vk 31 #[pW w0,.int .i64 (i:Int)] (⟨#[100,101,102,101,114,32]⟩++E)
 |bod {Y Z:ByteArray}{q:Nat}:N.nm.length<=200->(N.op≠1/\Z=ByteArray.empty\/Hid (N.op=1)/\(N.nm.length=0/\Z=⟨#[46,46,46]⟩\/0<N.nm.length/\Z=⟨#[44,32]⟩++⟨#[46,46,46]⟩))->N.ks.length=1->N.ks[0]?=some (q:Int)->Hid (WB w0 vt t q Y)->Ba p1 n i ns N vn vk 96 #[pW w0,.int .i64 (i:Int)] (⟨#[40]⟩++bK N.nm++Z++⟨#[41,32]⟩++Y)
 |br2 {word E Y:ByteArray}{q r:Nat}:N.ks.length=2->N.ks[0]?=some (q:Int)->N.ks[1]?=some (r:Int)->Hid (WE w0 vt t q E)->Hid (WB w0 vt t r Y)->Ba p1 n i ns N vn vk 97 #[pW w0,gF N vn vk,.string word] (word++E++⟨#[32]⟩++Y)
end
theorem GG{e:World}{h:Addr}{n m:Nat}{p:List Nd}(ad:dK e (.slice (some h) n m) p)(ao:zg e h p)(av:p.length=n)(bF:n<=1048576){tab i:Nat}(bx:i<n){N:Nd}(bE:N.ks.length<=1048576){t s:Option Addr}{M o L ck:Nat}(R:NdR e h i N t M o s L ck){f:FuncId}{args:Array Value}{y:ByteArray}(af:Ba e (.slice (some h) n m) tab h n i p N (.slice t M o) (.slice s L ck) f args y):
  Wr e (.slice (some h) n m) tab f args y:=by
 intro w ba g u
 have ar:=g.lt
 obtain⟨z0,bk,bl⟩:=g.cells
 have J:=R.hL
 have K:=R.hM
 have bs:=R.cap
 have a:=aj (Bx.new g N (.slice t M o) (.slice s L ck))
 obtain⟨a1,a2,a3,a4,a5,a6,a7,a8,a9,_,_⟩:=R.rd ba g.bel
 have bA:(i:Int)<(n:Int):=by omega
 have bD:(0:Int)<=(i:Int):=by omega
 cases af
 case' let1|ret1=>have a0:(0:Int)<(L:Int):=by omega
 case' let1 hX=>have r:=aj (hX _ R.ks)
 case' ret1 hX=>have r:=aj (hX _ R.ks)
 case' iff hX=>unfold gF at hX
 case' set b _ hm _ hX hZ=>
  obtain⟨l,rfl⟩:=R.ks.ptr
  have r:=aj (hX (.slice (some l) b ck) (R.ks.take b (by omega)))
  have bn:=aj (hZ (.slice (some (l.add b)) (L-b) (ck-b)) (R.ks.drop b _ (by omega) (by omega)))
  have al:¬ck=0:=by omega
  have am:(b:Int)<=(ck:Int):=by omega
  have bt:(b:Int)<=(L:Int):=by omega
  have bv:¬ck=b:=by omega
  have bw:(0:Int)<=(b:Int):=by omega
 case' fr v _ _ d _ _ hX _=>
  obtain⟨l,rfl⟩:=R.ks.ptr
  have r:=aj (hX (.slice (some l) v ck) (R.ks.take v (by omega)))
  have al:¬ck=0:=by omega
  have am:(v:Int)<=(ck:Int):=by omega
  clear hX
  obtain⟨d,rfl,rfl|rfl⟩|⟨d,rfl,rfl⟩:=d
 case' bod d _ _ _=>
  obtain⟨d,rfl⟩|⟨d,⟨ap,rfl⟩|⟨ap,rfl⟩⟩:=d
  all_goals first|have I:=Hz d.out|have I:(N.op==1)=false:=by simpa using d
  all_goals try have a0:(0:Int)<(M:Int):=by omega
 all_goals
  try simp only[ax]at u
  try (have k:=R.ks.ptr;obtain⟨l,rfl⟩:=k)
  try (have k:=R.nm.ptr;obtain⟨b0,rfl⟩:=k)
  try have bo:Hid (Wr e (.slice (some h) n m) tab 93 #[pW e,.slice _ M o] (bK N.nm)):=fun w x g u=>J5 e _ _ N.nm w tab x g R.nm (by omega) u
  have c:=aj R
  try have b1:=Lj (by with_reducible assumption:Hid (N.k=_)).out
  try have br:=Hz (by with_reducible assumption:Hid (N.k=_)).out
  try (have k:=J.symm.trans (by with_reducible assumption:N.ks.length=_);subst k)
  try (have k:=K.symm.trans (by with_reducible assumption:N.nm.length=_);subst k)
  obtain⟨z,A,B,C,E,q,F,G,H⟩:=a.cells
  (try have bb:=a.kid0 c.ks (by with_reducible assumption))
  (try have bc:=a.kid c.ks (j:=1) (by with_reducible assumption) (by decide))
  (try have bd:=a.kid c.ks (j:=2) (by with_reducible assumption) (by decide))
  (try have bf:=a.kid c.ks (j:=3) (by with_reducible assumption) (by decide))
  (try rw[(by with_reducible assumption:Hid (N.n=_)).out]at q)
  try have b2:=a.name0 c.nm (by with_reducible assumption)
  clear g R ad ao av bl bk
  try unfold gF
  go_in
  repeat (go_wp2_with fail;refine Bx.stp a (ag _ _) (by with_reducible first|exact aj (ze _)|assumption) ar (by(try simp only[ax]);omega) ?_;intro x a;have a:=aj a;clear z A B C E q F G H;(try clear a1 a2 a3 a4 a5 a6 a7 a8 a9 z0);obtain⟨z,A,B,C,E,q,F,G,H⟩:=a.cells;(try have bb:=a.kid0 c.ks (by with_reducible assumption));(try have bc:=a.kid c.ks (j:=1) (by with_reducible assumption) (by decide));(try have bd:=a.kid c.ks (j:=2) (by with_reducible assumption) (by decide));(try have bf:=a.kid c.ks (j:=3) (by with_reducible assumption) (by decide));(try rw[(by with_reducible assumption:Hid (N.n=_)).out]at q))
  go_wp2_with fail
  first|go_end0|refine aH (gx rfl _ _ _) rfl ?_
  exact Bx.fin a (by simp only[be,ByteArray.empty_append])
section
variable (w0 : World) (vt : Value) (t : Nat)
inductive ExO (n i:Nat) (ns:List Nd) (N:Nd) (vn vk:Value):FuncId->Array Value->ByteArray->Prop
 |par {Y:ByteArray}{least:Int}:gB N.k N.op<least->Hid (WE w0 vt t i Y)->ExO n i ns N vn vk 95 #[pW w0,.int .i64 (i:Int),.int .i64 least] (⟨#[40]⟩++Y++⟨#[41]⟩)
 |inf {S Y:ByteArray}{least:Int}:Hid (N.k=28)/\S=⟨#[32,97,110,100,32]⟩\/Hid (N.k=29)/\S=⟨#[32,111,114,32]⟩->¬gB N.k N.op<least->Hid (Wr w0 vt t 154 #[pW w0,gF N vn vk,.string S,.int .i64 (gB N.k N.op)] Y)->ExO n i ns N vn vk 95 #[pW w0,.int .i64 (i:Int),.int .i64 least] (Y)
 |nod {f:FuncId}{Y:ByteArray}{least:Int}:Hid (N.k=30)/\f=156\/Hid (N.k=35)/\f=158\/(20<=N.k/\N.k<=27)/\f=159->¬gB N.k N.op<least->Hid (Wr w0 vt t f #[pW w0,gF N vn vk] Y)->ExO n i ns N vn vk 95 #[pW w0,.int .i64 (i:Int),.int .i64 least] (Y)
 |idx {Y E:ByteArray}{q r:Nat}{least:Int}:Hid (N.k=32)->¬gB N.k N.op<least->N.ks.length=2->N.ks[0]?=some (q:Int)->N.ks[1]?=some (r:Int)->Hid (WA w0 vt t q Y)->Hid (WE w0 vt t r E)->ExO n i ns N vn vk 95 #[pW w0,.int .i64 (i:Int),.int .i64 least] (Y++⟨#[91]⟩++E++⟨#[93]⟩)
 |fld {Y:ByteArray}{q:Nat}{least:Int}:Hid (N.k=33)->¬gB N.k N.op<least->N.ks.length=1->N.ks[0]?=some (q:Int)->Hid (WA w0 vt t q Y)->ExO n i ns N vn vk 95 #[pW w0,.int .i64 (i:Int),.int .i64 least] (Y++(⟨#[46]⟩++N.x))
 |cal {Y X:ByteArray}{q:Nat}{least:Int}:Hid (N.k=34)->¬gB N.k N.op<least->0<N.ks.length->N.ks[0]?=some (q:Int)->Hid (WA w0 vt t q Y)->Hid (WX w0 vt t (N.ks.drop 1) X)->ExO n i ns N vn vk 95 #[pW w0,.int .i64 (i:Int),.int .i64 least] (Y++⟨#[40]⟩++X++⟨#[41]⟩)
 |fn {Y:ByteArray}{least:Int}:Hid (N.k=36)->¬gB N.k N.op<least->Hid (WD w0 vt t i Y)->ExO n i ns N vn vk 95 #[pW w0,.int .i64 (i:Int),.int .i64 least] (⟨#[102,110]⟩++Y)
 |one {E:ByteArray}{q:Nat}{least:Int}:Hid (N.k=37)->¬gB N.k N.op<least->N.ks.length=1->N.ks[0]?=some (q:Int)->Hid (WE w0 vt t q E)->ExO n i ns N vn vk 95 #[pW w0,.int .i64 (i:Int),.int .i64 least] (⟨#[40]⟩++E++⟨#[41]⟩)
 |un {A E:ByteArray}{q:Nat}:Hid (N.op=21)/\A=⟨#[110,111,116,32]⟩\/Hid (N.op=22)/\A=⟨#[35]⟩\/Hid (N.op=20)/\A=⟨#[126]⟩->N.ks.length=1->N.ks[0]?=some (q:Int)->Hid (Wr w0 vt t 95 #[pW w0,.int .i64 (q:Int),.int .i64 11] E)->ExO n i ns N vn vk 156 #[pW w0,gF N vn vk] (A++E)
end
theorem abu{g:World}{e:Addr}{n z:Nat}{h:List Nd}(am:dK g (.slice (some e) n z) h)(ap:zg g e h)(a1:h.length=n)(bA:n<=1048576){tab i:Nat}(bt:i<n){N:Nd}(bx:N.ks.length<=1048576)(G:N.k=31->1<=N.op/\N.op<=18){x w:Option Addr}{M A L ck:Nat}(R:NdR g e i N x M A w L ck){f:FuncId}{args:Array Value}{F:ByteArray}(ao:ExO g (.slice (some e) n z) tab n i h N (.slice x M A) (.slice w L ck) f args F):
  Wr g (.slice (some e) n z) tab f args F:=by
 intro bn bf d av
 have a0:=d.lt
 obtain⟨z0,bk,bl⟩:=d.cells
 have al:=R.hL
 have bo:=R.cap
 have a:=aj (Bx.new d N (.slice x M A) (.slice w L ck))
 obtain⟨a3,a4,a5,a6,a7,a8,a9,ba,bb,_,_⟩:=R.rd bf d.bel
 have bv:(i:Int)<(n:Int):=by omega
 have bw:(0:Int)<=(i:Int):=by omega
 have E:=aj fun bd bc=>vD N bd bc G
 unfold gF at E
 clear G
 cases ao
 case' inf b _ hX=>obtain⟨b,rfl⟩|⟨b,rfl⟩:=b
 case' nod b _ hX=>obtain⟨b,rfl⟩|⟨b,rfl⟩|⟨b,rfl⟩:=b
 case' un b _ _ _=>obtain⟨b,rfl⟩|⟨b,rfl⟩|⟨b,rfl⟩:=b
 case' cal B _ _ _ _ hX=>
  obtain⟨l,rfl⟩:=R.ks.ptr
  have bs:(1:Int)<=(L:Int):=by omega
  have br:1<=L:=by omega
  have bD:(0:Int)<(L:Int):=by omega
  by_cases ar:ck=1
  case' pos=>
   subst ar
   obtain rfl:L=1:=by omega
   have J:=aj (hX (.slice (some l) 0 0) (.inl ⟨by rw[List.drop_eq_nil_iff];omega,_,_,rfl⟩))
  case' neg=>have J:=aj (hX (.slice (some ⟨l.block,l.off+1,none⟩) (L-1) (ck-1)) (R.ks.drop 1 _ (by omega) (by omega)))
 all_goals
  generalize a2:gB N.k N.op=bE at *
  clear a2
  try unfold gF at *
  try simp only[ax]at av
  try (have C:=R.ks.ptr;obtain⟨l,rfl⟩:=C)
  have c:=aj R
  first|have B:=Lj (by with_reducible assumption:Hid (N.k=_)).out;have af:=Hz (by with_reducible assumption:Hid (N.k=_)).out|have B:=Lj (by with_reducible assumption:Hid (N.op=_)).out;have af:=Hz (by with_reducible assumption:Hid (N.op=_)).out|have B:∀y:Int,28<=y->(N.k==y)=false:=fun y d=>by simp;omega|skip
  try (have C:=al.symm.trans (by with_reducible assumption:N.ks.length=_);subst C)
  obtain⟨m,o,p,q,r,s,t,u,v⟩:=a.cells
  (try have H:=a.kid0 c.ks (by with_reducible assumption))
  (try have I:=a.kid c.ks (j:=1) (by with_reducible assumption) (by decide))
  clear d R am ap a1 bl bk
  go_in
  repeat (go_wp2_with fail;(first|(go_at_call 153;refine dG (E _ _ _) fun K ad=>?_;have a:=aj (a.below ad);clear m o p q r s t u v;obtain⟨m,o,p,q,r,s,t,u,v⟩:=a.cells;(try have H:=a.kid0 c.ks (by with_reducible assumption));(try have I:=a.kid c.ks (j:=1) (by with_reducible assumption) (by decide)))|(refine Bx.stp a (ag _ _) (by with_reducible first|exact aj (ze _)|assumption) a0 (by(try simp only[ax]);omega) ?_;intro K a;have a:=aj a;clear m o p q r s t u v;(try clear a3 a4 a5 a6 a7 a8 a9 ba bb z0);obtain⟨m,o,p,q,r,s,t,u,v⟩:=a.cells;(try have H:=a.kid0 c.ks (by with_reducible assumption));(try have I:=a.kid c.ks (j:=1) (by with_reducible assumption) (by decide)))))
  go_wp2_with fail
  first|go_end0|refine aH (gx rfl _ _ _) rfl ?_
  exact Bx.fin a (by simp only[be,ByteArray.empty_append])
def EnW(e:World)(d:Value)(t:Nat)(X:Nd)(c:ByteArray):Prop:=
 (X.k=41/\X.ks.length=2/\∃(b g:Nat) (a f:ByteArray),X.ks[0]?=some (b:Int)/\X.ks[1]?=some (g:Int)/\Hid (WE e d t b a)/\Hid (WE e d t g f)/\c=⟨#[91]⟩++a++⟨#[93,32,61,32]⟩++f)
  \/(X.ks.length=1/\∃(b:Nat) (a:ByteArray),X.ks[0]?=some (b:Int)/\Hid (WE e d t b a)/\(X.k=42/\c=⟨#[46]⟩++X.x++⟨#[32,61,32]⟩++a\/(X.k≠41/\X.k≠42)/\c=a))
theorem Kl{c:World}{o:Addr}{n r:Nat}{b:List Nd}(I:dK c (.slice (some o) n r) b)(J:zg c o b)(ct:b.length=n)(cr:n<=1048576){E:Int->ByteArray}{tab:Nat}{N:Nd}{vn vk:Value}(u:cH c vk N.ks)(bf:N.ks.length<=1048576)
  (H:∀z∈N.ks,∃k:Nat,z=(k:Int)/\k<b.length/\EnW c (.slice (some o) n r) tab (ae b k) (wy b E (ae b k))):Wr c (.slice (some o) n r) tab 158 #[pW c,gF N vn vk] (abr b E N):=by
 intro x br y B
 obtain⟨a0,a5,rfl⟩:=u.form
 obtain⟨e,t⟩:=aE N.ks.length
 rw[t]at u bf⊢
 have bl:=y.lt
 have a:=aj (Bx.new y N vn (.slice a0 e a5))
 unfold abr at B⊢
 obtain⟨d,v⟩:∃d,(N.ks.map fun k=>wy b E (ae b k))=d:=⟨_,rfl⟩
 rw[v]at B⊢
 have K:d.length=e:=by rw[<-v,aI];exact t
 simp only[ax]at B
 have cd:(⟨#[123]⟩:ByteArray).size=1:=rfl
 have ce:dx.size=2:=rfl
 have F:=eJ I J
 have i:=ac9 u H t v K
 clear y I J u H t v K
 unfold gF
 go_in
 go_wp2_with fail
 refine Bx.stp a (ag _ _) (ze _) bl (by omega) ?_
 intro av a
 have a:=aj a
 have a4:=a.cells.2.2.2.2.2.2.2.2
 go_wp2_with fail
 go_loopw [12] (fun C wr=>∃k:Nat,k<=e/\C= .int .i64 k/\Hid (Pr c (.slice (some o) n r) (x++⟨#[123]⟩++bK (d.take k)) tab wr/\Kq c.heap.size br wr)) (fun C _=>e-(intOf C).toNat)
 case atStart=>exact⟨0,by omega,rfl,by rw[show x++⟨#[123]⟩++bK (d.take 0)=x++⟨#[123]⟩ from ByteArray.append_empty];exact a.pr,a.kq⟩
 case round=>
  clear a4 a
  obtain⟨k,cm,rfl,h⟩:=hrel
  by_cases bc:k<e
  ·obtain⟨z,w⟩:=bC i.2.2.1 bc
   obtain⟨g,rfl,L,bn⟩:=i.2.1 z (bJ w)
   obtain⟨cc,rfl,cf⟩:=(i.1.below h.1.bel).get w
   have cq:(k:Int)<(e:Int):=by omega
   have cp:(0:Int)<=(k:Int):=by omega
   have m:=lE d k (wy b E (ae b g)) (by rw[<-i.out.2.2.2.1,bq,w];rfl)
   have s:=xo d (k+1)
   have cv:(g:Int)<(n:Int):=by omega
   have cu:(0:Int)<=(g:Int):=by omega
   obtain⟨a3,ap,a7,a2,ao,a6,l⟩:=tK F.1 F.2 L
   generalize ae b g=q at *
   generalize wy b E q=b9 at *
   obtain⟨cb,A⟩:=aE (bK (d.take (k+1)))
   rw[A]at m s
   have am:=aj A
   clear A w
   rcases mJ k with h0|h0
   case' inl=>
    rw[ab h0]at m
    have bd:¬(0:Int)<(k:Int):=by omega
    clear h0
    have P:=h
   case' inr=>
    rw[aa (by omega)]at m
    have bd:(0:Int)<(k:Int):=by omega
    subst m
    simp only[ax]at s
    go_wp2_with fail
    refine(eD c _ _ dx tab _ h.1 (by simp only[ax];omega)).mono ?_
    rintro a8 c6 ⟨rfl,af,ad⟩
    have P:=eJ af (h.2.trans ad)
    clear af ad
   all_goals
    try subst m
    try simp only[ax]at s
    have bb:=l.hL
    obtain⟨z0,b4,b5⟩:=P.1.cells
    have bk:=P.1.lt
    obtain⟨cw,cx,cy,cz,cB,cI,c0,c2,c3,_,_⟩:=l.rd _ P.1.bel
    have a:=aj (Bx.new P.1 q (.slice a3 ap a7) (.slice a2 ao a6))
    rcases bn with⟨f,G,g,c5,E,b6,a9,cg,ar,b7,rfl⟩|⟨G,g,E,a9,ar,⟨f,rfl⟩|⟨f,rfl⟩⟩
    all_goals
     try simp only[ax]at s
     obtain⟨c4,rfl⟩:=l.ks.ptr
     obtain rfl:=bb.symm.trans G
     have p:=aj l
     first|have ba:=Hz f;have g:=Lj f|have ba:(q.k==41)=false:=by simpa using f.1
     try have cl:(q.k==42)=false:=by simpa using f.2
     clear f
     obtain⟨bs,bt,bv,bw,bx,bA,bD,bE,bF⟩:=a.cells
     (try have b0:=a.kid0 p.ks (by with_reducible assumption))
     (try have b3:=a.kid p.ks (j:=1) (by with_reducible assumption) (by decide))
     clear l b5 b4 L
     repeat (go_wp2_with fail;refine Bx.stp a (by first|exact ag _ _|exact dh _ _) (by with_reducible first|exact aj (ze _)|assumption) bk (by simp only[ax];omega) ?_;intro av a;have a:=aj a;obtain⟨bs,bt,bv,bw,bx,bA,bD,bE,bF⟩:=a.cells;(try have b0:=a.kid0 p.ks (by with_reducible assumption));(try have b3:=a.kid p.ks (j:=1) (by with_reducible assumption) (by decide)))
     go_wp2_with fail
     exact⟨⟨k+1,by omega,by go_num,by rw[am.out];have:=a.pr;simpa only[be] using this,P.2.trans a.kq⟩,by simp[intOf];omega⟩
  ·obtain rfl:k=e:=by omega
   go_wp2_with fail
   refine(eD c _ _ ⟨#[125]⟩ _ _ h.1 (by have:=xo d k;simp only[ax];omega)).mono ?_
   rintro a8 c7 ⟨rfl,al,bo⟩
   go_wp2_with fail
   go_end0
   refine⟨rfl,?_,h.2.trans bo⟩
   rw[bH (by rw[i.out.2.2.2.2];exact ah _)]at al
   rw[<-be,<-be]
   exact al
def ru:Int->ByteArray
 |1=>⟨#[115,116,97,116,42]⟩
 |2=>⟨#[101,120,112,114,42]⟩
 |3=>⟨#[101,120,112,114]⟩
 |4=>⟨#[102,110]⟩
 |6=>⟨#[99,97,108,108]⟩
 |7=>⟨#[101,120,112,114,32,98,108,111,99,107,32,101,108,115,101,63]⟩
 |8=>⟨#[101,120,112,114,32,98,108,111,99,107]⟩
 |9=>⟨#[101,120,112,114,32,101,120,112,114,32,101,120,112,114,63,32,98,108,111,99,107]⟩
 |10=>⟨#[101,120,112,114,32,98,108,111,99,107]⟩
 |11=>⟨#[]⟩
 |12=>⟨#[]⟩
 |13=>⟨#[101,120,112,114,42]⟩
 |14=>⟨#[98,108,111,99,107,32,98,108,111,99,107]⟩
 |15=>⟨#[101,120,112,114]⟩
 |16=>⟨#[99,97,108,108]⟩
 |20=>⟨#[]⟩
 |21=>⟨#[]⟩
 |22=>⟨#[]⟩
 |23=>⟨#[]⟩
 |24=>⟨#[]⟩
 |25=>⟨#[]⟩
 |26=>⟨#[]⟩
 |27=>⟨#[]⟩
 |28=>⟨#[101,120,112,114,32,101,120,112,114]⟩
 |29=>⟨#[101,120,112,114,32,101,120,112,114]⟩
 |30=>⟨#[101,120,112,114]⟩
 |31=>⟨#[101,120,112,114,32,101,120,112,114]⟩
 |32=>⟨#[98,97,115,101,32,101,120,112,114]⟩
 |33=>⟨#[98,97,115,101]⟩
 |34=>⟨#[98,97,115,101,32,101,120,112,114,42]⟩
 |35=>⟨#[101,110,116,114,121,42]⟩
 |36=>⟨#[98,108,111,99,107]⟩
 |37=>⟨#[109,97,110,121]⟩
 |40=>⟨#[101,120,112,114]⟩
 |41=>⟨#[101,120,112,114,32,101,120,112,114]⟩
 |42=>⟨#[101,120,112,114]⟩
 |_=>⟨#[]⟩
def GH:Int->Option (List (Nat×Nat))
 |1=>some [(0,1)]
 |2=>some [(3,1)]
 |3=>some [(3,0)]
 |4=>some [(8,0)]
 |6=>some [(6,0)]
 |7=>some [(3,0),(1,0),(2,2)]
 |8=>some [(3,0),(1,0)]
 |9=>some [(3,0),(3,0),(3,2),(1,0)]
 |10=>some [(3,0),(1,0)]
 |11=>some []
 |12=>some []
 |13=>some [(3,1)]
 |14=>some [(1,0),(1,0)]
 |15=>some [(3,0)]
 |16=>some [(6,0)]
 |20=>some []
 |21=>some []
 |22=>some []
 |23=>some []
 |24=>some []
 |25=>some []
 |26=>some []
 |27=>some []
 |28=>some [(3,0),(3,0)]
 |29=>some [(3,0),(3,0)]
 |30=>some [(3,0)]
 |31=>some [(3,0),(3,0)]
 |32=>some [(4,0),(3,0)]
 |33=>some [(4,0)]
 |34=>some [(4,0),(3,1)]
 |35=>some [(9,1)]
 |36=>some [(1,0)]
 |37=>some [(7,0)]
 |40=>some [(3,0)]
 |41=>some [(3,0),(3,0)]
 |42=>some [(3,0)]
 |_=>none
def jI:List Int:=[1,2,3,4,6,7,8,9,10,11,12,13,14,15,16,20,21,22,23,24,25,26,27,28,29,30,31,32,33,34,35,36,37,40,41,42]
theorem C3(k:Int)(a:k ∉ jI):GH k=none/\ru k=⟨#[]⟩:=by
 simp only[jI,gi,mE,mI,not_or]at a
 obtain⟨b,j,v,F,J,K,L,ad,c,d,e,f,g,h,i,l,m,n,o,p,q,r,s,t,u,w,x,y,z,A,B,C,E,G,H,I⟩:=a
 constructor
 ·unfold GH;split<;>first|rfl|contradiction
 ·unfold ru;split<;>first|rfl|contradiction
theorem EG(k:Int)(d:k∈jI):∃a,GH k=some a/\Lib.fields (ru k).data.toList=a.map (fun x=>vI x.1 x.2)/\(∀x∈a,x.1<10/\x.2<3)/\(ru k).size<100/\(∀(j:Nat) b,(ru k).data.toList[j]?=some b->b.toNat<128)/\a.length<10:=by
 have e:∀(c:List UInt8),(c.all fun b=>decide (b.toNat<128))=true->∀(j:Nat) b,c[j]?=some b->b.toNat<128:=fun c g j b f=>by simpa using List.all_eq_true.1 g b (bJ f)
 simp only[jI,gi,mE,mI]at d
 rcases d with rfl|rfl|rfl|rfl|rfl|rfl|rfl|rfl|rfl|rfl|rfl|rfl|rfl|rfl|rfl|rfl|rfl|rfl|rfl|rfl|rfl|rfl|rfl|rfl|rfl|rfl|rfl|rfl|rfl|rfl|rfl|rfl|rfl|rfl|rfl|rfl
 all_goals exact⟨_,rfl,rfl,by decide,by decide,e _ (by decide),by decide⟩
theorem abv(k:Int)(w:World)(a:k=1\/k=2\/k=3\/k=4\/k=6\/k=7\/k=8\/k=9\/k=10):Calls Tryz.prog 175 #[.int .i64 k] w fun e b=>e= .returned (.tuple #[.string (ru k),.bool true])/\b=w:=by
 rcases a with rfl|rfl|rfl|rfl|rfl|rfl|rfl|rfl|rfl
 all_goals
  simp only[ru]
  go_in
  go_wp2
  go_ret2
  exact⟨rfl,rfl⟩
theorem abw(k:Int)(w:World)(a:k=11\/k=12\/k=13\/k=14\/k=15\/k=16\/k=20\/k=21\/k=22):Calls Tryz.prog 175 #[.int .i64 k] w fun e b=>e= .returned (.tuple #[.string (ru k),.bool true])/\b=w:=by
 rcases a with rfl|rfl|rfl|rfl|rfl|rfl|rfl|rfl|rfl
 all_goals
  simp only[ru]
  go_in
  go_wp2
  go_ret2
  exact⟨rfl,rfl⟩
theorem abx(k:Int)(w:World)(a:k=23\/k=24\/k=25\/k=26\/k=27\/k=28\/k=29\/k=30\/k=31):Calls Tryz.prog 175 #[.int .i64 k] w fun e b=>e= .returned (.tuple #[.string (ru k),.bool true])/\b=w:=by
 rcases a with rfl|rfl|rfl|rfl|rfl|rfl|rfl|rfl|rfl
 all_goals
  simp only[ru]
  go_in
  go_wp2
  go_ret2
  exact⟨rfl,rfl⟩
theorem aby(k:Int)(w:World)(a:k=32\/k=33\/k=34\/k=35\/k=36\/k=37\/k=40\/k=41\/k=42):Calls Tryz.prog 175 #[.int .i64 k] w fun e b=>e= .returned (.tuple #[.string (ru k),.bool true])/\b=w:=by
 rcases a with rfl|rfl|rfl|rfl|rfl|rfl|rfl|rfl|rfl
 all_goals
  simp only[ru]
  go_in
  go_wp2
  go_ret2
  exact⟨rfl,rfl⟩
theorem Km(k:Int)(w:World)(a:k ∉ jI):Calls Tryz.prog 175 #[.int .i64 k] w fun e b=>e= .returned (.tuple #[.string ⟨#[]⟩,.bool false])/\b=w:=by
 simp only[jI,gi,mE,mI,not_or]at a
 obtain⟨c,m,y,I,ad,af,ak,al,d,f,g,h,i,j,l,n,o,p,q,r,s,t,u,v,x,z,A,B,C,E,F,G,H,J,K,L⟩:=a
 go_in
 go_wp2
 go_ret2
 exact⟨rfl,rfl⟩
theorem EH(k:Int)(w:World):Calls Tryz.prog 175 #[.int .i64 k] w fun e c=>e= .returned (.tuple #[.string (ru k),.bool (GH k).isSome])/\c=w:=by
 by_cases h:k∈jI
 ·obtain⟨d,a,_⟩:=EG k h
  rw[a,Option.isSome_some]
  simp only[jI,gi,mE,mI]at h
  rcases(show(k=1\/k=2\/k=3\/k=4\/k=6\/k=7\/k=8\/k=9\/k=10)\/(k=11\/k=12\/k=13\/k=14\/k=15\/k=16\/k=20\/k=21\/k=22)\/(k=23\/k=24\/k=25\/k=26\/k=27\/k=28\/k=29\/k=30\/k=31)\/(k=32\/k=33\/k=34\/k=35\/k=36\/k=37\/k=40\/k=41\/k=42) by omega) with h|h|h|h
  ·exact abv k w h
  ·exact abw k w h
  ·exact abx k w h
  ·exact aby k w h
 ·obtain⟨a,b⟩:=C3 k h
  rw[a,b]
  exact Km k w h
def Ag(n:Nat):List (Nat×Nat):=List.replicate n (5,0)++[(3,0),(3,1)]
def Kn(n:Nat):ByteArray:=⟨(Lib.repeatL [116,97,114,103,101,116,32] n).toArray⟩++⟨#[101,120,112,114,32,101,120,112,114,42]⟩
theorem uI(n:Nat):(Kn n).data.toList=Lib.repeatL [116,97,114,103,101,116,32] n++[101,120,112,114,32,101,120,112,114,42]:=by
 unfold Kn
 rw[iB]
 simp
theorem vL:∀n,Lib.fields (Lib.repeatL [116,97,114,103,101,116,32] n++[101,120,112,114,32,101,120,112,114,42])=(Ag n).map fun x=>vI x.1 x.2
 |0=>by decide
 |n+1=>by
  have b:=vL n
  have a:Lib.fields (Lib.repeatL [116,97,114,103,101,116,32] (n+1)++[101,120,112,114,32,101,120,112,114,42])=[116,97,114,103,101,116]::Lib.fields (Lib.repeatL [116,97,114,103,101,116,32] n++[101,120,112,114,32,101,120,112,114,42]):=by
   rw[Lib.repeatL]
   rfl
  rw[a,b]
  rfl
theorem GI(n:Nat):∀(j:Nat) b,(Kn n).data.toList[j]?=some b->b.toNat<128:=by
 rw[uI]
 have c:∀(a:List UInt8),(a.all fun b=>decide (b.toNat<128))=true->∀b∈a,b.toNat<128:=fun a d b hb=>by simpa using List.all_eq_true.1 d b hb
 have e:∀n,∀b∈Lib.repeatL [116,97,114,103,101,116,32] n,b.toNat<128:=by
  intro n
  induction n with
  |zero=>intro b hb;simp[Lib.repeatL]at hb
  |succ n f=>
   intro b hb
   rw[Lib.repeatL]at hb
   rcases List.mem_append.1 hb with hb|hb
   ·exact c _ (by decide) b hb
   ·exact f b hb
 intro j b hb
 rcases List.mem_append.1 (bJ hb) with h|h
 ·exact e n b h
 ·exact c _ (by decide) b h
theorem Ko(n:Nat):(Kn n).size=7*n+10:=by
 have a:=congrArg List.length (uI n)
 rw[aD,Lib.repeatL_length]at a
 simp at a
 omega
theorem aeu(n:Nat):∀x∈Ag n,x.1<10/\x.2<3:=by
 intro x hx
 unfold Ag at hx
 rcases List.mem_append.1 hx with hx|hx
 ·rw[(List.mem_replicate.1 hx).2];decide
 ·simp at hx;rcases hx with rfl|rfl<;>decide
theorem EI(w:World)(b:Nat)(u t x v y:Int)(n:Nat)(q:n<=200)(vk:Value)(ks:List Int)(g:ga w vk ks)(p:ks.length<=1048576)(j:∀W,Below w.heap.size w W->Lib.TabIs Tryz.prog W "strings.asciiSpace" .u8 Lib.asciiSpaceTab)
  (f:w.heap[b]?=some (.cells #[.int .i64 u,.int .i64 t,.int .i64 x,.int .i64 v,.int .i64 y,vk,.int .i64 (n:Int)] 155 (0,0))):
  Calls Tryz.prog 123 #[.iface 152 (.pointer (some ⟨b,0,none⟩))] w fun e z=>e= .returned (.bool (ey (Ag n) ks))/\Below w.heap.size w z:=by
 have G:=fun w=>asT b w 152 (by decide)
 have h:=Gu n w q
 have a:=fun W (i:Below w.heap.size w W)=>rD W (Kn n) (Ag n) vk ks (by rw[uI];exact vL n) (aeu n) (by rw[Ko];omega) (GI n) (j W i) (g.below i) p (by unfold Ag;rw[aD,List.length_replicate];simp;omega)
 obtain⟨l,m,rfl⟩:=g.form
 have c:w.cell? ⟨b,5,none⟩=some (.slice l ks.length m):=by rw[au _ _ _ _ _ _ f];rfl
 have F:w.cell? ⟨b,6,none⟩=some (.int .i64 (n:Int)):=by rw[au _ _ _ _ _ _ f];rfl
 have r:((⟨(Lib.repeatL [116,97,114,103,101,116,32] n).toArray⟩:ByteArray)).size=7*n:=by
  have e:((⟨(Lib.repeatL [116,97,114,103,101,116,32] n).toArray⟩:ByteArray)).size=(Lib.repeatL [116,97,114,103,101,116,32] n).length:=by simp[ByteArray.size]
  rw[e,Lib.repeatL_length];simp;omega
 unfold Kn at a
 generalize ey (Ag n) ks=C at a⊢
 generalize ks.length=B at a c
 generalize (⟨(Lib.repeatL [116,97,114,103,101,116,32] n).toArray⟩:ByteArray)=E at a h r
 have k:=aj c
 clear f g j c
 go_in
 go_wp21
 refine h.mono ?_
 rintro e A ⟨rfl,d⟩
 have c:=ai d k.out
 have s:=a A d
 clear a h
 go_wp21
 refine s.mono ?_
 rintro e H ⟨rfl,o⟩
 go_wp21
 go_ret
 exact⟨rfl,d.trans (o.mono d.size)⟩
theorem asS(k:Int)(c:dL k≠1)(b:Nat)(w:World):(Instr.typeAssert (.iface (jd (dL k)) (.pointer (some ⟨b,0,none⟩))) 45 152 true).run Tryz.prog w= .ok (.tuple #[.pointer none,.bool false]) w:=by
 have a:=c
 rcases yE k with g|g|g|g|g|g|g<;>rw[g]at a⊢
 all_goals first|exact absurd rfl a|exact asF b w _ _ (by decide) (by decide) (by decide)
def rkB(k:Int)(ks:List Int):Bool:=match GH k with|some a=>ey a ks|none=>false
theorem EJ(w:World)(b:Nat)(k:Int)(i:dL k≠1)(vk:Value)(ks:List Int)(f:ga w vk ks)(v:ks.length<=1048576)(j:Lib.TabIs Tryz.prog w "strings.asciiSpace" .u8 Lib.asciiSpaceTab)
  (E:w.cell? ⟨b,0,none⟩=some (.int .i64 k)) (r:w.cell? ⟨b,5,none⟩=some vk):
  Calls Tryz.prog 123 #[gC k b] w fun e y=>e= .returned (.bool (rkB k ks))/\Below w.heap.size w y:=by
 have n:=fun w=>asS k i b w
 have o:=fun w=>ou k b w
 have p:=fun w=>de b w
 have a:=fun w=>EH k w
 unfold gC rkB
 by_cases g:k∈jI
 ·obtain⟨q,c,d,l,s,m,t⟩:=EG k g
  have h:=rD w (ru k) q vk ks d l (by omega) m j f v (by omega)
  rw[c]at a⊢
  simp only[Option.isSome_some]at a⊢
  obtain⟨C,F,rfl⟩:=f.form
  generalize ks.length=z at h r
  generalize ey q ks=A at h⊢
  generalize ru k=B at h a
  generalize jd (dL k)=x at n o⊢
  clear f j d l s m t c g i
  go_in
  go_wp2_with (first|(go_at_call 307;refine dj (p _) ?_)|(go_at_call 175;refine dj (a _) ?_)|(go_at_call 174;refine h.mono ?_;rintro e G ⟨rfl,u⟩))
  go_ret
  exact⟨rfl,u⟩
 ·obtain⟨c,d⟩:=C3 k g
  rw[c,d]at a
  rw[c]
  simp only[Option.isSome_none]at a⊢
  generalize jd (dL k)=x at n o⊢
  clear f j g i c d
  go_in
  go_wp2_with (first|(go_at_call 307;refine dj (p _) ?_)|(go_at_call 175;refine dj (a _) ?_))
  go_ret
  exact⟨rfl,ag _ _⟩
open Go.Maps Go.WideMaps
def ffB(N:Nd)(L:Nat):Nat->Bool
 |0=>decide (1<=(N.nm.length:Int)/\(N.nm.length:Int)<=yD N.k)&&qr N.nm N.nm.length 0
 |1=>decide (1<=N.n/\N.n<(L:Int))
 |2=>true
 |3=>txB N.k N.x
 |4=>if N.k=30 then(decide ((19:Int)<=N.op)&&decide (N.op<=22)) else(decide ((1:Int)<=N.op)&&decide (N.op<=18))
 |5=>qr N.nm N.nm.length 0
 |_=>true
theorem Ah(w:World)(lb mb:Nat)(h:Value)(i:Lk w lb mb h)(b:Nat)(N:Nd)(vn:Value)(c:Int)(m:Option Addr)(L ck:Nat)(v:L<=1048576)(p:bp w vn N.nm)(o:N.nm.length<=1048576)(q:∀s∈N.nm,s.size<=1048576)(z:N.x.size<=1048576)(a:gl w b N vn c (.slice m L ck)):
  Calls Tryz.prog 122 #[.pointer (some ⟨lb,0,none⟩),gC N.k b] w fun e d=>e= .returned (.bool (ffB N L (dL N.k)))/\Below w.heap.size w d:=by
 unfold gl at a
 unfold gC
 have g:∀{j:Bool},(Calls Tryz.prog 122 #[.pointer (some ⟨lb,0,none⟩),.iface (jd (dL N.k)) (.pointer (some ⟨b,0,none⟩))] w fun e d=>e= .returned (.bool j)/\d=w)->(Calls Tryz.prog 122 #[.pointer (some ⟨lb,0,none⟩),.iface (jd (dL N.k)) (.pointer (some ⟨b,0,none⟩))] w fun e d=>e= .returned (.bool j)/\Below w.heap.size w d):=fun y=>y.mono fun e d ⟨r,u⟩=>⟨r,u ▸ ag _ _⟩
 rcases yE N.k with hc|hc|hc|hc|hc|hc|hc
 ·refine g ?_;rw[hc]at a⊢;exact ff0 w lb mb h i b N.k N.f N.t N.l c _ vn N.nm p o q a
 ·rw[hc]at a⊢;exact ff1 w lb b N.k N.f N.t N.l c N.n m L ck v a
 ·refine g ?_;rw[hc]at a⊢;exact ff2 w lb b
 ·rw[hc]at a⊢;exact ff3 w lb mb h i b N.k N.f N.t N.l c _ N.x (by omega) a
 ·refine g ?_;rw[hc]at a⊢;exact ff4 w lb b N.k N.f N.t N.l c N.op _ a
 ·refine g ?_;rw[hc]at a⊢;exact ff5 w lb mb h i b N.k N.f N.t N.l c _ vn (decide (N.op=1)) N.nm p o q a
 ·refine g ?_;rw[hc]at a⊢;exact ff6 w lb b
theorem gl.cells{W:World}{b:Nat}{N:Nd}{vn c:Value}{d:Int}(a:gl W b N vn d c):W.cell? ⟨b,0,none⟩=some (.int .i64 N.k)/\W.cell? ⟨b,1,none⟩=some (.int .i64 N.f)/\W.cell? ⟨b,2,none⟩=some (.int .i64 N.t)/\W.cell? ⟨b,4,none⟩=some (.int .i64 d)/\W.cell? ⟨b,5,none⟩=some c/\∀j,W.frozen? ⟨b,j,none⟩=false:=by
 unfold gl at a
 refine⟨?_,?_,?_,?_,?_,fun j=>cA _ _ _ _ _ a⟩
 ·rw[au _ _ _ _ _ _ a];simp
 ·rw[au _ _ _ _ _ _ a];simp
 ·rw[au _ _ _ _ _ _ a];simp
 ·rw[au _ _ _ _ _ _ a];simp
 ·rw[au _ _ _ _ _ _ a];simp
def kfB(N:Nd)(ks:List Int):Bool:=if dL N.k=1 then ey (Ag N.n.toNat) ks else rkB N.k ks
theorem EK(w:World)(b:Nat)(N:Nd)(vn d:Value)(j:Int)(ks:List Int)(g:ga w d ks)(h:ks.length<=1048576)(i:∀W,Below w.heap.size w W->Lib.TabIs Tryz.prog W "strings.asciiSpace" .u8 Lib.asciiSpaceTab)(c:gl w b N vn j d)(p:dL N.k=1->0<=N.n/\N.n<=200):
  Calls Tryz.prog 123 #[gC N.k b] w fun e q=>e= .returned (.bool (kfB N ks))/\Below w.heap.size w q:=by
 unfold kfB
 by_cases a:dL N.k=1
 ·rw[ab a]
  obtain⟨r,s⟩:=p a
  unfold gl at c
  unfold gC
  rw[a]at c⊢
  have e:N.n=((N.n.toNat:Nat):Int):=by omega
  refine EI w b N.k N.f N.t N.l j N.n.toNat (by omega) d ks g h i ?_
  rw[<-e]
  exact c
 ·rw[aa a]
  obtain⟨m,_,_,_,o,_⟩:=c.cells
  exact EJ w b N.k a d ks g h (i w (ag _ _)) m o
