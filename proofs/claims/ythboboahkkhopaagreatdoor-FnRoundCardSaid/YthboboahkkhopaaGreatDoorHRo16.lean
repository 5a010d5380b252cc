import Derived.Test.YthboboahkkhopaaGreatDoorHRo13
import Derived.Test.YthboboahkkhopaaGreatDoorHRo15
set_option linter.all false
set_option maxRecDepth 100000
set_option maxHeartbeats 12800000
open Option renaming some->O,none->A0
open Go.IntKind renaming i64->U
open Go.Value renaming int->Y,slice->Ax,string->A9,pointer->B2,tuple->B6,string->Ce,int->Ck,ownBlock->C2
open ByteArray renaming empty->Z
open Go renaming Value->A2,World->A5,TypeId->B7,Calls->Ex
open Go.Obj renaming cells->Br
open Go.Ending renaming returned->B0
open Bool renaming true->B1,false->B4
open Go.Proofs.Tryz renaming prog->B3
namespace Go.Proofs.YthboboahkkhopaaGreatDoor
open Go.RowKit
variable{E:Int->ByteArray}{L ck n:Nat}{N:Nd}{T s:ByteArray}{W w w0:World}{k t:Int}{l:List Int}{ns:List Nd}{v vk vn vt:Value}
def dt(N:Nd)(j:Nat):Int:=N.ks.getD j 0
def gC(l:List ByteArray):ByteArray:=l.foldl (· ++·) Z
def lB(x:ByteArray):ByteArray:=⟨#[40]⟩++x++⟨#[41]⟩
def iL(ns:List Nd)(E:Int->ByteArray)(k least:Int):ByteArray:=if ij (ab ns k).k (ab ns k).op<least then lB (E k) else E k
def wh(N:Nd)(a:Int):Int:=if rL N.k N.op=a then a+1 else a
def AL(ns:List Nd)(E:Int->ByteArray)(N:Nd)(sign:ByteArray)(a:Int):ByteArray:=iL ns E (dt N 0) (wh N a)++sign++iL ns E (dt N 1) (rL N.k N.op)
def vp(N:Nd):Bool:=N.k==30&&N.op==19
def unS(ns:List Nd)(N:Nd):ByteArray:=if N.op=21 then⟨#[110,111,116,32]⟩ else if N.op=22 then⟨#[35]⟩ else if N.op=20 then⟨#[126]⟩ else if vp (ab ns (dt N 0))=B1 then⟨#[45]⟩++⟨#[32]⟩ else⟨#[45]⟩
def unB(ns:List Nd)(E:Int->ByteArray)(N:Nd):ByteArray:=unS ns N++iL ns E (dt N 0) 11
def El(ns:List Nd)(E:Int->ByteArray)(k:Int):ByteArray:=if lF (ab ns k).k=B1 then E k else lB (E k)
def Cf(N:Nd):ByteArray:=
 if N.k=20 then⟨#[110,105,108]⟩ else if N.k=21 then⟨#[116,114,117,101]⟩ else if N.k=22 then⟨#[102,97,108,115,101]⟩ else if N.k=23 then tA N.n
 else if N.k=24\/N.k=26 then N.x else if N.k=25 then eD (dA N.x) else if N.k=27 then⟨#[46,46,46]⟩ else Z
def sj(ns:List Nd)(E:Int->ByteArray)(X:Nd):ByteArray:=
 if X.k=41 then⟨#[91]⟩++E (dt X 0)++⟨#[93,32,61,32]⟩++E (dt X 1) else if X.k=42 then(⟨#[46]⟩++X.x++⟨#[32,61,32]⟩)++E (dt X 0) else E (dt X 0)
def abI(ns:List Nd)(E:Int->ByteArray)(N:Nd):ByteArray:=⟨#[123]⟩++bK (N.ks.map λk=>sj ns E (ab ns k))++⟨#[125]⟩
def xe(S:Int->Nat->ByteArray)(ks:List Int)(tab:Nat):ByteArray:=
 if ks=[] then⟨#[123,125]⟩ else⟨#[123]⟩++gC (ks.map λk=>fD (tab+1)++S k (tab+1))++fD tab++⟨#[125]⟩
def Cg(N:Nd):ByteArray:=⟨#[40]⟩++bK N.nm++(if N.op=1 then(if N.nm=[] then⟨#[46,46,46]⟩ else dH++⟨#[46,46,46]⟩) else Z)++⟨#[41,32]⟩
def zu(ns:List Nd)(S:Int->Nat->ByteArray)(N:Nd)(tab:Nat):ByteArray:=Cg N++xe S (ab ns (dt N 0)).ks tab
def prE(ns:List Nd)(E:Int->ByteArray)(S:Int->Nat->ByteArray)(N:Nd)(tab:Nat):ByteArray:=
 if N.k=28 then AL ns E N ⟨#[32,97,110,100,32]⟩ (ij N.k N.op)
 else if N.k=29 then AL ns E N ⟨#[32,111,114,32]⟩ (ij N.k N.op)
 else if N.k=31 then AL ns E N (⟨#[32]⟩++Am (60+N.op)++⟨#[32]⟩) (ij N.k N.op)
 else if N.k=30 then unB ns E N
 else if N.k=32 then El ns E (dt N 0)++⟨#[91]⟩++E (dt N 1)++⟨#[93]⟩
 else if N.k=33 then El ns E (dt N 0)++(⟨#[46]⟩++N.x)
 else if N.k=34 then El ns E (dt N 0)++⟨#[40]⟩++bK ((N.ks.drop 1).map E)++⟨#[41]⟩
 else if N.k=35 then abI ns E N
 else if N.k=36 then⟨#[102,110]⟩++zu ns S N tab
 else if N.k=37 then lB (E (dt N 0))
 else Cf N
def wj(ns:List Nd)(E:Int->ByteArray)(S:Int->Nat->ByteArray)(a:Int->ByteArray->ByteArray)(N:Nd)(b:ByteArray)(tab:Nat):ByteArray:=
 b++E (dt N 0)++⟨#[32]⟩++xe S (ab ns (dt N 1)).ks tab++
  (if N.ks.length<3 then Z else if(ab ns (dt N 2)).k=7 then a (dt N 2) ⟨#[32,101,108,105,102,32]⟩ else⟨#[32,101,108,115,101,32]⟩++xe S (ab ns (dt N 2)).ks tab)
def nm0(N:Nd):ByteArray:=N.nm.getD 0 Z
def prS(ns:List Nd)(E:Int->ByteArray)(S:Int->Nat->ByteArray)(a:Int->ByteArray->ByteArray)(N:Nd)(tab:Nat):ByteArray:=
 if N.k=1 then xe S N.ks tab
 else if N.k=2 then⟨#[108,101,116,32]⟩++bK N.nm++(if N.ks=[] then Z else⟨#[32,61,32]⟩++bK (N.ks.map E))
 else if N.k=3 then(⟨#[99,111,110,115,116,32]⟩++nm0 N++⟨#[32,61,32]⟩)++E (dt N 0)
 else if N.k=4 then(⟨#[102,110,32]⟩++nm0 N)++zu ns S (ab ns (dt N 0)) tab
 else if N.k=5 then bK ((N.ks.take N.n.toNat).map E)++⟨#[32,61,32]⟩++bK ((N.ks.drop N.n.toNat).map E)
 else if N.k=6 then E (dt N 0)
 else if N.k=7 then a (-1) ⟨#[105,102,32]⟩
 else if N.k=8 then⟨#[119,104,105,108,101,32]⟩++E (dt N 0)++⟨#[32]⟩++xe S (ab ns (dt N 1)).ks tab
 else if N.k=9\/N.k=10 then⟨#[102,111,114,32]⟩++bK N.nm++(if N.k=9 then⟨#[32,61,32]⟩ else⟨#[32,105,110,32]⟩)++bK ((N.ks.take (N.ks.length-1)).map E)++⟨#[32]⟩++xe S (ab ns (dt N (N.ks.length-1))).ks tab
 else if N.k=11 then⟨#[98,114,101,97,107]⟩
 else if N.k=12 then⟨#[110,101,120,116]⟩
 else if N.k=13 then⟨#[114,101,116,117,114,110]⟩++(if N.ks=[] then Z else⟨#[32]⟩++bK (N.ks.map E))
 else if N.k=14 then⟨#[116,114,121,32]⟩++xe S (ab ns (dt N 0)).ks tab++⟨#[32,99,97,116,99,104,32]⟩++bK N.nm++⟨#[32]⟩++xe S (ab ns (dt N 1)).ks tab
 else if N.k=15 then⟨#[116,104,114,111,119,32]⟩++E (dt N 0)
 else if N.k=16 then⟨#[100,101,102,101,114,32]⟩++E (dt N 0)
 else Z
mutual
def qv(ns:List Nd):Nat->Int->Nat->ByteArray
 |0,_,_=>Z
 |f+1,i,tab=>prE ns (λk=>qv ns f k tab) (λk t=>pI ns f k t) (ab ns i) tab
def pI(ns:List Nd):Nat->Int->Nat->ByteArray
 |0,_,_=>Z
 |f+1,i,tab=>prS ns (λk=>qv ns f k tab) (λk t=>pI ns f k t) (λ_ w=>wj ns (λk=>qv ns f k tab) (λk t=>pI ns f k t) (λk w=>sr ns f k w tab) (ab ns i) w tab) (ab ns i) tab
def sr(ns:List Nd):Nat->Int->ByteArray->Nat->ByteArray
 |0,_,_,_=>Z
 |f+1,i,w,tab=>wj ns (λk=>qv ns f k tab) (λk t=>pI ns f k t) (λk w=>sr ns f k w tab) (ab ns i) w tab
end
def fa(ns:List Nd):ByteArray:=gC ((ab ns ((ns.length:Int)-1)).ks.map λk=>pI ns ns.length k 0++⟨#[10]⟩)
def abJ(ns:List Nd):ByteArray:=if 65536<(fa ns).size then Z else fa ns
def A1{b:Nat}{w':A5}(o:Obj)(h:Kq b (w.alloc o) w'):Kq b w w':=(Kq.of_below ((ah _ w).alloc (af _) o)).trans h
def afo(g:A5)(j F E:A2)(N:Nd)(T:ByteArray)(t:Int)(w:A5)(h:Pr g j T t w)(v:20<=N.k/\N.k<=27)(ao: -9223372036854775808<=N.n)(ap:N.n<=9223372036854775807)(u:N.k=25->N.x.size<=4000)(s:T.size+(Cf N).size<=140737488355328):
  Ex B3 137 #[B2 (O ⟨g.heap.size,0,A0⟩),jG N F E] w λe w'=>e= B0 (B6 #[])/\Pr g j (T++Cf N) t w'/\Kq g.heap.size w w':=by
 have H:be w (w.alloc (Br #[Y U N.k,Y U N.f,Y U N.t,Y U N.l,Y U N.op,Y U N.n,A9 N.x,F,E] 61)):=(ah _ w).alloc (af _) _;have i:Hid (Pr g j T t (w.alloc (Br #[Y U N.k,Y U N.f,Y U N.t,Y U N.l,Y U N.op,Y U N.n,A9 N.x,F,E] 61))/\be w (w.alloc (Br #[Y U N.k,Y U N.f,Y U N.t,Y U N.l,Y U N.op,Y U N.n,A9 N.x,F,E] 61))):=⟨h.below H,H⟩;have q:=afj N.n ao ap;obtain⟨ar,a⟩:=aJ (Cf N);rw[a]at s⊢;unfold Cf at a;clear h H;unfold jG;have c:∀z:Int,N.k=z->(N.k==z)=B1:=λz e=>by simpa using e
 have b:∀z:Int,N.k≠z->(N.k==z)=B4:=λz e=>by simpa using e
 by_cases m:N.k=20
 .have K:=c _ m;rw[ae m]at a;subst a;clear m c b v u q;go_in;go_wp2_with (go_at_call 20;refine(gK g j _ _ _ _ i.1 s).mono ?_;rintro e B ⟨rfl,p2,d⟩);go_end0
  exact⟨rfl,p2,A1 _ d⟩
 have K:=b _ m;rw[aa m]at a;by_cases o:N.k=21
 .have L:=c _ o;rw[ae o]at a;subst a;clear m o c b v u q;go_in;go_wp2_with (go_at_call 20;refine(gK g j _ _ _ _ i.1 s).mono ?_;rintro e B ⟨rfl,p2,d⟩);go_end0
  exact⟨rfl,p2,A1 _ d⟩
 have L:=b _ o;rw[aa o]at a;by_cases p:N.k=22
 .have ad:=c _ p;rw[ae p]at a;subst a;clear m o p c b v u q;go_in;go_wp2_with (go_at_call 20;refine(gK g j _ _ _ _ i.1 s).mono ?_;rintro e B ⟨rfl,p2,d⟩);go_end0
  exact⟨rfl,p2,A1 _ d⟩
 have ad:=b _ p;rw[aa p]at a;by_cases r:N.k=23
 .have ak:=c _ r;rw[ae r]at a;rw[a]at q;clear m o p r c b v u a;go_in;go_wp2_with fail;refine gL (q _) λw1 y=>?_;have C:Hid (Pr g j T t w1/\be w w1):=⟨i.1.below y,i.2.trans (y.mono i.2.size)⟩;clear y q;go_wp2_with fail;refine(gK g j _ _ _ _ C.1 s).mono ?_;rintro e B ⟨rfl,p2,d⟩;go_wp2_with fail;go_end0
  exact⟨rfl,p2,(Kq.of_below C.2).trans d⟩
 have ak:=b _ r;rw[aa r]at a;by_cases e4:N.k=24\/N.k=26
 .rw[ae e4]at a;rcases e4 with e4|e4
  .have J:=c _ e4;rw[a]at i⊢;clear m o p r e4 c b v u q a;go_in;go_wp2_with (go_at_call 20;refine(gK g j _ _ _ _ i.1 s).mono ?_;rintro e B ⟨rfl,p2,d⟩);go_end0
   exact⟨rfl,p2,A1 _ d⟩
  .have J:(N.k==24)=B4:=b _ (by omega);have al:=c _ e4;rw[a]at i⊢;clear m o p r e4 c b v u q a;go_in;go_wp2_with (go_at_call 20;refine(gK g j _ _ _ _ i.1 s).mono ?_;rintro e B ⟨rfl,p2,d⟩);go_end0
   exact⟨rfl,p2,A1 _ d⟩
 rw[aa e4]at a;have J:(N.k==24)=B4:=b _ (by omega);have al:(N.k==26)=B4:=b _ (by omega);by_cases A:N.k=25
 .have an:=c _ A;rw[ae A]at a;have I:=aeB N.x (u A);rw[a]at I;clear m o p r e4 A c b v u a q;go_in;go_wp2_with fail;refine gL (I _) λw1 y=>?_;have C:Hid (Pr g j T t w1/\be w w1):=⟨i.1.below y,i.2.trans (y.mono i.2.size)⟩;clear y I;go_wp2_with fail;refine(gK g j _ _ _ _ C.1 s).mono ?_;rintro e B ⟨rfl,p2,d⟩;go_wp2_with fail;go_end0
  exact⟨rfl,p2,(Kq.of_below C.2).trans d⟩
 have an:=b _ A;rw[aa A]at a;have G:N.k=27:=by omega
 have au:=c _ G;rw[ae G]at a;subst a;clear m o p r e4 A G c b v u q;go_in;go_wp2_with (go_at_call 20;refine(gK g j _ _ _ _ i.1 s).mono ?_;rintro e B ⟨rfl,p2,d⟩);go_end0
 exact⟨rfl,p2,A1 _ d⟩
def ak1(op:Int):3<=(qL op).1/\(qL op).1<=10:=by
 unfold qL
 (repeat' split)
 all_goals exact⟨by decide,by decide⟩
def Em(k op:Int):0<ij k op/\ij k op<=12:=by
 have:=ak1 op;unfold ij
 (repeat' split)
 all_goals omega
def amC(ns:List Nd)(E:Int->ByteArray)(k:Int):iL ns E k 0=E k:=by
 unfold iL;rw[aa];have:=Em (ab ns k).k (ab ns k).op;omega
def xg(x:ByteArray):(lB x).size=x.size+2:=by unfold lB;rw[aq,aq];show 1+x.size+1=_;omega
def Jd{k:Nat}(h:k<ns.length):ns[k]?=O (ab ns (k:Int)):=by
 unfold ab;rw[ix,List.getD,az h];rfl
def OkE(b:A5)(c:A2)(ns:List Nd)(E:Int->ByteArray)(t:Int)(B:Nat):Prop:=
 ∀(k:Nat)(a:Int)(T:ByteArray)(W:A5),k<B->fy (ab ns k).k=B1->0<=a->a<=100->Pr b c T t W->T.size+(iL ns E k a).size<=140737488355328->
  Ex B3 80 #[B2 (O ⟨b.heap.size,0,A0⟩),Y U (k:Int),Y U a] W λd w'=>d= B0 (B6 #[])/\Pr b c (T++iL ns E k a) t w'/\Kq b.heap.size W w'
def OkE.zero{B:Nat}(h:OkE w0 vt ns E t B)(k:Nat)(T:ByteArray)(W:A5)(b:k<B)(a:fy (ab ns k).k=B1)(d:Pr w0 vt T t W)(c:T.size+(E k).size<=140737488355328):
  Ex B3 80 #[B2 (O ⟨w0.heap.size,0,A0⟩),Y U (k:Int),Y U 0] W λe w'=>e= B0 (B6 #[])/\Pr w0 vt (T++E k) t w'/\Kq w0.heap.size W w':=by
 have:=h k 0 T W b a (by omega) (by omega) d (by rw[amC];exact c);rw[amC]at this;exact this
def aht(a:A5)(f:A2)(ns:List Nd)(E:Int->ByteArray)(t:Int)(B:Nat)(F:OkE a f ns E t B)(r:dy a f ns)(H:ns.length<=1048576)(k:Nat)(s:k<B)(u:k<ns.length)(G:fy (ab ns k).k=B1)
  (T:ByteArray) (w:A5) (h:Pr a f T t w) (g:T.size+(El ns E k).size<=140737488355328):
  Ex B3 135 #[B2 (O ⟨a.heap.size,0,A0⟩),Y U (k:Int)] w λe w'=>e= B0 (B6 #[])/\Pr a f (T++El ns E k) t w'/\Kq a.heap.size w w':=by
 have I:=Jd u;obtain⟨al,p,rfl⟩:=r.form;obtain⟨v,rfl,ar,ap,C⟩:=(r.below h.bel).get I;have⟨z0,au,av⟩:=h.cells;have A:=C.c0;have d:=abk (ab ns k).k;have c:=mo h G F;have⟨j,q⟩:=aJ ns.length;rw[q]at z0 c H u;have ao:(k:Int)<(j:Int):=by omega
 have an:(0:Int)<=(k:Int):=by omega
 have⟨ak,b⟩:=aJ (El ns E k);rw[b]at g⊢;rw[q];unfold El at b;generalize (ab ns k).k=z at A d b;cases hb:lF z with
 |true=>
  rw[hb]at d b;rw[ae rfl]at b;subst b;go_in;go_wp2_with (go_at_call 185;refine iI (d _) ?_);refine(c.2.2.zero k T w s c.2.1 c.1 g).mono ?_;rintro e x ⟨rfl,p2,i⟩;go_wp2;exact bH (fK rfl _ _ _) rfl ⟨rfl,p2,i⟩
 |false=>
  rw[hb]at d b;rw[aa (by simp)]at b;subst b;rw[xg]at g;go_in;go_wp2_with (go_at_call 185;refine iI (d _) ?_);refine(gK a _ T _ t w c.1 (by show T.size+1<=_;omega)).mono ?_;rintro e x ⟨rfl,p2,i⟩;have m:=iK p2 i;go_wp2_with fail;refine(c.2.2.zero k _ x s c.2.1 m.1 (by rw[aq];show T.size+1+_<=_;omega)).mono ?_;rintro e l ⟨rfl,L,J⟩;have n:Hid (Pr a (Ax (O v) j p) (T++⟨#[40]⟩++E k) t l/\Kq a.heap.size w l):=⟨L,m.2.trans J⟩;go_wp2_with fail;refine(gK a _ _ _ t l n.1 (by rw[aq,aq];show T.size+1+_+1<=_;omega)).mono ?_;rintro e y ⟨rfl,ad,K⟩;have o:Hid (Pr a (Ax (O v) j p) (T++lB (E k)) t y/\Kq a.heap.size w y):=⟨by unfold lB;rw[<-aK,<-aK];exact ad,n.2.trans K⟩;go_wp2_with fail;go_end0
  exact⟨rfl,o.1,o.2⟩
open Go.Maps Go.WideMaps
structure Shr (s:ByteArray):Prop where
 sz:s.size<=3
 cs:Cs s 26
structure Lng (s:ByteArray):Prop where
 lo:20<=s.size
 hi:s.size<=4001
 dg:∀i,i<s.size->cJ (aA s i)=B1
 b0:aA s 0=48
 b1:aA s 1=49
def Sml(s:ByteArray):Prop:=s.size<=19/\Cs (eD (dA s)) 106
def G5:Nat->ByteArray
 |0=>⟨#[48,49,50,51,52,53,54,55,56,57]⟩
 |n+1=>G5 n++G5 n
def wm:∀n,(G5 n).size=10*2 ^ n
 |0=>rfl
 |n+1=>by rw[G5,aq,wm n,Nat.pow_succ];omega
def aoh(h:n<=8):(G5 n).size<=2560:=by
 have:=Nat.pow_le_pow_right (n:=2) (by decide) h;rw[wm];omega
structure DgT (t:ByteArray):Prop where
 dg:∀i,i<t.size->cJ (aA t i)=B1
 b0:aA t 0=48
 b1:aA t 1=49
def dgt:∀n,DgT (G5 n)
 |0=>⟨λi a=>by
  have:i<10:=a
  iterate 10 (obtain _|i:=i;· decide)
  omega,by decide,by decide⟩
 |n+1=>by
  have h:=dgt n;have b:=co h.b0;have c:=co h.b1;rw[G5];refine⟨λi a=>?_,by rw[rz,ae b];exact h.b0,by rw[rz,ae c];exact h.b1⟩;rw[aq]at a;rw[rz];split
  .exact h.dg i (by omega)
  .exact h.dg _ (by omega)
def DgT.lng{t:ByteArray}(h:DgT t)(c:20<=n)(d:n<=4001)(a:n<=t.size):Lng (t.extract 0 n):=by
 have f:(t.extract 0 n).size=n:=by rw[tK];omega
 refine⟨by omega,by omega,λb e=>?_,by rw[Ej t n 0 a (by omega)];exact h.b0,by rw[Ej t n 1 a (by omega)];exact h.b1⟩;rw[Ej t n b a (by omega)];exact h.dg b (by omega)
section
variable {C : Cd} {E : Bs} {w w' W : World} {c c1 c2 c3 : Cr} {z k y n : Int}
def Cw.set3(a:Cw C E W w c)(r:Int):Cw C E W (w.setCell ⟨E.cb,3,A0⟩ (Y U r)) ⟨c.p,c.q,r⟩:=
 have b:=Al (rq w E.cb) 3 (Y U r)
 ⟨a.cu.grown b (bg _ E.cb 3 _ _ _ a.cu.cur),Ke a.gr b⟩
def C8(d:Rc C 35 [Y U 6] c (Y U z) c1)(e:Rc C 35 [Y U k] c1 (Y U y) c2)(h:(z=0/\k=3/\IntKind.i64.wrap (9223372036854775807-y)=n)\/(z=1/\k=3/\IntKind.i64.wrap (-9223372036854775808+y)=n)\/(z=2/\k=70000/\IntKind.i64.wrap (y-35000)=n)\/((z==0)=B4/\(z==1)=B4/\(z==2)=B4/\k=12/\IntKind.i64.wrap (y-3)=n)):Rc C 216 [] c (Y U n) c2:=by
 intro j p i;have f:=i.cw;rcases h with⟨rfl,rfl,a⟩|⟨rfl,rfl,a⟩|⟨rfl,rfl,a⟩|⟨l,m,o,rfl,a⟩;all_goals
  go_in;go_wp2_with fail;refine f.run d λw1 g _=>?_;go_wp2_with fail;refine g.run e λq b _=>?_;go_wp2;go_ret;exact⟨rfl,b.cu,b.gr⟩
def ak2(C:Cd)(c:Cr)(l:0<=c.p)(m:c.p<=800000000):∃n c',(-9223372036854775808<=n/\n<=9223372036854775807)/\(c.p<=c'.p/\c'.p<=c.p+3/\c'.r=c.r)/\Rc C 216 [] c (Y U n) c':=by
 have⟨f,h,o,k,g⟩:=oB C c 6;rcases(show f=0\/f=1\/f=2\/(f≠0/\f≠1/\f≠2) by omega) with d|d|d|d
 .obtain⟨e,b,j,i,a⟩:=oB C h 3;exact⟨9223372036854775807-e,b,by omega,by omega,C8 g a (.inl ⟨d,rfl,by rw[fh];omega⟩)⟩
 .obtain⟨e,b,j,i,a⟩:=oB C h 3;exact⟨-9223372036854775808+e,b,by omega,by omega,C8 g a (.inr (.inl ⟨d,rfl,by rw[fh];omega⟩))⟩
 .obtain⟨e,b,j,i,a⟩:=apD C h 70000 (by decide) (by decide) (by omega) (by omega);exact⟨e-35000,b,by omega,by omega,C8 g a (.inr (.inr (.inl ⟨d,rfl,by rw[fh];omega⟩)))⟩
 .obtain⟨e,b,j,i,a⟩:=oB C h 12;exact⟨e-3,b,by omega,by omega,C8 g a (.inr (.inr (.inr ⟨by simpa using d.1,by simpa using d.2.1,by simpa using d.2.2,rfl,by rw[fh];omega⟩)))⟩
def ahu(t:Rc C 35 [Y U 6] c (Y U 3) c1)(u:Rc C 35 [Y U 20] c1 (Y U 0) c2)(ap:c2.r<3)(ar:0<=c2.r)(v:Rc C 35 [Y U 3] ⟨c2.p,c2.q,c2.r+1⟩ (Y U z) c3)(l:0<=z/\z<3):Rc C 217 [] c (A9 ((G5 9).extract 0 (3999+z.toNat))) c3:=by
 intro ak av F;have w:=F.cw;have E:(G5 9).size=5120:=by rw[wm]
 go_in;go_wp2_with fail;refine w.run t λw1 x _=>?_;go_wp2_with fail;refine x.run u λax f _=>?_;have an:=f.cu.cells;have au:IntKind.i64.wrap (c2.r+1)=c2.r+1:=by rw[fh];omega
 have y:=am (f.set3 (c2.r+1));go_wp2;go_loop [3] (λe=>∃n:Nat,n<=9/\e= A9 (G5 n)) (λe=>6000-arJ e)
 case atStart=>exact⟨0,by decide,rfl⟩
 case round=>
  obtain⟨n,ao,rfl⟩:=hrel;by_cases B:n<=8
  .have K:=aoh B;have J:10<=(G5 n).size:=by rw[wm];have:=Nat.one_le_two_pow (n:=n);omega
   have d:((G5 n).size:Int)<4000:=by omega
   have h:G5 (n+1)=G5 n++G5 n:=rfl;generalize G5 n=a at K J d h;have I:=am h;go_wp2;go_round
   case rel=>exact⟨n+1,by omega,by rw[I.out]⟩
   case measure=>show 6000-(a++a).size<6000-a.size;rw[aq];omega
  .obtain rfl:n=9:=by omega
   have d:¬((G5 9).size:Int)<4000:=by omega
   have m:Hid (∀a b,a=G5 9->b=3999+z.toNat->Ce (a.extract 0 b)= A9 ((G5 9).extract 0 (3999+z.toNat))):=λa b i A=>by rw[i,A]
   have⟨a,k⟩:=aJ (G5 9);have s:=am k;rw[k]at E d⊢;have L:∀z:Int,0<=z->z<3->IntKind.i64.wrap (3999+z)=((3999+z.toNat:Nat):Int):=λz al i=>by rw[fh];omega
   have ad:=L z l.1 l.2;have G:(((3999+z.toNat:Nat):Int))<=(a.size:Int):=by omega
   have H:(0:Int)<=((3999+z.toNat:Nat):Int):=by omega
   have⟨b,j⟩:=aJ (3999+z.toNat);have o:=am j;rw[j]at ad G H;go_wp2_with fail;refine y.out.run v λa0 g _=>?_;go_wp2;go_ret;exact⟨congrArg Ending.returned (m.out a b s.out.symm o.out.symm),g.cu,g.gr⟩
def aaj(b:Rc C 35 [Y U 6] c (Y U z) c1)(h:(z=0/\s=⟨#[]⟩/\c2=c1)\/(z=2/\s=⟨#[97,34,98,92,99,10,100,9,101]⟩/\c2=c1)\/((z=4\/z=5)/\s=⟨#[116,101,120,116]⟩/\c2=c1)\/(z=3/\s=⟨#[116,101,120,116]⟩/\∃y,Rc C 35 [Y U 20] c1 (Y U y) c2/\((y==0)=B4\/(y=0/\¬c2.r<3)))):Rc C 217 [] c (A9 s) c2:=by
 intro j l i;have d:=i.cw;rcases h with⟨rfl,rfl,rfl⟩|⟨rfl,rfl,rfl⟩|⟨rfl|rfl,rfl,rfl⟩|⟨rfl,rfl,y,g,h⟩
 case inr.inr.inr=>
  rcases h with h|⟨rfl,h⟩;all_goals
   go_in;go_wp2_with fail;refine d.run b λw1 a _=>?_;go_wp2_with fail;refine a.run g λm e _=>?_;have k:=e.cu.cells;have f:=am e;go_wp2;go_ret;exact⟨rfl,f.out.cu,f.out.gr⟩
 all_goals
  go_in;go_wp2_with fail;refine d.run b λw1 a _=>?_;go_wp2;go_ret;exact⟨rfl,a.cu,a.gr⟩
def aqj(b:Rc C 35 [Y U 6] c (Y U 1) c1)(d:Rc C 35 [Y U 6] c1 (Y U y) c2)(e:Rc C 251 [Y U y] c2 (A9 s) c3):Rc C 217 [] c (A9 s) c3:=by
 intro j k i;have f:=i.cw;go_in;go_wp2_with fail;refine f.run b λw1 g _=>?_;go_wp2_with fail;refine g.run d λl h _=>?_;go_wp2_with fail;refine h.run e λm a _=>?_;go_wp2;go_ret;exact⟨rfl,a.cu,a.gr⟩
def aqk(C:Cd)(c:Cr)(x:0<=c.p)(y:c.p<=800000000)(z:0<=c.r):∃s c',((Sml s/\c'.r=c.r)\/(Lng s/\c.r<3/\c'.r=c.r+1))/\(c.p<=c'.p/\c'.p<=c.p+110)/\Rc C 217 [] c (A9 s) c':=by
 have⟨e,g,B,k,b⟩:=oB C c 6;rcases(show e=0\/e=1\/e=2\/e=3\/(e=4\/e=5) by omega) with d|d|d|d|d
 .exact⟨_,g,.inl ⟨⟨by decide,wg⟩,k.2⟩,by omega,aaj b (.inl ⟨d,rfl,rfl⟩)⟩
 .subst d;have⟨i,a,o,t,f⟩:=oB C g 6;obtain⟨v,rfl⟩:=lr o.1;have⟨s,h,A,m,j⟩:=ajI C a v (by omega) (by omega) (by omega);exact⟨s,h,.inl ⟨⟨by omega,(aog s).le (by omega)⟩,by omega⟩,by omega,aqj b f j⟩
 .exact⟨_,g,.inl ⟨⟨by decide,wg⟩,k.2⟩,by omega,aaj b (.inr (.inl ⟨d,rfl,rfl⟩))⟩
 .obtain⟨i,a,o,t,f⟩:=oB C g 20;by_cases l:i=0
  .by_cases n:a.r<3
   .subst d l;obtain⟨E,h,u,m,j⟩:=oB C ⟨a.p,a.q,a.r+1⟩ 3 (by decide) (by decide) (by show 0<=a.p;omega) (by show a.p<=_;omega);have w:h.p=a.p+1/\h.r=a.r+1:=m;exact⟨_,h,.inr ⟨(dgt 9).lng (by omega) (by omega) (by rw[wm];omega),by omega,by omega⟩,by omega,ahu b f n (by omega) j u⟩
   .exact⟨_,a,.inl ⟨⟨by decide,wg⟩,by omega⟩,by omega,aaj b (.inr (.inr (.inr ⟨d,rfl,i,f,.inr ⟨l,n⟩⟩)))⟩
  .exact⟨_,a,.inl ⟨⟨by decide,wg⟩,by omega⟩,by omega,aaj b (.inr (.inr (.inr ⟨d,rfl,i,f,.inl (by simpa using l)⟩)))⟩
 .exact⟨_,g,.inl ⟨⟨by decide,wg⟩,k.2⟩,by omega,aaj b (.inr (.inr (.inl ⟨d,rfl,rfl⟩)))⟩
end
abbrev bV(E:Bs):A2:= B2 (O ⟨E.bb,0,A0⟩)
def Txt(k:Int)(t:ByteArray):Prop:=(k≠25/\t.size<=19/\Cs t 90)\/(k=25/\(Sml t\/(Lng t/\t.size<=4000)))
def Txt.size{t:ByteArray}(h:Txt k t):t.size<=4000:=by
 rcases h with⟨_,h,_⟩|⟨_,h|⟨_,h⟩⟩
 .omega
 .have:=h.1;omega
 .exact h
def lJ(h:k≠25):Txt k ⟨#[]⟩:= .inl ⟨h,by decide,aof.le (by decide)⟩
def ahv(h:k≠25)(a:Shr s):Txt k s:=by
 by_cases b:s.size<=19
 .exact .inl ⟨h,b,a.cs.le (by decide)⟩
 .have:=a.sz;omega
structure C9 (N:Nd):Prop where
 nm:N.nm.length<=3
 ks:N.ks.length<=64
 x:Txt N.k N.x
 s:∀s∈N.nm,Shr s
 int:ac3 N
def bgN(N:Nd):Nat:=if 19<N.x.size then 1 else 0
def bigs(L:List Nd):Nat:=(L.map bgN).sum
def ahw(L M:List Nd):bigs (L++M)=bigs L+bigs M:=by unfold bigs;simp
abbrev TO(t:B7):Prop:=t≠61/\t≠89/\t≠41
def toS:TO 9:=by decide
def toI:TO 3:=by decide
structure Rwx where
 t:B7
 v:A2
 xs:List A2
abbrev rS(v:A2)(l:List ByteArray):Rwx:=⟨9,v,l.map Ce⟩
abbrev rI(v:A2)(l:List Int):Rwx:=⟨3,v,l.map (Ck U)⟩
def bR(R:List Rwx):List Nat:=R.flatMap λr=>r.v.ownBlock.toList
def bL(L:List Mb):List Nat:=L.flatMap λy=>y.vn.ownBlock.toList++y.vk.ownBlock.toList
structure Bd (C:Cd) (T:Int) (E:Bs) (W:A5) (c:Cr) (L:List Mb) (R:List Rwx):Prop where
 cu:Cu C E W c
 bb:E.base<=E.bb
 row:∃v,W.heap[E.bb]?=O (.cells #[cV E,v,.int .i64 (T-L.length)] 89 (0,0))/\W.ownsRow E.base 61 9 v L.length (im L)
 each:∀y∈L,W.ownsRow E.base 9 1 y.vn y.N.nm.length (y.N.nm.map Ce)/\W.ownsRow E.base 3 1 y.vk y.N.ks.length (y.N.ks.map (Ck .i64))
 rows:∀r∈R,TO r.t/\W.ownsRow E.base r.t 1 r.v r.xs.length r.xs
 sep:(bR R++bL L).Nodup
section
variable {C : Cd} {T : Int} {E : Bs} {W W' : World} {c c' : Cr} {L : List Mb} {R : List Rwx} {r : Rwx}
def Bd.lt(h:Bd C T E W c L R):E.cb<W.heap.size/\E.bb<W.heap.size/\E.base<=W.heap.size/\E.cb≠E.bb:=by
 have⟨e,b,_⟩:=h.row;have a:=h.cu.cur;refine⟨h.cu.lt,ai b,h.cu.lo.2,λd=>?_⟩;rw[d,b]at a;simp only[fI,nH]at a;exact absurd a.2.1 (by decide)
def Bd.below(h:Bd C T E W c L R)(a:be W W'):Bd C T E W' c L R:=by
 have⟨g,e,f⟩:=h.row;exact⟨h.cu.below a,h.bb,⟨g,(a.block _ h.lt.2.1).trans e,de f a⟩,λd b=>⟨de (h.each d b).1 a,de (h.each d b).2 a⟩,λd b=>⟨(h.rows d b).1,de (h.rows d b).2 a⟩,h.sep⟩
def Bd.ltR(h:Bd C T E W c L R):∀b∈bR R++bL L,b<W.heap.size:=by
 intro b hb;rcases List.mem_append.1 hb with hb|hb
 .obtain⟨d,a,e⟩:=List.mem_flatMap.1 hb;exact((h.rows d a).2.lt b (Option.mem_toList.1 e)).2
 .obtain⟨d,a,e⟩:=List.mem_flatMap.1 hb;rcases List.mem_append.1 e with e|e
  .exact((h.each d a).1.lt b (Option.mem_toList.1 e)).2
  .exact((h.each d a).2.lt b (Option.mem_toList.1 e)).2
def Bd.went(h:Bd C T E W c L R)(f:W.grownBy W' (O E.cb))(p:Cu C E W' c'):Bd C T E W' c' L R:=by
 have g:=h.lt;have⟨r,n,o⟩:=h.row;have e:∀{d k i:Nat}{l:A2}{m:List A2},W.ownsRow E.base d k l i m->d≠41->W'.ownsRow E.base d k l i m:=λj q=>j.kept f (.inr (oF j h.cu.cur (ez q)));exact⟨p,h.bb,⟨r,(f.block _ g.2.1 (λd=>g.2.2.2 (bz d).symm)).trans n,e o (by decide)⟩,λb a=>⟨e (h.each b a).1 (by decide),e (h.each b a).2 (by decide)⟩,λb a=>⟨(h.rows b a).1,e (h.rows b a).2 (h.rows b a).1.2.2⟩,h.sep⟩
def Bd.hot{r':Rwx}(h:Bd C T E W c L (r::R))(n:W.grownBy W' r.v.ownBlock)(ht:TO r'.t)(K:W'.ownsRow E.base r'.t 1 r'.v r'.xs.length r'.xs)(H:∀b,r'.v.ownBlock=O b->r.v.ownBlock=O b\/W.heap.size<=b):Bd C T E W' c L (r'::R)/\Below E.base W W':=by
 have I:=h.lt;have⟨v,G,y⟩:=h.row;have j:=h.rows r bq;have p:TO r.t:=j.1;have d:Below E.base W W':=(ah _ W).grown n I.2.2.1 (λk f=>(j.2.lt k f).1);have z:=h.sep;have w:bR (r::R)=r.v.ownBlock.toList++bR R:=rfl;rw[w,dj,rl]at z;obtain⟨ap,ak,al⟩:=z;have m:∀b∈bR R++bL L,r.v.ownBlock≠O b:=λb d a=>al b (Option.mem_toList.2 a) b d rfl;have l:∀{a size o:Nat}{g:A2}{s:List A2},W.ownsRow E.base a size g o s->(∀b,g.ownBlock=O b->r.v.ownBlock≠O b)->W'.ownsRow E.base a size g o s:=λ{a size o g s} ad J=>by
  refine ad.kept n ?_;cases hu:g.ownBlock with
  |none=>exact .inl rfl
  |some b=>exact .inr (λa=>J b hu a.symm)
 have A:∀{k:Nat}{u:Array A2}{t:B7}{x:Nat×Nat},W.heap[k]?=O (Br u t x)->t≠r.t->W'.heap[k]?=O (Br u t x):=λf ht=>(n.block _ (ai f) (λa=>oF j.2 f ht a.symm)).trans f;refine⟨⟨⟨⟨h.cu.lo.1,di h.cu.lo.2 d.size⟩,h.cu.code.below d,A h.cu.cur (ez p.2.2)⟩,h.bb,⟨v,A G (ez p.2.1),l y (λb a B=>?_)⟩,λe hz=>⟨l (h.each e hz).1 (λb a=>m b (List.mem_append.2 (.inr (List.mem_flatMap.2 ⟨e,hz,List.mem_append.2 (.inl (Option.mem_toList.2 a))⟩)))),l (h.each e hz).2 (λb a=>m b (List.mem_append.2 (.inr (List.mem_flatMap.2 ⟨e,hz,List.mem_append.2 (.inr (Option.mem_toList.2 a))⟩))))⟩,λe hz=>?_,?_⟩,d⟩
 .rcases y.2 with⟨q,_⟩|⟨F,an,ao,q,_,i,_⟩
  .rw[q]at a;simp[C2]at a
  .rw[q]at a;obtain rfl:F=b:=by simpa [C2] using a
   exact oF j.2 i (ez p.1) B
 .rcases List.mem_cons.1 hz with rfl|hz
  .exact⟨ht,K⟩
  .have:=h.rows e (dr _ hz);exact⟨this.1,l this.2 (λb a=>m b (List.mem_append.2 (.inl (List.mem_flatMap.2 ⟨e,hz,Option.mem_toList.2 a⟩))))⟩
 .show(r'.v.ownBlock.toList++bR R++bL L).Nodup;rw[dj,rl];refine⟨?_,ak,λb d c i a=>?_⟩
  .cases r'.v.ownBlock<;>simp
  .subst a;rcases H b (Option.mem_toList.1 d) with q|q
   .exact m b i q
   .have:=h.ltR b (by rw[w,dj];exact List.mem_append.2 (.inr i));omega
def Bd.new(h:Bd C T E W c L R){t:B7}(ht:TO t)(cs:Array A2)(r':Rwx)(f:r'.t=t)(i:(W.alloc (Br cs t)).ownsRow E.base t 1 r'.v r'.xs.length r'.xs)(b:r'.v.ownBlock=O W.heap.size):Bd C T E (W.alloc (Br cs t)) c L (r'::R):=by
 have a:=h.below (gc W (Br cs t));refine⟨a.cu,a.bb,a.row,a.each,λj hz=>?_,?_⟩
 .rcases List.mem_cons.1 hz with rfl|hz
  .rw[f];exact⟨ht,i⟩
  .exact a.rows j hz
 .show(r'.v.ownBlock.toList++bR R++bL L).Nodup;rw[dj,rl];refine⟨by rw[b];simp,h.sep,λe d c g k=>?_⟩;rw[b]at d;have:e=W.heap.size:=by simpa using d
  have:=h.ltR c g;omega
def Bd.newI(h:Bd C T E W c L R)(ks:List Int)(a:ks.length<=100):Bd C T E (W.alloc (Br (ks.map (Ck U)).toArray 3)) c L (rI (Ax (O ⟨W.heap.size,0,A0⟩) ks.length ks.length) ks::R):=by
 refine h.new toI _ _ rfl ?_ rfl;have:=Cv (base:=E.base) (e:=3) (size:=1) W (ks.map (Ck U)).toArray ks.length h.lt.2.2.1 (by unfold maxLen;omega) (by simp);simpa using this
def Bd.nil(h:Bd C T E W c L R){t:B7}(ht:TO t):Bd C T E W c L (⟨t,Ax A0 0 0,[]⟩::R):=
 ⟨h.cu,h.bb,h.row,h.each,λa hz=>by
  rcases List.mem_cons.1 hz with rfl|hz
  .exact⟨ht,fE _ _ _ _⟩
  .exact h.rows a hz,h.sep⟩
def Bd.drop(h:Bd C T E W c L (r::R)):Bd C T E W c L R:=by
 have a:=h.sep;have b:bR (r::R)=r.v.ownBlock.toList++bR R:=rfl;rw[b,dj,rl]at a;exact⟨h.cu,h.bb,h.row,h.each,λe d=>h.rows e (dr _ d),a.2.1⟩
def Bd.swap{a:Rwx}(h:Bd C T E W c L (r::a::R)):Bd C T E W c L (a::r::R):=by
 refine⟨h.cu,h.bb,h.row,h.each,λf hz=>h.rows f ?_,?_⟩
 .simp only[pd]at hz⊢;rcases hz with hz|hz|hz<;>simp[hz]
 .have b:=h.sep;have d:bR (r::a::R)=r.v.ownBlock.toList++(a.v.ownBlock.toList++bR R):=rfl;have e:bR (a::r::R)=a.v.ownBlock.toList++(r.v.ownBlock.toList++bR R):=rfl;rw[d]at b;rw[e];refine List.Perm.nodup_iff ?_ |>.1 b
  rw[<-dj,<-dj (a.v.ownBlock.toList)];exact(List.perm_append_comm.append_right _).append_right _
def Bd.c0(h:Bd C T E W c L R):W.cell? ⟨E.bb,0,A0⟩=O (cV E)/\W.cell? ⟨E.bb,2,A0⟩=O (Y U (T-L.length)):=by
 have⟨f,b,e⟩:=h.row;have a:=λd=>aj W E.bb d _ _ _ b;exact⟨a 0,a 2⟩
def Bd.form{t:B7}{b:List A2}(h:Bd C T E W c L (⟨t,v,b⟩::R)):∃a c,v= Ax a b.length c:=cg (h.rows _ bq).2
def Bd.less(h:Bd C T E W c L R):Bd C (T-1) E (W.setCell ⟨E.bb,2,A0⟩ (Y U (T-L.length-1))) c L R/\Below E.base W (W.setCell ⟨E.bb,2,A0⟩ (Y U (T-L.length-1))):=by
 have p:=h.lt;have⟨q,g,n⟩:=h.row;have f:Below E.base W (W.setCell ⟨E.bb,2,A0⟩ (Y U (T-L.length-1))):=(ah _ W).setCell h.bb _;have d:∀{e k i:Nat}{l:A2}{m:List A2},W.ownsRow E.base e k l i m->e≠89->(W.setCell ⟨E.bb,2,A0⟩ (Y U (T-L.length-1))).ownsRow E.base e k l i m:=λj o=>Iz j (oF j g (ez o)) 2 _;refine⟨⟨⟨⟨h.cu.lo.1,di h.cu.lo.2 f.size⟩,h.cu.code.below f,(aC _ _ _ _ p.2.2.2).trans h.cu.cur⟩,h.bb,⟨q,?_,d n (by decide)⟩,λb a=>⟨d (h.each b a).1 (by decide),d (h.each b a).2 (by decide)⟩,λb a=>⟨(h.rows b a).1,d (h.rows b a).2 (h.rows b a).1.2.1⟩,h.sep⟩,f⟩;rw[show T-1-(L.length:Int)=T-L.length-1 by omega];exact bg _ E.bb 2 _ _ _ g
def Bd.push(h:Bd C (T-1) E W c L (rS vn N.nm::rI vk N.ks::R))(k:W.heap[E.bb]?=O (Br #[cV E,v,Y U (T-L.length-1)] 89 (0,0))){a:A5}{g r b:Nat}(ap:L.length+1=r)(A:a.ownsRow E.base 61 9 (Ax (O ⟨g,0,A0⟩) r b) r (im (L++[⟨N,vn,vk⟩])))(j:W.grownBy a v.ownBlock):
  Bd C T E (a.setCell ⟨E.bb,1,A0⟩ (Ax (O ⟨g,0,A0⟩) r b)) c (L++[⟨N,vn,vk⟩]) R/\Below E.base W (a.setCell ⟨E.bb,1,A0⟩ (Ax (O ⟨g,0,A0⟩) r b))/\a.heap[E.bb]?=O (Br #[cV E,v,Y U (T-L.length-1)] 89 (0,0)):=by
 subst ap;have⟨a2,u,w⟩:=h.row;obtain rfl:a2=v:=by rw[u]at k;simp at k;exact k.1
 have x:=h.lt;have n:∀{d:Nat}{s:Array A2}{q:B7}{t:Nat×Nat},W.heap[d]?=O (Br s q t)->q≠61->a.heap[d]?=O (Br s q t):=λe ar=>(j.block _ (ai e) (λf=>oF w e ar f.symm)).trans e;have o:=n k (by decide);have a1:∀d,d≠E.bb->(a.setCell ⟨E.bb,1,A0⟩ (Ax (O ⟨g,0,A0⟩) (L.length+1) b)).heap[d]?=a.heap[d]?:=λd e=>aC _ _ _ _ e;have i:∀{base f G z:Nat}{H:A2}{I:List A2},W.ownsRow base f G H z I->f≠61->f≠89->(a.setCell ⟨E.bb,1,A0⟩ (Ax (O ⟨g,0,A0⟩) (L.length+1) b)).ownsRow base f G H z I:=λF al an=>by
  refine Iz ?_ ?_ 1 _
  .obtain⟨ax,p⟩:=F;refine⟨ax,?_⟩;rcases p with p|⟨g,b,K,au,j,ao,a0⟩
   .exact .inl p
   .exact .inr ⟨g,b,K,au,j,n ao al,a0⟩
  .exact oF F u (ez an)
 have m:Below E.base W (a.setCell ⟨E.bb,1,A0⟩ (Ax (O ⟨g,0,A0⟩) (L.length+1) b)):=((ah _ W).grown j x.2.2.1 (λd e=>(w.lt d e).1)).setCell h.bb _;have on:=(h.rows _ bq).2;have B:=(h.rows _ (dr _ bq)).2;simp only[bC]at on B;refine⟨⟨⟨⟨h.cu.lo.1,di h.cu.lo.2 m.size⟩,h.cu.code.below m,(a1 _ x.2.2.2).trans (n h.cu.cur (by decide))⟩,h.bb,⟨Ax (O ⟨g,0,A0⟩) (L.length+1) b,?_,?_⟩,λJ hy=>?_,λa3 av=>?_,?_⟩,m,o⟩
 .rw[bm,show T-((L.length+[(⟨N,vn,vk⟩:Mb)].length:Nat):Int)=T-L.length-1 by simp;omega];exact bg _ E.bb 1 _ _ _ o
 .rw[bm];exact Iz A (oF A o (by decide)) 1 _
 .rcases List.mem_append.1 hy with hy|hy
  .exact⟨i (h.each J hy).1 (by decide) (by decide),i (h.each J hy).2 (by decide) (by decide)⟩
  .obtain rfl:=List.mem_singleton.1 hy;exact⟨i on (by decide) (by decide),i B (by decide) (by decide)⟩
 .have l:=h.rows a3 (dr _ (dr _ av));exact⟨l.1,i l.2 l.1.1 l.1.2.1⟩
 .have y:=h.sep;have ad:bR (rS vn N.nm::rI vk N.ks::R)++bL L=(vn.ownBlock.toList++vk.ownBlock.toList)++(bR R++bL L):=by unfold bR;simp[CD]
  have ak:bR R++bL (L++[⟨N,vn,vk⟩])=(bR R++bL L)++(vn.ownBlock.toList++vk.ownBlock.toList):=by unfold bL;simp[wE]
  rw[ad]at y;rw[ak];exact List.perm_append_comm.nodup_iff.1 y
end
def bgC(c k:Int):Bool:=decide ((k=1/\cD c=B1)\/((k=2\/k=3)/\cJ c=B1)\/(k=4/\c=34))
def bgT(x:ByteArray)(k:Int):Bool:=decide (x.size<=(Am k).size)&&(((Am k).extract 0 x.size).toList==x.toList)
def bgL(x:ByteArray):List Int->Bool
 |[]=>B4
 |k::r=>if bgC (aA x 0) k=B1 then B1 else if bgT x k=B1 then B1 else bgL x r
def aoi(ks:List Int)(x:ByteArray):Bool:=if x.size=1/\aA x 0=45 then B1 else bgL x ks
def aoj(s:ByteArray)(p n:Nat):Bool:=cD (aA s p)&&(!(cD (lk s (p+n)))&&!(cJ (lk s (p+n))))
def wrL(s:ByteArray)(p:Nat)(ks:List Int):Nat->Nat->Nat
 |0,n=>n
 |f+1,n=>if p+n<s.size/\aoi ks (s.extract p (p+n+1))=B1 then(if aoj s p (n+1)=B1 then n+1 else wrL s p ks f (n+1)) else n
def aok(s:ByteArray)(p:Nat)(ks:List Int):Nat:=p+wrL s p ks (s.size+1) 0
def Kq.box{b k:Nat}{w':A5}(h:Kq b w w')(a:nA k w 61 N vn vk)(d:k≠b):nA k w' 61 N vn vk:=by
 refine(h.block k (ai a) d ?_).trans a;intro e f c;unfold nA at a;rw[a]at c;cases c
def En{p:Addr}{i:Nat}(h:W.cell? (p.add i)=O v)(a:i≠0):W.cell? ⟨p.block,p.off+i,A0⟩=O v:=by
 unfold Addr.add at h;rw[aa a]at h;exact h
def Wr(b:A5)(d:A2)(t:Int)(f:FuncId)(args:Array A2)(c:ByteArray):Prop:=
 ∀(a:ByteArray)(W':A5),Pr b d a t W'->a.size+c.size<=140737488355328->Ex B3 f args W' λe w'=>e= B0 (B6 #[])/\Pr b d (a++c) t w'/\Kq b.heap.size W' w'
def Eo(a:ByteArray):Wr w0 vt t 20 #[B2 (O ⟨w0.heap.size,0,A0⟩),A9 a] a:=λb c e d=>gK w0 _ b a _ c e d
abbrev pW(a:A5):A2:= B2 (O ⟨a.heap.size,0,A0⟩)
abbrev aql(N:Nd)(b a:A2):Obj:= Br #[Y U N.k,Y U N.f,Y U N.t,Y U N.l,Y U N.op,Y U N.n,A9 N.x,b,a] 61
structure NdR (w0:A5) (p1:Addr) (i:Nat) (N:Nd) (an:Option Addr) (M cn:Nat) (ak:Option Addr) (L ck:Nat):Prop where
 nm:bi w0 (.slice an M cn) N.nm
 ks:dh w0 (.slice ak L ck) N.ks
 hM:N.nm.length=M
 hL:N.ks.length=L
 cap:L<=ck
 rd:∀W,be w0 W->FG W (p1.add (i*9)) N (.slice an M cn) (.slice ak L ck)
def Ep(d:A5)(b:Addr)(ns:List Nd):Prop:=
 ∀a N c c',ns[a]?=O N->d.cell? ⟨(b.add (a*9)).block,(b.add (a*9)).off+8,A0⟩=O (Ax c N.ks.length c')->N.ks.length<=c'
def zv{e:Addr}{g:Nat}(j:dy w0 (Ax (O e) n g) ns)(l:Ep w0 e ns){i:Nat}(m:i<ns.length):∃c M d b L ck,NdR w0 e i (ab ns i) c M d b L ck:=by
 have f:=Jd m;have⟨p,h,r,q,a⟩:=j.get f;cases h;obtain⟨c,d,rfl⟩:=a.hn.form;obtain⟨b,ck,rfl⟩:=a.hk.form;exact⟨c,_,d,b,_,ck,a.hn,a.hk,rfl,rfl,l i _ b ck f a.c8,λo k=>a.below k⟩
abbrev NdC(W:A5)(a:Addr)(N:Nd)(c b:A2):Prop:=W.cell? a=O (Y U N.k)/\W.cell? ⟨a.block,a.off+1,A0⟩=O (Y U N.f)/\W.cell? ⟨a.block,a.off+2,A0⟩=O (Y U N.t)/\W.cell? ⟨a.block,a.off+3,A0⟩=O (Y U N.l)/\W.cell? ⟨a.block,a.off+4,A0⟩=O (Y U N.op)/\W.cell? ⟨a.block,a.off+5,A0⟩=O (Y U N.n)/\W.cell? ⟨a.block,a.off+6,A0⟩=O (A9 N.x)/\W.cell? ⟨a.block,a.off+7,A0⟩=O c/\W.cell? ⟨a.block,a.off+8,A0⟩=O b
structure Bx (w0:A5) (vt:A2) (t:Int) (w:A5) (N:Nd) (vn vk:A2) (T:ByteArray) (W:A5):Prop where
 pr:Pr w0 vt T t W
 kq:Kq w0.heap.size w W
 bx:nA w.heap.size W 61 N vn vk
def Bx.new(h:Pr w0 vt T t w)(N:Nd)(b a:A2):Bx w0 vt t w N b a T (w.alloc (aql N b a)):=by
 have c:be w (w.alloc (aql N b a)):=(ah _ w).alloc (af _) _;exact⟨h.below c,Kq.of_below c,aB w _⟩
def Bx.next{b:ByteArray}{a:A5}(h:Bx w0 vt t w N vn vk T W)(c:w0.heap.size<w.heap.size)(p:Pr w0 vt b t a)(k:Kq w0.heap.size W a):Bx w0 vt t w N vn vk b a:=
 ⟨p,h.kq.trans k,k.box h.bx (by omega)⟩
def Bx.below{a:A5}(h:Bx w0 vt t w N vn vk T W)(b:be W a):Bx w0 vt t w N vn vk T a:=
 ⟨h.pr.below b,h.kq.trans (Kq.of_below b),h.bx.below b⟩
def Bx.cells(h:Bx w0 vt t w N vn vk T W):W.cell? ⟨w.heap.size,0,A0⟩=O (Y U N.k)/\W.cell? ⟨w.heap.size,1,A0⟩=O (Y U N.f)/\W.cell? ⟨w.heap.size,2,A0⟩=O (Y U N.t)/\W.cell? ⟨w.heap.size,3,A0⟩=O (Y U N.l)/\W.cell? ⟨w.heap.size,4,A0⟩=O (Y U N.op)/\W.cell? ⟨w.heap.size,5,A0⟩=O (Y U N.n)/\W.cell? ⟨w.heap.size,6,A0⟩=O (A9 N.x)/\W.cell? ⟨w.heap.size,7,A0⟩=O vn/\W.cell? ⟨w.heap.size,8,A0⟩=O vk:=by
 have⟨a,b,c,d,e,g,i,j,m,o⟩:=bu h.bx;exact⟨a,b,c,d,e,g,i,j,m⟩
def Bx.kid0{a:Addr}(h:Bx w0 vt t w N vn (Ax (O a) L ck) T W)(d:dh w0 (Ax (O a) L ck) N.ks){b:Int}(e:N.ks[0]?=O b):W.cell? a=O (Y U b):=by
 have⟨g,c,f⟩:=(d.below h.pr.bel).get e;cases c;simpa [Addr.add] using f
def Bx.kid{a:Addr}(h:Bx w0 vt t w N vn (Ax (O a) L ck) T W)(e:dh w0 (Ax (O a) L ck) N.ks){j:Nat}{b:Int}(f:N.ks[j]?=O b)(d:j≠0):W.cell? ⟨a.block,a.off+j,A0⟩=O (Y U b):=by
 have⟨i,c,g⟩:=(e.below h.pr.bel).get f;cases c;exact En g d
def Bx.name0{a:Addr}{M b:Nat}(h:Bx w0 vt t w N (Ax (O a) M b) vk T W)(d:bi w0 (Ax (O a) M b) N.nm)(e:N.nm[0]?=O s):W.cell? a=O (A9 s):=by
 have⟨g,c,f⟩:=(d.below h.pr.bel).get e;cases c;simpa [Addr.add] using f
def dh.ptr{a:Option Addr}(h:dh W (Ax a L ck) l)(c:0<l.length:=by omega):∃e,a=O e:=by
 obtain⟨d,b,_⟩:=h.get (az c);exact⟨d,b⟩
def bi.ptr{a:Option Addr}{l:List ByteArray}(h:bi W (Ax a L ck) l)(c:0<l.length:=by omega):∃e,a=O e:=by
 obtain⟨d,b,_⟩:=h.get (az c);exact⟨d,b⟩
def ss{j:Nat}{a:Int}(h:N.ks[j]?=O a):j<N.ks.length:=(List.getElem?_eq_some_iff.1 h).1
def Bx.stp{a:ByteArray}{f:FuncId}{args:Array A2}{Q:Ending->A5->Prop}{V:A5}(B:Hid (Bx w0 vt t w N vn vk T V))(c:be V W)(S:Hid (Wr w0 vt t f args a))(e:w0.heap.size<w.heap.size)(d:T.size+a.size<=140737488355328)(k:∀W',Bx w0 vt t w N vn vk (T++a) W'->Q (B0 (B6 #[])) W'):Ex B3 f args W Q:=
 (S _ _ (B.below c).pr d).mono λh g b=>b.1 ▸ k g ((B.below c).next e b.2.1 b.2.2)
def Bx.fin{a:ByteArray}(B:Hid (Bx w0 vt t w N vn vk a W))(e:a=T):Ending.returned (B6 #[])= B0 (B6 #[])/\Pr w0 vt T t W/\Kq w0.heap.size w W:=⟨rfl,e ▸ B.pr,B.kq⟩
section
variable (w0 : World) (vt : Value) (t : Nat)
abbrev WE(b:Nat)(a:ByteArray):Prop:=Wr w0 vt t 80 #[pW w0,Y U (b:Int),Y U 0] a
abbrev WB(b:Nat)(a:ByteArray):Prop:=Wr w0 vt t 77 #[pW w0,Y U (b:Int)] a
abbrev WD(b:Nat)(a:ByteArray):Prop:=Wr w0 vt t 81 #[pW w0,Y U (b:Int)] a
abbrev WX(l:List Int)(a:ByteArray):Prop:=∀v,dh w0 v l->Wr w0 vt t 79 #[pW w0,v] a
abbrev WA(b:Nat)(a:ByteArray):Prop:=Wr w0 vt t 135 #[pW w0,Y U (b:Int)] a
end
def add_add(a:Addr)(i j:Nat):(a.add i).add j=a.add (i+j):=by
 unfold Addr.add;by_cases b:i=0
 .subst b;simp
 .by_cases c:j=0
  .subst c;simp[b]
  .simp[b,c];omega
def dh.take{a:Option Addr}{c:Nat}(h:dh W (Ax a n c) l)(k:Nat)(f:k<=l.length):dh W (Ax a k c) (l.take k):=by
 rcases h with⟨rfl,d,g,e⟩|⟨d,g,e,j⟩
 .have:k=0:=by simpa using f
  subst this;exact .inl ⟨rfl,a,c,rfl⟩
 .cases e;by_cases i:k=0
  .subst i;exact .inl ⟨by simp,_,_,rfl⟩
  .refine .inr ⟨d,c,by rw[eE,ui f],λm o b=>j m o ?_⟩;rw[lp]at b;split at b
   .exact b
   .cases b
def dh.drop{a:Addr}{c b:Nat}(h:dh W (Ax (O a) n c) l)(k m:Nat)(q:k<=l.length)(j:m=l.length-k):dh W (Ax (O (a.add k)) m b) (l.drop k):=by
 subst j;rcases h with⟨rfl,f,g,d⟩|⟨f,g,d,i⟩
 .exact .inl ⟨by simp,O (a.add k),b,by simp⟩
 .cases d;refine .inr ⟨a.add k,b,by rw[fJ],λo p e=>?_⟩;rw[rj]at e;rw[add_add];exact i (k+o) p e
def EnW(d:A5)(c:A2)(t:Nat)(X:Nd)(b:ByteArray):Prop:=
 (X.k=41/\X.ks.length=2/\∃(a r:Nat) (E e:ByteArray),X.ks[0]?=O (a:Int)/\X.ks[1]?=O (r:Int)/\Hid (WE d c t a E)/\Hid (WE d c t r e)/\b=⟨#[91]⟩++E++⟨#[93,32,61,32]⟩++e)
  \/(X.ks.length=1/\∃(a:Nat) (E:ByteArray),X.ks[0]?=O (a:Int)/\Hid (WE d c t a E)/\(X.k=42/\b=⟨#[46]⟩++X.x++⟨#[32,61,32]⟩++E\/(X.k≠41/\X.k≠42)/\b=E))
def afp{l:Addr}{p:Nat}(G:dy w0 (Ax (O l) n p) ns)(H:Ep w0 l ns)(cm:ns.length=n)(cl:n<=1048576){tab:Nat}(s:dh w0 vk N.ks)(bc:N.ks.length<=1048576)
  (F:∀z∈N.ks,∃k:Nat,z=(k:Int)/\k<ns.length/\EnW w0 (Ax (O l) n p) tab (ab ns k) (sj ns E (ab ns k))):Wr w0 (Ax (O l) n p) tab 136 #[pW w0,jG N vn vk] (abI ns E N):=by
 intro v bk w y;obtain⟨av,a3,rfl⟩:=s.form;obtain⟨c,r⟩:=aJ N.ks.length;rw[r]at s bc⊢;have bf:=w.lt;have a:=am (Bx.new w N vn (Ax av c a3));unfold abI at y⊢;obtain⟨b,t⟩:∃b,(N.ks.map λk=>sj ns E (ab ns k))=b:=⟨_,rfl⟩;rw[t]at y⊢;have I:b.length=c:=by rw[<-t,bC];exact r
 simp only[aq]at y;have b6:(⟨#[123]⟩:ByteArray).size=1:=rfl;have b7:dH.size=2:=rfl;have B:=iK G H;have g:=aev s F r t I;clear w G H s F r t I;unfold jG;go_in;go_wp2_with fail;refine Bx.stp a (ah _ _) (Eo _) bf (by omega) ?_;intro au a;have a:=am a;have a2:=a.cells.2.2.2.2.2.2.2.2;go_wp2;go_loopw [12] (λA wr=>∃k:Nat,k<=c/\A= Y U k/\Hid (Pr w0 (Ax (O l) n p) (v++⟨#[123]⟩++bK (b.take k)) tab wr/\Kq w0.heap.size bk wr)) (λA _=>c-(intOf A).toNat)
 case atStart=>exact⟨0,by omega,rfl,by rw[show v++⟨#[123]⟩++bK (b.take 0)=v++⟨#[123]⟩ from ByteArray.append_empty];exact a.pr,a.kq⟩
 case round=>
  clear a2 a;obtain⟨k,cd,rfl,f⟩:=hrel;by_cases ba:k<c
  .obtain⟨z,u⟩:=cA g.2.2.1 ba;obtain⟨e,rfl,J,bh⟩:=g.2.1 z (cG u);obtain⟨b5,rfl,b9⟩:=(g.1.below f.1.bel).get u;have cf:(k:Int)<(c:Int):=by omega
   have ce:(0:Int)<=(k:Int):=by omega
   have i:=qu b k (sj ns E (ab ns e)) (by rw[<-g.out.2.2.2.1,ci,u];rfl);have q:=C1 b (k+1);have cq:(e:Int)<(n:Int):=by omega
   have cp:(0:Int)<=(e:Int):=by omega
   obtain⟨a0,ap,a5,ax,ao,a4,h⟩:=zv B.1 B.2 J;generalize ab ns e=o at *;generalize sj ns E o=b3 at *;obtain⟨b4,x⟩:=aJ (bK (b.take (k+1)));rw[x]at i q;have al:=am x;clear x u;rcases nK k with h0|h0
   case' inl=>
    rw[ae h0]at i;have bb:¬(0:Int)<(k:Int):=by omega
    clear h0;have P:=f
   case' inr=>
    rw[aa (by omega)]at i;have bb:(0:Int)<(k:Int):=by omega
    subst i;simp only[aq]at q;go_wp2_with fail;refine(gK w0 _ _ dH tab _ f.1 (by simp only[aq];omega)).mono ?_;rintro a6 c0 ⟨rfl,L,K⟩;have P:=iK L (f.2.trans K);clear L K
   all_goals
    try subst i
    try simp only[aq]at q
    have a9:=h.hL;obtain⟨z0,bD,bE⟩:=P.1.cells;have bd:=P.1.lt;obtain⟨cr,ct,cu,cv,cw,cx,cy,cz,cB,_,_⟩:=h.rd _ P.1.bel;have a:=am (Bx.new P.1 o (Ax a0 ap a5) (Ax ax ao a4));rcases bh with⟨d,C,e,cI,E,bF,a7,cb,ar,b0,rfl⟩|⟨C,e,E,a7,ar,⟨d,rfl⟩|⟨d,rfl⟩⟩;all_goals
     try simp only[aq]at q
     obtain⟨cF,rfl⟩:=h.ks.ptr;obtain rfl:=a9.symm.trans C;have m:=am h;first|have a8:=kqs d;have e:=kqf d|have a8:(o.k==41)=B4:=by simpa using d.1
     try have cc:(o.k==42)=B4:=by simpa using d.2
     clear d;obtain⟨bl,bn,bo,bp,br,bs,bt,bv,bw⟩:=a.cells
     (try have bx:=a.kid0 m.ks (by with_reducible assumption))
     (try have bA:=a.kid m.ks (j:=1) (by with_reducible assumption) (by decide))
     clear h bE bD J
     repeat (go_wp2_with fail;refine Bx.stp a (by first|exact ah _ _|exact gc _ _) (by with_reducible first|exact am (Eo _)|assumption) bd (by simp only[aq];omega) ?_;intro au a;have a:=am a;obtain⟨bl,bn,bo,bp,br,bs,bt,bv,bw⟩:=a.cells;(try have bx:=a.kid0 m.ks (by with_reducible assumption));(try have bA:=a.kid m.ks (j:=1) (by with_reducible assumption) (by decide)))
     go_wp2;exact⟨⟨k+1,by omega,by go_num,by rw[al.out];have:=a.pr;simpa only[aK] using this,P.2.trans a.kq⟩,by simp[intOf];omega⟩
  .obtain rfl:k=c:=by omega
   go_wp2_with fail;refine(gK w0 _ _ ⟨#[125]⟩ _ _ f.1 (by have:=C1 b k;simp only[aq];omega)).mono ?_;rintro a6 c2 ⟨rfl,ad,bj⟩;go_wp2_with fail;go_end0
   refine⟨rfl,?_,f.2.trans bj⟩;rw[cj (by rw[g.out.2.2.2.2];exact af _)]at ad;rw[<-aK,<-aK];exact ad
