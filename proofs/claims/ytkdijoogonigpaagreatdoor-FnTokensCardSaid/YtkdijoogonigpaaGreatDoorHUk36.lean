import Derived.Test.YtkdijoogonigpaaGreatDoorHUk35
import Derived.Test.YtkdijoogonigpaaGreatDoorHUk13
import Derived.Test.YtkdijoogonigpaaGreatDoorHUk17
set_option linter.all false
set_option maxRecDepth 100000
set_option maxHeartbeats 6400000
open Go.Value renaming int->O,slice->U,string->Ax,pointer->B0,tuple->B2
open Go.IntKind renaming i64->Q
open Option renaming some->R,none->V
open Go renaming World->Y,Value->A0,Calls->B3
open ByteArray renaming empty->Z
open Go.Proofs.Tryz renaming prog->A2
open Go.Ending renaming returned->Br
open Go.Obj renaming cells->B1
open Bool renaming true->B4,false->B5
namespace Go.Proofs.YtkdijoogonigpaaGreatDoor
open Go.RowKit
def ndD:Nd:=⟨0,0,0,0,0,0,Z,[],[]⟩
def nodeI(ns:List Nd)(i:Int):Nd:=ns.getD i.toNat ndD
def bz(N:Nd)(j:Nat):Int:=N.ks.getD j 0
def fw(l:List ByteArray):ByteArray:=l.foldl (· ++·) Z
def xo(x:ByteArray):ByteArray:=⟨#[40]⟩++x++⟨#[41]⟩
def ik(ns:List Nd)(E:Int->ByteArray)(k a:Int):ByteArray:=if dy (nodeI ns k).k (nodeI ns k).op<a then xo (E k) else E k
def Kf(N:Nd)(a:Int):Int:=if rG N.k N.op=a then a+1 else a
def tJ(ns:List Nd)(E:Int->ByteArray)(N:Nd)(b:ByteArray)(a:Int):ByteArray:=ik ns E (bz N 0) (Kf N a)++b++ik ns E (bz N 1) (rG N.k N.op)
def adK(N:Nd):Bool:=N.k==30&&N.op==19
def unS(ns:List Nd)(N:Nd):ByteArray:=if N.op=21 then⟨#[110,111,116,32]⟩ else if N.op=22 then⟨#[35]⟩ else if N.op=20 then⟨#[126]⟩ else if adK (nodeI ns (bz N 0))=B4 then⟨#[45]⟩++⟨#[32]⟩ else⟨#[45]⟩
def GG(ns:List Nd)(E:Int->ByteArray)(N:Nd):ByteArray:=unS ns N++ik ns E (bz N 0) 11
def Hr(ns:List Nd)(E:Int->ByteArray)(k:Int):ByteArray:=if FE (nodeI ns k).k=B4 then E k else xo (E k)
def GH(N:Nd):ByteArray:=
 if N.k=20 then⟨#[110,105,108]⟩ else if N.k=21 then⟨#[116,114,117,101]⟩ else if N.k=22 then⟨#[102,97,108,115,101]⟩ else if N.k=23 then lr N.n
 else if N.k=24\/N.k=26 then N.x else if N.k=25 then co (bG N.x) else if N.k=27 then⟨#[46,46,46]⟩ else Z
def iD(ns:List Nd)(E:Int->ByteArray)(X:Nd):ByteArray:=
 if X.k=41 then⟨#[91]⟩++E (bz X 0)++⟨#[93,32,61,32]⟩++E (bz X 1) else if X.k=42 then(⟨#[46]⟩++X.x++⟨#[32,61,32]⟩)++E (bz X 0) else E (bz X 0)
def GI(ns:List Nd)(E:Int->ByteArray)(N:Nd):ByteArray:=⟨#[123]⟩++bv (N.ks.map fun a=>iD ns E (nodeI ns a))++⟨#[125]⟩
def tK(S:Int->Nat->ByteArray)(ks:List Int)(tab:Nat):ByteArray:=
 if ks=[] then⟨#[123,125]⟩ else⟨#[123]⟩++fw (ks.map fun a=>ij (tab+1)++S a (tab+1))++ij tab++⟨#[125]⟩
def GJ(N:Nd):ByteArray:=⟨#[40]⟩++bv N.nm++(if N.op=1 then(if N.nm=[] then⟨#[46,46,46]⟩ else di++⟨#[46,46,46]⟩) else Z)++⟨#[41,32]⟩
def wj(ns:List Nd)(S:Int->Nat->ByteArray)(N:Nd)(tab:Nat):ByteArray:=GJ N++tK S (nodeI ns (bz N 0)).ks tab
def prE(ns:List Nd)(E:Int->ByteArray)(S:Int->Nat->ByteArray)(N:Nd)(tab:Nat):ByteArray:=
 if N.k=28 then tJ ns E N ⟨#[32,97,110,100,32]⟩ (dy N.k N.op)
 else if N.k=29 then tJ ns E N ⟨#[32,111,114,32]⟩ (dy N.k N.op)
 else if N.k=31 then tJ ns E N (⟨#[32]⟩++px (60+N.op)++⟨#[32]⟩) (dy N.k N.op)
 else if N.k=30 then GG ns E N
 else if N.k=32 then Hr ns E (bz N 0)++⟨#[91]⟩++E (bz N 1)++⟨#[93]⟩
 else if N.k=33 then Hr ns E (bz N 0)++(⟨#[46]⟩++N.x)
 else if N.k=34 then Hr ns E (bz N 0)++⟨#[40]⟩++bv ((N.ks.drop 1).map E)++⟨#[41]⟩
 else if N.k=35 then GI ns E N
 else if N.k=36 then⟨#[102,110]⟩++wj ns S N tab
 else if N.k=37 then xo (E (bz N 0))
 else GH N
def wk(ns:List Nd)(E:Int->ByteArray)(S:Int->Nat->ByteArray)(a:Int->ByteArray->ByteArray)(N:Nd)(b:ByteArray)(tab:Nat):ByteArray:=
 b++E (bz N 0)++⟨#[32]⟩++tK S (nodeI ns (bz N 1)).ks tab++
  (if N.ks.length<3 then Z else if(nodeI ns (bz N 2)).k=7 then a (bz N 2) ⟨#[32,101,108,105,102,32]⟩ else⟨#[32,101,108,115,101,32]⟩++tK S (nodeI ns (bz N 2)).ks tab)
def nm0(N:Nd):ByteArray:=N.nm.getD 0 Z
def prS(ns:List Nd)(E:Int->ByteArray)(S:Int->Nat->ByteArray)(a:Int->ByteArray->ByteArray)(N:Nd)(tab:Nat):ByteArray:=
 if N.k=1 then tK S N.ks tab
 else if N.k=2 then⟨#[108,101,116,32]⟩++bv N.nm++(if N.ks=[] then Z else⟨#[32,61,32]⟩++bv (N.ks.map E))
 else if N.k=3 then(⟨#[99,111,110,115,116,32]⟩++nm0 N++⟨#[32,61,32]⟩)++E (bz N 0)
 else if N.k=4 then(⟨#[102,110,32]⟩++nm0 N)++wj ns S (nodeI ns (bz N 0)) tab
 else if N.k=5 then bv ((N.ks.take N.n.toNat).map E)++⟨#[32,61,32]⟩++bv ((N.ks.drop N.n.toNat).map E)
 else if N.k=6 then E (bz N 0)
 else if N.k=7 then a (-1) ⟨#[105,102,32]⟩
 else if N.k=8 then⟨#[119,104,105,108,101,32]⟩++E (bz N 0)++⟨#[32]⟩++tK S (nodeI ns (bz N 1)).ks tab
 else if N.k=9\/N.k=10 then⟨#[102,111,114,32]⟩++bv N.nm++(if N.k=9 then⟨#[32,61,32]⟩ else⟨#[32,105,110,32]⟩)++bv ((N.ks.take (N.ks.length-1)).map E)++⟨#[32]⟩++tK S (nodeI ns (bz N (N.ks.length-1))).ks tab
 else if N.k=11 then⟨#[98,114,101,97,107]⟩
 else if N.k=12 then⟨#[110,101,120,116]⟩
 else if N.k=13 then⟨#[114,101,116,117,114,110]⟩++(if N.ks=[] then Z else⟨#[32]⟩++bv (N.ks.map E))
 else if N.k=14 then⟨#[116,114,121,32]⟩++tK S (nodeI ns (bz N 0)).ks tab++⟨#[32,99,97,116,99,104,32]⟩++bv N.nm++⟨#[32]⟩++tK S (nodeI ns (bz N 1)).ks tab
 else if N.k=15 then⟨#[116,104,114,111,119,32]⟩++E (bz N 0)
 else if N.k=16 then⟨#[100,101,102,101,114,32]⟩++E (bz N 0)
 else Z
mutual
def sJ(ns:List Nd):Nat->Int->Nat->ByteArray
 |0,_,_=>Z
 |f+1,i,tab=>prE ns (fun k=>sJ ns f k tab) (fun k t=>nF ns f k t) (nodeI ns i) tab
def nF(ns:List Nd):Nat->Int->Nat->ByteArray
 |0,_,_=>Z
 |f+1,i,tab=>prS ns (fun k=>sJ ns f k tab) (fun k t=>nF ns f k t) (fun _ w=>wk ns (fun k=>sJ ns f k tab) (fun k t=>nF ns f k t) (fun k w=>rH ns f k w tab) (nodeI ns i) w tab) (nodeI ns i) tab
def rH(ns:List Nd):Nat->Int->ByteArray->Nat->ByteArray
 |0,_,_,_=>Z
 |f+1,i,w,tab=>wk ns (fun k=>sJ ns f k tab) (fun k t=>nF ns f k t) (fun k w=>rH ns f k w tab) (nodeI ns i) w tab
end
def iL(ns:List Nd):ByteArray:=fw ((nodeI ns ((ns.length:Int)-1)).ks.map fun a=>nF ns ns.length a 0++⟨#[10]⟩)
def Af(ns:List Nd):ByteArray:=if 65536<(iL ns).size then Z else iL ns
theorem sL{b:Nat}{w c:Y}(a:Obj)(d:Kq b (w.alloc a) c):Kq b w c:=(Kq.of_below ((aq _ w).alloc (ag _) a)).trans d
theorem GK(w0:Y)(h vn vk:A0)(N:Nd)(A:ByteArray)(t:Int)(w:Y)(H:Pr w0 h A t w)(s:20<=N.k/\N.k<=27)(am: -9223372036854775808<=N.n)(an:N.n<=9223372036854775807)(r:N.k=25->N.x.size<=4000)(q:A.size+(GH N).size<=140737488355328):
  B3 A2 143 #[B0 (R ⟨w0.heap.size,0,V⟩),cE N vn vk] w fun e I=>e= Br (B2 #[])/\Pr w0 h (A++GH N) t I/\Kq w0.heap.size w I:=by
 have E:Below w.heap.size w (w.alloc (B1 #[O Q N.k,O Q N.f,O Q N.t,O Q N.l,O Q N.op,O Q N.n,Ax N.x,vn,vk] 96)):=(aq _ w).alloc (ag _) _;have g:Hid (Pr w0 h A t (w.alloc (B1 #[O Q N.k,O Q N.f,O Q N.t,O Q N.l,O Q N.op,O Q N.n,Ax N.x,vn,vk] 96))/\Below w.heap.size w (w.alloc (B1 #[O Q N.k,O Q N.f,O Q N.t,O Q N.l,O Q N.op,O Q N.n,Ax N.x,vn,vk] 96))):=⟨H.below E,E⟩;have o:=sA N.n am an;obtain⟨ap,a⟩:=aD (GH N);rw[a]at q⊢;unfold GH at a;clear H E;unfold cE;have c:∀v:Int,N.k=v->(N.k==v)=B4:=fun v e=>by simpa using e
 have b:∀v:Int,N.k≠v->(N.k==v)=B5:=fun v e=>by simpa using e
 by_cases i:N.k=20
 ·have J:=c _ i;rw[ab i]at a;subst a;clear i c b s r o;go_in;go_wp2_with (go_at_call 81;refine(az w0 h _ _ _ _ g.out.1 q).mono ?_;rintro e z ⟨rfl,p2,d⟩);go_end0
  exact⟨rfl,p2,sL _ d⟩
 have J:=b _ i;rw[aa i]at a;by_cases j:N.k=21
 ·have K:=c _ j;rw[ab j]at a;subst a;clear i j c b s r o;go_in;go_wp2_with (go_at_call 81;refine(az w0 h _ _ _ _ g.out.1 q).mono ?_;rintro e z ⟨rfl,p2,d⟩);go_end0
  exact⟨rfl,p2,sL _ d⟩
 have K:=b _ j;rw[aa j]at a;by_cases m:N.k=22
 ·have L:=c _ m;rw[ab m]at a;subst a;clear i j m c b s r o;go_in;go_wp2_with (go_at_call 81;refine(az w0 h _ _ _ _ g.out.1 q).mono ?_;rintro e z ⟨rfl,p2,d⟩);go_end0
  exact⟨rfl,p2,sL _ d⟩
 have L:=b _ m;rw[aa m]at a;by_cases p:N.k=23
 ·have af:=c _ p;rw[ab p]at a;rw[a]at o;clear i j m p c b s r a;go_in;go_wp2_with fail;refine lc (o _) fun w1 u=>?_;have B:Hid (Pr w0 h A t w1/\Below w.heap.size w w1):=⟨g.out.1.below u,g.out.2.trans (u.mono g.out.2.size)⟩;clear u o;go_wp2_with fail;refine(az w0 h _ _ _ _ B.out.1 q).mono ?_;rintro e z ⟨rfl,p2,d⟩;go_wp2_with fail;go_end0
  exact⟨rfl,p2,(Kq.of_below B.out.2).trans d⟩
 have af:=b _ p;rw[aa p]at a;by_cases e4:N.k=24\/N.k=26
 ·rw[ab e4]at a;rcases e4 with e4|e4
  ·have G:=c _ e4;rw[a]at g⊢;clear i j m p e4 c b s r o a;go_in;go_wp2_with (go_at_call 81;refine(az w0 h _ _ _ _ g.out.1 q).mono ?_;rintro e z ⟨rfl,p2,d⟩);go_end0
   exact⟨rfl,p2,sL _ d⟩
  ·have G:(N.k==24)=B5:=b _ (by omega);have ak:=c _ e4;rw[a]at g⊢;clear i j m p e4 c b s r o a;go_in;go_wp2_with (go_at_call 81;refine(az w0 h _ _ _ _ g.out.1 q).mono ?_;rintro e z ⟨rfl,p2,d⟩);go_end0
   exact⟨rfl,p2,sL _ d⟩
 rw[aa e4]at a;have G:(N.k==24)=B5:=b _ (by omega);have ak:(N.k==26)=B5:=b _ (by omega);by_cases y:N.k=25
 ·have al:=c _ y;rw[ab y]at a;have F:=xB N.x (r y);rw[a]at F;clear i j m p e4 y c b s r a o;go_in;go_wp2_with fail;refine lc (F _) fun w1 u=>?_;have B:Hid (Pr w0 h A t w1/\Below w.heap.size w w1):=⟨g.out.1.below u,g.out.2.trans (u.mono g.out.2.size)⟩;clear u F;go_wp2_with fail;refine(az w0 h _ _ _ _ B.out.1 q).mono ?_;rintro e z ⟨rfl,p2,d⟩;go_wp2_with fail;go_end0
  exact⟨rfl,p2,(Kq.of_below B.out.2).trans d⟩
 have al:=b _ y;rw[aa y]at a;have C:N.k=27:=by omega
 have av:=c _ C;rw[ab C]at a;subst a;clear i j m p e4 y C c b s r o;go_in;go_wp2_with (go_at_call 81;refine(az w0 h _ _ _ _ g.out.1 q).mono ?_;rintro e z ⟨rfl,p2,d⟩);go_end0
 exact⟨rfl,p2,sL _ d⟩
theorem abr(op:Int):3<=(FD op).1/\(FD op).1<=10:=by
 unfold FD
 repeat' split
 all_goals exact⟨by decide,by decide⟩
theorem wl(k op:Int):0<dy k op/\dy k op<=12:=by
 have:=abr op;unfold dy
 repeat' split
 all_goals omega
theorem acr(ns:List Nd)(E:Int->ByteArray)(k:Int):ik ns E k 0=E k:=by
 unfold ik;rw[aa];have:=wl (nodeI ns k).k (nodeI ns k).op;omega
theorem pq(x:ByteArray):(xo x).size=x.size+2:=by unfold xo;rw[ae,ae];show 1+x.size+1=_;omega
theorem mf{ns:List Nd}{k:Nat}(a:k<ns.length):ns[k]?=R (nodeI ns (k:Int)):=by
 unfold nodeI;rw[jJ,List.getD,aF a];rfl
def Kg(w0:Y)(e:A0)(ns:List Nd)(E:Int->ByteArray)(t:Int)(g:Nat):Prop:=
 ∀(a:Nat)(b:Int)(c:ByteArray)(d:Y),a<g->fj (nodeI ns a).k=B4->0<=b->b<=100->Pr w0 e c t d->c.size+(ik ns E a b).size<=140737488355328->
  B3 A2 110 #[B0 (R ⟨w0.heap.size,0,V⟩),O Q (a:Int),O Q b] d fun h f=>h= Br (B2 #[])/\Pr w0 e (c++ik ns E a b) t f/\Kq w0.heap.size d f
theorem Kg.zero{w0:Y}{c:A0}{ns:List Nd}{E:Int->ByteArray}{t:Int}{d:Nat}(g:Kg w0 c ns E t d)(k:Nat)(a:ByteArray)(b:Y)(i:k<d)(h:fj (nodeI ns k).k=B4)(l:Pr w0 c a t b)(j:a.size+(E k).size<=140737488355328):
  B3 A2 110 #[B0 (R ⟨w0.heap.size,0,V⟩),O Q (k:Int),O Q 0] b fun e f=>e= Br (B2 #[])/\Pr w0 c (a++E k) t f/\Kq w0.heap.size b f:=by
 have:=g k 0 a b i h (by omega) (by omega) l (by rw[acr];exact j);rw[acr]at this;exact this
theorem Kh(w0:Y)(h:A0)(ns:List Nd)(E:Int->ByteArray)(t:Int)(o:Nat)(v:Kg w0 h ns E t o)(j:bI w0 h ns)(ak:ns.length<=1048576)(k:Nat)(y:k<o)(z:k<ns.length)(x:fj (nodeI ns k).k=B4)
  (a:ByteArray) (w:Y) (f:Pr w0 h a t w) (l:a.size+(Hr ns E k).size<=140737488355328):
  B3 A2 141 #[B0 (R ⟨w0.heap.size,0,V⟩),O Q (k:Int)] w fun e I=>e= Br (B2 #[])/\Pr w0 h (a++Hr ns E k) t I/\Kq w0.heap.size w I:=by
 have A:=mf z;obtain⟨am,s,rfl⟩:=j.form;obtain⟨F,rfl,a0,av,u⟩:=(j.below f.bel).get A;obtain⟨z0,a2,a3⟩:=f.cells;have af:=u.c0;have d:=DD (nodeI ns k).k;have c:=gy f x v;clear f j u A x v;obtain⟨m,i⟩:=aD ns.length;rw[i]at z0 c ak z;have ap:(k:Int)<(m:Int):=by omega
 have an:(0:Int)<=(k:Int):=by omega
 obtain⟨al,b⟩:=aD (Hr ns E k);rw[b]at l⊢;rw[i];unfold Hr at b;clear i;generalize (nodeI ns k).k=L at af d b;cases hb:FE L with
 |true=>
  rw[hb]at d b;rw[ab rfl]at b;subst b;clear hb;go_in;go_wp2_with (go_at_call 162;refine dz (d _) ?_);refine(c.out.2.2.zero k a w y c.out.2.1 c.out.1 l).mono ?_;rintro e J ⟨rfl,p2,g⟩;go_wp2_with fail;exact bg (fE rfl _ _ _) rfl ⟨rfl,p2,g⟩
 |false=>
  rw[hb]at d b;rw[aa (by simp)]at b;subst b;rw[pq]at l;clear hb;go_in;go_wp2_with (go_at_call 162;refine dz (d _) ?_);refine(az w0 _ a _ t w c.out.1 (by show a.size+1<=_;omega)).mono ?_;rintro e J ⟨rfl,p2,g⟩;have p:=cH p2 g;clear p2 g;go_wp2_with fail;refine(c.out.2.2.zero k _ J y c.out.2.1 p.out.1 (by rw[ae];show a.size+1+_<=_;omega)).mono ?_;rintro e n ⟨rfl,G,B⟩;have q:Hid (Pr w0 (U (R F) m s) (a++⟨#[40]⟩++E k) t n/\Kq w0.heap.size w n):=⟨G,p.out.2.trans B⟩;clear G B;go_wp2_with fail;refine(az w0 _ _ _ t n q.out.1 (by rw[ae,ae];show a.size+1+_+1<=_;omega)).mono ?_;rintro e K ⟨rfl,H,C⟩;have r:Hid (Pr w0 (U (R F) m s) (a++xo (E k)) t K/\Kq w0.heap.size w K):=⟨by unfold xo;rw[<-aB,<-aB];exact H,q.out.2.trans C⟩;clear H C;go_wp2_with fail;go_end0
  exact⟨rfl,r.out.1,r.out.2⟩
theorem Kq.box{b k:Nat}{w d:Y}{N:Nd}{vn vk:A0}(e:Kq b w d)(a:cw k w 96 N vn vk)(f:k≠b):cw k d 96 N vn vk:=by
 refine(e.block k (au a) f ?_).trans a;intro g h c;unfold cw at a;rw[a]at c;cases c
theorem Ch(w0:Y)(g:A0)(ns:List Nd)(E:Int->ByteArray)(t:Int)(G:Nat)(ak:Kg w0 g ns E t G)(N:Nd)(vn vk:A0)(v:aJ w0 vk N.ks)(k:Nat)(r:N.ks[0]?=R (k:Int))(a5:k<G)(bx:N.ks.length<=1048576)(am:fj (nodeI ns k).k=B4)
  (y:N.op=20\/N.op=21\/N.op=22) (b:ByteArray) (w:Y) (A:Pr w0 g b t w) (ap:b.size+(GG ns E N).size<=140737488355328):
  B3 A2 140 #[B0 (R ⟨w0.heap.size,0,V⟩),cE N vn vk] w fun e m=>e= Br (B2 #[])/\Pr w0 g (b++GG ns E N) t m/\Kq w0.heap.size w m:=by
 have C:Below w.heap.size w (w.alloc (B1 #[O Q N.k,O Q N.f,O Q N.t,O Q N.l,O Q N.op,O Q N.n,Ax N.x,vn,vk] 96)):=(aq _ w).alloc (ag _) _;have al:cw w.heap.size (w.alloc (B1 #[O Q N.k,O Q N.f,O Q N.t,O Q N.l,O Q N.op,O Q N.n,Ax N.x,vn,vk] 96)) 96 N vn vk:=ax w _;have b9:=A.lt;obtain⟨a8,h,rfl⟩:=v.form;obtain⟨d,rfl,_⟩:=v.get r;have an:bz N 0=(k:Int):=by unfold bz;rw[List.getD,r];rfl
 have bE:0<N.ks.length:=by rcases jk N.ks.length with e|e;rw[dL (by omega)]at r;cases r;exact e
 have o:Hid (Pr w0 g b t (w.alloc (B1 #[O Q N.k,O Q N.f,O Q N.t,O Q N.l,O Q N.op,O Q N.n,Ax N.x,vn,U (R d) N.ks.length h] 96))/\Kq w0.heap.size w (w.alloc (B1 #[O Q N.k,O Q N.f,O Q N.t,O Q N.l,O Q N.op,O Q N.n,Ax N.x,vn,U (R d) N.ks.length h] 96))
  /\cw w.heap.size (w.alloc (B1 #[O Q N.k,O Q N.f,O Q N.t,O Q N.l,O Q N.op,O Q N.n,Ax N.x,vn,U (R d) N.ks.length h] 96)) 96 N vn (U (R d) N.ks.length h)/\aJ w0 (U (R d) N.ks.length h) N.ks/\N.ks[0]?=R (k:Int)):=⟨A.below C,Kq.of_below C,al,v,r⟩
 obtain⟨a7,q⟩:=aD (GG ns E N);rw[q]at ap⊢;unfold GG at q;rw[an]at q;have H:=cH ak am;clear A C al v r an ak am;have a6:∃i:ByteArray,unS ns N=i/\((N.op=21/\i=⟨#[110,111,116,32]⟩)\/(N.op=22/\i=⟨#[35]⟩)\/(N.op=20/\i=⟨#[126]⟩)):=by
  refine⟨_,rfl,?_⟩;unfold unS;rcases y with e|e|e
  ·exact .inr (.inr ⟨e,by rw[aa (by omega),aa (by omega),ab e]⟩)
  ·exact .inl ⟨e,by rw[ab e]⟩
  ·exact .inr (.inl ⟨e,by rw[aa (by omega),ab e]⟩)
 obtain⟨i,av,a4⟩:=a6;rw[av]at q;obtain⟨J,B⟩:=aD (ik ns E k 11);rw[B]at q;have I:=ar B;subst q;rw[ae]at ap;clear av B;unfold cE;have L:∀a,Pr w0 g (b++i) t a->Kq w0.heap.size (w.alloc (B1 #[O Q N.k,O Q N.f,O Q N.t,O Q N.l,O Q N.op,O Q N.n,Ax N.x,vn,U (R d) N.ks.length h] 96)) a->
   a.cell? ⟨w.heap.size,8,V⟩=R (U (R d) N.ks.length h)/\a.cell? d=R (O Q (k:Int))/\B3 A2 110 #[B0 (R ⟨w0.heap.size,0,V⟩),O Q (k:Int),O Q 11] a fun e m=>e= Br (B2 #[])/\Pr w0 g (b++(i++J)) t m/\Kq w0.heap.size w m:=by
  intro a p2 c;obtain⟨a9,bb,bd,bj,bl,bn,bo,br,u,bs⟩:=aj (c.box o.out.2.2.1 (by omega));obtain⟨ca,a0,a2⟩:=(o.out.2.2.2.1.below p2.bel).get o.out.2.2.2.2;cases a0;refine⟨u,by simpa [Addr.add] using a2,?_⟩;refine(H.out.1 k 11 _ a a5 H.out.2 (by omega) (by omega) p2 (by rw[I.out,ae];omega)).mono ?_;rintro e F ⟨rfl,j,p⟩;rw[I.out,aB]at j;exact⟨rfl,j,(o.out.2.1.trans c).trans p⟩
 have z:Hid (∀a,Pr w0 g (b++i) t a->Kq w0.heap.size (w.alloc (B1 #[O Q N.k,O Q N.f,O Q N.t,O Q N.l,O Q N.op,O Q N.n,Ax N.x,vn,U (R d) N.ks.length h] 96)) a->
   a.cell? ⟨w.heap.size,8,V⟩=R (U (R d) N.ks.length h)/\a.cell? d=R (O Q (k:Int))/\B3 A2 110 #[B0 (R ⟨w0.heap.size,0,V⟩),O Q (k:Int),O Q 11] a fun e m=>e= Br (B2 #[])/\Pr w0 g (b++(i++J)) t m/\Kq w0.heap.size w m):=L
 clear L;have bw:(0:Int)<(N.ks.length:Int):=by omega
 rcases a4 with⟨e,rfl⟩|⟨e,rfl⟩|⟨e,rfl⟩
 ·have af:(N.op==21)=B4:=by simpa using e
  clear e y;go_in;go_wp2_with fail;refine(az w0 g b _ t _ o.out.1 (by omega)).mono ?_;rintro e a ⟨rfl,p2,c⟩;obtain⟨u,K,s⟩:=z.out a p2 c;clear p2 c;go_wp2_with fail;refine s.mono ?_;rintro e F ⟨rfl,j,p⟩;go_wp2_with fail;go_end0
  exact⟨rfl,j,p⟩
 ·have af:(N.op==21)=B5:=by simp;omega
  have a3:(N.op==22)=B4:=by simpa using e
  clear e y;go_in;go_wp2_with fail;refine(az w0 g b _ t _ o.out.1 (by omega)).mono ?_;rintro e a ⟨rfl,p2,c⟩;obtain⟨u,K,s⟩:=z.out a p2 c;clear p2 c;go_wp2_with fail;refine s.mono ?_;rintro e F ⟨rfl,j,p⟩;go_wp2_with fail;go_end0
  exact⟨rfl,j,p⟩
 ·have af:(N.op==21)=B5:=by simp;omega
  have a3:(N.op==22)=B5:=by simp;omega
  have bt:(N.op==20)=B4:=by simpa using e
  clear e y;go_in;go_wp2_with fail;refine(az w0 g b _ t _ o.out.1 (by omega)).mono ?_;rintro e a ⟨rfl,p2,c⟩;obtain⟨u,K,s⟩:=z.out a p2 c;clear p2 c;go_wp2_with fail;refine s.mono ?_;rintro e F ⟨rfl,j,p⟩;go_wp2_with fail;go_end0
  exact⟨rfl,j,p⟩
theorem GL(op:Int):4<=(FD op).2/\(FD op).2<=11:=by
 unfold FD
 repeat' split
 all_goals exact⟨by decide,by decide⟩
theorem abt(k op:Int):2<=rG k op/\rG k op<=11:=by
 have:=GL op;unfold rG
 repeat' split
 all_goals omega
theorem lw{b:Y}{p:Addr}{i:Nat}{v:A0}(a:b.cell? (p.add i)=R v)(c:i≠0):b.cell? ⟨p.block,p.off+i,V⟩=R v:=by
 unfold Addr.add at a;rw[aa c]at a;exact a
theorem G0(w0:Y)(j:A0)(ns:List Nd)(E:Int->ByteArray)(t:Int)(bd:Nat)(cf:Kg w0 j ns E t bd)(N:Nd)(vn vk:A0)(ap:aJ w0 vk N.ks)(h r:Nat)(a8:N.ks[0]?=R (h:Int))(an:N.ks[1]?=R (r:Int))(c2:h<bd)(cc:r<bd)(ck:fj (nodeI ns h).k=B4)(cl:fj (nodeI ns r).k=B4)(c5:N.ks.length<=1048576)
  (cr:N.k≠29->N.k≠28->1<=N.op/\N.op<=18) (A:ByteArray) (i:Int) (dx:0<=i) (d0:i<=50) (p:ByteArray) (w:Y) (bn:Pr w0 j p t w) (a9:p.size+(tJ ns E N A i).size<=140737488355328):
  B3 A2 139 #[B0 (R ⟨w0.heap.size,0,V⟩),cE N vn vk,Ax A,O Q i] w fun e m=>e= Br (B2 #[])/\Pr w0 j (p++tJ ns E N A i) t m/\Kq w0.heap.size w m:=by
 have a7:Below w.heap.size w (w.alloc (B1 #[O Q N.k,O Q N.f,O Q N.t,O Q N.l,O Q N.op,O Q N.n,Ax N.x,vn,vk] 96)):=(aq _ w).alloc (ag _) _;have bo:cw w.heap.size (w.alloc (B1 #[O Q N.k,O Q N.f,O Q N.t,O Q N.l,O Q N.op,O Q N.n,Ax N.x,vn,vk] 96)) 96 N vn vk:=ax w _;have ds:=bn.lt;obtain⟨dg,g,rfl⟩:=ap.form;obtain⟨b,rfl,_⟩:=ap.get a8;have cm:bz N 0=(h:Int):=by unfold bz;rw[List.getD,a8];rfl
 have cn:bz N 1=(r:Int):=by unfold bz;rw[List.getD,an];rfl
 have c6:1<N.ks.length:=by rcases be 1 N.ks.length with e|e;exact e;rw[dL e]at an;cases an
 have bb:=Cg N vn (U (R b) N.ks.length g) cr;obtain⟨d,ce⟩:=aD N.ks.length;rw[ce]at c6 c5 ap a7 bo bb⊢;have u:Hid (Pr w0 j p t (w.alloc (B1 #[O Q N.k,O Q N.f,O Q N.t,O Q N.l,O Q N.op,O Q N.n,Ax N.x,vn,U (R b) d g] 96))/\Kq w0.heap.size w (w.alloc (B1 #[O Q N.k,O Q N.f,O Q N.t,O Q N.l,O Q N.op,O Q N.n,Ax N.x,vn,U (R b) d g] 96))
  /\cw w.heap.size (w.alloc (B1 #[O Q N.k,O Q N.f,O Q N.t,O Q N.l,O Q N.op,O Q N.n,Ax N.x,vn,U (R b) d g] 96)) 96 N vn (U (R b) d g)/\aJ w0 (U (R b) d g) N.ks/\N.ks[0]?=R (h:Int)/\N.ks[1]?=R (r:Int)):=⟨bn.below a7,Kq.of_below a7,bo,ap,a8,an⟩
 have K:=gy cf ck cl;have c3:=abt N.k N.op;obtain⟨df,C⟩:=aD (tJ ns E N A i);rw[C]at a9⊢;unfold tJ Kf at C;rw[cm,cn]at C;generalize rG N.k N.op=B at bb c3 C;obtain⟨v,F⟩:=aD (if B=i then i+1 else i);rw[F]at C;have cp:0<=v/\v<=51:=by rw[<-F];split<;>omega
 have ca:=ar C;have cq:p.size+((ik ns E h v).size+A.size+(ik ns E r B).size)<=140737488355328:=by rw[<-C,ae,ae]at a9;exact a9
 have ak:=ar cq;have al:Hid (∀w:Y,B3 A2 161 #[cE N vn (U (R b) d g)] w fun e m=>e= Br (O Q B)/\Below w.heap.size w m):=bb;clear bn a7 bo ap a8 an cm cn cf ck cl cr ce C a9 cq bb;unfold cE at al⊢;have dk:(0:Int)<(d:Int):=by omega
 have dn:(1:Int)<(d:Int):=by omega
 have b7:=ar cp;have cy:∀(c:Y),Pr w0 j p t c->Kq w0.heap.size w c->cw w.heap.size c 96 N vn (U (R b) d g)->
   c.cell? ⟨w.heap.size,8,V⟩=R (U (R b) d g)/\c.cell? b=R (O Q (h:Int))/\B3 A2 110 #[B0 (R ⟨w0.heap.size,0,V⟩),O Q (h:Int),O Q v] c fun e m=>e= Br (B2 #[])/\Pr w0 j (p++ik ns E h v) t m/\Kq w0.heap.size w m/\cw w.heap.size m 96 N vn (U (R b) d g):=by
  intro c cv c8 cb;obtain⟨_,_,_,_,_,_,_,_,a5,_⟩:=aj cb;obtain⟨c9,bl,a6⟩:=(u.out.2.2.2.1.below cv.bel).get u.out.2.2.2.2.1;cases bl;refine⟨a5,by simpa [Addr.add] using a6,?_⟩;refine(K.out.1 h v _ c c2 K.out.2.1 b7.out.1 (by have:=b7.out.2;omega) cv (by have:=ak.out;omega)).mono ?_;rintro e cz ⟨rfl,da,ct⟩;exact⟨rfl,da,c8.trans ct,ct.box cb (by omega)⟩
 have b9:Hid (∀(c:Y),Pr w0 j p t c->Kq w0.heap.size w c->cw w.heap.size c 96 N vn (U (R b) d g)->
   c.cell? ⟨w.heap.size,8,V⟩=R (U (R b) d g)/\c.cell? b=R (O Q (h:Int))/\B3 A2 110 #[B0 (R ⟨w0.heap.size,0,V⟩),O Q (h:Int),O Q v] c fun e m=>e= Br (B2 #[])/\Pr w0 j (p++ik ns E h v) t m/\Kq w0.heap.size w m/\cw w.heap.size m 96 N vn (U (R b) d g)):=cy
 clear cy cp;have cu:∀(c:Y),cw w.heap.size c 96 N vn (U (R b) d g)->∀a,Kq w0.heap.size c a->Below w0.heap.size w0 a->
   a.cell? ⟨w.heap.size,0,V⟩=R (O Q N.k)/\a.cell? ⟨w.heap.size,1,V⟩=R (O Q N.f)/\a.cell? ⟨w.heap.size,2,V⟩=R (O Q N.t)/\a.cell? ⟨w.heap.size,3,V⟩=R (O Q N.l)/\a.cell? ⟨w.heap.size,4,V⟩=R (O Q N.op)/\a.cell? ⟨w.heap.size,5,V⟩=R (O Q N.n)/\a.cell? ⟨w.heap.size,6,V⟩=R (Ax N.x)/\a.cell? ⟨w.heap.size,7,V⟩=R vn/\a.cell? ⟨w.heap.size,8,V⟩=R (U (R b) d g)/\a.cell? ⟨b.block,b.off+1,V⟩=R (O Q (r:Int))/\Kq w0.heap.size c a:=by
  intro c cF a cs c4;obtain⟨bs,bt,bw,bE,b0,b1,b2,b6,a5,_⟩:=aj (cs.box cF (by omega));obtain⟨c9,bl,a6⟩:=(u.out.2.2.2.1.below c4).get u.out.2.2.2.2.2;cases bl;exact⟨bs,bt,bw,bE,b0,b1,b2,b6,a5,lw a6 (by decide),cs⟩
 by_cases L:B=i
 ·have c0:(B==i)=B4:=by simpa using L
  rw[ab L]at F;have af:=ar F;clear L F;go_in;go_wp2_with fail;refine lc (al.out _) fun br y=>?_;obtain⟨bf,bj,a2⟩:=b9.out br (u.out.1.below y) (u.out.2.1.trans (Kq.of_below y)) (u.out.2.2.1.below y);clear y;go_wp2_with fail;rw[<-af.out]at a2;refine a2.mono ?_;rintro e cz ⟨rfl,J,av,am⟩;rw[af.out]at J;have G:=gy J av am;clear J av am bf bj;go_wp2_with fail;refine(az w0 j _ A t _ G.out.1 (by have:=ak.out;rw[ae];omega)).mono ?_;rintro e s ⟨rfl,a3,I⟩;have H:=I.box G.out.2.2 (by omega);have o:Hid (Pr w0 j (p++ik ns E h v++A) t s/\Kq w0.heap.size w s):=⟨a3,G.out.2.1.trans I⟩;have z:=cu s H;have c7:=au H;clear a3 I H;obtain⟨bs,bt,bw,bE,b0,b1,b2,b6,a5,a6,_⟩:=z s (Kq.refl _ _) o.out.1.bel;go_wp2_with fail;go_region_held3 (fun a=>a.cell? ⟨w.heap.size,0,V⟩=R (O Q N.k)/\a.cell? ⟨w.heap.size,1,V⟩=R (O Q N.f)/\a.cell? ⟨w.heap.size,2,V⟩=R (O Q N.t)/\a.cell? ⟨w.heap.size,3,V⟩=R (O Q N.l)/\a.cell? ⟨w.heap.size,4,V⟩=R (O Q N.op)/\a.cell? ⟨w.heap.size,5,V⟩=R (O Q N.n)/\a.cell? ⟨w.heap.size,6,V⟩=R (Ax N.x)/\a.cell? ⟨w.heap.size,7,V⟩=R vn/\a.cell? ⟨w.heap.size,8,V⟩=R (U (R b) d g)/\a.cell? ⟨b.block,b.off+1,V⟩=R (O Q (r:Int))/\Kq w0.heap.size s a) (first|exact z _ (Kq.of_below (bq (aq _ _))) (bq o.out.1.bel)|exact z _ (Kq.of_below ((bq (aq _ _)).trans q)) (o.out.1.below ((bq (aq _ _)).trans q)).bel|exact z _ ((Kq.of_below ((bq (aq _ _)).trans q)).trans a0) a4.bel|go_keep) (first|(go_at_call 161;refine(al.out _).mono ?_;rintro e dc ⟨rfl,q⟩)|(go_at_call 110;refine(K.out.1 r B _ _ cc K.out.2.2 (by omega) (by omega) (o.out.1.below ((bq (aq _ _)).trans q)) (by have:=ak.out;rw[ae,ae];omega)).mono ?_;rintro e dd ⟨rfl,a4,a0⟩))
  go_wp2_with fail;go_end0
  refine⟨rfl,?_,(o.out.2.trans (Kq.of_below ((bq (aq _ _)).trans q))).trans a0⟩;rw[<-ca.out,<-aB,<-aB];exact a4
 ·have c0:(B==i)=B5:=by simpa using L
  rw[aa L]at F;have af:=ar F;clear L F;go_in;go_wp2_with fail;refine lc (al.out _) fun br y=>?_;obtain⟨bf,bj,a2⟩:=b9.out br (u.out.1.below y) (u.out.2.1.trans (Kq.of_below y)) (u.out.2.2.1.below y);clear y;go_wp2_with fail;rw[<-af.out]at a2;refine a2.mono ?_;rintro e cz ⟨rfl,J,av,am⟩;rw[af.out]at J;have G:=gy J av am;clear J av am bf bj;go_wp2_with fail;refine(az w0 j _ A t _ G.out.1 (by have:=ak.out;rw[ae];omega)).mono ?_;rintro e s ⟨rfl,a3,I⟩;have H:=I.box G.out.2.2 (by omega);have o:Hid (Pr w0 j (p++ik ns E h v++A) t s/\Kq w0.heap.size w s):=⟨a3,G.out.2.1.trans I⟩;have z:=cu s H;have c7:=au H;clear a3 I H;obtain⟨bs,bt,bw,bE,b0,b1,b2,b6,a5,a6,_⟩:=z s (Kq.refl _ _) o.out.1.bel;go_wp2_with fail;go_region_held3 (fun a=>a.cell? ⟨w.heap.size,0,V⟩=R (O Q N.k)/\a.cell? ⟨w.heap.size,1,V⟩=R (O Q N.f)/\a.cell? ⟨w.heap.size,2,V⟩=R (O Q N.t)/\a.cell? ⟨w.heap.size,3,V⟩=R (O Q N.l)/\a.cell? ⟨w.heap.size,4,V⟩=R (O Q N.op)/\a.cell? ⟨w.heap.size,5,V⟩=R (O Q N.n)/\a.cell? ⟨w.heap.size,6,V⟩=R (Ax N.x)/\a.cell? ⟨w.heap.size,7,V⟩=R vn/\a.cell? ⟨w.heap.size,8,V⟩=R (U (R b) d g)/\a.cell? ⟨b.block,b.off+1,V⟩=R (O Q (r:Int))/\Kq w0.heap.size s a) (first|exact z _ (Kq.of_below (bq (aq _ _))) (bq o.out.1.bel)|exact z _ (Kq.of_below ((bq (aq _ _)).trans q)) (o.out.1.below ((bq (aq _ _)).trans q)).bel|exact z _ ((Kq.of_below ((bq (aq _ _)).trans q)).trans a0) a4.bel|go_keep) (first|(go_at_call 161;refine(al.out _).mono ?_;rintro e dc ⟨rfl,q⟩)|(go_at_call 110;refine(K.out.1 r B _ _ cc K.out.2.2 (by omega) (by omega) (o.out.1.below ((bq (aq _ _)).trans q)) (by have:=ak.out;rw[ae,ae];omega)).mono ?_;rintro e dd ⟨rfl,a4,a0⟩))
  go_wp2_with fail;go_end0
  refine⟨rfl,?_,(o.out.2.trans (Kq.of_below ((bq (aq _ _)).trans q))).trans a0⟩;rw[<-ca.out,<-aB,<-aB];exact a4
theorem ta(l:List ByteArray)(k:Nat)(x:ByteArray)(c:l[k]?=R x):fw (l.take (k+1))=fw (l.take k)++x:=by
 obtain⟨a,b⟩:=List.getElem?_eq_some_iff.1 c;unfold fw;rw[List.take_succ_eq_append_getElem a,List.foldl_append,b];rfl
theorem Ki(l:List ByteArray)(k:Nat):(fw (l.take k)).size<=(fw (l.take (k+1))).size:=by
 by_cases a:k<l.length
 ·rw[ta l k _ (aF a),ae];omega
 ·rw[cC (by omega),cC (by omega)];exact ag _
theorem FG(l:List ByteArray)(k:Nat):(fw (l.take k)).size<=(fw l).size:=by
 have b:∀a,(fw (l.take k)).size<=(fw (l.take (k+a))).size:=by
  intro a
  induction a with
  |zero=>exact ag _
  |succ a c=>exact bA c (Ki l (k+a))
 have:=b l.length
 rwa [cC (show l.length<=k+l.length by omega)]at this
def adL(w0:Y)(f:A0)(ns:List Nd)(S:Int->Nat->ByteArray)(e:Nat):Prop:=
 ∀(a b:Nat)(c:ByteArray)(d:Y),a<e->jE (nodeI ns a).k=B4->b+e<=500000->Pr w0 f c b d->c.size+(S a b).size<=140737488355328->
  B3 A2 80 #[B0 (R ⟨w0.heap.size,0,V⟩),O Q (a:Int)] d fun h g=>h= Br (B2 #[])/\Pr w0 f (c++S a b) b g/\Kq w0.heap.size d g
def acs(ns:List Nd)(b:Nat)(c:List Int):Prop:=∀d∈c,∃a:Nat,d=(a:Int)/\a<b/\a<ns.length/\jE (nodeI ns a).k=B4
theorem yu(w0:Y)(F:A0)(ns:List Nd)(S:Int->Nat->ByteArray)(I:Nat)(a0:adL w0 F ns S I)(av:bI w0 F ns)(cb:ns.length<=1048576)(i:Nat)(bo:i<ns.length)(an:acs ns I (nodeI ns i).ks)(bp:(nodeI ns i).ks.length<=1048576)(tab:Nat)(dc:tab+I<500000)
  (b:ByteArray) (w:Y) (u:Pr w0 F b tab w) (z:b.size+(tK S (nodeI ns i).ks tab).size<=140737488355328):
  B3 A2 107 #[B0 (R ⟨w0.heap.size,0,V⟩),O Q (i:Int)] w fun e m=>e= Br (B2 #[])/\Pr w0 F (b++tK S (nodeI ns i).ks tab) tab m/\Kq w0.heap.size w m:=by
 have bs:=mf bo;obtain⟨cy,j,rfl⟩:=av.form;obtain⟨l,rfl,dg,df,al⟩:=av.get bs;obtain⟨z0,cq,cr⟩:=u.cells;have bf:=bm u.bel al.c8;have v:=al.hk;obtain⟨r,br⟩:=aD ((nodeI ns i).ks);rw[br]at an bp z v⊢;obtain⟨cz,cF,rfl⟩:=v.form;obtain⟨f,bn⟩:=aD ns.length;obtain⟨h,ap⟩:=aD r.length;rw[bn]at z0 u a0 cb bo⊢;rw[ap]at bf v bp;have g:=agd u v an a0 ap;have c9:(i:Int)<(f:Int):=by omega
 have da:(0:Int)<=(i:Int):=by omega
 obtain⟨bd,k⟩:=aD (tK S r tab);rw[k]at z⊢;clear u av al bs an a0 v br bn ap;unfold tK at k;by_cases q:r=[]
 ·have b8:h=0:=by have:=g.out.2.2.2.2;rw[q]at this;simpa using this.symm
  rw[ab q]at k;subst k b8;clear q;go_in;go_wp2_with fail;refine(az w0 _ b _ _ _ g.out.1 z).mono ?_;rintro e G ⟨rfl,x,C⟩;go_wp2_with fail;exact bg (fE rfl _ _ _) rfl ⟨rfl,x,C⟩
 ·rw[aa q]at k;have b9:0<h:=by
   have:=g.out.2.2.2.2;cases r with
   |nil=>exact absurd rfl q
   |cons cv dd=>simp at this;omega
  have c4:((h:Int)==0)=B5:=by simp;omega
  obtain⟨c,A⟩:∃c,(r.map fun a=>ij (tab+1)++S a (tab+1))=c:=⟨_,rfl⟩;rw[A]at k;have ak:Hid (⟨#[123]⟩++fw c++ij tab++⟨#[125]⟩=bd/\(r.map fun a=>ij (tab+1)++S a (tab+1))=c/\c.length=h):=⟨k,A,by rw[<-A,du];exact g.out.2.2.2.2⟩;have bE:b.size+(1+(fw c).size+(tab+1)+1)<=140737488355328:=by
   have e:bd.size=1+(fw c).size+(tab+1)+1:=by rw[<-k,ae,ae,ae,iK];rfl
   omega
  have t:=ar bE;clear k A z q bE b9;go_in;go_wp2_with fail;refine(az w0 _ b ⟨#[123]⟩ _ _ g.out.1 (by have:=t.out;show b.size+1<=_;omega)).mono ?_;rintro e G ⟨rfl,x,C⟩;obtain⟨a6,H,y⟩:=x.cells;have a7:=y 2;have b1:=x.putTab ((tab:Int)+1);have J:Hid (Pr w0 (U (R l) f j) (b++⟨#[123]⟩) ((tab+1:Nat):Int) (G.setCell ⟨w0.heap.size,2,V⟩ (O Q ((tab:Int)+1)))/\Kq w0.heap.size w (G.setCell ⟨w0.heap.size,2,V⟩ (O Q ((tab:Int)+1)))):=⟨by rw[show((tab+1:Nat):Int)=(tab:Int)+1 by omega];exact b1,C.trans (Kq.putP _ _ _ _)⟩;clear x C b1 y;go_wp2_with fail;generalize G.setCell ⟨w0.heap.size,2,V⟩ (O Q ((tab:Int)+1))=ct at J⊢;clear a6 H a7 z0 cq cr bf;go_loopw [32] (fun a5 wr=>∃a:Nat,a<=h/\a5= O Q a/\Hid (Pr w0 (U (R l) f j) (b++⟨#[123]⟩++fw (c.take a)) ((tab+1:Nat):Int) wr/\Kq w0.heap.size w wr)) (fun a5 _=>h-(intOf a5).toNat)
  case atStart=>exact⟨0,by omega,rfl,by rw[show b++⟨#[123]⟩++fw (c.take 0)=b++⟨#[123]⟩ from ByteArray.append_empty];exact J.out.1,J.out.2⟩
  case round=>
   obtain⟨a,c5,rfl,p⟩:=hrel;by_cases cc:a<h
   ·obtain⟨cp,B⟩:=eA g.out.2.2.2.2 cc;obtain⟨s,rfl,bt,ce,bw⟩:=g.out.2.2.1 cp (dC B);obtain⟨b6,rfl,b7⟩:=(g.out.2.1.below p.out.1.bel).get B;have c7:(a:Int)<(h:Int):=by omega
    have c6:(0:Int)<=(a:Int):=by omega
    have bx:c[a]?=R (ij (tab+1)++S s (tab+1)):=by rw[<-ak.out.2.1,dj,B];rfl
    have am:=ta c a _ bx;have bj:=FG c (a+1);have bl:(fw (c.take a)).size+(tab+2+(S s (tab+1)).size)<=(fw c).size:=by rw[am,ae,ae,iK]at bj;omega
    have af:=cH am bl;have a9:=cH bt bw;have a3:a=0->wr.cell? b6=R (O Q (s:Int)):=fun e=>by subst e;simpa [Addr.add] using b7
    clear am bj bl B bx bt ce bw;have b3:∀d,Pr w0 (U (R l) f j) (b++⟨#[123]⟩++fw (c.take a)++ij (tab+1)) ((tab+1:Nat):Int) d->Kq w0.heap.size wr d->B3 A2 80 #[B0 (R ⟨w0.heap.size,0,V⟩),O Q (s:Int)] d fun e m=>e= Br (B2 #[])/\Hid (Pr w0 (U (R l) f j) (b++⟨#[123]⟩++fw (c.take (a+1))) ((tab+1:Nat):Int) m/\Kq w0.heap.size w m):=by
     intro d o n;refine(g.out.2.2.2.1 s (tab+1) _ d a9.out.1 a9.out.2 (by omega) o (by have:=af.out.2;have:=t.out;rw[ae,ae,ae,iK];show b.size+1+_+_+_<=_;omega)).mono ?_;rintro e b4 ⟨rfl,cl,cf⟩;refine⟨rfl,?_,(p.out.2.trans n).trans cf⟩;rw[af.out.1,<-aB,<-aB];exact cl
    have bb:Hid (∀d,Pr w0 (U (R l) f j) (b++⟨#[123]⟩++fw (c.take a)++ij (tab+1)) ((tab+1:Nat):Int) d->Kq w0.heap.size wr d->B3 A2 80 #[B0 (R ⟨w0.heap.size,0,V⟩),O Q (s:Int)] d fun e m=>e= Br (B2 #[])/\Hid (Pr w0 (U (R l) f j) (b++⟨#[123]⟩++fw (c.take (a+1))) ((tab+1:Nat):Int) m/\Kq w0.heap.size w m)):=b3;have E:=Cf w0 (U (R l) f j) (b++⟨#[123]⟩++fw (c.take a)) (tab+1) wr p.out.1 (by omega) (by have:=af.out.2;have:=t.out;rw[ae,ae];show b.size+1+_+_<=_;omega);clear b3;by_cases ca:a=0
    ·subst ca;have c0:=a3 rfl;clear a3;go_wp2_with fail;refine E.mono ?_;rintro e d ⟨rfl,o,n⟩;have ks:=bb.out d o n;clear o n E;go_wp2_with fail;refine ks.mono ?_;rintro e b4 ⟨rfl,K⟩;go_wp2_with fail;exact⟨⟨1,by omega,by go_num,K⟩,by simp[intOf];omega⟩
    ·clear a3;go_wp2_with fail;refine E.mono ?_;rintro e d ⟨rfl,o,n⟩;have ks:=bb.out d o n;clear o n E;go_wp2_with fail;refine ks.mono ?_;rintro e b4 ⟨rfl,K⟩;go_wp2_with fail;exact⟨⟨a+1,by omega,by go_num,K⟩,by simp[intOf];omega⟩
   ·obtain rfl:a=h:=by omega
    obtain⟨a6,H,y⟩:=p.out.1.cells;have cn:wr.cell? ⟨w0.heap.size,2,V⟩=R (O Q ((tab:Int)+1)):=by rw[H];rw[show((tab+1:Nat):Int)=(tab:Int)+1 by omega]
    have a7:=y 2;have a4:=p.out.1.putTab (tab:Int);rw[cC (by rw[ak.out.2.2];exact ag _)]at a4;have L:Hid (Pr w0 (U (R l) f j) (b++⟨#[123]⟩++fw c) (tab:Int) (wr.setCell ⟨w0.heap.size,2,V⟩ (O Q (tab:Int)))/\Kq w0.heap.size w (wr.setCell ⟨w0.heap.size,2,V⟩ (O Q (tab:Int)))):=⟨a4,p.out.2.trans (Kq.putP _ _ _ _)⟩;have c3:(tab:Int)+1-1=(tab:Int):=by omega
    clear a4 H y a6;go_wp2_with fail;generalize wr.setCell ⟨w0.heap.size,2,V⟩ (O Q (tab:Int))=cu at L⊢;refine(Cf w0 _ _ tab _ L.out.1 (by omega) (by have:=t.out;rw[ae,ae];show b.size+1+_+_<=_;omega)).mono ?_;rintro e b5 ⟨rfl,b2,b0⟩;have a8:Hid (Pr w0 (U (R l) f j) (b++⟨#[123]⟩++fw c++ij tab) (tab:Int) b5/\Kq w0.heap.size w b5):=⟨b2,L.out.2.trans b0⟩;clear b2 b0 cn a7;go_wp2_with fail;refine(az w0 _ _ ⟨#[125]⟩ _ _ a8.out.1 (by have:=t.out;rw[ae,ae,ae,iK];show b.size+1+_+_+1<=_;omega)).mono ?_;rintro e dk ⟨rfl,cm,ck⟩;go_wp2_with fail;go_end0
    refine⟨rfl,?_,a8.out.2.trans ck⟩;rw[<-ak.out.1,<-aB,<-aB,<-aB];exact cm
def Wr(w0:Y)(d:A0)(t:Int)(g:FuncId)(args:Array A0)(c:ByteArray):Prop:=
 ∀(a:ByteArray)(b:Y),Pr w0 d a t b->a.size+c.size<=140737488355328->B3 A2 g args b fun f e=>f= Br (B2 #[])/\Pr w0 d (a++c) t e/\Kq w0.heap.size b e
abbrev pW(w0:Y):A0:= B0 (R ⟨w0.heap.size,0,V⟩)
abbrev fx(N:Nd)(vn vk:A0):Obj:= B1 #[O Q N.k,O Q N.f,O Q N.t,O Q N.l,O Q N.op,O Q N.n,Ax N.x,vn,vk] 96
structure NdR (w0:Y) (p1:Addr) (i:Nat) (N:Nd) (an:Option Addr) (M cn:Nat) (ak:Option Addr) (L ck:Nat):Prop where
 nm:cj w0 (.slice an M cn) N.nm
 ks:aJ w0 (.slice ak L ck) N.ks
 hM:N.nm.length=M
 hL:N.ks.length=L
 cap:L<=ck
 rd:∀W,Below w0.heap.size w0 W->C3 W (p1.add (i*9)) N (.slice an M cn) (.slice ak L ck)
def fI(w0:Y)(p1:Addr)(ns:List Nd):Prop:=
 ∀b a d c,ns[b]?=R a->w0.cell? ⟨(p1.add (b*9)).block,(p1.add (b*9)).off+8,V⟩=R (U d a.ks.length c)->a.ks.length<=c
theorem dH{w0:Y}{p1:Addr}{n c1:Nat}{ns:List Nd}(g:bI w0 (U (R p1) n c1) ns)(j:fI w0 p1 ns){i:Nat}(k:i<ns.length):∃an e cn b d ck,NdR w0 p1 i (nodeI ns i) an e cn b d ck:=by
 have c:=mf k;obtain⟨m,f,p,o,a⟩:=g.get c;cases f;obtain⟨an,cn,rfl⟩:=a.hn.form;obtain⟨b,ck,rfl⟩:=a.hk.form;exact⟨an,_,cn,b,_,ck,a.hn,a.hk,rfl,rfl,j i _ b ck c a.c8,fun l h=>a.below h⟩
structure Bx (w0:Y) (vt:A0) (t:Int) (w:Y) (N:Nd) (vn vk:A0) (T:ByteArray) (W:Y):Prop where
 pr:Pr w0 vt T t W
 kq:Kq w0.heap.size w W
 bx:cw w.heap.size W 96 N vn vk
theorem Bx.new{w0:Y}{c:A0}{t:Int}{w:Y}{a:ByteArray}(d:Pr w0 c a t w)(N:Nd)(vn vk:A0):Bx w0 c t w N vn vk a (w.alloc (fx N vn vk)):=by
 have b:Below w.heap.size w (w.alloc (fx N vn vk)):=(aq _ w).alloc (ag _) _;exact⟨d.below b,Kq.of_below b,ax w _⟩
theorem Bx.next{w0:Y}{b:A0}{t:Int}{w:Y}{N:Nd}{vn vk:A0}{f c:ByteArray}{d a:Y}(e:Bx w0 b t w N vn vk f d)(g:w0.heap.size<w.heap.size)(p:Pr w0 b c t a)(k:Kq w0.heap.size d a):Bx w0 b t w N vn vk c a:=
 ⟨p,e.kq.trans k,k.box e.bx (by omega)⟩
theorem Bx.below{w0:Y}{f:A0}{t:Int}{w:Y}{N:Nd}{vn vk:A0}{d:ByteArray}{a e:Y}(c:Bx w0 f t w N vn vk d a)(b:Below a.heap.size a e):Bx w0 f t w N vn vk d e:=
 ⟨c.pr.below b,c.kq.trans (Kq.of_below b),c.bx.below b⟩
theorem Bx.cells{w0:Y}{q:A0}{t:Int}{w:Y}{N:Nd}{vn vk:A0}{b:ByteArray}{a:Y}(p:Bx w0 q t w N vn vk b a):a.cell? ⟨w.heap.size,0,V⟩=R (O Q N.k)/\a.cell? ⟨w.heap.size,1,V⟩=R (O Q N.f)/\a.cell? ⟨w.heap.size,2,V⟩=R (O Q N.t)/\a.cell? ⟨w.heap.size,3,V⟩=R (O Q N.l)/\a.cell? ⟨w.heap.size,4,V⟩=R (O Q N.op)/\a.cell? ⟨w.heap.size,5,V⟩=R (O Q N.n)/\a.cell? ⟨w.heap.size,6,V⟩=R (Ax N.x)/\a.cell? ⟨w.heap.size,7,V⟩=R vn/\a.cell? ⟨w.heap.size,8,V⟩=R vk:=by
 obtain⟨c,d,e,g,h,i,j,m,o,r⟩:=aj p.bx;exact⟨c,d,e,g,h,i,j,m,o⟩
theorem Bx.kid0{w0:Y}{i:A0}{t:Int}{w:Y}{N:Nd}{vn:A0}{a:Addr}{b ck:Nat}{d:ByteArray}{c:Y}(f:Bx w0 i t w N vn (U (R a) b ck) d c)(g:aJ w0 (U (R a) b ck) N.ks){q:Int}(h:N.ks[0]?=R q):c.cell? a=R (O Q q):=by
 obtain⟨k,e,j⟩:=(g.below f.pr.bel).get h;cases e;simpa [Addr.add] using j
theorem Bx.kid{w0:Y}{k:A0}{t:Int}{w:Y}{N:Nd}{vn:A0}{a:Addr}{b ck:Nat}{d:ByteArray}{c:Y}(f:Bx w0 k t w N vn (U (R a) b ck) d c)(h:aJ w0 (U (R a) b ck) N.ks){j:Nat}{q:Int}(i:N.ks[j]?=R q)(g:j≠0):c.cell? ⟨a.block,a.off+j,V⟩=R (O Q q):=by
 obtain⟨m,e,l⟩:=(h.below f.pr.bel).get i;cases e;exact lw l g
theorem Bx.name0{w0:Y}{i:A0}{t:Int}{w:Y}{N:Nd}{a:Addr}{b cn:Nat}{vk:A0}{d:ByteArray}{c:Y}(f:Bx w0 i t w N (U (R a) b cn) vk d c)(g:cj w0 (U (R a) b cn) N.nm){s:ByteArray}(h:N.nm[0]?=R s):c.cell? a=R (Ax s):=by
 obtain⟨k,e,j⟩:=(g.below f.pr.bel).get h;cases e;simpa [Addr.add] using j
theorem aJ.ptr{c:Y}{a:Option Addr}{b ck:Nat}{l:List Int}(e:aJ c (U a b ck) l)(f:0<l.length):∃h,a=R h:=by
 obtain⟨g,d,_⟩:=e.get (aF f);exact⟨g,d⟩
theorem cj.ptr{c:Y}{a:Option Addr}{b ck:Nat}{l:List ByteArray}(e:cj c (U a b ck) l)(f:0<l.length):∃h,a=R h:=by
 obtain⟨g,d,_⟩:=e.get (aF f);exact⟨g,d⟩
theorem cd{N:Nd}{j:Nat}{q:Int}(a:N.ks[j]?=R q):j<N.ks.length:=(List.getElem?_eq_some_iff.1 a).1
def qp(a:Y)(b:Nat)(N:Nd)(vn vk:A0):Prop:=a.cell? ⟨b,0,V⟩=R (O Q N.k)/\a.cell? ⟨b,1,V⟩=R (O Q N.f)/\a.cell? ⟨b,2,V⟩=R (O Q N.t)/\a.cell? ⟨b,3,V⟩=R (O Q N.l)/\a.cell? ⟨b,4,V⟩=R (O Q N.op)/\a.cell? ⟨b,5,V⟩=R (O Q N.n)/\a.cell? ⟨b,6,V⟩=R (Ax N.x)/\a.cell? ⟨b,7,V⟩=R vn/\a.cell? ⟨b,8,V⟩=R vk
theorem abu(a:Addr)(i j:Nat):(a.add i).add j=a.add (i+j):=by
 unfold Addr.add;by_cases b:i=0
 ·subst b;simp
 ·by_cases c:j=0
  ·subst c;simp[b]
  ·simp[b,c];omega
theorem aJ.take{d:Y}{a:Option Addr}{n c:Nat}{l:List Int}(i:aJ d (U a n c) l)(k:Nat)(g:k<=l.length):aJ d (U a k c) (l.take k):=by
 rcases i with⟨rfl,e,h,f⟩|⟨e,h,f,m⟩
 ·have:k=0:=by simpa using g
  subst this;exact .inl ⟨rfl,a,c,rfl⟩
 ·cases f;by_cases j:k=0
  ·subst j;exact .inl ⟨by simp,_,_,rfl⟩
  ·refine .inr ⟨e,c,by rw[jh,ze g],fun o p b=>m o p ?_⟩;rw[oF]at b;split at b
   ·exact b
   ·cases b
theorem aJ.drop{d:Y}{a:Addr}{n c b:Nat}{l:List Int}(i:aJ d (U (R a) n c) l)(k m:Nat)(r:k<=l.length)(o:m=l.length-k):aJ d (U (R (a.add k)) m b) (l.drop k):=by
 subst o;rcases i with⟨rfl,g,h,e⟩|⟨g,h,e,j⟩
 ·exact .inl ⟨by simp,R (a.add k),b,by simp⟩
 ·cases e;refine .inr ⟨a.add k,b,by rw[jg],fun p q f=>?_⟩;rw[oG]at f;rw[abu];exact j (k+p) q f
