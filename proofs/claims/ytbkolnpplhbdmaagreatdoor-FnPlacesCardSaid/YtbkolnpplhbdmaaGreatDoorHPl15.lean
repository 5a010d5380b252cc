import Derived.Test.YtbkolnpplhbdmaaGreatDoorHPl07
import Derived.Test.YtbkolnpplhbdmaaGreatDoorHPl13
import Derived.Test.YtbkolnpplhbdmaaGreatDoorHPl12
import Derived.Laws.Cover2
set_option linter.all false
set_option maxRecDepth 100000
set_option maxHeartbeats 6400000
open Go.Proofs.Tryz
open Go.Value renaming int->O,slice->V,pointer->Y,bool->A5,string->B1,string->B3,agg->B4,int->B6,ownBlock->Ce,tuple->Ck
open Option renaming some->Q,none->U
open Go.IntKind renaming u8->X,i64->A0
open Go.World renaming putObj_heap_other->Z
open Go.Obj renaming cells->Ad
open Go renaming undef->Ak,World->A2,Value->A3,TypeId->Bk,KeepsFrom->Bn,Calls->B0,grownBy_putObj'->B7
open Go.Proofs.Tryz renaming prog->Ax
open Bool renaming false->A1,true->A9
open Go.Ending renaming returned->Bc
open Go.RowKit renaming Below->Br,Hid->B2,intOf->C2
namespace Go.Proofs.YtbkolnpplhbdmaaGreatDoor
open Go.RowKit Go.Maps Go.WideMaps
variable{B b base gb k m mb n:Nat}{W W' w:World}{a t:Int}{c:List Nat}{fr:Nat×Nat}{r:Bool}{s:ByteArray}{v vs:Value}
def alB(c:Int):Bool:=bI c||cm c
def oB(a b:ByteArray)(i:Nat):aq (a++b) i=if i<a.size then aq a i else aq b (i-a.size):=by
 have e:(a++b).data.toList=a.data.toList++b.data.toList:=by rw[lg,Hk]
 have f:a.data.toList.length=a.size:=fK;rw[ti,e];split<;>rename_i c
 all_goals
  by_cases d:i<a.size
  .rw[ab d,ti];rw[gw (by omega)]at c;rw[c]
  .rw[aa d,ti];rw[eD (by omega),f]at c;rw[c]
def Ee(s:ByteArray)(n i:Nat)(c:n<=s.size)(b:i<n):aq (s.extract 0 n) i=aq s i:=by
 rw[ti,ti];have a:(s.extract 0 n).data.toList=(s.data.toList.drop 0).take (n-0):=by rw[<-gH,Lib.extract_toList]
 rw[a,kC,vG,nh,ab b]
def ac2(a:ByteArray):a++(⟨#[]⟩:ByteArray)=a:=by apply kD;rw[lg];simp
def akp(a:ByteArray):(⟨#[]⟩:ByteArray)++a=a:=by apply kD;rw[lg];simp
def opn(k:Int):Bool:=decide (k=46\/k=47\/k=40\/k=44\/k=10\/k=25\/60<k)
structure Cs (x:ByteArray) (n:Nat):Prop where
 out:2*x.size<=n
def Cs.le{x:ByteArray}(h:Cs x m)(a:m<=n):Cs x n:=⟨bG h.out a⟩
def uI{x:ByteArray}(h:2*x.size<=n:=by decide):Cs x n:=⟨h⟩
def an5:Cs ⟨#[]⟩ 0:=⟨by decide⟩
def ac3(s:ByteArray):(fH (ej s)).size<=2+4*s.size:=by
 have:=Hq s s.size (ag _);rw[rH];unfold ej;rw[aG];simp;omega
def an6(s:ByteArray):Cs (fH (ej s)) (16+18*s.size):=⟨by have:=ac3 s;omega⟩
def akq(s:ByteArray)(g:∀i,i<s.size->cm (aq s i)=A9):(fH (ej s)).size=2+s.size:=by
 have e:∀b:List UInt8,(∀a∈b,cm (a.toNat:Int)=A9)->(b.flatMap λa=>esc (a.toNat:Int)).length=b.length:=by
  intro b c
  induction b with
  |nil=>rfl
  |cons a b k=>
   have d:=jG (c a aI);have:esc (a.toNat:Int)=[(a.toNat:Int)]:=by unfold esc;rw[aa (by omega),aa (by omega),aa (by omega),aa (by omega)]
   rw[Cq,aG,k (λl j=>c l (cG _ j)),this,bc];simp;omega
 have f:∀a∈s.data.toList,cm (a.toNat:Int)=A9:=λa d=>by
  obtain⟨i,h,rfl⟩:=iq d;have:=(iz s i s.data.toList[i]).1 (aw h);rw[<-this.2];exact g i this.1
 rw[rH];unfold ej qt;rw[dl (by rw[fK];exact ag _)];have:=e _ f;have c:s.data.toList.length=s.size:=fK;simp only[aG,bc,dE];omega
structure Shr (s:ByteArray):Prop where
 sz:s.size<=3
 cs:Cs s 26
structure Lng (s:ByteArray):Prop where
 lo:20<=s.size
 hi:s.size<=4001
 dg:∀i,i<s.size->cm (aq s i)=A9
 b0:aq s 0=48
 b1:aq s 1=49
def Sml(s:ByteArray):Prop:=s.size<=19/\Cs (fH (ej s)) 106
def GA:Nat->ByteArray
 |0=>⟨#[48,49,50,51,52,53,54,55,56,57]⟩
 |n+1=>GA n++GA n
def uJ:∀n,(GA n).size=10*2 ^ n
 |0=>rfl
 |n+1=>by rw[GA,au,uJ n,Nat.pow_succ];omega
def an7(h:n<=8):(GA n).size<=2560:=by
 have:=Nat.pow_le_pow_right (n:=2) (by decide) h;rw[uJ];omega
structure DgT (t:ByteArray):Prop where
 dg:∀i,i<t.size->cm (aq t i)=A9
 b0:aq t 0=48
 b1:aq t 1=49
def dgt:∀n,DgT (GA n)
 |0=>⟨λi a=>by
  have:i<10:=a
  iterate 10 (obtain _|i:=i;· decide)
  omega,by decide,by decide⟩
 |n+1=>by
  have h:=dgt n;have b:=aH h.b0;have c:=aH h.b1;rw[GA];refine⟨λi a=>?_,by rw[oB,ab b];exact h.b0,by rw[oB,ab c];exact h.b1⟩;rw[au]at a;rw[oB];split
  .exact h.dg i (by omega)
  .exact h.dg _ (by omega)
def DgT.lng{t:ByteArray}(h:DgT t)(c:20<=n)(d:n<=4001)(a:n<=t.size):Lng (t.extract 0 n):=by
 have f:(t.extract 0 n).size=n:=by rw[qE];omega
 refine⟨by omega,by omega,λb e=>?_,by rw[Ee t n 0 a (by omega)];exact h.b0,by rw[Ee t n 1 a (by omega)];exact h.b1⟩;rw[Ee t n b a (by omega)];exact h.dg b (by omega)
section
variable {C : Cd} {E : Bs} {w w' W : World} {c c1 c2 c3 : Cr} {z k y n : Int}
def Cw.set3(a:Cw C E W w c)(r:Int):Cw C E W (w.setCell ⟨E.cb,3,U⟩ (O A0 r)) ⟨c.p,c.q,r⟩:=
 have b:=zK (qI w E.cb) 3 (O A0 r)
 ⟨a.cu.grown b (bp _ E.cb 3 _ _ _ a.cu.cur),JG a.gr b⟩
def C4(d:Rc C 41 [O A0 6] c (O A0 z) c1)(e:Rc C 41 [O A0 k] c1 (O A0 y) c2)(h:(z=0/\k=3/\IntKind.i64.wrap (9223372036854775807-y)=n)\/(z=1/\k=3/\IntKind.i64.wrap (-9223372036854775808+y)=n)\/(z=2/\k=70000/\IntKind.i64.wrap (y-35000)=n)\/((z==0)=A1/\(z==1)=A1/\(z==2)=A1/\k=12/\IntKind.i64.wrap (y-3)=n)):Rc C 207 [] c (O A0 n) c2:=by
 intro j p i;have f:=i.cw;rcases h with⟨rfl,rfl,a⟩|⟨rfl,rfl,a⟩|⟨rfl,rfl,a⟩|⟨l,m,o,rfl,a⟩;all_goals
  go_in;go_wp2_with fail;refine f.run d λw1 g _=>?_;go_wp2_with fail;refine g.run e λq b _=>?_;go_wp2;go_ret;exact⟨rfl,b.cu,b.gr⟩
def akr(C:Cd)(c:Cr)(l:0<=c.p)(m:c.p<=800000000):∃n c',(-9223372036854775808<=n/\n<=9223372036854775807)/\(c.p<=c'.p/\c'.p<=c.p+3/\c'.r=c.r)/\Rc C 207 [] c (O A0 n) c':=by
 have⟨f,h,o,k,g⟩:=lm C c 6;rcases(show f=0\/f=1\/f=2\/(f≠0/\f≠1/\f≠2) by omega) with d|d|d|d
 .obtain⟨e,b,j,i,a⟩:=lm C h 3;exact⟨9223372036854775807-e,b,by omega,by omega,C4 g a (.inl ⟨d,rfl,by rw[dr];omega⟩)⟩
 .obtain⟨e,b,j,i,a⟩:=lm C h 3;exact⟨-9223372036854775808+e,b,by omega,by omega,C4 g a (.inr (.inl ⟨d,rfl,by rw[dr];omega⟩))⟩
 .obtain⟨e,b,j,i,a⟩:=ap5 C h 70000 (by decide) (by decide) (by omega) (by omega);exact⟨e-35000,b,by omega,by omega,C4 g a (.inr (.inr (.inl ⟨d,rfl,by rw[dr];omega⟩)))⟩
 .obtain⟨e,b,j,i,a⟩:=lm C h 12;exact⟨e-3,b,by omega,by omega,C4 g a (.inr (.inr (.inr ⟨by simpa using d.1,by simpa using d.2.1,by simpa using d.2.2,rfl,by rw[dr];omega⟩)))⟩
def ag9(t:Rc C 41 [O A0 6] c (O A0 3) c1)(u:Rc C 41 [O A0 20] c1 (O A0 0) c2)(ao:c2.r<3)(ap:0<=c2.r)(v:Rc C 41 [O A0 3] ⟨c2.p,c2.q,c2.r+1⟩ (O A0 z) c3)(l:0<=z/\z<3):Rc C 208 [] c (B1 ((GA 9).extract 0 (3999+z.toNat))) c3:=by
 intro af av F;have w:=F.cw;have E:(GA 9).size=5120:=by rw[uJ]
 go_in;go_wp2_with fail;refine w.run t λw1 x _=>?_;go_wp2_with fail;refine x.run u λaK f _=>?_;have al:=f.cu.cells;have ar:IntKind.i64.wrap (c2.r+1)=c2.r+1:=by rw[dr];omega
 have y:=am (f.set3 (c2.r+1));go_wp2;go_loop [3] (λe=>∃n:Nat,n<=9/\e= B1 (GA n)) (λe=>6000-asg e)
 case atStart=>exact⟨0,by decide,rfl⟩
 case round=>
  obtain⟨n,an,rfl⟩:=hrel;by_cases B:n<=8
  .have K:=an7 B;have J:10<=(GA n).size:=by rw[uJ];have:=Nat.one_le_two_pow (n:=n);omega
   have d:((GA n).size:Int)<4000:=by omega
   have h:GA (n+1)=GA n++GA n:=rfl;generalize GA n=a at K J d h;have I:=am h;go_wp2;go_round
   case rel=>exact⟨n+1,by omega,by rw[I.out]⟩
   case measure=>show 6000-(a++a).size<6000-a.size;rw[au];omega
  .obtain rfl:n=9:=by omega
   have d:¬((GA 9).size:Int)<4000:=by omega
   have m:B2 (∀a b,a=GA 9->b=3999+z.toNat->B3 (a.extract 0 b)= B1 ((GA 9).extract 0 (3999+z.toNat))):=λa b i A=>by rw[i,A]
   have⟨a,k⟩:=aC (GA 9);have s:=am k;rw[k]at E d⊢;have L:∀z:Int,0<=z->z<3->IntKind.i64.wrap (3999+z)=((3999+z.toNat:Nat):Int):=λz ak i=>by rw[dr];omega
   have ad:=L z l.1 l.2;have G:(((3999+z.toNat:Nat):Int))<=(a.size:Int):=by omega
   have H:(0:Int)<=((3999+z.toNat:Nat):Int):=by omega
   have⟨b,j⟩:=aC (3999+z.toNat);have o:=am j;rw[j]at ad G H;go_wp2_with fail;refine y.out.run v λa0 g _=>?_;go_wp2;go_ret;exact⟨congrArg Ending.returned (m.out a b s.out.symm o.out.symm),g.cu,g.gr⟩
def KL(b:Rc C 41 [O A0 6] c (O A0 z) c1)(h:(z=0/\s=⟨#[]⟩/\c2=c1)\/(z=2/\s=⟨#[97,34,98,92,99,10,100,9,101]⟩/\c2=c1)\/((z=4\/z=5)/\s=⟨#[116,101,120,116]⟩/\c2=c1)\/(z=3/\s=⟨#[116,101,120,116]⟩/\∃y,Rc C 41 [O A0 20] c1 (O A0 y) c2/\((y==0)=A1\/(y=0/\¬c2.r<3)))):Rc C 208 [] c (B1 s) c2:=by
 intro j l i;have d:=i.cw;rcases h with⟨rfl,rfl,rfl⟩|⟨rfl,rfl,rfl⟩|⟨rfl|rfl,rfl,rfl⟩|⟨rfl,rfl,y,g,h⟩
 case inr.inr.inr=>
  rcases h with h|⟨rfl,h⟩;all_goals
   go_in;go_wp2_with fail;refine d.run b λw1 a _=>?_;go_wp2_with fail;refine a.run g λm e _=>?_;have k:=e.cu.cells;have f:=am e;go_wp2;go_ret;exact⟨rfl,f.out.cu,f.out.gr⟩
 all_goals
  go_in;go_wp2_with fail;refine d.run b λw1 a _=>?_;go_wp2;go_ret;exact⟨rfl,a.cu,a.gr⟩
def aqI(b:Rc C 41 [O A0 6] c (O A0 1) c1)(d:Rc C 41 [O A0 6] c1 (O A0 y) c2)(e:Rc C 235 [O A0 y] c2 (B1 s) c3):Rc C 208 [] c (B1 s) c3:=by
 intro j k i;have f:=i.cw;go_in;go_wp2_with fail;refine f.run b λw1 g _=>?_;go_wp2_with fail;refine g.run d λl h _=>?_;go_wp2_with fail;refine h.run e λm a _=>?_;go_wp2;go_ret;exact⟨rfl,a.cu,a.gr⟩
def aqJ(C:Cd)(c:Cr)(x:0<=c.p)(y:c.p<=800000000)(z:0<=c.r):∃s c',((Sml s/\c'.r=c.r)\/(Lng s/\c.r<3/\c'.r=c.r+1))/\(c.p<=c'.p/\c'.p<=c.p+110)/\Rc C 208 [] c (B1 s) c':=by
 have⟨e,g,B,k,b⟩:=lm C c 6;rcases(show e=0\/e=1\/e=2\/e=3\/(e=4\/e=5) by omega) with d|d|d|d|d
 .exact⟨_,g,.inl ⟨⟨by decide,uI⟩,k.2⟩,by omega,KL b (.inl ⟨d,rfl,rfl⟩)⟩
 .subst d;have⟨i,a,o,t,f⟩:=lm C g 6;obtain⟨v,rfl⟩:=iE o.1;have⟨s,h,A,m,j⟩:=ajA C a v (by omega) (by omega) (by omega);exact⟨s,h,.inl ⟨⟨by omega,(an6 s).le (by omega)⟩,by omega⟩,by omega,aqI b f j⟩
 .exact⟨_,g,.inl ⟨⟨by decide,uI⟩,k.2⟩,by omega,KL b (.inr (.inl ⟨d,rfl,rfl⟩))⟩
 .obtain⟨i,a,o,t,f⟩:=lm C g 20;by_cases l:i=0
  .by_cases n:a.r<3
   .subst d l;obtain⟨E,h,u,m,j⟩:=lm C ⟨a.p,a.q,a.r+1⟩ 3 (by decide) (by decide) (by show 0<=a.p;omega) (by show a.p<=_;omega);have w:h.p=a.p+1/\h.r=a.r+1:=m;exact⟨_,h,.inr ⟨(dgt 9).lng (by omega) (by omega) (by rw[uJ];omega),by omega,by omega⟩,by omega,ag9 b f n (by omega) j u⟩
   .exact⟨_,a,.inl ⟨⟨by decide,uI⟩,by omega⟩,by omega,KL b (.inr (.inr (.inr ⟨d,rfl,i,f,.inr ⟨l,n⟩⟩)))⟩
  .exact⟨_,a,.inl ⟨⟨by decide,uI⟩,by omega⟩,by omega,KL b (.inr (.inr (.inr ⟨d,rfl,i,f,.inl (by simpa using l)⟩)))⟩
 .exact⟨_,g,.inl ⟨⟨by decide,uI⟩,k.2⟩,by omega,KL b (.inr (.inr (.inl ⟨d,rfl,rfl⟩)))⟩
end
abbrev bV(E:Bs):A3:= Y (Q ⟨E.bb,0,U⟩)
def Txt(k:Int)(t:ByteArray):Prop:=(k≠25/\t.size<=19/\Cs t 90)\/(k=25/\(Sml t\/(Lng t/\t.size<=4000)))
def Txt.size{k:Int}{t:ByteArray}(h:Txt k t):t.size<=4000:=by
 rcases h with⟨_,h,_⟩|⟨_,h|⟨_,h⟩⟩
 .omega
 .have:=h.1;omega
 .exact h
def lu{k:Int}(h:k≠25):Txt k ⟨#[]⟩:= .inl ⟨h,by decide,an5.le (by decide)⟩
def aha{k:Int}(h:k≠25)(a:Shr s):Txt k s:=by
 by_cases b:s.size<=19
 .exact .inl ⟨h,b,a.cs.le (by decide)⟩
 .have:=a.sz;omega
structure JD (N:Nd):Prop where
 nm:N.nm.length<=3
 ks:N.ks.length<=64
 x:Txt N.k N.x
 s:∀s∈N.nm,Shr s
 int:ami N
def bgN(N:Nd):Nat:=if 19<N.x.size then 1 else 0
def bigs(L:List Nd):Nat:=(L.map bgN).sum
def ahb(L M:List Nd):bigs (L++M)=bigs L+bigs M:=by unfold bigs;simp
abbrev TO(t:Bk):Prop:=t≠34/\t≠116/\t≠39
def toS:TO 9:=by decide
def toI:TO 3:=by decide
structure Rwx where
 t:Bk
 v:A3
 xs:List A3
abbrev rS(v:A3)(l:List ByteArray):Rwx:=⟨9,v,l.map B3⟩
abbrev rI(v:A3)(l:List Int):Rwx:=⟨3,v,l.map (B6 A0)⟩
def bR(R:List Rwx):List Nat:=R.flatMap λr=>r.v.ownBlock.toList
def bL(L:List Mb):List Nat:=L.flatMap λy=>y.vn.ownBlock.toList++y.vk.ownBlock.toList
structure Bd (C:Cd) (T:Int) (E:Bs) (W:A2) (c:Cr) (L:List Mb) (R:List Rwx):Prop where
 cu:Cu C E W c
 bb:E.base<=E.bb
 row:∃v,W.heap[E.bb]?=Q (.cells #[cV E,v,.int .i64 (T-L.length)] 116 (0,0))/\W.ownsRow E.base 34 9 v L.length (oE L)
 each:∀y∈L,W.ownsRow E.base 9 1 y.vn y.N.nm.length (y.N.nm.map B3)/\W.ownsRow E.base 3 1 y.vk y.N.ks.length (y.N.ks.map (B6 .i64))
 rows:∀r∈R,TO r.t/\W.ownsRow E.base r.t 1 r.v r.xs.length r.xs
 sep:(bR R++bL L).Nodup
section
variable {C : Cd} {T : Int} {E : Bs} {W W' : World} {c c' : Cr} {L : List Mb} {R : List Rwx} {r : Rwx}
def Bd.lt(h:Bd C T E W c L R):E.cb<W.heap.size/\E.bb<W.heap.size/\E.base<=W.heap.size/\E.cb≠E.bb:=by
 have⟨e,b,_⟩:=h.row;have a:=h.cu.cur;refine⟨h.cu.lt,ai b,h.cu.lo.2,λd=>?_⟩;rw[d,b]at a;simp only[fw,lF]at a;exact absurd a.2.1 (by decide)
def Bd.below(h:Bd C T E W c L R)(a:cg W W'):Bd C T E W' c L R:=by
 have⟨g,e,f⟩:=h.row;exact⟨h.cu.below a,h.bb,⟨g,(a.block _ h.lt.2.1).trans e,dA f a⟩,λd b=>⟨dA (h.each d b).1 a,dA (h.each d b).2 a⟩,λd b=>⟨(h.rows d b).1,dA (h.rows d b).2 a⟩,h.sep⟩
def Bd.ltR(h:Bd C T E W c L R):∀b∈bR R++bL L,b<W.heap.size:=by
 intro b hb;rcases List.mem_append.1 hb with hb|hb
 .obtain⟨d,a,e⟩:=List.mem_flatMap.1 hb;exact((h.rows d a).2.lt b (Option.mem_toList.1 e)).2
 .obtain⟨d,a,e⟩:=List.mem_flatMap.1 hb;rcases List.mem_append.1 e with e|e
  .exact((h.each d a).1.lt b (Option.mem_toList.1 e)).2
  .exact((h.each d a).2.lt b (Option.mem_toList.1 e)).2
def Bd.went(h:Bd C T E W c L R)(f:W.grownBy W' (Q E.cb))(p:Cu C E W' c'):Bd C T E W' c' L R:=by
 have g:=h.lt;have⟨r,n,o⟩:=h.row;have e:∀{d k i:Nat}{l:A3}{m:List A3},W.ownsRow E.base d k l i m->d≠39->W'.ownsRow E.base d k l i m:=λj q=>j.kept f (.inr (gC j h.cu.cur (dB q)));exact⟨p,h.bb,⟨r,(f.block _ g.2.1 (λd=>g.2.2.2 (aJ d).symm)).trans n,e o (by decide)⟩,λb a=>⟨e (h.each b a).1 (by decide),e (h.each b a).2 (by decide)⟩,λb a=>⟨(h.rows b a).1,e (h.rows b a).2 (h.rows b a).1.2.2⟩,h.sep⟩
def Bd.hot{r':Rwx}(h:Bd C T E W c L (r::R))(n:W.grownBy W' r.v.ownBlock)(ht:TO r'.t)(J:W'.ownsRow E.base r'.t 1 r'.v r'.xs.length r'.xs)(G:∀b,r'.v.ownBlock=Q b->r.v.ownBlock=Q b\/W.heap.size<=b):Bd C T E W' c L (r'::R)/\Br E.base W W':=by
 have H:=h.lt;have⟨v,F,x⟩:=h.row;have j:=h.rows r aI;have p:TO r.t:=j.1;have d:Br E.base W W':=(ah _ W).grown n H.2.2.1 (λk f=>(j.2.lt k f).1);have y:=h.sep;have u:bR (r::R)=r.v.ownBlock.toList++bR R:=rfl;rw[u,bC,qH]at y;obtain⟨an,ad,af⟩:=y;have m:∀b∈bR R++bL L,r.v.ownBlock≠Q b:=λb d a=>af b (Option.mem_toList.2 a) b d rfl;have l:∀{a size o:Nat}{g:A3}{xs:List A3},W.ownsRow E.base a size g o xs->(∀b,g.ownBlock=Q b->r.v.ownBlock≠Q b)->W'.ownsRow E.base a size g o xs:=λ{a size o g xs} K I=>by
  refine K.kept n ?_;cases hu:g.ownBlock with
  |none=>exact .inl rfl
  |some b=>exact .inr (λa=>I b hu a.symm)
 have z:∀{k:Nat}{s:Array A3}{t:Bk}{w:Nat×Nat},W.heap[k]?=Q (Ad s t w)->t≠r.t->W'.heap[k]?=Q (Ad s t w):=λf ht=>(n.block _ (ai f) (λa=>gC j.2 f ht a.symm)).trans f;refine⟨⟨⟨⟨h.cu.lo.1,bG h.cu.lo.2 d.size⟩,h.cu.code.below d,z h.cu.cur (dB p.2.2)⟩,h.bb,⟨v,z F (dB p.2.1),l x (λb a A=>?_)⟩,λe hz=>⟨l (h.each e hz).1 (λb a=>m b (List.mem_append.2 (.inr (List.mem_flatMap.2 ⟨e,hz,List.mem_append.2 (.inl (Option.mem_toList.2 a))⟩)))),l (h.each e hz).2 (λb a=>m b (List.mem_append.2 (.inr (List.mem_flatMap.2 ⟨e,hz,List.mem_append.2 (.inr (Option.mem_toList.2 a))⟩))))⟩,λe hz=>?_,?_⟩,d⟩
 .rcases x.2 with⟨q,_⟩|⟨B,ak,al,q,_,i,_⟩
  .rw[q]at a;simp[Ce]at a
  .rw[q]at a;obtain rfl:B=b:=by simpa [Ce] using a
   exact gC j.2 i (dB p.1) A
 .rcases List.mem_cons.1 hz with rfl|hz
  .exact⟨ht,J⟩
  .have:=h.rows e (cG _ hz);exact⟨this.1,l this.2 (λb a=>m b (List.mem_append.2 (.inl (List.mem_flatMap.2 ⟨e,hz,Option.mem_toList.2 a⟩))))⟩
 .show(r'.v.ownBlock.toList++bR R++bL L).Nodup;rw[bC,qH];refine⟨?_,ad,λb d c i a=>?_⟩
  .cases r'.v.ownBlock<;>simp
  .subst a;rcases G b (Option.mem_toList.1 d) with q|q
   .exact m b i q
   .have:=h.ltR b (by rw[u,bC];exact List.mem_append.2 (.inr i));omega
def Bd.new(h:Bd C T E W c L R){t:Bk}(ht:TO t)(cs:Array A3)(r':Rwx)(f:r'.t=t)(i:(W.alloc (Ad cs t)).ownsRow E.base t 1 r'.v r'.xs.length r'.xs)(b:r'.v.ownBlock=Q W.heap.size):Bd C T E (W.alloc (Ad cs t)) c L (r'::R):=by
 have a:=h.below (dC W (Ad cs t));refine⟨a.cu,a.bb,a.row,a.each,λj hz=>?_,?_⟩
 .rcases List.mem_cons.1 hz with rfl|hz
  .rw[f];exact⟨ht,i⟩
  .exact a.rows j hz
 .show(r'.v.ownBlock.toList++bR R++bL L).Nodup;rw[bC,qH];refine⟨by rw[b];simp,h.sep,λe d c g k=>?_⟩;rw[b]at d;have:e=W.heap.size:=by simpa using d
  have:=h.ltR c g;omega
def Bd.newI(h:Bd C T E W c L R)(ks:List Int)(a:ks.length<=100):Bd C T E (W.alloc (Ad (ks.map (B6 A0)).toArray 3)) c L (rI (V (Q ⟨W.heap.size,0,U⟩) ks.length ks.length) ks::R):=by
 refine h.new toI _ _ rfl ?_ rfl;have:=vw (base:=E.base) (e:=3) (size:=1) W (ks.map (B6 A0)).toArray ks.length h.lt.2.2.1 (by unfold maxLen;omega) (by simp);simpa using this
def Bd.nil(h:Bd C T E W c L R){t:Bk}(ht:TO t):Bd C T E W c L (⟨t,V U 0 0,[]⟩::R):=
 ⟨h.cu,h.bb,h.row,h.each,λa hz=>by
  rcases List.mem_cons.1 hz with rfl|hz
  .exact⟨ht,fs _ _ _ _⟩
  .exact h.rows a hz,h.sep⟩
def Bd.drop(h:Bd C T E W c L (r::R)):Bd C T E W c L R:=by
 have a:=h.sep;have b:bR (r::R)=r.v.ownBlock.toList++bR R:=rfl;rw[b,bC,qH]at a;exact⟨h.cu,h.bb,h.row,h.each,λe d=>h.rows e (cG _ d),a.2.1⟩
def Bd.swap{a:Rwx}(h:Bd C T E W c L (r::a::R)):Bd C T E W c L (a::r::R):=by
 refine⟨h.cu,h.bb,h.row,h.each,λf hz=>h.rows f ?_,?_⟩
 .simp only[gK]at hz⊢;rcases hz with hz|hz|hz<;>simp[hz]
 .have b:=h.sep;have d:bR (r::a::R)=r.v.ownBlock.toList++(a.v.ownBlock.toList++bR R):=rfl;have e:bR (a::r::R)=a.v.ownBlock.toList++(r.v.ownBlock.toList++bR R):=rfl;rw[d]at b;rw[e];refine List.Perm.nodup_iff ?_ |>.1 b
  rw[<-bC,<-bC (a.v.ownBlock.toList)];exact(List.perm_append_comm.append_right _).append_right _
def Bd.c0(h:Bd C T E W c L R):W.cell? ⟨E.bb,0,U⟩=Q (cV E)/\W.cell? ⟨E.bb,2,U⟩=Q (O A0 (T-L.length)):=by
 have⟨f,b,e⟩:=h.row;have a:=λd=>aj W E.bb d _ _ _ b;exact⟨a 0,a 2⟩
def Bd.form{t:Bk}{xs:List A3}(h:Bd C T E W c L (⟨t,v,xs⟩::R)):∃a c,v= V a xs.length c:=di (h.rows _ aI).2
def Bd.less(h:Bd C T E W c L R):Bd C (T-1) E (W.setCell ⟨E.bb,2,U⟩ (O A0 (T-L.length-1))) c L R/\Br E.base W (W.setCell ⟨E.bb,2,U⟩ (O A0 (T-L.length-1))):=by
 have p:=h.lt;have⟨q,g,n⟩:=h.row;have f:Br E.base W (W.setCell ⟨E.bb,2,U⟩ (O A0 (T-L.length-1))):=(ah _ W).setCell h.bb _;have d:∀{e k i:Nat}{l:A3}{m:List A3},W.ownsRow E.base e k l i m->e≠116->(W.setCell ⟨E.bb,2,U⟩ (O A0 (T-L.length-1))).ownsRow E.base e k l i m:=λj o=>tz j (gC j g (dB o)) 2 _;refine⟨⟨⟨⟨h.cu.lo.1,bG h.cu.lo.2 f.size⟩,h.cu.code.below f,(ay _ _ _ _ p.2.2.2).trans h.cu.cur⟩,h.bb,⟨q,?_,d n (by decide)⟩,λb a=>⟨d (h.each b a).1 (by decide),d (h.each b a).2 (by decide)⟩,λb a=>⟨(h.rows b a).1,d (h.rows b a).2 (h.rows b a).1.2.1⟩,h.sep⟩,f⟩;rw[show T-1-(L.length:Int)=T-L.length-1 by omega];exact bp _ E.bb 2 _ _ _ g
def Bd.push{N:Nd}{vn vk:A3}(h:Bd C (T-1) E W c L (rS vn N.nm::rI vk N.ks::R))(j:W.heap[E.bb]?=Q (Ad #[cV E,v,O A0 (T-L.length-1)] 116 (0,0))){w5:A2}{g r a:Nat}(an:L.length+1=r)(z:w5.ownsRow E.base 34 9 (V (Q ⟨g,0,U⟩) r a) r (oE (L++[⟨N,vn,vk⟩])))(i:W.grownBy w5 v.ownBlock):
  Bd C T E (w5.setCell ⟨E.bb,1,U⟩ (V (Q ⟨g,0,U⟩) r a)) c (L++[⟨N,vn,vk⟩]) R/\Br E.base W (w5.setCell ⟨E.bb,1,U⟩ (V (Q ⟨g,0,U⟩) r a))/\w5.heap[E.bb]?=Q (Ad #[cV E,v,O A0 (T-L.length-1)] 116 (0,0)):=by
 subst an;have⟨a1,t,u⟩:=h.row;obtain rfl:a1=v:=by rw[t]at j;simp at j;exact j.1
 have w:=h.lt;have m:∀{b:Nat}{q:Array A3}{p:Bk}{s:Nat×Nat},W.heap[b]?=Q (Ad q p s)->p≠34->w5.heap[b]?=Q (Ad q p s):=λd ao=>(i.block _ (ai d) (λe=>gC u d ao e.symm)).trans d;have n:=m j (by decide);have a0:∀b,b≠E.bb->(w5.setCell ⟨E.bb,1,U⟩ (V (Q ⟨g,0,U⟩) (L.length+1) a)).heap[b]?=w5.heap[b]?:=λb d=>ay _ _ _ _ d;have f:∀{base e F y:Nat}{G:A3}{H:List A3},W.ownsRow base e F G y H->e≠34->e≠116->(w5.setCell ⟨E.bb,1,U⟩ (V (Q ⟨g,0,U⟩) (L.length+1) a)).ownsRow base e F G y H:=λB af ak=>by
  refine tz ?_ ?_ 1 _
  .obtain⟨av,o⟩:=B;refine⟨av,?_⟩;rcases o with o|⟨g,a,J,ap,i,al,aK⟩
   .exact .inl o
   .exact .inr ⟨g,a,J,ap,i,m al af,aK⟩
  .exact gC B t (dB ak)
 have l:Br E.base W (w5.setCell ⟨E.bb,1,U⟩ (V (Q ⟨g,0,U⟩) (L.length+1) a)):=((ah _ W).grown i w.2.2.1 (λb d=>(u.lt b d).1)).setCell h.bb _;have on:=(h.rows _ aI).2;have A:=(h.rows _ (cG _ aI)).2;simp only[bq]at on A;refine⟨⟨⟨⟨h.cu.lo.1,bG h.cu.lo.2 l.size⟩,h.cu.code.below l,(a0 _ w.2.2.2).trans (m h.cu.cur (by decide))⟩,h.bb,⟨V (Q ⟨g,0,U⟩) (L.length+1) a,?_,?_⟩,λI hy=>?_,λa2 ar=>?_,?_⟩,l,n⟩
 .rw[aG,show T-((L.length+[(⟨N,vn,vk⟩:Mb)].length:Nat):Int)=T-L.length-1 by simp;omega];exact bp _ E.bb 1 _ _ _ n
 .rw[aG];exact tz z (gC z n (by decide)) 1 _
 .rcases List.mem_append.1 hy with hy|hy
  .exact⟨f (h.each I hy).1 (by decide) (by decide),f (h.each I hy).2 (by decide) (by decide)⟩
  .obtain rfl:=List.mem_singleton.1 hy;exact⟨f on (by decide) (by decide),f A (by decide) (by decide)⟩
 .have k:=h.rows a2 (cG _ (cG _ ar));exact⟨k.1,f k.2 k.1.1 k.1.2.1⟩
 .have x:=h.sep;have K:bR (rS vn N.nm::rI vk N.ks::R)++bL L=(vn.ownBlock.toList++vk.ownBlock.toList)++(bR R++bL L):=by unfold bR;simp[Cq]
  have ad:bR R++bL (L++[⟨N,vn,vk⟩])=(bR R++bL L)++(vn.ownBlock.toList++vk.ownBlock.toList):=by unfold bL;simp[vC]
  rw[K]at x;rw[ad];exact List.perm_append_comm.nodup_iff.1 x
end
def dN(k op n:Int)(t:ByteArray)(nm:List ByteArray)(ks:List Int):Nd:=⟨k,0,0,0,op,n,t,nm,ks⟩
section
variable {C : Cd} {T : Int} {E : Bs} {W W' : World} {c c' : Cr} {L : List Mb} {R : List Rwx}
def aqK{N:Nd}{b a:Option Addr}{f d mk ck:Nat}(h:Bd C T E W c L (rS (V b f d) N.nm::rI (V a mk ck) N.ks::R))(b8: -100000<=T/\T<=100000)(bn:L.length<=25000):
  B0 Ax 85 #[bV E,B4 (wA N (V b f d) (V a mk ck))] W λe w'=>e= Bc (O A0 (L.length:Nat))/\Bd C T E w' c (L++[⟨N,V b f d,V a mk ck⟩]) R/\Br E.base W w':=by
 have⟨l,af⟩:=aC L.length;have⟨q,G⟩:=aC (T-(L.length:Int));have ca: -200000<=q/\q<=200000:=by omega
 rw[af]at bn⊢;have cc:=h.lt;have a3:=dC W (Ad (wA N (V b f d) (V a mk ck)) 34);have bh:=(h.below a3).c0;have b5:(W.alloc (Ad (wA N (V b f d) (V a mk ck)) 34)).frozen? ⟨E.bb,2,U⟩=A1:=by
  have⟨v,y,z⟩:=(h.below a3).row;exact cH _ _ _ _ _ y
 rw[G]at bh;go_in;go_wp21
 have⟨J,a2⟩:=aC (W.setCell ⟨E.bb,2,U⟩ (O A0 (q-1)));have B:=h.less;rw[G]at B;have al:(W.setCell ⟨E.bb,2,U⟩ (O A0 (q-1))).heap.size=W.heap.size:=by simp[World.setCell]
 have⟨ar,a1,bk⟩:=h.row;rw[G]at a1;have ap:(W.setCell ⟨E.bb,2,U⟩ (O A0 (q-1))).heap[E.bb]?=Q (Ad #[cV E,ar,O A0 (q-1)] 116 (0,0)):=bp W E.bb 2 _ _ _ a1;rw[a2]at B al ap;rw[a2];have F:=dC J (Ad (wA N (V b f d) (V a mk ck)) 34);have n:=aA J (Ad (wA N (V b f d) (V a mk ck)) 34);have⟨j,ad⟩:=aC (J.alloc (Ad (wA N (V b f d) (V a mk ck)) 34));rw[ad]at F n;rw[al]at n;have o:=Ft (B.1.below F) (B.2.trans (F.mono (by omega))) n (show j.heap.size=W.heap.size+1 by rw[<-ad];simp[al]);have r:=(F.block _ (ai ap)).trans ap;rw[ad];have a7:ar.ownBlock≠Q W.heap.size:=λe=>by have:=(bk.lt _ e).2;omega
 have⟨v,y,z⟩:=o.1.row;obtain rfl:ar=v:=by
  rw[y]at r;simp at r;exact r.1.symm
 obtain⟨s,t,rfl⟩:=di z;have K:j.cell? ⟨E.bb,1,U⟩=Q (V s L.length t):=by rw[aj _ _ _ _ _ _ y];rfl
 rw[af]at K z a7 r;have n:=o.2.2.1;refine wp_region_held_drew (S:=λI=>I.heap[W.heap.size]?=Q (Ad (wA N (V b f d) (V a mk ck)) 34 (0,0))) (by kernel_rfl) n (λhS=>?_);simp only[iD,bc,dE,Nat.reduceAdd,jn,jA,jB,dI,dJ];refine dL 0 (Y (Q ⟨E.bb,0,U⟩)) rfl rfl hS (λw' p=>by go_simp) ?_;simp only[List.set];refine dL 1 (Y (Q ⟨E.bb,0,U⟩)) rfl rfl hS (λw' p=>by go_simp) ?_;simp only[List.set];refine dL 2 (Y (Q ⟨E.bb,0,U⟩)) rfl rfl hS (λw' p=>by go_simp) ?_;simp only[List.set];refine dL 3 (Y (Q ⟨E.bb,1,U⟩)) rfl rfl hS (λw' p=>by go_simp) ?_;simp only[List.set];refine Ih 5 17 (B4 (wA N (V b f d) (V a mk ck))) rfl rfl (by kernel_rfl) (by kernel_rfl) (by kernel_rfl) (λ_ _ _ h=>h) (by rfl) hS (λw' p=>by have cf:=bK (N:=N) p;go_simp) ?_;simp only[Act.put,co,cA,cC];have bo:=K;refine sa (S:=λI=>I.cell? ⟨E.bb,1,U⟩=Q (V s l t)) (C:=λu=>!(u==7||u==8||u==9||u==10)) (i:=4) (v:= V s l t) rfl (ye (by kernel_rfl)) (λ_ _ _ h=>h) ?hC _ _ _ _ (yg rfl (by kernel_rfl)) (List.contains_iff_mem.1 (by kernel_rfl)) (Or.inl ⟨by rfl,λw' p=>by go_simp⟩) hS bo ?_
 case hC=>
  intro u cd a5 g;simp only[Bool.not_eq_false',sI,jD]at g;rcases g with((rfl|rfl)|rfl)|rfl
  .obtain rfl:=aJ a5;exact⟨{on:=4,ground:=Ground.data},by simp,rfl,rfl⟩
  all_goals
   obtain rfl:=aJ a5;exact⟨{on:=4,ground:=Ground.phase},by simp,rfl,rfl⟩
 simp only[Act.put,co,cA,cC];refine fj (i:=6) (by kernel_rfl) rfl (λw k=>?_);go_simp;have a0:∀a8,cg j (j.drew.alloc a8):=λa8=>(bF (ah _ _)).alloc (by simp) _;refine k _ _ (((a0 _).block _ (ai n)).trans n) (λ_=>cell_kept (a0 _) K) ?_;try simp only[co,cA,cC]
 have m:=bF (dC j (Ad (wA N (V b f d) (V a mk ck)) 34));have ba:(j.alloc (Ad (wA N (V b f d) (V a mk ck)) 34)).drew.heap[j.heap.size]?=_:=aA j _;generalize World.drew (World.alloc _ _)=bd at m ba⊢;have bE:=o.1.below m;have bD:=(m.block _ (ai r)).trans r;have br:=o.1.lt;have bs:=o.2.2.2;have⟨bt,bv,bw,bx,bA⟩:=fh za;refine fj (i:=7) (by kernel_rfl) rfl (λw k=>?_);refine step_append_lies _ (by rfl) _ _ 24 (by rfl) E.base 34 bt _ 9 112 underlying24 bv bw bx bA rfl (by decide) (V s l t) l _ (by rfl) (dA z m) ⟨j.heap.size,0,U⟩ 1 1 (wA N (V b f d) (V a mk ck)).toList (by rw[bs];rfl) rfl (World.news_of_block ba) (by intro ce a6;simp at a6;rcases a6 with rfl|rfl|rfl|rfl|rfl|rfl|rfl|rfl|rfl<;>rfl) (by decide) (by unfold maxLen;omega) (by omega) (by have:=m.size;omega) bd.heap.size rfl ?_;intro A x w5 a9 a4 b9 cb;have bl:oE L++(wA N (V b f d) (V a mk ck)).toList=oE (L++[⟨N,V b f d,V a mk ck⟩]):=by rw[uy];show _=oE L++(cMb _++[]);rw[dk];rfl
 rw[bl]at a9;have⟨b0,bf,ao⟩:=bE.push (by rw[G];exact bD) (by rw[af]) a9 a4;have H:=(a4.block _ (by have:=m.size;omega) (λe=>a7 e.symm)).trans ((m.block _ (by omega)).trans n);have b1:(w5.setCell ⟨E.bb,1,U⟩ (V (Q ⟨A,0,U⟩) (l+1) x)).heap[W.heap.size]?=Q (Ad (wA N (V b f d) (V a mk ck)) 34 (0,0)):=(ay _ _ _ _ (by show W.heap.size≠E.bb;omega)).trans H;have c5:w5.cell? ⟨E.bb,1,U⟩=Q (V s l t):=by rw[aj _ _ _ _ _ _ ao];rfl
 have b7:w5.frozen? ⟨E.bb,1,U⟩=A1:=cH _ _ _ _ _ ao;have aK:=gF b0 ((o.2.1.trans (m.mono br.2.2.1)).trans bf);have bj:(w5.setCell ⟨E.bb,1,U⟩ (V (Q ⟨A,0,U⟩) (l+1) x)).cell? ⟨E.bb,1,U⟩=Q (V (Q ⟨A,0,U⟩) (l+1) x):=by rw[aj _ _ _ _ _ _ (bp _ E.bb 1 _ _ _ ao)];rfl
 refine k _ _ H (λg=>by cases g) ?_;simp only[Act.put,co,cA,cC];refine fj (i:=8) (by kernel_rfl) rfl (λw k=>?_);go_simp;refine k _ _ H (λg=>by cases g) ?_;try simp only[co,cA,cC]
 refine fj (i:=9) (by kernel_rfl) rfl (λw k=>?_);go_simp;refine k _ _ H (λg=>by cases g) ?_;try simp only[co,cA,cC]
 refine fj (i:=10) (by kernel_rfl) rfl (λw k=>?_);go_simp;refine k _ _ b1 (λg=>by cases g) ?_;refine uz (by kernel_rfl) ?_ _;generalize w5.setCell ⟨E.bb,1,U⟩ (V (Q ⟨A,0,U⟩) (l+1) x)=b2 at aK bj⊢;go_wp21
 go_ret;exact⟨by go_num,aK⟩
end
structure RI (W:A2) (base mb:Nat):Prop where
 ex:∃(D:DataW A3) (f:Int->A3) (n:Nat),W.ownsMap Ax 75 xa mb n D/\∀a,0<=a->a<=255->D.atKey (.int .u8 a) (.held (.slice U 0 0))= .held (f a)/\js W base (f a) (mu a)
def RM.ri{R:List (Int×List (List Int))}(h:RM W base mb n R)(g:∀a,0<=a->a<=255->Ao R a=mu a):RI W base mb:=by
 have⟨D,d,e,f,_⟩:=h.ex;exact⟨D,d,n,e,λa b c=>by rw[<-g a b c];exact f a b c⟩
def RI.same(h:RI W base mb)(n:∀a c,W.heap[mb]?=Q (.map a c)->W'.heap[mb]?=Q (.map a c))(o:∀(g:Nat) (cs:Array A3) (fr:Nat×Nat),W.heap[g]?=Q (Ad cs 139 fr)->W'.heap[g]?=Q (Ad cs 139 fr)):RI W' base mb:=by
 obtain⟨D,m,p,⟨a,c,k,l⟩,f⟩:=h.ex;refine⟨D,m,p,⟨a,c,n _ _ k,l⟩,λb d e=>⟨(f b d e).1,?_⟩⟩;have:=(f b d e).2;refine⟨this.1,?_⟩;rcases this.2 with h|⟨g,i,j,q,r,s,t⟩
 .exact .inl h
 .exact .inr ⟨g,i,j,q,r,o _ _ _ s,t⟩
def RI.below(h:RI W base mb)(b:cg W W'):RI W' base mb:=
 h.same (λe c a=>(b.block _ (aE a)).trans a) (λg d f a=>(b.block _ (aE a)).trans a)
def RI.gp{cs:Array A3}(h:RI W base mb)(c:W.heap[gb]?=Q (Ad cs 73 fr))(d:Gp gb W W'):RI W' base mb:=
 h.same (λf e a=>(d.block _ (aE a) (by rintro rfl;rw[c]at a;cases a) (λcs fr b=>by rw[a]at b;cases b)).trans a)
  (λg cs fr a=>(d.block _ (aE a) (by rintro rfl;rw[c]at a;cases a) (λcs fr b=>by rw[a]at b;cases b)).trans a)
def K6(c:0<=a)(d:a<=255):∀R,((List.range 256).all λa=>decide (Ao R (a:Int)=mu (a:Int)))=A9->Ao R a=mu a:=by
 intro R b;have:=List.all_eq_true.1 b a.toNat (by rw[ng];omega);rw[show((a.toNat:Nat):Int)=a by omega]at this;exact aB this
def IC(w:A2)(tt:Bk)(fr:Nat×Nat)(f:w.heap[1]?=Q (Ad KA tt fr)):
  B0 Ax 23 #[] w λe w'=>e= Bc (.map (Q w.heap.size))/\RI w' w.heap.size w.heap.size/\cg w w':=by
 have g:=aE f;have q:∀w:A2,(Instr.makeMap 67 (Q (O X 34))).run Ax w= .ok (.map (Q w.heap.size)) (w.alloc (.map #[] 0)):=λw=>by kernel_rfl
 have h:RM (w.alloc (.map #[] 0)) w.heap.size w.heap.size 0 []:=⟨⟨.map [],λ_=> V U 0 0,World.ownsMap_made _ _ _ _,λa _ _=>⟨rfl,⟨rfl,.inl ⟨rfl,rfl⟩⟩⟩,λa p _ _ _ _ _=> .inl rfl⟩,ag _⟩;have b:cg w (w.alloc (.map #[] 0)):=(ah _ _).alloc (ag _) _;have l:=am f;go_in;go_wp2_with (first
  |(go_at_call 47;refine(KD _ w.heap.size w.heap.size 0 [] h (by omega)).mono ?_;rintro e r ⟨rfl,i,c⟩)
  |(go_at_call 48;refine(Kz _ w.heap.size w.heap.size _ _ i (by omega)).mono ?_;rintro e s ⟨rfl,j,d⟩)
  |(go_at_call 49;refine(KB _ w.heap.size w.heap.size _ _ j (by omega) tt fr ((((b.trans c).trans d).block _ g).trans l) g).mono ?_;rintro e t ⟨rfl,k,o⟩))
 go_ret;exact⟨rfl,k.ri (λa m n=>K6 m n _ agA),((b.trans c).trans d).trans o⟩
def ID(w:A2)(tt:Bk)(fr:Nat×Nat)(p:w.heap[1]?=Q (Ad KA tt fr)):
  B0 Ax 10 #[] w λe w'=>∃gb,e= Bc (Y (Q ⟨gb,0,U⟩))/\It w' w.heap.size gb (.map (Q w.heap.size)) [100,6]/\RI w' w.heap.size w.heap.size/\cg w w':=by
 have q:=IC w tt fr p;go_in;go_wp21
 refine q.mono ?_;rintro e w1 ⟨rfl,i,f⟩;have g:=f.size;have b:It (w1.alloc (Ad #[.map (Q w.heap.size),V U 0 0] 73 (0,0))) w.heap.size w1.heap.size (.map (Q w.heap.size)) []:=⟨⟨V U 0 0,aA w1 _,⟨rfl,.inl ⟨rfl,rfl⟩⟩⟩,g⟩;have l:=i.below ((ah w1.heap.size w1).alloc (ag _) (Ad #[.map (Q w.heap.size),V U 0 0] 73 (0,0)));have a:=f.alloc g (Ad #[.map (Q w.heap.size),V U 0 0] 73 (0,0));have d:=gF l a;go_wp21
 refine(Au _ w.heap.size w1.heap.size (.map (Q w.heap.size)) [] 6 b (by decide)).mono ?_;rintro e t ⟨rfl,c,j,a⟩;go_wp21
 refine(Au _ w.heap.size w1.heap.size (.map (Q w.heap.size)) [6] 100 c (by decide)).mono ?_;rintro e u ⟨rfl,h,k,o⟩;go_wp21
 go_ret;have⟨r,m,_⟩:=b.ex;have⟨s,n,_⟩:=c.ex;exact⟨_,rfl,h,(d.1.gp m j).gp n k,(d.2.trans a).trans o⟩
structure GB (W:A2) (base gb mb:Nat):Prop where
 c:W.cell? ⟨gb,0,U⟩=Q (.map (Q mb))
 r:RI W base mb
def GB.below(h:GB W base gb mb)(a:cg W W'):GB W' base gb mb:=⟨cell_kept a h.c,h.r.below a⟩
def dp(a:Int):Nat:=if a<100 then 0 else if a=100 then 3 else if a=102 then 2 else if a=110\/a=111 then 4 else if a=114 then 2 else if a=117 then 3 else if a=118 then 2 else if a=122 then 5 else if a=124 then 4 else 1
def hdN(f:Nat)(t:Int)(r:List Int):Bool:=Bi f (r.getD 0 0) t
def AD(L:List (List Int))(d:Nat):Bool:=decide (L.length<=30)&&L.all λr=>decide (r.length<=6)&&r.all (λz=>decide (1<=z/\z<=133))&&decide (dp (r.getD 0 0)+1<=d)
def K8:((List.range 256).all λa=>AD (mu (a:Int)) (dp (a:Int)))=A9:=by decide+kernel
def C5(b:0<=a)(c:a<=255):AD (mu a) (dp a)=A9:=by
 have:=List.all_eq_true.1 K8 a.toNat (by rw[ng];omega);rw[show((a.toNat:Nat):Int)=a by omega]at this;exact this
def amo(a:1<=t)(f:Nat)(r:List Int):hdN (f+1) t r=(match r with|[]=>A1|h::_=>Bi (f+1) h t):=by
 cases r with
 |nil=>
  show Bi (f+1) 0 t=A1;rw[Bi,ab (by decide)];exact az (by omega)
 |cons h b=>rfl
def ac4{r:List Int}(h:r.length<=6):rc r=[O X (r.getD 0 0),O X (r.getD 1 0),O X (r.getD 2 0),O X (r.getD 3 0),O X (r.getD 4 0),O X (r.getD 5 0)]:=by
 match r,h with
 |[],_=>rfl
 |[_],_=>rfl
 |[_,_],_=>rfl
 |[_,_,_],_=>rfl
 |[_,_,_,_],_=>rfl
 |[_,_,_,_,_],_=>rfl
 |[_,_,_,_,_,_],_=>rfl
 |_::_::_::_::_::_::_::_,h=>simp at h
def js.cell{g c:Nat}{L:List (List Int)}(h:js W base (V (Q ⟨g,0,U⟩) n c) L)(e:∀r∈L,r.length<=6){r:List Int}(a:L[k]?=Q r){i:Nat}(t:i<6):
  W.cell? ⟨g,k*6+i,U⟩=Q (O X (r.getD i 0)):=by
 have u:k<L.length:=(List.getElem?_eq_some_iff.1 a).1;have j:n=L.length:=by
  rcases h.2 with⟨h,_⟩|⟨s,p,q,h,_⟩
  .cases h
  .cases h;rfl
 subst j;rw[World.ownsRow.cellAt h (k*6+i) (by omega)];have o:∀(L:List (List Int)),(∀r∈L,r.length<=6)->∀k r,L[k]?=Q r->(D0 L)[k*6+i]?=Q (O X (r.getD i 0)):=by
  intro L
  induction L with
  |nil=>intro _ k r h;simp at h
  |cons b L m=>
   intro h k r d;have l:=h b (by simp);rw[show D0 (b::L)=rc b++D0 L from rfl];have f:(rc b).length=6:=by simp[rc];omega
   cases k with
   |zero=>
    simp at d;subst d;rw[gw (by omega),ac4 l];rcases(show i=0\/i=1\/i=2\/i=3\/i=4\/i=5 by omega) with rfl|rfl|rfl|rfl|rfl|rfl<;>rfl
   |succ k=>
    rw[eD (by omega),f,show(k+1)*6+i-6=k*6+i by omega];exact m (λr a=>h r (by simp[a])) k r (by simpa using d)
 exact o L e k r a
def ae7(W:A2)(b:Nat)(x0 a c d e f:Int):A2:=((((((W.setCell ⟨b,0,U⟩ (O X x0)).setCell ⟨b,1,U⟩ (O X a)).setCell ⟨b,2,U⟩ (O X c)).setCell ⟨b,3,U⟩ (O X d)).setCell ⟨b,4,U⟩ (O X e)).setCell ⟨b,5,U⟩ (O X f))
def K9{t:Bk}{l m n o p q:Int}(h:W.heap[b]?=Q (Ad #[O X l,O X m,O X n,O X o,O X p,O X q] t (0,0)))(x0 c d e f g:Int):(ae7 W b x0 c d e f g).heap[b]?=Q (Ad #[O X x0,O X c,O X d,O X e,O X f,O X g] t (0,0)):=by
 have a:=λi j {W k}=>bp W b i k t (O X j);simpa [ae7] using a 5 g (a 4 f (a 3 e (a 2 d (a 1 c (a 0 x0 h)))))
def Ef(h:Br base w W)(a:base<=b)(x0 c d e f g:Int):Br base w (ae7 W b x0 c d e f g):=by
 unfold ae7
 iterate 6 refine gx ?_ a _
 exact h
def ac5{a:Func}{p u:Tmp}(h:a.results=#[.cell p 139,.tmp u])(tmps:Array A3)(w:A2)(g:Nat)(x0 c d e f i:Int)(b:Bool)(k:tmps.getD p Ak= Y (Q ⟨g,0,U⟩))(l:tmps.getD u Ak= A5 b)
  (j:w.heap[g]?=Q (Ad #[O X x0,O X c,O X d,O X e,O X f,O X i] 139 (0,0))):(results a tmps).run Ax w= .ok (Ck #[B4 #[O X x0,O X c,O X d,O X e,O X f,O X i],A5 b]) w:=by
 rw[results_cell_tmp h,k];simp only[asAddr,Sem.run_pure,Hg];rw[Hj w g 139 139 _ _ _ j underlying139 rfl (by kernel_rfl),Hg,l]
def ac6(n:Nat):Prop:=∀(w:A2)(base gb mb:Nat)(a t:Int),GB w base gb mb->0<=a->a<=133->dp a<=n->1<=t->t<=78->
 B0 Ax 54 #[Y (Q ⟨gb,0,U⟩),O X a,O X t] w (jf w (A5 (Bi (n+1) a t)))
def rwN(f:Nat)(L:List (List Int))(t:Int):List Int:=(L.find? (hdN f t)).getD []
structure Eg (f:Nat) (t:Int) (L:List (List Int)) (k:Nat) (r:List Int) (b:Bool):Prop where
 fd:rwN f (L.drop k) t=r
 an:(L.drop k).any (hdN f t)=b
def Eh(n:Nat)(b2:ac6 n)(w:A2)(base L mb:Nat)(a t:Int)(al:GB w base L mb)(I:0<=a)(cI:a<=133)(c7:dp a<=n+1)(cl:1<=t)(cn:t<=78)(y:List Int)(u:Bool)(bE:Eg (n+1) t (mu a) 0 y u):
  B0 Ax 60 #[Y (Q ⟨L,0,U⟩),O X a,O X t] w (jf w (Ck #[B4 (rc y).toArray,A5 u])):=by
 have⟨D,c4,dd,a2,bD⟩:=al.r.ex;have⟨a5,f⟩:=bD a I (by omega);have x:=C5 I (show a<=255 by omega);generalize mu a=e at *;unfold AD at x;rw[bB,sF]at x;have b1:e.length<=30:=aB x.1;have r:∀b∈e,b.length<=6:=λb c=>by have:=x.2 b c;simp only[bB]at this;exact aB this.1.1
 have b8:∀b∈e,dp (b.getD 0 0)<=n:=λb c=>by have:=x.2 b c;simp only[bB]at this;have:=aB this.2;omega
 have b9:∀b∈e,0<=b.getD 0 0/\b.getD 0 0<=133:=λb c=>by
  have:=x.2 b c;simp only[bB,sF]at this;cases b with
  |nil=>simp
  |cons cw b=>have:=aB (this.1.2 cw (by simp));simp;omega
 have⟨C,ba⟩:=aC e.length;have ar:=f;unfold js at ar;rw[ba]at ar b1;have⟨bn,c2,b4⟩:=di ar;rw[b4]at a5 f;have bo:=al.c;have b6:=a2.lt;have c6:=λo=>cell_kept (al1 (o:=o) rfl).2.1 bo;have s:=Ft al f ba bE;go_in;go_wp2_with (at_lookup;refine rB rfl _ _ rfl rfl a2 ?blk a I (by omega) rfl a5 ?_)
 case blk=>exact eI _ _ _ b6
 go_loopw [17] (λi wr=>∃d:Nat,d<=C/\i= O A0 d/\Eg (n+1) t e d y u/\cg w wr/\wr.heap[w.heap.size]?=Q (Ad #[O X 0,O X 0,O X 0,O X 0,O X 0,O X 0] 139 (0,0))) (λi _=>C-(C2 i).toNat)
 case atStart=>exact⟨0,by omega,rfl,s.2.2.2,(al1 rfl).2.1,(al1 rfl).1⟩
 case round=>
  obtain⟨d,c8,rfl,v,A,B⟩:=hrel;by_cases b5:d<C
  .obtain⟨b,c⟩:∃b,e[d]?=Q b:=⟨_,aw (by rw[s.out.2.2.1];exact b5)⟩;have ap:=dj c;have f:=s.2.1.keep A;obtain⟨K,rfl⟩:∃K,bn=Q ⟨K,0,U⟩:=by
    rcases bJ f with⟨ad,_⟩|⟨K,c1,ad⟩
    .rw[s.out.2.2.1]at ad;omega
    .cases ad;exact⟨_,rfl⟩
   have bk:=f.cell r c (i:=0) (by decide);have cc:=f.cell r c (i:=1) (by decide);have cd:=f.cell r c (i:=2) (by decide);have ce:=f.cell r c (i:=3) (by decide);have cf:=f.cell r c (i:=4) (by decide);have ck:=f.cell r c (i:=5) (by decide);have⟨g,aK⟩:=aC (b.getD 0 0);have⟨h,bb⟩:=aC (b.getD 1 0);have⟨j,bd⟩:=aC (b.getD 2 0);have⟨k,bf⟩:=aC (b.getD 3 0);have⟨l,bh⟩:=aC (b.getD 4 0);have⟨m,bj⟩:=aC (b.getD 5 0);rw[aK]at bk;rw[bb]at cc;rw[bd]at cd;rw[bf]at ce;rw[bh]at cf;rw[bj]at ck;rw[fL]at bk;have⟨a6,a7⟩:=b9 b ap;have a8:=b8 b ap;rw[aK]at a6 a7 a8;have da:(d:Int)<(C:Int):=by omega
   have c9:(0:Int)<=(d:Int):=by omega
   have H:=asb c ap aK bb bd bf bh bj;have a3:=A.alloc A.size (Ad #[O X g,O X h,O X j,O X k,O X l,O X m] 139 (0,0));have cb:=b2 _ base L mb g t (s.1.below a3) a6 a7 a8 cl cn;go_wp2_with fail;refine cb.mono ?_;rintro c3 G ⟨rfl,af⟩;have dc:=A.size;have ca:=aE B;have b3:G.heap[wr.heap.size]?=Q (Ad #[O X g,O X h,O X j,O X k,O X l,O X m] 139 (0,0)):=(af.block _ (by simp)).trans (aA wr _);have F:G.heap[w.heap.size]?=Q (Ad #[O X 0,O X 0,O X 0,O X 0,O X 0,O X 0] 139 (0,0)):=((af.block _ (by simp;omega)).trans (eI _ _ _ ca)).trans B;have a4:cg w G:=a3.trans (af.mono (by simp;omega));have E:e.drop d=b::e.drop (d+1):=by
    obtain⟨br,J⟩:=List.getElem?_eq_some_iff.1 H.1;rw[kL br,J]
   have q:hdN (n+1) t b=Bi (n+1) g t:=by unfold hdN;rw[H.out.2.2.1]
   have b7:rc b=[O X g,O X h,O X j,O X k,O X l,O X m]:=by
    have⟨_,J,bs,bt,bv,bw,bx,bA⟩:=H.out;rw[ac4 (r b J),bs,bt,bv,bw,bx,bA]
   cases hbv:Bi (n+1) g t with
   |true=>
    have p:B2 (y=b/\u=A9):=by
     rw[hbv]at q;refine⟨?_,?_⟩
     .rw[<-v.fd,E];unfold rwN;rw[List.find?_cons_of_pos q];rfl
     .rw[<-v.an,E,List.any_cons,q];rfl
    have ao:=K9 F g h j k l m;have ak:=Ef a4 (ag _) g h j k l m;have⟨df,dg,dn,dq,ds,dx⟩:=iw b3;have⟨z0,cx,cy,cz,cB,cF⟩:=iw F;have⟨cp,cq,cr,cs,ct,cu⟩:=qk F;have z:=gF ao ak;have bl:B2 (hdN (n+1) t b=A9/\rc b=[O X g,O X h,O X j,O X k,O X l,O X m]):=⟨q.trans hbv,b7⟩;go_wp2_with fail;try rw[Cm]
    change bodyPost _ _ _ _ _ (ae7 G w.heap.size g h j k l m)
    refine aL (ac5 rfl _ _ w.heap.size g h j k l m A9 rfl rfl z.1) rfl ⟨?_,z.2⟩;rw[p.out.1,p.out.2,bl.out.2]
   |false=>
    have p:Eg (n+1) t e (d+1) y u:=by
     rw[hbv]at q;refine⟨?_,?_⟩
     .rw[<-v.fd,E];unfold rwN;rw[List.find?_cons_of_neg (by rw[q];simp)]
     .rw[<-v.an,E,List.any_cons,q];rfl
    go_wp2;go_roundw
    case rel=>exact⟨d+1,by omega,by go_num,p,a4,F⟩
    case measure=>simp[C2];omega
  .obtain rfl:d=C:=by omega
   have p:B2 (y=[]/\u=A1):=by
    have a9:e.drop d=[]:=lE (by rw[s.out.2.2.1];exact ag _);refine⟨?_,?_⟩
    .rw[<-v.fd,a9];rfl
    .rw[<-v.an,a9];rfl
   have ao:=K9 B 0 0 0 0 0 0;have ak:=Ef A (ag _) 0 0 0 0 0 0;have⟨z0,cx,cy,cz,cB,cF⟩:=iw B;have⟨cp,cq,cr,cs,ct,cu⟩:=qk B;have z:=gF ao ak;go_wp2_with fail;try rw[Cm]
   change bodyPost _ _ _ _ _ (ae7 wr w.heap.size 0 0 0 0 0 0)
   refine aL (ac5 rfl _ _ w.heap.size 0 0 0 0 0 0 A1 rfl rfl z.1) rfl ⟨?_,z.2⟩;rw[p.out.1,p.out.2];rfl
def an8(a:1<=t)(f:Nat)(L:List (List Int)):L.any (hdN (f+1) t)=L.any (λr=>match r with|[]=>A1|h::_=>Bi (f+1) h t):=by
 congr 1
 funext r
 exact amo a f r
def Bq(n:Nat)(w:n=0\/∃m,n=m+1/\ac6 m):ac6 n:=by
 intro C r t A a c u k q F p B;by_cases i:a<100
 .have g:Bi (n+1) a c=decide (a=c):=by rw[Bi,ab i]
  rw[g];have s:(a==c)=decide (a=c):=by rw[vE];simp
  have⟨E,v⟩:=aC (decide (a=c));rw[v]at s⊢;go_in;go_wp21
  go_ret;exact⟨rfl,ah _ _⟩
 .have G:1<=dp a:=by unfold dp;rw[aa i];repeat (first|(split;· omega)|omega)
  obtain⟨m,rfl,x⟩:=w.resolve_left (by omega);obtain⟨b,f,h⟩:∃b f,Eg (m+1) c (mu a) 0 b f:=⟨_,_,⟨rfl,rfl⟩⟩;have g:Bi (m+1+1) a c=f:=by
   rw[Bi,aa i];refine(an8 p m (mu a)).symm.trans ?_;rw[<-h.an];rfl
  rw[g];have d:=Eh m x C r t A a c u k q (by omega) p B b f h;have z:b.length<=6:=by
   have j:=C5 k (show a<=255 by omega);unfold AD at j;rw[bB,sF]at j;have e:=h.fd;unfold rwN at e;cases hf:List.find? (hdN (m+1) c) (List.drop 0 (mu a)) with
   |none=>rw[hf]at e;rw[<-e];exact aD _
   |some o=>
    rw[hf]at e;have y:o∈mu a:=acf hf;have:=j.2 o y;simp only[bB]at this;rw[<-e];exact aB this.1.1
  rw[ac4 z]at d;generalize b.getD 0 0=I at d;generalize b.getD 1 0=J at d;generalize b.getD 2 0=K at d;generalize b.getD 3 0=L at d;generalize b.getD 4 0=ad at d;generalize b.getD 5 0=af at d;go_in;go_wp2_with (go_at_call 60;refine d.mono ?_;rintro g H ⟨rfl,l⟩);go_ret;exact⟨rfl,l.alloc l.size _⟩
def xC:∀n,ac6 n
 |0=>Bq 0 (.inl rfl)
 |n+1=>Bq (n+1) (.inr ⟨n,rfl,xC n⟩)
attribute [local go_sem] lG
def an9(w:A2):(Op.equalIn 10000 139 (B4 #[O X 0,O X 0,O X 0,O X 0,O X 0,O X 0]) (B4 #[O X 0,O X 0,O X 0,O X 0,O X 0,O X 0])).run Ax w= .ok A9 w:=by kernel_rfl
def aoa{x0:Int}(h:x0≠0)(a b c d e:Int)(w:A2):(Op.equalIn 10000 139 (.agg #[.int .u8 0,.int .u8 0,.int .u8 0,.int .u8 0,.int .u8 0,.int .u8 0]) (.agg #[.int .u8 x0,.int .u8 a,.int .u8 b,.int .u8 c,.int .u8 d,.int .u8 e])).run Ax w= .ok A1 w:=by
 have f:(0==x0)=A1:=by rw[du];omega
 rw[show(10000:Nat)=9999+1 from rfl,Op.equalIn];simp only[Sem.run_bind,run_underlying underlying139,Hg];simp only[Std.Legacy.Range.forIn_eq_forIn_range',Std.Legacy.Range.size,vG,lh,Nat.div_one,List.range'_succ,List.range'_zero,List.forIn_cons,List.forIn_nil];go_simp
def La{a:A2}(h:Br B a w)(n:Nat):Br B a (w.drewN n):=⟨h.os,h.tape,h.output,h.size,h.block⟩
structure IE (L:List (List Int)) (k:Nat) (b:Bool):Prop where
 out:(L.drop k).contains []=b
def ae8(w:A2)(base:Nat)(v:A3)(L:List (List Int))(c:Bool)(b:js w base v L)(J:L.length<=30)(f:∀r∈L,r.length<=6)(ak:∀r∈L,r≠[]->1<=r.getD 0 0)(H:IE L 0 c):
  B0 Ax 178 #[v,B4 #[O X 0,O X 0,O X 0,O X 0,O X 0,O X 0]] w λe w'=>(∃z,e= Bc (O A0 z)/\decide (0<=z)=c)/\cg w w':=by
 have⟨j,s⟩:=aC L.length;have o:=b;unfold js at o;rw[s]at o J;obtain⟨C,a0,rfl⟩:=di o;have h:=kK b s H;go_in;go_wp2;go_loopw [8] (λi wr=>∃a:Nat,a<=j/\i= O A0 a/\IE L a c/\cg w wr/\wr.heap[w.heap.size]?=Q (Ad #[O X 0,O X 0,O X 0,O X 0,O X 0,O X 0] 139 (0,0))) (λi _=>j-(C2 i).toNat)
 case atStart=>exact⟨0,by omega,rfl,h.2.2,(al1 rfl).2.1,(al1 rfl).1⟩
 case round=>
  obtain⟨a,a1,rfl,n,k,t⟩:=hrel;by_cases K:a<j
  .obtain⟨r,d⟩:∃r,L[a]?=Q r:=⟨_,aw (by rw[h.out.2.1];exact K)⟩;have af:=dj d;have b:=h.1.keep k;obtain⟨l,rfl⟩:∃l,C=Q ⟨l,0,U⟩:=by
    rcases bJ b with⟨m,_⟩|⟨l,aK,m⟩
    .rw[h.out.2.1]at m;omega
    .cases m;exact⟨_,rfl⟩
   have p:=b.cell f d (i:=0) (by decide);have u:=b.cell f d (i:=1) (by decide);have x:=b.cell f d (i:=2) (by decide);have y:=b.cell f d (i:=3) (by decide);have A:=b.cell f d (i:=4) (by decide);have B:=b.cell f d (i:=5) (by decide);rw[fL]at p;have ad:r=[]\/1<=r.getD 0 0:=(Decidable.em (r=[])).imp_right (ak r af);have q:L.drop a=r::L.drop (a+1):=by
    obtain⟨E,F⟩:=List.getElem?_eq_some_iff.1 d;rw[kL E,F]
   have⟨a3,a4,a5,a6,a7,a8⟩:=iw t;have a2:(a:Int)<(j:Int):=by omega
   have I:(0:Int)<=(a:Int):=by omega
   rcases ad with rfl|hpos
   .have g:B2 (c=A9):=by
     show c=A9;rw[<-n.out,q];simp
    simp only[List.getD_nil]at p u x y A B;have G:=λw=>an9 w;go_wp2_with fail;go_quiet (fail)
    go_wp2_with fail;try rw[Cm]
    go_ret;exact⟨⟨_,rfl,by rw[g.out];exact be I⟩,La k nq⟩
   .have g:IE L (a+1) c:=by
     refine⟨?_⟩;rw[<-n.out,q,List.contains_cons];have:([]==r)=A1:=by
      rw[du];rintro rfl;simp at hpos
     rw[this,ym]
    generalize r.getD 0 0=x0 at p hpos;generalize r.getD 1 0=al at u;generalize r.getD 2 0=an at x;generalize r.getD 3 0=ao at y;generalize r.getD 4 0=ap at A;generalize r.getD 5 0=ar at B;have G:=λw=>aoa (x0:=x0) (by omega) al an ao ap ar w;go_wp2_with fail;go_quiet (fail)
    go_wp2;go_roundw
    case rel=>exact⟨a+1,by omega,by go_num,g,La k nq,t⟩
    case measure=>simp[C2];omega
  .obtain rfl:a=j:=by omega
   have g:B2 (c=A1):=by
    show c=A1;rw[<-n.out,lE (by rw[h.out.2.1];exact ag _)];rfl
   go_wp2;go_ret;exact⟨⟨-1,rfl,by rw[g.out];rfl⟩,k⟩
def IF(w:A2)(base:Nat)(v:A3)(L:List (List Int))(a:Bool)(g:js w base v L)(f:L.length<=30)(c:∀r∈L,r.length<=6)(h:∀r∈L,r≠[]->1<=r.getD 0 0)(e:IE L 0 a):
  B0 Ax 106 #[v,B4 #[O X 0,O X 0,O X 0,O X 0,O X 0,O X 0]] w (jf w (A5 a)):=by
 have b:=(ah w.heap.size w).alloc (ag _) (Ad #[O X 0,O X 0,O X 0,O X 0,O X 0,O X 0] 139 (0,0));have j:=ae8 _ base v L a (g.keep b) f c h e;go_in;go_wp2_with (go_at_call 178;refine j.mono ?_;rintro k l ⟨⟨m,rfl,i⟩,d⟩);go_ret;refine⟨?_,b.trans (d.mono (by simp))⟩;rw[<-i];rfl
def aks(w:A2)(base h mb:Nat)(a:Int)(i:GB w base h mb)(f:0<=a)(y:a<=133):
  B0 Ax 55 #[Y (Q ⟨h,0,U⟩),O X a] w (jf w (A5 (Ku a))):=by
 have⟨D,l,B,m,n⟩:=i.r.ex;have⟨q,t⟩:=n a f (by omega);have d:=C5 f (show a<=255 by omega);unfold Ku;generalize mu a=e at *;unfold AD at d;rw[bB,sF]at d;have p:=aB d.1;have s:∀b∈e,b.length<=6:=λb g=>by have:=d.2 b g;simp only[bB]at this;exact aB this.1.1
 have u:∀b∈e,b≠[]->1<=b.getD 0 0:=λb g r=>by
  have:=d.2 b g;simp only[bB,sF]at this;cases b with
  |nil=>exact absurd rfl r
  |cons x b=>have:=aB (this.1.2 x (by simp));simp;omega
 have⟨k,j⟩:=aC (e.contains []);have v:=IF w base (l a) e k t p s u ⟨j⟩;rw[j];have z:=i.c;go_in;go_wp2_with (first
  |(at_lookup;refine rB rfl _ _ rfl rfl m rfl a f (by omega) rfl q ?_)
  |(go_at_call 106;refine v.mono ?_;rintro A C ⟨rfl,o⟩))
 go_ret;exact⟨rfl,o⟩
def GC(n l Bs b o:Nat)(a:Option Addr)(f:Nat->A3)(J:b<=100000000)(H:b<=o)(c:Nat->A2->Prop)(k:A2->Prop)
  (q:∀m W,c m W->W.cell? ⟨Bs,0,U⟩=Q (V a b o))
  (y:∀m W,c m W->∀j,j<b->∃h,a=Q h/\W.cell? (h.add j)=Q (f j))
  (x:∀m W,m<b->c (m+1) W->YieldAt Fence.wide (n-1) Ax l #[O A0 (m:Int),f m] W λe W'=>(e= Bc (A5 A9)/\c m W')\/(e= Bc (A5 A1)/\k W'))
  (W:A2) (p:c b W):
  CallsIn Fence.wide n Ax 105 #[.func (.yield l) #[] #[],Y (Q ⟨Bs,0,U⟩)] W λe W'=>(∃v,e= Bc v)/\(c 0 W'\/k W'):=by
 have F:=q _ _ p;refine callsIn_of_wp func105 rfl trivial ?_ rfl;simp only[ntmps105,iD,bc,dE,Nat.reduceAdd,Nat.reduceSub,jn,jA,jB,pz,dI,dJ]
 gi_wp2
 gi_loopw [3] (λi wr=>∃d:Nat,d<=b/\i= O A0 ((d:Int)-1)/\c d wr) (λi _=>(C2 i+1).toNat)
 case atStart=>exact⟨b,ag _,rfl,p⟩
 case round=>
  obtain⟨d,I,rfl,g⟩:=hrel;have E:=q _ _ g;rcases oz d with rfl|hp
  .gi_wp2
   go_end0
   exact⟨⟨_,rfl⟩,.inl g⟩
  .obtain⟨m,rfl⟩:∃m,d=m+1:=⟨d-1,by omega⟩;obtain⟨h,rfl,G⟩:=y _ _ g m (by omega);have⟨C,tmps,A,B,K,w⟩:=x m wr (by omega) g;have r:((m+1:Nat):Int)-1=(m:Int):=by omega
   rw[r]
   gi_wp2
   refine⟨λs=>by simp[Fence.wide]at s,w.mono ?_⟩;rintro e z (⟨rfl,t⟩|⟨rfl,u⟩)
   .gi_wp2
    go_roundw
    case rel=>exact⟨m,by omega,by simp,t⟩
    case measure=>simp[C2]
   .gi_wp2
    refine aL (jp rfl _ _ _) rfl ?_;exact⟨⟨_,rfl⟩,.inr u⟩
def xb(a:Option Addr)(c b:Nat)(w:A2):
  B0 Ax 53 #[V a c b] w λe w'=>e= Bc (.func (.func 105) #[] #[Y (Q ⟨w.heap.size,0,U⟩)])/\w'=w.alloc (Ad #[V a c b] 69):=by
 refine calls_of_wp func53 rfl ?_;simp only[ntmps53,iD,bc,dE,Nat.reduceAdd,Nat.reduceSub,jn,jA,jB,pz,dI,dJ];go_wp2;go_ret;exact⟨rfl,rfl⟩
attribute [local go_sem] lG
def eH{t:Bk}(h:W.heap[b]?=Q (Ad #[v] t (0,0))):W.cell? ⟨b,0,U⟩=Q v:=by
 rw[aj _ _ _ _ _ _ h];rfl
def zk(h:cg W W'):Bn B W W':=⟨h.size,λb c _ a _=>(h.block b (Array.getElem?_eq_some_iff.1 a).1).trans a⟩
structure uK (w:A2) (gb:Nat) (t:Int) (vs:A3) (r:Bool) (W:A2):Prop where
 bl:cg w W
 b0:W.heap[w.heap.size]?=Q (.cells #[.pointer (Q ⟨gb,0,U⟩)] 44 (0,0))
 b1:W.heap[w.heap.size+1]?=Q (.cells #[.int .i64 t] 3 (0,0))
 b2:W.heap[w.heap.size+2]?=Q (.cells #[.bool r] 4 (0,0))
 b3:W.heap[w.heap.size+3]?=Q (.cells #[vs] 69 (0,0))
def uK.below(h:uK w gb t vs r W)(a:cg W W'):uK w gb t vs r W':=
 ⟨h.bl.trans (a.mono h.bl.size),(a.block _ (aE h.b0)).trans h.b0,(a.block _ (aE h.b1)).trans h.b1,(a.block _ (aE h.b2)).trans h.b2,(a.block _ (aE h.b3)).trans h.b3⟩
def uK.put(h:uK w gb t vs r W)(b:w.heap.size+3<k)(o:Obj):uK w gb t vs r (W.putObj k o):=
 ⟨h.bl.grown (B7 W k o) h.bl.size (λc a=>by cases a;omega),(Z (by omega)).trans h.b0,(Z (by omega)).trans h.b1,(Z (by omega)).trans h.b2,(Z (by omega)).trans h.b3⟩
def uK.set(h:uK w gb t vs r W)(r':Bool):uK w gb t vs r' (W.setCell ⟨w.heap.size+2,0,U⟩ (A5 r')):=
 ⟨h.bl.setCell (by show w.heap.size<=w.heap.size+2;omega) _,(ay _ _ _ _ (by simp)).trans h.b0,(ay _ _ _ _ (by simp)).trans h.b1,bp _ _ 0 _ _ _ h.b2,(ay _ _ _ _ (by simp)).trans h.b3⟩
def Lb{a:Func}{p:Tmp}(h:a.results=#[.cell p 4])(tmps:Array A3)(w:A2)(g:Nat)(b:Bool)(d:tmps.getD p Ak= Y (Q ⟨g,0,U⟩))(c:w.heap[g]?=Q (Ad #[A5 b] 4 (0,0))):(results a tmps).run Ax w= .ok (A5 b) w:=by
 have e:tmps[p]?.getD Ak= Y (Q ⟨g,0,U⟩):=by simpa using d
 have f:w.cell? ⟨g,0,U⟩=Q (A5 b):=by rw[aj _ _ _ _ _ _ c];rfl
 simp[results,h,e,asAddr];go_simp
structure IG (st:List Int) (m:Nat) (t:Int) (R:Bool):Prop where
 out:uj (st.drop (st.length-m)) t=R
def amp(a:Int):dp a<=8:=by
 unfold dp
 repeat (first|omega|(split;· omega))
def zl(g j:Nat):(⟨g,0,U⟩:Addr).add j=⟨g,j,U⟩:=by unfold Addr.add;split<;>simp_all
def BJ(st:List Int)(m:Nat):Int:=st.reverse.getD m 0
def ac7{st:List Int}(c:st.length=n)(b:m<n):st.drop (n-(m+1))=BJ st m::st.drop (n-m):=by
 have a:n-(m+1)<st.length:=by omega
 rw[kL a,show n-(m+1)+1=n-m by omega]
 congr 1
 unfold BJ;rw[aF,List.getElem?_reverse (by omega),aw (by omega),gy]
 congr 1
 omega
def aob{st:List Int}(c:st.length=n)(b:m<n):BJ st m∈st:=by
 have a:BJ st m∈st.drop (n-(m+1)):=by rw[ac7 c b];simp
 exact List.mem_of_mem_drop a
def akt{c:Nat}{b:Option Addr}{st:List Int}(h:W.ownsRow base 75 1 (V b n c) n (cSy st))(j:st.length=n)(i:m<n):∃a,b=Q a/\W.cell? (a.add m)=Q (O X (BJ st m)):=by
 rcases bJ h with⟨g,_⟩|⟨f,e,d⟩
 .omega
 .cases d;refine⟨_,rfl,?_⟩;rw[zl,h.cellAt m (by omega)];unfold cSy BJ;rw[cD,aw (by simp;omega),aF,aw (by simp;omega)];rfl
def ahc(w:A2)(base e mb:Nat)(st:List Int)(t:Int)(R:Bool)(br:It w base e (.map (Q mb)) st)(bt:RI w base mb)(b6:∀a∈st,0<=a/\a<=133)(r:st.length<=100000000)(ce:1<=t)(cf:t<=78)(J:uj st t=R):
  B0 Ax 27 #[Y (Q ⟨e,0,U⟩),O A0 t] w (jf w (A5 R)):=by
 have⟨cz,ao,L⟩:=br.ex;have bs:GB w base e mb:=⟨by rw[aj _ _ _ _ _ _ ao];rfl,bt⟩;have⟨n,a6⟩:=aC st.length;rw[a6]at L r;obtain⟨g,f,rfl⟩:=di L;have af:w.cell? ⟨e,1,U⟩=Q (V g n f):=by rw[aj _ _ _ _ _ _ ao];rfl
 have b4:n<=f:=by
  rcases L.2 with⟨a3,s⟩|⟨ct,cq,cr,a3,_,_,q,_⟩
  .rw[s];exact aD _
  .cases a3;exact q
 have l:=afC bs L a6 J b6;have cu:=aE ao;refine mD (n:=5).1 ?_;refine callsIn_of_wp_marks func27 rfl trivial ?_ rfl;simp only[ntmps27,iD,bc,dE,Nat.reduceAdd,Nat.reduceSub,jn,jA,jB,pz,dI,dJ];refine wpIn_wide.2 ?_;have cp:=λ(b8 b9 ca:Obj)=>cell_kept (((((ah w.heap.size w).alloc (ag _) b8).alloc (by simp) b9)).alloc (by simp;omega) ca) af;go_wp2_with (go_at_call 53;refine(xb g n f _).mono ?_;rintro a2 cF ⟨rfl,rfl⟩);rename_i ck a5;generalize bA:(w.alloc _).alloc _=bk;generalize bx:(bk.alloc _).alloc _=a0;have⟨cb,cc,pB,cd⟩:=CD bA;have⟨ba,bb,aK,bd⟩:=CD bx;rw[cd]at ba bb bd;have b7:uK w e t (V g n f) A1 a0:=⟨pB.trans (aK.mono (by omega)),(aK.block _ (by omega)).trans cb,(aK.block _ (by omega)).trans cc,ba,bb⟩;have x:a0.heap.size=w.heap.size+4:=bd;refine(sJ (n:=5)).1 ?_;refine wh (P:=Ax) (gf:=105) (lb:=#[Y (Q ⟨w.heap.size+1+1+1,0,U⟩)]) rfl (enters_of func105 (by kernel_rfl) rfl)
  (λd=>#[O A0 (d:Int),O X (BJ st d)]) (λ_=>rfl) n
  (λd b=>uK w e t (V g n f) A1 b/\IG st d t R)
  (λd z b=>uK w e t (V g n f) A1 b/\IG st (d+1) t R/\
   z={tmps:=#[Y (Q ⟨e,0,U⟩),O A0 t,Y (Q ⟨w.heap.size,0,U⟩),Y (Q ⟨w.heap.size+1,0,U⟩),Y (Q ⟨w.heap.size+1+1,0,U⟩),Ak,O X (BJ st d),
    Y (Q ⟨e,0,U⟩),Y (Q ⟨e,0,U⟩),Y (Q ⟨e,1,U⟩),Y (Q ⟨e,1,U⟩),V g n f,.func (.func 105) #[] #[Y (Q ⟨w.heap.size+1+1+1,0,U⟩)],O A0 (d:Int),O X (BJ st d),
    Ak,Ak,Ak,Ak,Ak,Ak,Ak,Ak,Ak],defers:=[]})
  (λb=>uK w e t (V g n f) R b)
  ?pZ ?pAx ?pX ?h0 ?assign ?body ?seq ?done ?ret
 case pZ=>
  rintro d b bf G ⟨c,i⟩ r;rw[x]at r⊢;exact⟨c.put (by omega) G,i⟩
 case pAx=>
  rintro d z b bf G ⟨c,i,rfl⟩ r;rw[x]at r⊢;exact⟨c.put (by omega) G,i,rfl⟩
 case pX=>
  intro b bf G c r;rw[x]at r⊢;exact c.put (by omega) G
 case h0=>
  intro cn bE cx;exact⟨b7.below bE,⟨by rw[l.out.2.2.1,fx];exact l.2.2.2.1⟩⟩
 case assign=>
  rintro F d b cl ap ⟨c,i⟩ bv;have p:=gF c i;clear c i
  gi_wp2
  exact bv _ _ ⟨p.1,p.2,rfl⟩ (KeepsFrom.refl _ _)
 case body=>
  rintro F d z b ap ⟨c,i,rfl⟩;rw[x];have E:=l.2.2.2.2 _ (aob l.2.2.1 ap);have j:=i.out;rw[l.out.2.2.1,ac7 l.out.2.2.1 ap,uj]at j;have C:Bi 9 (BJ st d) t=A1->Ku (BJ st d)=A9->IG st d t R:=λak h=>by
   rw[aa (by rw[ak];simp),ab h]at j;exact⟨by rw[l.out.2.2.1];exact j⟩
  generalize BJ st d=u at E j C⊢;have a7:=CallsIn.inRound F (mD (n:=2).2 (xC 8 b base e mb u t (l.1.below c.bl) E.1 E.2 (amp u) ce cf));have a8:=λ(a1:A2) (o:cg w a1)=>CallsIn.inRound F (mD (n:=2).2 (aks a1 base e mb u (l.1.below o) E.1 E.2));have bn:=eH c.b0;have af:=eH c.b1;have cs:IntKind.u8.wrap t=t:=by rw[aci];omega
  have p:=am c;clear c i
  gi_wp2_with (refine⟨trivial,?_⟩;gi_at_call 54;fail)
  refine⟨trivial,a7.mono ?_⟩;rintro a2 H ⟨rfl,al⟩;have o:=p.below al;have ar:Bn (w.heap.size+4) b H:=zk al;have A:=eH o.b2;have B:H.frozen? ⟨w.heap.size+2,0,U⟩=A1:=cH _ _ _ _ _ o.b2;have bo:=eH o.b0;have h:w.heap.size+1+1=w.heap.size+2:=rfl;rw[<-h]at A B;clear a7 bn af al h;cases hbv:Bi 9 u t with
  |true=>
   rw[hbv,ab rfl]at j;have m:B2 (uK w e t (V g n f) R (H.setCell ⟨w.heap.size+1+1,0,U⟩ (A5 A9))/\Bn (w.heap.size+4) b (H.setCell ⟨w.heap.size+1+1,0,U⟩ (A5 A9))):=⟨by rw[<-j];exact o.set A9,ar.trans ((KeepsOthers.setCell _ _ _).from _)⟩;have K:Bi (8+1) u t=A9:=hbv;try rw[K]
   clear j C hbv K a8 o ar p
   gi_wp2
   exact⟨m.2,m.1⟩
  |false=>
   have K:Bi (8+1) u t=A1:=hbv;rw[hbv,aa (by simp)]at j;try rw[K]
   have a9:=a8 H o.bl;have I:=gF o ar
   gi_wp2_with (refine⟨trivial,?_⟩;gi_at_call 55;fail)
   refine⟨trivial,a9.mono ?_⟩;rintro a2 y ⟨rfl,an⟩;have q:=I.1.below an;have ad:Bn (w.heap.size+4) b y:=I.2.trans (zk an);have A:=eH q.b2;have B:y.frozen? ⟨w.heap.size+2,0,U⟩=A1:=cH _ _ _ _ _ q.b2;have h:w.heap.size+1+1=w.heap.size+2:=rfl;rw[<-h]at A B;clear a9 bo an h;cases hnv:Ku u with
   |true=>
    have m:B2 (uK w e t (V g n f) A1 y/\IG st d t R/\Bn (w.heap.size+4) b y):=⟨q,C hbv hnv,ad⟩;clear j C hbv q ad I hnv
    gi_wp2
    exact⟨m.2.2,m.1,m.2.1⟩
   |false=>
    rw[hnv,aa (by simp)]at j;have m:B2 (uK w e t (V g n f) R (y.setCell ⟨w.heap.size+1+1,0,U⟩ (A5 A1))/\Bn (w.heap.size+4) b (y.setCell ⟨w.heap.size+1+1,0,U⟩ (A5 A1))):=⟨by rw[<-j];exact q.set A1,ad.trans ((KeepsOthers.setCell _ _ _).from _)⟩;clear j C hbv q ad I hnv
    gi_wp2
    exact⟨m.2,m.1⟩
 case seq=>
  intro F bh bj a4 bD b bw;refine GC 4 F (w.heap.size+1+1+1) n f g _ r b4 bh bj (λd b c=>?_) (λd b c cy b5=>?_) bD b bw
  .exact eH (a4 d b c).1.b3
  .obtain⟨z,ak,h⟩:=akt l.2.1 l.2.2.1 b5;exact⟨z,ak,cell_kept (a4 d b c).1.bl h⟩
 case ret=>
  intro b c v;rw[x]at v⊢;refine⟨by simp,.inl ⟨_,_,rfl,run_takeDeferred v,?_⟩⟩;have s:=c.put (k:=w.heap.size+4) (by omega) (.deferred U);refine⟨_,Lb rfl _ _ (w.heap.size+1+1) R rfl s.b2,rfl,s.bl⟩
 case done=>
  rintro b ⟨c,i⟩ v;rw[x]at v⊢;have J:R=A1:=by
   have:=i.out;rw[vG,List.drop_length]at this;exact this.symm
  refine a5 _ _ ?_;have A:=eH c.b2;have B:b.frozen? ⟨w.heap.size+2,0,U⟩=A1:=cH _ _ _ _ _ c.b2;have h:w.heap.size+1+1=w.heap.size+2:=rfl;rw[<-h]at A B;have p:B2 (uK w e t (V g n f) R (b.setCell ⟨w.heap.size+1+1,0,U⟩ (A5 A1))/\(b.setCell ⟨w.heap.size+1+1,0,U⟩ (A5 A1)).heap[w.heap.size+4]?=Q (.deferred (Q []))):=⟨by rw[J];exact c.set A1,(ay _ _ _ _ (by simp)).trans v⟩;clear c i v J a5 h;go_wp2_with fail;refine⟨by simp,.inl ⟨_,_,rfl,run_takeDeferred p.2,?_⟩⟩;have s:=p.1.put (k:=w.heap.size+4) (by omega) (.deferred U);refine⟨_,Lb rfl _ _ (w.heap.size+1+1) R rfl s.b2,rfl,s.bl⟩
def passOk(M:Nat):Nat->List Int->Int->List Int->Prop
 |0,_,_,_=>False
 |_+1,[],_,_=>False
 |f+1,a::r,t,o=>(a=t/\o=r/\r.length<=M)\/(a≠t/\(Ig a t++r).length<=M/\passOk M f (Ig a t++r) t o)
def ahd(e:0<=a)(g:a<=133):(Ig a t).length<=6/\∀z∈Ig a t,1<=z/\z<=133:=by
 have b:=C5 e (show a<=255 by omega);unfold AD at b;rw[bB,sF]at b;unfold Ig;cases hf:List.find? (hdI t) (mu a) with
 |none=>exact⟨aD _,λz c=>by simp at c⟩
 |some d=>
  have f:d∈mu a:=acf hf;have:=b.2 d f;simp only[bB,sF]at this;exact⟨aB this.1.1,λz c=>aB (this.1.2 z c)⟩
def aku(b:1<=t):rwN 8 (mu a) t=Ig a t:=by
 unfold rwN Ig
 congr 2
 funext r
 rw[amo b 7 r];cases r<;>rfl
def GD:∀{f M:Nat}{st o:List Int}{t:Int},mw f st t=Q o->(∀z∈st,0<=z/\z<=133)->st.length+5*f<=M->passOk M f st t o
 |0,_,_,_,_,h,_,_=>by simp[mw]at h
 |f+1,_,[],_,_,h,_,_=>by simp[mw]at h
 |f+1,M,a::r,o,t,h,b,c=>by
  rw[mw]at h;unfold passOk;simp only[bc]at c;by_cases e:a=t
  .rw[ab e]at h;exact .inl ⟨e,(aJ h).symm,by omega⟩
  .rw[aa e]at h;have⟨d,g⟩:=b a (by simp);obtain⟨j,i⟩:=ahd (t:=t) d g;refine .inr ⟨e,by rw[aG];omega,GD h (λz hz'=>?_) (by rw[aG];omega)⟩;rcases List.mem_append.1 hz' with hz'|hz'
   .have:=i z hz';omega
   .exact b z (by simp[hz'])
def Bt:∀{f g M:Nat}{st o:List Int}{t:Int},passOk M f st t o->f<=g->passOk M g st t o
 |0,_,_,_,_,_,h,_=>h.elim
 |f+1,0,_,_,_,_,_,e=>by omega
 |f+1,g+1,_,[],_,_,h,_=>h.elim
 |f+1,g+1,M,a::r,o,t,h,e=>by
  unfold passOk at h⊢;rcases h with h|⟨b,c,d⟩
  .exact .inl h
  .exact .inr ⟨b,c,Bt d (by omega)⟩
def Bv:∀{f M M':Nat}{st o:List Int}{t:Int},passOk M f st t o->M<=M'->passOk M' f st t o
 |0,_,_,_,_,_,h,_=>h.elim
 |f+1,_,_,[],_,_,h,_=>h.elim
 |f+1,M,M',a::r,o,t,h,e=>by
  unfold passOk at h⊢;rcases h with⟨b,c,d⟩|⟨b,c,d⟩
  .exact .inl ⟨b,c,by omega⟩
  .exact .inr ⟨b,by omega,Bv d e⟩
def Lc:∀{st:List Int}{t:Int},OkI st->1<=t->t<=78->uj st t=A9->∃o,passOk (st.length+45) (st.length+9) st t o
 |[],t,d,_,_,h=>by simp[uj]at h
 |a::r,t,d,k,l,h=>by
  have p:=d a (aI ..);have s:OkI r:=λy v=>d y (cG _ v);have u:∀e∈a::r,0<=e/\e<=133:=λe w=>by have:=aB (d e w);omega
  have b:=acz p k l;rw[uj]at h;unfold ags at b;by_cases f:Bi 9 a t=A9
  .rw[ab f]at b;split at b
   .rename_i A B C n z;have g:=Aj (c:=r) n;rw[sG]at g;exact⟨_,Bt (GD g u (by simp)) (by simp)⟩
   .cases b
  .rw[aa f]at b h;by_cases i:Ku a=A9
   .rw[ab i]at b h;rw[bB]at b;have⟨o,x⟩:=Lc s k l h;have q:¬a=t:=λm=>by
     subst m;have:Bi 9 a a=A9:=by rw[Bi,ab (by omega)];exact be rfl
     exact f this
    have j:Ig a t=[]:=by simpa using b.1
    refine⟨o,?_⟩;rw[show(a::r).length+9=(r.length+9)+1 from Nat.add_right_comm r.length 1 9];unfold passOk;refine .inr ⟨q,by rw[j,dI];simp;omega,?_⟩;rw[j,dI];exact Bv x (by simp)
   .rw[aa i]at h;cases h
def Bw:∀{f M:Nat}{st o:List Int}{t:Int},passOk M f st t o->mw f st t=Q o
 |0,_,_,_,_,h=>h.elim
 |f+1,_,[],_,_,h=>h.elim
 |f+1,M,a::r,o,t,h=>by
  unfold passOk at h;rw[mw];rcases h with⟨b,c,d⟩|⟨b,c,d⟩
  .rw[ab b,c]
  .rw[aa b];exact Bw d
def tA:∀{f M:Nat}{st o:List Int}{t:Int},passOk M f st t o->o.length<=M
 |0,_,_,_,_,h=>h.elim
 |f+1,_,[],_,_,h=>h.elim
 |f+1,M,a::r,o,t,h=>by
  unfold passOk at h;rcases h with⟨d,c,b⟩|⟨d,c,b⟩
  .rw[c];exact b
  .exact tA b
def Sim.passOk{st c:List Int}(h:Sim st c)(d:1<=t)(e:t<=78)(a:uj st t=A9):∃o,passOk (st.length+45) (st.length+9) st t o/\Sim o (dm c t).1:=by
 have⟨o,b⟩:=Lc h.o1 d e a;have⟨g,f,p2⟩:=h.pass d e a;have:=Bw b;rw[f]at this;obtain rfl:=aJ this;exact⟨_,b,p2⟩
attribute [local go_sem] lG
def amq{cs:Array A3}{t:Bk}(d:W.heap[gb]?=Q (Ad cs t fr))(h:Gp gb W W'):Bn B W W':=⟨h.size,λe i _ a c=>(h.block e (Array.getElem?_eq_some_iff.1 a).1 (by rintro rfl;rw[d]at a;cases a;cases c) (λf g b=>by rw[a]at b;cases b;cases c)).trans a⟩
def lA{cs:Array A3}{t:Bk}(h:Gp gb W W')(a:W.heap[k]?=Q (Ad cs t fr))(c:k≠gb)(ht:t≠75:=by decide):W'.heap[k]?=Q (Ad cs t fr):=
 (h.block k (Array.getElem?_eq_some_iff.1 a).1 c (λd e b=>by rw[a]at b;cases b;exact ht rfl)).trans a
structure xD (w:A2) (base gb mb:Nat) (st:List Int) (c:List Nat) (W:A2):Prop where
 g:It W base gb (.map (Q mb)) st
 r:RI W base mb
 gp:Gp gb w W
 bb:Br base w W
 b0:W.heap[w.heap.size]?=Q (.cells #[.pointer (Q ⟨gb,0,U⟩)] 44 (0,0))
 mks:uF (w.heap.size+1) c W
 ne:gb<w.heap.size
def xD.below{st:List Int}(h:xD w base gb mb st c W)(a:cg W W'):xD w base gb mb st c W':=by
 refine⟨h.g.below a,h.r.below a,h.gp.trans (Gp.of_below a),h.bb.trans (a.mono ?_),(a.block _ (aE h.b0)).trans h.b0,h.mks.below a,h.ne⟩;have:=h.g.lo;have:=h.ne;have:=h.gp.size;omega
def xD.turn{st i:List Int}(h:xD w base gb mb st c W)(j:It W' base gb (.map (Q mb)) i)(d:Gp gb W W')(k:Br base W W'):xD w base gb mb i c W':=by
 have⟨n,f,_⟩:=h.g.ex;exact⟨j,h.r.gp f d,h.gp.trans d,h.bb.trans k,lA d h.b0 (by have:=h.ne;omega),
  ⟨h.mks.nd,h.mks.lo,λa b=>(d.block a (Array.getElem?_eq_some_iff.1 (h.mks.at_ a b)).1 (by rintro rfl;have:=h.mks.at_ a b;rw[f]at this;cases this) (λl m e=>by rw[h.mks.at_ a b]at e;cases e)).trans (h.mks.at_ a b)⟩,h.ne⟩
def xD.put{st:List Int}(h:xD w base gb mb st c W){r:Loop}(x:w.heap.size<k)(d:W.heap[k]?=Q (.loop r))(o:Obj):xD w base gb mb st c (W.putObj k o):=by
 have⟨q,l,n⟩:=h.g.ex;have e:gb≠k:=by have:=h.ne;omega
 have p:base<=k:=by have:=h.g.lo;have:=h.ne;omega
 refine⟨⟨⟨q,(Z e).trans l,ownsRow_putObj n o d rfl⟩,h.g.lo⟩,h.r.same (λt c a=>(Z (by rintro rfl;rw[d]at a;cases a)).trans a) (λv s u a=>(Z (by rintro rfl;rw[d]at a;cases a)).trans a),?_,h.bb.grown (B7 W k o) (by have:=h.gp.size;have:=h.g.lo;have:=h.ne;omega) (λi a=>by cases a;exact p),(Z (by omega)).trans h.b0,
  ⟨h.mks.nd,h.mks.lo,λf g=>(Z (by rintro rfl;have:=(h.mks.at_ f g).symm.trans d;cases this)).trans (h.mks.at_ f g)⟩,h.ne⟩
 have b:=h.gp;refine⟨b.os,b.tape,b.output,by have:=b.size;simpa using this,λi m e j=>(Z (by omega)).trans (b.block i m e j)⟩
structure abc (w:A2) (base gb mb:Nat) (st:List Int) (c:List Nat) (sz:Nat) (x0 x1 x2 x3 x4 x5:Int) (W:A2):Prop where
 ps:xD w base gb mb st c W
 b0:W.heap[sz]?=Q (.cells #[.int .u8 x0,.int .u8 x1,.int .u8 x2,.int .u8 x3,.int .u8 x4,.int .u8 x5] 139 (0,0))
 b1:W.heap[sz+1]?=Q (.cells #[.slice (Q ⟨sz,0,U⟩) 6 6] 69 (0,0))
def abc.put{st:List Int}{a:Nat}{x0 b d e f g:Int}(h:abc w base gb mb st c a x0 b d e f g W)(l:w.heap.size<a){r:Loop}(j:a+1<k)(i:W.heap[k]?=Q (.loop r))(o:Obj):abc w base gb mb st c a x0 b d e f g (W.putObj k o):=
 ⟨h.ps.put (by omega) i o,(Z (by omega)).trans h.b0,(Z (by omega)).trans h.b1⟩
def ahe(w:A2)(base f mb:Nat)(st:List Int)(t:Int)(M bh:Nat)(v:List Int)(a2:It w base f (.map (Q mb)) st)(b4:RI w base mb)(b9:∀a∈st,0<=a/\a<=133)(s:st.length<=M)(ff:M<=100000000)(cv:1<=t)(ew:t<=78)(a3:passOk M bh st t v):
  B0 Ax 29 #[Y (Q ⟨f,0,U⟩),O X t] w λe w'=>e= Bc (Ck #[])/\It w' base f (.map (Q mb)) v/\RI w' base mb/\Gp f w w'/\Br base w w':=by
 obtain⟨c9,b8,el⟩:=a2.ex;have eg:=aE b8;have fn:=a2.lo;obtain⟨k,rfl⟩:∃k,bh=k+1:=by
  cases bh with
  |zero=>exact a3.elim
  |succ k=>exact⟨k,rfl⟩
 obtain⟨c,l,rfl⟩:∃c l,st=c::l:=by
  cases st with
  |nil=>exact a3.elim
  |cons c l=>exact⟨c,l,rfl⟩
 have an:=(ah w.heap.size w).alloc (ag _) (Ad #[Y (Q ⟨f,0,U⟩)] 44 (0,0));have bk:xD w base f mb (c::l) [] (w.alloc (Ad #[Y (Q ⟨f,0,U⟩)] 44 (0,0))):=
  ⟨a2.below an,b4.below an,Gp.of_below an,an.mono (by omega),aA w _,⟨vF,λp hb=>by simp at hb,λp hb=>by simp at hb⟩,eg⟩
 have x:=KH _ base f (.map (Q mb)) l c bk.g (by simp only[bc]at s;omega);have av:=kK bk b9 a3;clear a2 b4 b9 el bk a3 b8;refine mD (n:=5).1 ?_;refine callsIn_of_wp_marks func29 rfl trivial ?_ rfl;simp only[ntmps29,iD,bc,dE,Nat.reduceAdd,Nat.reduceSub,jn,jA,jB,pz,dI,dJ];refine wpIn_wide.2 ?_;go_wp2_with (go_at_call 59;refine x.mono ?_;rintro e ez ⟨rfl,a0,p2,bE⟩);have ce:=av.1.turn a0 p2 bE;have bA:B2 (xD w base f mb l [] ez/\(∀a∈c::l,0<=a/\a<=133)/\passOk M (k+1) (c::l) t v/\l.length<=M):=⟨ce,av.2.1,av.2.2,by simp only[bc]at s;omega⟩;clear av ce a0 p2 bE x an;obtain⟨s0,cd⟩:=aC c;refine(sJ (n:=5)).1 (wpIn_loop_ghost (λk af g=>∃(c:Int) (st:List Int) (j:List Nat),B2 (xD w base f mb st j g/\(∀a∈c::st,0<=a/\a<=133)/\passOk M (k+1) (c::st) t v/\st.length<=M)/\∃c7 c8 cw cx cy bt bv bw bx cz cB cF cI c1 c2 c3 c4 c6:A3,af={tmps:=#[Y (Q ⟨f,0,U⟩),O X t,Y (Q ⟨w.heap.size,0,U⟩),Ak,O X c,c7,c8,Ak,Ak,Y (Q ⟨f,0,U⟩),Y (Q ⟨f,0,U⟩),Y (Q ⟨f,1,U⟩),O X s0,cw,cx,cy,bt,bv,bw,bx,cz,cB,cF,cI,c1,c2,c3,c4,c6,Ak,Ak,Ak,Ak,Ak,Ak,Ak,Ak,Ak],defers:=j.map DL}) k ?start ?round)
 case start=>exact⟨c,l,[],bA,Ak,Ak,Ak,Ak,Ak,Ak,Ak,Ak,Ak,Ak,Ak,Ak,Ak,Ak,Ak,Ak,Ak,Ak,by rw[<-cd];rfl⟩
 case round=>
  clear bA s cd;rintro k af g ⟨c,st,j,m,c7,c8,cw,cx,cy,bt,bv,bw,bx,cz,cB,cF,cI,c1,c2,c3,c4,c6,rfl⟩;refine wpIn_wide.2 ?_;have fg:=eH m.1.b0;have a6:=m.2.1 c (by simp);by_cases a8:c=t
  .have ak:=m.2.2.1;unfold passOk at ak;have cf:v=st:=by
    rcases ak with⟨_,b,_⟩|⟨b,_⟩
    .exact b
    .exact absurd a8 b
   have ad:B2 (xD w base f mb v j g):=by rw[cf];exact m.1
   clear ak m cf;subst a8;go_wp2_with fail;show LeavesInM _ _ _ _ _ _ (j.map DL) .returning g;have b:=ad.out;refine tr (w.heap.size+1) j g b.mks (λbD q=>?_);have ck:∀h,h<=w.heap.size->bD.heap[h]?=g.heap[h]?:=λh B=>q.same h (λC=>by have:=b.mks.lo h C;omega);have a4:∀(h:Nat)(u:Obj),g.heap[h]?=Q u->(∀ar,u≠ .deferred ar)->bD.heap[h]?=Q u:=λh u B a5=>(q.same h (λC=>by have:=b.mks.at_ h C;rw[B]at this;exact a5 _ (aJ this))).trans B;refine⟨_,jp rfl _ _ _,rfl,?_,?_,?_,?_⟩
   .obtain⟨c9,ao,a5⟩:=b.g.ex;refine⟨⟨c9,a4 _ _ ao (λar e=>by cases e),a5.1,?_⟩,b.g.lo⟩;rcases a5.2 with d4|⟨a0,dx,d0,bn,bo,br,bs⟩
    .exact .inl d4
    .exact .inr ⟨a0,dx,d0,bn,bo,a4 _ _ br (λar e=>by cases e),bs⟩
   .exact b.r.same (λe9 j e=>a4 _ _ e (λar e=>by cases e)) (λfd e8 fb e=>a4 _ _ e (λar e=>by cases e))
   .exact⟨q.os.trans b.gp.os,q.tape.trans b.gp.tape,q.output.trans b.gp.output,by rw[q.size];exact b.gp.size,λh B ek ed=>(ck h (by omega)).trans (b.gp.block h B ek ed)⟩
   .exact⟨q.os.trans b.bb.os,q.tape.trans b.bb.tape,q.output.trans b.bb.output,by rw[q.size];exact b.bb.size,λh B=>(ck h (by omega)).trans (b.bb.block h B)⟩
  .have fq:(c==t)=A1:=by rw[du];exact a8
   have ak:(Ig c t++st).length<=M/\passOk M k (Ig c t++st) t v:=by
    have:=m.2.2.1;unfold passOk at this;rcases this with⟨b,_⟩|⟨_,b⟩
    .exact absurd b a8
    .exact b
   have⟨ey,ao,_⟩:=m.1.g.ex;have d6:GB g base f mb:=⟨by rw[aj _ _ _ _ _ _ ao];rfl,m.1.r⟩;obtain⟨A,d9⟩:∃A,Eg 8 t (mu c) 0 (Ig c t) A:=⟨_,⟨aku cv,rfl⟩⟩;have a9:=Eh 7 (xC 7) g base f mb c t d6 a6.1 a6.2 (amp c) cv ew _ A d9;obtain⟨cc,em⟩:=ahd (t:=t) a6.1 a6.2;rw[ac4 cc]at a9;have r:B2 ((Ig c t++st).length<=M/\passOk M k (Ig c t++st) t v/\(Ig c t).length<=6/\∀dc∈Ig c t,1<=dc/\dc<=133):=⟨ak.1,ak.2,cc,em⟩;generalize Ig c t=rw at a9 r;have⟨F,bl⟩:=aC (rw.getD 0 0);have⟨G,cp⟩:=aC (rw.getD 1 0);have⟨H,cq⟩:=aC (rw.getD 2 0);have⟨I,cr⟩:=aC (rw.getD 3 0);have⟨J,ct⟩:=aC (rw.getD 4 0);have⟨K,cu⟩:=aC (rw.getD 5 0);rw[bl,cp,cq,cr,ct,cu]at a9;have dd:=ajy bl cp cq cr ct cu;go_wp2_with (first
    |(go_at_call 60;refine a9.mono ?_;rintro e da ⟨rfl,a1⟩)
    |(go_at_call 53;refine(xb _ 6 6 _).mono ?_;rintro e ft ⟨rfl,rfl⟩))
   rename_i e4 d7;have⟨i,cl⟩:=aC da.heap.size;rw[cl];generalize eb:(da.alloc _).alloc _=e7;have⟨ca,cb,d5,ap⟩:=CD eb;rw[cl]at ca cb ap;have en:=m.1.below (a1.trans (d5.mono a1.size));have ee:∀p∈j,p<i:=λp hb=>by have:=(Array.getElem?_eq_some_iff.1 (m.1.mks.at_ p hb)).1;have:=a1.size;omega
   have cn:w.heap.size<i:=by have:=aE m.1.b0;have:=a1.size;omega
   refine(sJ (n:=5)).1 ?_;refine wh (P:=Ax) (gf:=105) (lb:=#[Y (Q ⟨i+1,0,U⟩)]) rfl (enters_of func105 (by kernel_rfl) rfl)
    (λd=>#[O A0 (d:Int),O X (rw.getD d 0)]) (λ_=>rfl) 6
    (λd g=>abc w base f mb (rw.drop d++st) j i F G H I J K g)
    (λd af g=>abc w base f mb (rw.drop (d+1)++st) j i F G H I J K g/\af={tmps:=#[Y (Q ⟨f,0,U⟩),O X t,Y (Q ⟨w.heap.size,0,U⟩),Ak,O X c,Y (Q ⟨i,0,U⟩),A5 A,Ak,O X (rw.getD d 0),Y (Q ⟨f,0,U⟩),Y (Q ⟨f,0,U⟩),Y (Q ⟨f,1,U⟩),O X s0,O X c,O X t,A5 A9,bt,bv,bw,bx,Ck #[B4 #[O X F,O X G,O X H,O X I,O X J,O X K],A5 A],Y (Q ⟨f,0,U⟩),O X c,O X t,Ck #[B4 #[O X F,O X G,O X H,O X I,O X J,O X K],A5 A],B4 #[O X F,O X G,O X H,O X I,O X J,O X K],A5 A,V (Q ⟨i,0,U⟩) 6 6,.func (.func 105) #[] #[Y (Q ⟨i+1,0,U⟩)],O A0 (d:Int),O X (rw.getD d 0),Ak,Ak,Ak,Ak,Ak,Ak,Ak],defers:=[]})
    (λ_=>False)
    ?pZ ?pAx ?pX ?h0 ?assign ?body ?seq ?done ?ret
   case pZ=>
    rintro d g l u b s;rw[ap]at s⊢;exact b.put cn (by omega) s u
   case pAx=>
    rintro d af g l u ⟨b,rfl⟩ s;rw[ap]at s⊢;exact⟨b.put cn (by omega) s u,rfl⟩
   case pX=>intro g l u b;exact b.elim
   case h0=>
    intro e6 hb fo;refine⟨?_,(hb.block _ (by omega)).trans ca,(hb.block _ (by omega)).trans cb⟩;rw[lE r.out.2.2.1];exact en.below hb
   case assign=>
    rintro ba d g e5 C b d8;have L:=am b
    gi_wp2
    exact d8 _ _ ⟨L,rfl⟩ (KeepsFrom.refl _ _)
   case seq=>
    intro ba df dg b7 ec g ea;refine GC 4 ba (i+1) 6 6 (Q ⟨i,0,U⟩) _ (by decide) (ag _) df dg (λd g b=>?_) (λd g b al fk=>?_) ec g ea
    .exact eH (b7 d g b).b1
    .obtain⟨et,bn,bo,br,bs,ev⟩:=iw (b7 d g b).b0;have⟨eB,eF,eL,e0,e2,e3⟩:=dd.out;refine⟨_,rfl,?_⟩;rw[zl];rcases(show al=0\/al=1\/al=2\/al=3\/al=4\/al=5 by omega) with rfl|rfl|rfl|rfl|rfl|rfl
     .rw[eB];exact et
     .rw[eF];exact bn
     .rw[eL];exact bo
     .rw[e0];exact br
     .rw[e2];exact bs
     .rw[e3];exact ev
   case ret=>intro g b;exact b.elim
   case body=>
    rintro ba d af z C ⟨b,rfl⟩;rw[ap];have ds:=eH b.ps.b0;have⟨ey,ao,_⟩:=b.ps.g.ex;by_cases bj:d<rw.length
    .have ep:rw.getD d 0∈rw:=by rw[aF,aw bj];exact jq _
     have eq:=r.2.2.2 _ ep;have ef:rw.drop d=rw.getD d 0::rw.drop (d+1):=by
      rw[kL bj]
      congr 1
      rw[aF,aw bj];rfl
     have eh:(rw.drop (d+1)++st).length<=100000000:=by
      have:=r.1;rw[aG]at this⊢;rw[ir];omega
     have x:=CallsIn.inRound ba (mD (n:=2).2 (Au z base f (.map (Q mb)) (rw.drop (d+1)++st) (rw.getD d 0) b.ps.g eh));rw[<-dJ,<-ef]at x;have L:=gF b ao;generalize rw.getD d 0=eA at eq x⊢;have bl:(eA==0)=A1:=by rw[du];omega
     gi_wp2_with (refine⟨trivial,?_⟩;gi_at_call 24;fail)
     refine⟨trivial,x.mono ?_⟩;rintro e w5 ⟨rfl,d2,bd,dn⟩;have ad:B2 (abc w base f mb (rw.drop d++st) j i F G H I J K w5/\Bn (i+1+1) z w5):=⟨⟨L.1.ps.turn d2 bd dn,lA bd L.1.b0 (by omega),lA bd L.1.b1 (by omega)⟩,amq L.2 bd⟩
     gi_wp2
     exact⟨ad.2,ad.1⟩
    .have eo:rw.getD d 0=0:=by rw[aF,jC (by omega)];rfl
     rw[eo];have ad:B2 (abc w base f mb (rw.drop d++st) j i F G H I J K z):=by
      have d1:rw.drop d=rw.drop (d+1):=by rw[lE (by omega),lE (by omega)]
      rw[d1];exact b
     gi_wp2
     exact⟨KeepsFrom.refl _ _,ad⟩
   case done=>
    rintro z b b3;rw[ap]at b3⊢;obtain⟨aK,rfl⟩:∃aK,k=aK+1:=by
     cases k with
     |zero=>exact(r.2.1).elim
     |succ k=>exact⟨k,rfl⟩
    obtain⟨E,y,a7⟩:∃E y,rw++st=E::y:=by
     cases hq:rw++st with
     |nil=>have:=r.2.1;rw[hq]at this;exact this.elim
     |cons a p=>exact⟨a,p,rfl⟩
    have o:=b.ps;rw[kC,a7]at o;have fm:y.length+1<=M:=by have:=r.1;rw[a7,bc]at this;exact this
    have x:=KH z base f (.map (Q mb)) y E o.g (by omega);have ds:=eH o.b0;have ei:uF (w.heap.size+1) ((i+1+1)::j) z:=⟨List.nodup_cons.2 ⟨λC=>by have:=ee _ C;omega,o.mks.nd⟩,λp hb=>by
      rcases List.mem_cons.1 hb with rfl|hb
      .omega
      .exact o.mks.lo p hb,λp hb=>by
      rcases List.mem_cons.1 hb with rfl|hb
      .exact b3
      .exact o.mks.at_ p hb⟩
    have bf:B2 (xD w base f mb (E::y) ((i+1+1)::j) z/\(∀a∈E::y,0<=a/\a<=133)/\passOk M (aK+1) (E::y) t v):=by
     refine⟨⟨o.g,o.r,o.gp,o.bb,o.b0,ei,o.ne⟩,λa ha=>?_,by rw[<-a7];exact r.2.1⟩;rw[<-a7]at ha;rcases List.mem_append.1 ha with ha|ha
     .have:=r.2.2.2 a ha;omega
     .exact m.2.1 a (by simp[ha])
    refine d7 _ _ ?_;go_wp2_with (go_at_call 59;refine x.mono ?_;rintro e fu ⟨rfl,d3,er,dq⟩);exact⟨aK,by omega,E,y,(i+1+1)::j,⟨bf.1.turn d3 er dq,bf.2.1,bf.2.2,by omega⟩,_,_,_,_,_,_,_,_,_,_,_,_,_,_,_,_,_,_,rfl⟩
structure GQ (W:A2) (base gb mb:Nat) (st:List Int):Prop where
 g:It W base gb (.map (Q mb)) st
 r:RI W base mb
 ok:∀a∈st,0<=a/\a<=133
 len:st.length<=99999000
def GQ.below{st:List Int}(h:GQ W base gb mb st)(a:cg W W'):GQ W' base gb mb st:=⟨h.g.below a,h.r.below a,h.ok,h.len⟩
def GQ.may{st:List Int}(h:GQ W base gb mb st)(b:1<=t)(c:t<=78){R:Bool}(a:uj st t=R):
  B0 Ax 27 #[Y (Q ⟨gb,0,U⟩),O A0 t] W (jf W (A5 R)):=
 ahc W base gb mb st t R h.g h.r h.ok (by have:=h.len;omega) b c a
