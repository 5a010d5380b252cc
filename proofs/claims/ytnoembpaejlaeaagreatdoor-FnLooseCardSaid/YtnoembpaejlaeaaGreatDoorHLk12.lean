import Derived.Test.YtnoembpaejlaeaaGreatDoorHLk09
import Derived.Test.YtnoembpaejlaeaaGreatDoorHLk06
set_option linter.all false
set_option maxRecDepth 100000
set_option maxHeartbeats 25600000
open Option renaming some->M,none->O
open Go.IntKind renaming i64->U
open Go.Value renaming int->Y,slice->Z,ownBlock->A5,string->Br,string->B1,int->C2,agg->Fs,slice->F0,bool->F1
open Go renaming Value->Ax,TypeId->B0,World->B2,Calls->B3,wpList_append_own_at->Ex,wp_region_held_drew->E1,maxLen->E2
open Go.Proofs.Tryz renaming prog->A0
open Go.Obj renaming cells->A2
open Go.Ending renaming returned->A3
open Go.RowKit renaming Hid->A9,Below->B5
open Bool renaming false->B4,true->Ck
open Go.World renaming setCell->B6,news_of_block->Ce
open List renaming set->B7
namespace Go.Proofs.YtnoembpaejlaeaaGreatDoor
open Go.RowKit Go.Maps Go.WideMaps
variable{L L1:List Mb}{N:Nd}{R:Fo}{W w:World}{a:Act}{ak:Option Addr}{c:Cr}{d k s z:Int}{f:FuncId}{g i m n:Nat}{ks:List Int}{o:Oper}{ops:Array Oper}{p:Nat×TypeId×Array Value}{t:ByteArray}{u v vk vn:Value}{xs:List Value}
def alB(c:Int):Bool:=bK c||cD c
def oe(a b:ByteArray)(i:Nat):aw (a++b) i=if i<a.size then aw a i else aw b (i-a.size):=by
 have e:(a++b).data.toList=a.data.toList++b.data.toList:=by rw[kC,Gq]
 have f:a.data.toList.length=a.size:=fD;rw[sD,e];split<;>rename_i c
 all_goals
  by_cases d:i<a.size
  .rw[ab d,sD];rw[iq (by omega)]at c;rw[c]
  .rw[aa d,sD];rw[gh (by omega),f]at c;rw[c]
def Dv(s:ByteArray)(n i:Nat)(c:n<=s.size)(b:i<n):aw (s.extract 0 n) i=aw s i:=by
 rw[sD,sD];have a:(s.extract 0 n).data.toList=(s.data.toList.drop 0).take (n-0):=by rw[<-gy,Lib.extract_toList]
 rw[a,jC,vq,mJ,ab b]
def ach(a:ByteArray):a++(⟨#[]⟩:ByteArray)=a:=by apply jD;rw[kC];simp
def ajn(a:ByteArray):(⟨#[]⟩:ByteArray)++a=a:=by apply jD;rw[kC];simp
def opn(k:Int):Bool:=decide (k=46\/k=47\/k=40\/k=44\/k=10\/k=25\/60<k)
structure Cs (x:ByteArray) (n:Nat):Prop where
 out:2*x.size<=n
def Cs.le{x:ByteArray}(h:Cs x m)(a:m<=n):Cs x n:=⟨bG h.out a⟩
def ur{x:ByteArray}(h:2*x.size<=n:=by decide):Cs x n:=⟨h⟩
def amu:Cs ⟨#[]⟩ 0:=⟨by decide⟩
def aci(s:ByteArray):(fy (eE s)).size<=2+4*s.size:=by
 have:=Gy s s.size (ag _);rw[rp];unfold eE;rw[aJ];simp;omega
def amv(s:ByteArray):Cs (fy (eE s)) (16+18*s.size):=⟨by have:=aci s;omega⟩
def ajo(s:ByteArray)(g:∀i,i<s.size->cD (aw s i)=Ck):(fy (eE s)).size=2+s.size:=by
 have e:∀b:List UInt8,(∀a∈b,cD (a.toNat:Int)=Ck)->(b.flatMap λa=>esc (a.toNat:Int)).length=b.length:=by
  intro b c
  induction b with
  |nil=>rfl
  |cons a b k=>
   have d:=jw (c a bg);have:esc (a.toNat:Int)=[(a.toNat:Int)]:=by unfold esc;rw[aa (by omega),aa (by omega),aa (by omega),aa (by omega)]
   rw[Bq,aJ,k (λl j=>c l (dm _ j)),this,bm];simp;omega
 have f:∀a∈s.data.toList,cD (a.toNat:Int)=Ck:=λa d=>by
  obtain⟨i,h,rfl⟩:=gG d;have:=(io s i s.data.toList[i]).1 (aA h);rw[<-this.2];exact g i this.1
 rw[rp];unfold eE qt;rw[db (by rw[fD];exact ag _)];have:=e _ f;have c:s.data.toList.length=s.size:=fD;simp only[aJ,bm,ej];omega
structure Shr (s:ByteArray):Prop where
 sz:s.size<=3
 cs:Cs s 26
structure Lng (s:ByteArray):Prop where
 lo:20<=s.size
 hi:s.size<=4001
 dg:∀i,i<s.size->cD (aw s i)=Ck
 b0:aw s 0=48
 b1:aw s 1=49
def Sml(s:ByteArray):Prop:=s.size<=19/\Cs (fy (eE s)) 106
def FI:Nat->ByteArray
 |0=>⟨#[48,49,50,51,52,53,54,55,56,57]⟩
 |n+1=>FI n++FI n
def ut:∀n,(FI n).size=10*2 ^ n
 |0=>rfl
 |n+1=>by rw[FI,ay,ut n,Nat.pow_succ];omega
def amw(h:n<=8):(FI n).size<=2560:=by
 have:=Nat.pow_le_pow_right (n:=2) (by decide) h;rw[ut];omega
structure DgT (t:ByteArray):Prop where
 dg:∀i,i<t.size->cD (aw t i)=Ck
 b0:aw t 0=48
 b1:aw t 1=49
def dgt:∀n,DgT (FI n)
 |0=>⟨λi a=>by
  have:i<10:=a;rcases(show i=0\/i=1\/i=2\/i=3\/i=4\/i=5\/i=6\/i=7\/i=8\/i=9 by omega) with rfl|rfl|rfl|rfl|rfl|rfl|rfl|rfl|rfl|rfl<;>decide,by decide,by decide⟩
 |n+1=>by
  have h:=dgt n;have b:=bq h.b0;have c:=bq h.b1;rw[FI];refine⟨λi a=>?_,by rw[oe,ab b];exact h.b0,by rw[oe,ab c];exact h.b1⟩;rw[ay]at a;rw[oe];split
  .exact h.dg i (by omega)
  .exact h.dg _ (by omega)
def DgT.lng(h:DgT t)(c:20<=n)(d:n<=4001)(a:n<=t.size):Lng (t.extract 0 n):=by
 have f:(t.extract 0 n).size=n:=by rw[qu];omega
 refine⟨by omega,by omega,λb e=>?_,by rw[Dv t n 0 a (by omega)];exact h.b0,by rw[Dv t n 1 a (by omega)];exact h.b1⟩;rw[Dv t n b a (by omega)];exact h.dg b (by omega)
section
variable {C : Cd} {E : Bs} {w w' W : World} {c c1 c2 c3 : Cr} {z k y n : Int}
def Cw.set3(a:Cw C E W w c)(r:Int):Cw C E W (w.setCell ⟨E.cb,3,O⟩ (Y U r)) ⟨c.p,c.q,r⟩:=
 have b:=zk (qx w E.cb) 3 (Y U r)
 ⟨a.cu.grown b (aL _ E.cb 3 _ _ _ a.cu.cur),I3 a.gr b⟩
def B9(e:Rc C 37 [Y U 6] c (Y U z) c1)(f:Rc C 37 [Y U k] c1 (Y U y) c2)(h:(z=0/\k=3/\IntKind.i64.wrap (9223372036854775807-y)=n)\/(z=1/\k=3/\IntKind.i64.wrap (-9223372036854775808+y)=n)\/(z=2/\k=70000/\IntKind.i64.wrap (y-35000)=n)\/((z==0)=B4/\(z==1)=B4/\(z==2)=B4/\k=12/\IntKind.i64.wrap (y-3)=n)):Rc C 211 [] c (Y U n) c2:=by
 intro j p d;have g:=d.cw;clear d;rcases h with⟨rfl,rfl,a⟩|⟨rfl,rfl,a⟩|⟨rfl,rfl,a⟩|⟨l,m,o,rfl,a⟩;all_goals
  go_in;go_wp2_with fail;refine g.run e λw1 i _=>?_;go_wp2_with fail;refine i.run f λq b _=>?_;go_wp2_with fail;go_ret;exact⟨rfl,b.cu,b.gr⟩
def ajp(C:Cd)(c:Cr)(l:0<=c.p)(m:c.p<=800000000):∃n c',(-9223372036854775808<=n/\n<=9223372036854775807)/\(c.p<=c'.p/\c'.p<=c.p+3/\c'.r=c.r)/\Rc C 211 [] c (Y U n) c':=by
 obtain⟨f,h,o,k,g⟩:=kL C c 6;rcases(show f=0\/f=1\/f=2\/(f≠0/\f≠1/\f≠2) by omega) with d|d|d|d
 .obtain⟨e,b,j,i,a⟩:=kL C h 3;exact⟨9223372036854775807-e,b,by omega,by omega,B9 g a (.inl ⟨d,rfl,by rw[dt];omega⟩)⟩
 .obtain⟨e,b,j,i,a⟩:=kL C h 3;exact⟨-9223372036854775808+e,b,by omega,by omega,B9 g a (.inr (.inl ⟨d,rfl,by rw[dt];omega⟩))⟩
 .obtain⟨e,b,j,i,a⟩:=aou C h 70000 (by decide) (by decide) (by omega) (by omega);exact⟨e-35000,b,by omega,by omega,B9 g a (.inr (.inr (.inl ⟨d,rfl,by rw[dt];omega⟩)))⟩
 .obtain⟨e,b,j,i,a⟩:=kL C h 12;exact⟨e-3,b,by omega,by omega,B9 g a (.inr (.inr (.inr ⟨by simpa using d.1,by simpa using d.2.1,by simpa using d.2.2,rfl,by rw[dt];omega⟩)))⟩
def agf(y:Rc C 37 [Y U 6] c (Y U 3) c1)(A:Rc C 37 [Y U 20] c1 (Y U 0) c2)(ao:c2.r<3)(ap:0<=c2.r)(B:Rc C 37 [Y U 3] ⟨c2.p,c2.q,c2.r+1⟩ (Y U z) c3)(u:0<=z/\z<3):Rc C 212 [] c (Br ((FI 9).extract 0 (3999+z.toNat))) c3:=by
 intro af au s;have j:=s.cw;clear s;have o:(FI 9).size=5120:=by rw[ut]
 go_in;go_wp2_with fail;refine j.run y λw1 k _=>?_;go_wp2_with fail;refine k.run A λav d _=>?_;have al:=d.cu.cells;have ar:IntKind.i64.wrap (c2.r+1)=c2.r+1:=by rw[dt];omega
 have E:=aq (d.set3 (c2.r+1));clear j k;go_wp2_with fail;go_loop [3] (λi=>∃n:Nat,n<=9/\i= Br (FI n)) (λi=>6000-aqz i)
 case atStart=>exact⟨0,by decide,rfl⟩
 case round=>
  obtain⟨n,an,rfl⟩:=hrel;clear d;by_cases G:n<=8
  .have L:=amw G;have K:10<=(FI n).size:=by rw[ut];have:=Nat.one_le_two_pow (n:=n);omega
   have f:((FI n).size:Int)<4000:=by omega
   have e:FI (n+1)=FI n++FI n:=rfl;generalize FI n=a at L K f e;have J:=aq e;clear e o;go_wp2;go_round
   case rel=>exact⟨n+1,by omega,by rw[J.out]⟩
   case measure=>show 6000-(a++a).size<6000-a.size;rw[ay];omega
  .obtain rfl:n=9:=by omega
   have f:¬((FI 9).size:Int)<4000:=by omega
   have v:A9 (∀a b,a=FI 9->b=3999+z.toNat->B1 (a.extract 0 b)= Br ((FI 9).extract 0 (3999+z.toNat))):=λa b m F=>by rw[m,F]
   obtain⟨a,h⟩:=aF (FI 9);have x:=aq h;rw[h]at o f⊢;clear h;have t:∀z:Int,0<=z->z<3->IntKind.i64.wrap (3999+z)=((3999+z.toNat:Nat):Int):=λz ak m=>by rw[dt];omega
   have ad:=t z u.1 u.2;have H:(((3999+z.toNat:Nat):Int))<=(a.size:Int):=by omega
   have I:(0:Int)<=((3999+z.toNat:Nat):Int):=by omega
   obtain⟨b,g⟩:=aF (3999+z.toNat);have w:=aq g;rw[g]at ad H I;clear t g;go_wp2_with fail;refine E.out.run B λax l _=>?_;go_wp2;go_ret;exact⟨congrArg Ending.returned (v.out a b x.out.symm w.out.symm),l.cu,l.gr⟩
def Kc{s:ByteArray}(d:Rc C 37 [Y U 6] c (Y U z) c1)(h:(z=0/\s=⟨#[]⟩/\c2=c1)\/(z=2/\s=⟨#[97,34,98,92,99,10,100,9,101]⟩/\c2=c1)\/((z=4\/z=5)/\s=⟨#[116,101,120,116]⟩/\c2=c1)\/(z=3/\s=⟨#[116,101,120,116]⟩/\∃y,Rc C 37 [Y U 20] c1 (Y U y) c2/\((y==0)=B4\/(y=0/\¬c2.r<3)))):Rc C 212 [] c (Br s) c2:=by
 intro j l g;have e:=g.cw;clear g;rcases h with⟨rfl,rfl,rfl⟩|⟨rfl,rfl,rfl⟩|⟨rfl|rfl,rfl,rfl⟩|⟨rfl,rfl,y,i,h⟩
 case inr.inr.inr=>
  rcases h with h|⟨rfl,h⟩;all_goals
   go_in;go_wp2_with fail;refine e.run d λw1 a _=>?_;go_wp2_with fail;refine a.run i λm b _=>?_;have k:=b.cu.cells;have f:=aq b;clear b;go_wp2;go_ret;exact⟨rfl,f.out.cu,f.out.gr⟩
 all_goals
  go_in;go_wp2_with fail;refine e.run d λw1 a _=>?_;go_wp2;go_ret;exact⟨rfl,a.cu,a.gr⟩
def apd{s:ByteArray}(d:Rc C 37 [Y U 6] c (Y U 1) c1)(e:Rc C 37 [Y U 6] c1 (Y U y) c2)(f:Rc C 239 [Y U y] c2 (Br s) c3):Rc C 212 [] c (Br s) c3:=by
 intro j k b;have g:=b.cw;clear b;go_in;go_wp2_with fail;refine g.run d λw1 h _=>?_;go_wp2_with fail;refine h.run e λl i _=>?_;go_wp2_with fail;refine i.run f λm a _=>?_;go_wp2;go_ret;exact⟨rfl,a.cu,a.gr⟩
def ape(C:Cd)(c:Cr)(x:0<=c.p)(y:c.p<=800000000)(z:0<=c.r):∃s c',((Sml s/\c'.r=c.r)\/(Lng s/\c.r<3/\c'.r=c.r+1))/\(c.p<=c'.p/\c'.p<=c.p+110)/\Rc C 212 [] c (Br s) c':=by
 obtain⟨e,g,B,k,b⟩:=kL C c 6;rcases(show e=0\/e=1\/e=2\/e=3\/(e=4\/e=5) by omega) with d|d|d|d|d
 .exact⟨_,g,.inl ⟨⟨by decide,ur⟩,k.2⟩,by omega,Kc b (.inl ⟨d,rfl,rfl⟩)⟩
 .subst d;obtain⟨i,a,o,t,f⟩:=kL C g 6;obtain⟨v,rfl⟩:=iw o.1;obtain⟨s,h,A,m,j⟩:=aix C a v (by omega) (by omega) (by omega);exact⟨s,h,.inl ⟨⟨by omega,(amv s).le (by omega)⟩,by omega⟩,by omega,apd b f j⟩
 .exact⟨_,g,.inl ⟨⟨by decide,ur⟩,k.2⟩,by omega,Kc b (.inr (.inl ⟨d,rfl,rfl⟩))⟩
 .obtain⟨i,a,o,t,f⟩:=kL C g 20;by_cases l:i=0
  .by_cases n:a.r<3
   .subst d l;obtain⟨E,h,u,m,j⟩:=kL C ⟨a.p,a.q,a.r+1⟩ 3 (by decide) (by decide) (by show 0<=a.p;omega) (by show a.p<=_;omega);have w:h.p=a.p+1/\h.r=a.r+1:=m;exact⟨_,h,.inr ⟨(dgt 9).lng (by omega) (by omega) (by rw[ut];omega),by omega,by omega⟩,by omega,agf b f n (by omega) j u⟩
   .exact⟨_,a,.inl ⟨⟨by decide,ur⟩,by omega⟩,by omega,Kc b (.inr (.inr (.inr ⟨d,rfl,i,f,.inr ⟨l,n⟩⟩)))⟩
  .exact⟨_,a,.inl ⟨⟨by decide,ur⟩,by omega⟩,by omega,Kc b (.inr (.inr (.inr ⟨d,rfl,i,f,.inl (by simpa using l)⟩)))⟩
 .exact⟨_,g,.inl ⟨⟨by decide,ur⟩,k.2⟩,by omega,Kc b (.inr (.inr (.inl ⟨d,rfl,rfl⟩)))⟩
end
def gq{base e size:Nat}(o:W.ownsRow base e size v n xs){cs:Array Ax}{t:B0}{fr:Nat×Nat}(c:W.heap[g]?=M (A2 cs t fr))(ht:t≠e):v.ownBlock≠M g:=λa=>by
 rcases o.2 with⟨b,_⟩|⟨d,h,i,b,_,f,_⟩
 .rw[b]at a;simp[A5]at a
 .rw[b]at a;obtain rfl:d=g:=by simpa [A5] using a
  rw[f]at c;cases c;exact ht rfl
def sI{base e size:Nat}(o:W.ownsRow base e size v n xs)(a:v.ownBlock≠M g)(q:Nat)(u:Ax):(W.setCell ⟨g,q,O⟩ u).ownsRow base e size v n xs:=
 o.kept (row:=M g) ⟨rfl,rfl,rfl,by simp[B6],λf d b=>aC _ _ _ _ (λe=>b (by rw[e]))⟩ (by
  cases hv:v.ownBlock with
  |none=>exact .inl rfl
  |some c=>exact .inr (λe=>a (by rw[hv,e])))
def yA:(Tryz.prog.info? 62).map (λi=>(i.zero,i.size,i.bytes))=M (M (Fs #[Y U 0,Y U 0,Y U 0,Y U 0,Y U 0,Y U 0,Br ⟨#[]⟩,Z O 0 0,Z O 0 0]),9,112):=by kernel_rfl
abbrev wg(N:Nd)(vn vk:Ax):Array Ax:=#[Y U N.k,Y U N.f,Y U N.t,Y U N.l,Y U N.op,Y U N.n,Br N.x,vn,vk]
abbrev bV(E:Bs):Ax:= .pointer (M ⟨E.bb,0,O⟩)
def Txt(k:Int)(t:ByteArray):Prop:=(k≠25/\t.size<=19/\Cs t 90)\/(k=25/\(Sml t\/(Lng t/\t.size<=4000)))
def Txt.size(h:Txt k t):t.size<=4000:=by
 rcases h with⟨_,h,_⟩|⟨_,h|⟨_,h⟩⟩
 .omega
 .have:=h.1;omega
 .exact h
def lj(h:k≠25):Txt k ⟨#[]⟩:= .inl ⟨h,by decide,amu.le (by decide)⟩
def agh{s:ByteArray}(h:k≠25)(a:Shr s):Txt k s:=by
 by_cases b:s.size<=19
 .exact .inl ⟨h,b,a.cs.le (by decide)⟩
 .have:=a.sz;omega
structure I0 (N:Nd):Prop where
 nm:N.nm.length<=3
 ks:N.ks.length<=64
 x:Txt N.k N.x
 s:∀s∈N.nm,Shr s
 int:ak4 N
def bgN(N:Nd):Nat:=if 19<N.x.size then 1 else 0
def bigs(L:List Nd):Nat:=(L.map bgN).sum
def agi(L a:List Nd):bigs (L++a)=bigs L+bigs a:=by unfold bigs;simp
abbrev TO(t:B0):Prop:=t≠62/\t≠119/\t≠36
def toS:TO 9:=by decide
def toI:TO 3:=by decide
structure Rwx where
 t:B0
 v:Ax
 xs:List Ax
abbrev rS(v:Ax)(l:List ByteArray):Rwx:=⟨9,v,l.map B1⟩
abbrev rI(v:Ax)(l:List Int):Rwx:=⟨3,v,l.map (C2 U)⟩
def bR(R:List Rwx):List Nat:=R.flatMap λr=>r.v.ownBlock.toList
def bL(L:List Mb):List Nat:=L.flatMap λy=>y.vn.ownBlock.toList++y.vk.ownBlock.toList
structure Bd (C:Cd) (T:Int) (E:Bs) (W:B2) (c:Cr) (L:List Mb) (R:List Rwx):Prop where
 cu:Cu C E W c
 bb:E.base<=E.bb
 row:∃v,W.heap[E.bb]?=M (.cells #[cV E,v,.int .i64 (T-L.length)] 119 (0,0))/\W.ownsRow E.base 62 9 v L.length (lL L)
 each:∀y∈L,W.ownsRow E.base 9 1 y.vn y.N.nm.length (y.N.nm.map B1)/\W.ownsRow E.base 3 1 y.vk y.N.ks.length (y.N.ks.map (C2 .i64))
 rows:∀r∈R,TO r.t/\W.ownsRow E.base r.t 1 r.v r.xs.length r.xs
 sep:(bR R++bL L).Nodup
section
variable {C : Cd} {T : Int} {E : Bs} {W W' : World} {c c' : Cr} {L : List Mb} {R : List Rwx} {r : Rwx}
def Bd.lt(h:Bd C T E W c L R):E.cb<W.heap.size/\E.bb<W.heap.size/\E.base<=W.heap.size/\E.cb≠E.bb:=by
 obtain⟨e,b,_⟩:=h.row;have a:=h.cu.cur;refine⟨h.cu.lt,aj b,h.cu.lo.2,λd=>?_⟩;rw[d,b]at a;simp only[fi,jL]at a;exact absurd a.2.1 (by decide)
def Bd.below(h:Bd C T E W c L R)(a:B5 W.heap.size W W'):Bd C T E W' c L R:=by
 obtain⟨g,e,f⟩:=h.row;exact⟨h.cu.below a,h.bb,⟨g,(a.block _ h.lt.2.1).trans e,cJ f a⟩,λd b=>⟨cJ (h.each d b).1 a,cJ (h.each d b).2 a⟩,λd b=>⟨(h.rows d b).1,cJ (h.rows d b).2 a⟩,h.sep⟩
def Bd.ltR(h:Bd C T E W c L R):∀b∈bR R++bL L,b<W.heap.size:=by
 intro b hb;rcases List.mem_append.1 hb with hb|hb
 .obtain⟨d,a,e⟩:=List.mem_flatMap.1 hb;exact((h.rows d a).2.lt b (Option.mem_toList.1 e)).2
 .obtain⟨d,a,e⟩:=List.mem_flatMap.1 hb;rcases List.mem_append.1 e with e|e
  .exact((h.each d a).1.lt b (Option.mem_toList.1 e)).2
  .exact((h.each d a).2.lt b (Option.mem_toList.1 e)).2
def Bd.went(h:Bd C T E W c L R)(f:W.grownBy W' (M E.cb))(p:Cu C E W' c'):Bd C T E W' c' L R:=by
 have g:=h.lt;obtain⟨r,n,o⟩:=h.row;have e:∀{d k i:Nat}{l:Ax}{m:List Ax},W.ownsRow E.base d k l i m->d≠36->W'.ownsRow E.base d k l i m:=λj q=>j.kept f (.inr (gq j h.cu.cur (dA q)));exact⟨p,h.bb,⟨r,(f.block _ g.2.1 (λd=>g.2.2.2 (bc d).symm)).trans n,e o (by decide)⟩,λb a=>⟨e (h.each b a).1 (by decide),e (h.each b a).2 (by decide)⟩,λb a=>⟨(h.rows b a).1,e (h.rows b a).2 (h.rows b a).1.2.2⟩,h.sep⟩
def Bd.hot{r':Rwx}(h:Bd C T E W c L (r::R))(n:W.grownBy W' r.v.ownBlock)(ht:TO r'.t)(J:W'.ownsRow E.base r'.t 1 r'.v r'.xs.length r'.xs)(G:∀b,r'.v.ownBlock=M b->r.v.ownBlock=M b\/W.heap.size<=b):Bd C T E W' c L (r'::R)/\B5 E.base W W':=by
 have H:=h.lt;obtain⟨v,F,x⟩:=h.row;have j:=h.rows r bg;have p:TO r.t:=j.1;have d:B5 E.base W W':=(ai _ W).grown n H.2.2.1 (λk f=>(j.2.lt k f).1);have y:=h.sep;have u:bR (r::R)=r.v.ownBlock.toList++bR R:=rfl;rw[u,cg,qw]at y;obtain⟨an,ad,af⟩:=y;have m:∀b∈bR R++bL L,r.v.ownBlock≠M b:=λb d a=>af b (Option.mem_toList.2 a) b d rfl;have l:∀{a size o:Nat}{g:Ax}{xs:List Ax},W.ownsRow E.base a size g o xs->(∀b,g.ownBlock=M b->r.v.ownBlock≠M b)->W'.ownsRow E.base a size g o xs:=λ{a size o g xs} K I=>by
  refine K.kept n ?_;cases hu:g.ownBlock with
  |none=>exact .inl rfl
  |some b=>exact .inr (λa=>I b hu a.symm)
 have z:∀{k:Nat}{s:Array Ax}{t:B0}{w:Nat×Nat},W.heap[k]?=M (A2 s t w)->t≠r.t->W'.heap[k]?=M (A2 s t w):=λf ht=>(n.block _ (aj f) (λa=>gq j.2 f ht a.symm)).trans f;refine⟨⟨⟨⟨h.cu.lo.1,bG h.cu.lo.2 d.size⟩,h.cu.code.below d,z h.cu.cur (dA p.2.2)⟩,h.bb,⟨v,z F (dA p.2.1),l x (λb a A=>?_)⟩,λe hz=>⟨l (h.each e hz).1 (λb a=>m b (List.mem_append.2 (.inr (List.mem_flatMap.2 ⟨e,hz,List.mem_append.2 (.inl (Option.mem_toList.2 a))⟩)))),l (h.each e hz).2 (λb a=>m b (List.mem_append.2 (.inr (List.mem_flatMap.2 ⟨e,hz,List.mem_append.2 (.inr (Option.mem_toList.2 a))⟩))))⟩,λe hz=>?_,?_⟩,d⟩
 .rcases x.2 with⟨q,_⟩|⟨B,ak,al,q,_,i,_⟩
  .rw[q]at a;simp[A5]at a
  .rw[q]at a;obtain rfl:B=b:=by simpa [A5] using a
   exact gq j.2 i (dA p.1) A
 .rcases List.mem_cons.1 hz with rfl|hz
  .exact⟨ht,J⟩
  .have:=h.rows e (dm _ hz);exact⟨this.1,l this.2 (λb a=>m b (List.mem_append.2 (.inl (List.mem_flatMap.2 ⟨e,hz,Option.mem_toList.2 a⟩))))⟩
 .show(r'.v.ownBlock.toList++bR R++bL L).Nodup;rw[cg,qw];refine⟨?_,ad,λb d c i a=>?_⟩
  .cases r'.v.ownBlock<;>simp
  .subst a;rcases G b (Option.mem_toList.1 d) with q|q
   .exact m b i q
   .have:=h.ltR b (by rw[u,cg];exact List.mem_append.2 (.inr i));omega
def Bd.new(h:Bd C T E W c L R){t:B0}(ht:TO t)(cs:Array Ax)(r':Rwx)(f:r'.t=t)(i:(W.alloc (A2 cs t)).ownsRow E.base t 1 r'.v r'.xs.length r'.xs)(b:r'.v.ownBlock=M W.heap.size):Bd C T E (W.alloc (A2 cs t)) c L (r'::R):=by
 have a:=h.below (dE W (A2 cs t));refine⟨a.cu,a.bb,a.row,a.each,λj hz=>?_,?_⟩
 .rcases List.mem_cons.1 hz with rfl|hz
  .rw[f];exact⟨ht,i⟩
  .exact a.rows j hz
 .show(r'.v.ownBlock.toList++bR R++bL L).Nodup;rw[cg,qw];refine⟨by rw[b];simp,h.sep,λe d c g k=>?_⟩;rw[b]at d;have:e=W.heap.size:=by simpa using d
  have:=h.ltR c g;omega
def Bd.newI(h:Bd C T E W c L R)(ks:List Int)(a:ks.length<=100):Bd C T E (W.alloc (A2 (ks.map (C2 U)).toArray 3)) c L (rI (Z (M ⟨W.heap.size,0,O⟩) ks.length ks.length) ks::R):=by
 refine h.new toI _ _ rfl ?_ rfl;have:=uF (base:=E.base) (e:=3) (size:=1) W (ks.map (C2 U)).toArray ks.length h.lt.2.2.1 (by unfold E2;omega) (by simp);simpa using this
def Bd.nil(h:Bd C T E W c L R){t:B0}(ht:TO t):Bd C T E W c L (⟨t,Z O 0 0,[]⟩::R):=
 ⟨h.cu,h.bb,h.row,h.each,λa hz=>by
  rcases List.mem_cons.1 hz with rfl|hz
  .exact⟨ht,eI _ _ _ _⟩
  .exact h.rows a hz,h.sep⟩
def Bd.drop(h:Bd C T E W c L (r::R)):Bd C T E W c L R:=by
 have a:=h.sep;have b:bR (r::R)=r.v.ownBlock.toList++bR R:=rfl;rw[b,cg,qw]at a;exact⟨h.cu,h.bb,h.row,h.each,λe d=>h.rows e (dm _ d),a.2.1⟩
def Bd.swap{a:Rwx}(h:Bd C T E W c L (r::a::R)):Bd C T E W c L (a::r::R):=by
 refine⟨h.cu,h.bb,h.row,h.each,λf hz=>h.rows f ?_,?_⟩
 .simp only[ij]at hz⊢;rcases hz with hz|hz|hz<;>simp[hz]
 .have b:=h.sep;have d:bR (r::a::R)=r.v.ownBlock.toList++(a.v.ownBlock.toList++bR R):=rfl;have e:bR (a::r::R)=a.v.ownBlock.toList++(r.v.ownBlock.toList++bR R):=rfl;rw[d]at b;rw[e];refine List.Perm.nodup_iff ?_ |>.1 b
  rw[<-cg,<-cg (a.v.ownBlock.toList)];exact(List.perm_append_comm.append_right _).append_right _
def Bd.c0(h:Bd C T E W c L R):W.cell? ⟨E.bb,0,O⟩=M (cV E)/\W.cell? ⟨E.bb,2,O⟩=M (Y U (T-L.length)):=by
 obtain⟨f,b,e⟩:=h.row;have a:=λd=>am W E.bb d _ _ _ b;exact⟨a 0,a 2⟩
def Bd.form{t:B0}(h:Bd C T E W c L (⟨t,v,xs⟩::R)):∃a c,v= Z a xs.length c:=bJ (h.rows _ bg).2
def Bd.less(h:Bd C T E W c L R):Bd C (T-1) E (W.setCell ⟨E.bb,2,O⟩ (Y U (T-L.length-1))) c L R/\B5 E.base W (W.setCell ⟨E.bb,2,O⟩ (Y U (T-L.length-1))):=by
 have p:=h.lt;obtain⟨q,g,n⟩:=h.row;have f:B5 E.base W (W.setCell ⟨E.bb,2,O⟩ (Y U (T-L.length-1))):=(ai _ W).setCell h.bb _;have d:∀{e k i:Nat}{l:Ax}{m:List Ax},W.ownsRow E.base e k l i m->e≠119->(W.setCell ⟨E.bb,2,O⟩ (Y U (T-L.length-1))).ownsRow E.base e k l i m:=λj o=>sI j (gq j g (dA o)) 2 _;refine⟨⟨⟨⟨h.cu.lo.1,bG h.cu.lo.2 f.size⟩,h.cu.code.below f,(aC _ _ _ _ p.2.2.2).trans h.cu.cur⟩,h.bb,⟨q,?_,d n (by decide)⟩,λb a=>⟨d (h.each b a).1 (by decide),d (h.each b a).2 (by decide)⟩,λb a=>⟨(h.rows b a).1,d (h.rows b a).2 (h.rows b a).1.2.1⟩,h.sep⟩,f⟩;rw[show T-1-(L.length:Int)=T-L.length-1 by omega];exact aL _ E.bb 2 _ _ _ g
def Bd.push(h:Bd C (T-1) E W c L (rS vn N.nm::rI vk N.ks::R))(j:W.heap[E.bb]?=M (A2 #[cV E,v,Y U (T-L.length-1)] 119 (0,0))){w5:B2}{r a:Nat}(an:L.length+1=r)(z:w5.ownsRow E.base 62 9 (Z (M ⟨g,0,O⟩) r a) r (lL (L++[⟨N,vn,vk⟩])))(i:W.grownBy w5 v.ownBlock):
  Bd C T E (w5.setCell ⟨E.bb,1,O⟩ (Z (M ⟨g,0,O⟩) r a)) c (L++[⟨N,vn,vk⟩]) R/\B5 E.base W (w5.setCell ⟨E.bb,1,O⟩ (Z (M ⟨g,0,O⟩) r a))/\w5.heap[E.bb]?=M (A2 #[cV E,v,Y U (T-L.length-1)] 119 (0,0)):=by
 subst an;obtain⟨a0,t,u⟩:=h.row;obtain rfl:a0=v:=by rw[t]at j;simp at j;exact j.1
 have w:=h.lt;have m:∀{b:Nat}{q:Array Ax}{p:B0}{s:Nat×Nat},W.heap[b]?=M (A2 q p s)->p≠62->w5.heap[b]?=M (A2 q p s):=λd ao=>(i.block _ (aj d) (λe=>gq u d ao e.symm)).trans d;have n:=m j (by decide);have ax:∀b,b≠E.bb->(w5.setCell ⟨E.bb,1,O⟩ (Z (M ⟨g,0,O⟩) (L.length+1) a)).heap[b]?=w5.heap[b]?:=λb d=>aC _ _ _ _ d;have f:∀{base e F y:Nat}{G:Ax}{H:List Ax},W.ownsRow base e F G y H->e≠62->e≠119->(w5.setCell ⟨E.bb,1,O⟩ (Z (M ⟨g,0,O⟩) (L.length+1) a)).ownsRow base e F G y H:=λB af ak=>by
  refine sI ?_ ?_ 1 _
  .obtain⟨au,o⟩:=B;refine⟨au,?_⟩;rcases o with o|⟨g,a,J,ap,i,al,av⟩
   .exact .inl o
   .exact .inr ⟨g,a,J,ap,i,m al af,av⟩
  .exact gq B t (dA ak)
 have l:B5 E.base W (w5.setCell ⟨E.bb,1,O⟩ (Z (M ⟨g,0,O⟩) (L.length+1) a)):=((ai _ W).grown i w.2.2.1 (λb d=>(u.lt b d).1)).setCell h.bb _;have on:=(h.rows _ bg).2;have A:=(h.rows _ (dm _ bg)).2;simp only[bi]at on A;refine⟨⟨⟨⟨h.cu.lo.1,bG h.cu.lo.2 l.size⟩,h.cu.code.below l,(ax _ w.2.2.2).trans (m h.cu.cur (by decide))⟩,h.bb,⟨Z (M ⟨g,0,O⟩) (L.length+1) a,?_,?_⟩,λI hy=>?_,λa1 ar=>?_,?_⟩,l,n⟩
 .rw[aJ,show T-((L.length+[(⟨N,vn,vk⟩:Mb)].length:Nat):Int)=T-L.length-1 by simp;omega];exact aL _ E.bb 1 _ _ _ n
 .rw[aJ];exact sI z (gq z n (by decide)) 1 _
 .rcases List.mem_append.1 hy with hy|hy
  .exact⟨f (h.each I hy).1 (by decide) (by decide),f (h.each I hy).2 (by decide) (by decide)⟩
  .obtain rfl:=List.mem_singleton.1 hy;exact⟨f on (by decide) (by decide),f A (by decide) (by decide)⟩
 .have k:=h.rows a1 (dm _ (dm _ ar));exact⟨k.1,f k.2 k.1.1 k.1.2.1⟩
 .have x:=h.sep;have K:bR (rS vn N.nm::rI vk N.ks::R)++bL L=(vn.ownBlock.toList++vk.ownBlock.toList)++(bR R++bL L):=by unfold bR;simp[Bq]
  have ad:bR R++bL (L++[⟨N,vn,vk⟩])=(bR R++bL L)++(vn.ownBlock.toList++vk.ownBlock.toList):=by unfold bL;simp[uK]
  rw[K]at x;rw[ad];exact List.perm_append_comm.nodup_iff.1 x
end
def dN(k op n:Int)(t:ByteArray)(nm:List ByteArray)(ks:List Int):Nd:=⟨k,0,0,0,op,n,t,nm,ks⟩
section
variable {C : Cd} {T : Int} {E : Bs} {W W' : World} {c c' : Cr} {L : List Mb} {R : List Rwx}
def apf{a:Option Addr}{d b mk ck:Nat}(h:Bd C T E W c L (rS (.slice a d b) N.nm::rI (.slice ak mk ck) N.ks::R))(b7: -100000<=T/\T<=100000)(bt:L.length<=25000):
  B3 A0 89 #[bV E,.agg (wg N (.slice a d b) (.slice ak mk ck))] W λe w'=>e= .returned (.int .i64 (L.length:Nat))/\Bd C T E w' c (L++[⟨N,.slice a d b,.slice ak mk ck⟩]) R/\B5 E.base W w':=by
 obtain⟨m,ax⟩:=aF L.length;obtain⟨r,H⟩:=aF (T-(L.length:Int));have b8: -200000<=r/\r<=200000:=by omega
 rw[ax]at bt⊢;have ca:=h.lt;have ar:=dE W (.cells (wg N (.slice a d b) (.slice ak mk ck)) 62);have a5:=(h.below ar).c0;have br:(W.alloc (.cells (wg N (.slice a d b) (.slice ak mk ck)) 62)).frozen? ⟨E.bb,2,O⟩=B4:=by
  obtain⟨v,u,B⟩:=(h.below ar).row;exact ch _ _ _ _ _ u
 rw[H]at a5;clear ar;go_in;go_wp21
 obtain⟨ad,ap⟩:=aF (W.setCell ⟨E.bb,2,O⟩ (.int .i64 (r-1)));have w:=h.less;rw[H]at w;have a0:(W.setCell ⟨E.bb,2,O⟩ (.int .i64 (r-1))).heap.size=W.heap.size:=by simp[B6]
 obtain⟨a2,ao,a6⟩:=h.row;rw[H]at ao;have J:(W.setCell ⟨E.bb,2,O⟩ (.int .i64 (r-1))).heap[E.bb]?=M (.cells #[cV E,a2,.int .i64 (r-1)] 119 (0,0)):=aL W E.bb 2 _ _ _ ao;rw[ap]at w a0 J;rw[ap];have x:=dE ad (.cells (wg N (.slice a d b) (.slice ak mk ck)) 62);have l:=aB ad (.cells (wg N (.slice a d b) (.slice ak mk ck)) 62);obtain⟨g,G⟩:=aF (ad.alloc (.cells (wg N (.slice a d b) (.slice ak mk ck)) 62));rw[G]at x l;rw[a0]at l;have p:=Cn (w.1.below x) (w.2.trans (x.mono (by omega))) l (show g.heap.size=W.heap.size+1 by rw[<-G];simp[a0]);have o:=(x.block _ (aj J)).trans J;rw[G];clear G ap w x l J a5 br;have ba:a2.ownBlock≠M W.heap.size:=λe=>by have:=(a6.lt _ e).2;omega
 obtain⟨v,u,B⟩:=p.1.row;obtain rfl:a2=v:=by
  rw[u]at o;simp at o;exact o.1.symm
 obtain⟨s,t,rfl⟩:=bJ B;have al:g.cell? ⟨E.bb,1,O⟩=M (.slice s L.length t):=by rw[am _ _ _ _ _ _ u];rfl
 rw[ax]at al B ba o;clear ao a6 u;have l:=p.2.2.1;refine E1 (S:=λK=>K.heap[W.heap.size]?=M (.cells (wg N (.slice a d b) (.slice ak mk ck)) 62 (0,0))) (by kernel_rfl) l (λhS=>?_);simp only[ir,bm,ej,Nat.reduceAdd,jb,jp,jq,eu,ez];refine dF 0 (.pointer (M ⟨E.bb,0,O⟩)) rfl rfl (by kernel_rfl) (λ_ _ _=>id) hS (λw' q=>by go_simp) ?_;simp only[B7];refine dF 1 (.pointer (M ⟨E.bb,0,O⟩)) rfl rfl (by kernel_rfl) (λ_ _ _=>id) hS (λw' q=>by go_simp) ?_;simp only[B7];refine dF 2 (.pointer (M ⟨E.bb,0,O⟩)) rfl rfl (by kernel_rfl) (λ_ _ _=>id) hS (λw' q=>by go_simp) ?_;simp only[B7];refine dF 3 (.pointer (M ⟨E.bb,1,O⟩)) rfl rfl (by kernel_rfl) (λ_ _ _=>id) hS (λw' q=>by go_simp) ?_;simp only[B7];refine Ha 5 17 (.agg (wg N (.slice a d b) (.slice ak mk ck))) rfl rfl (by kernel_rfl) (by kernel_rfl) (by kernel_rfl) (λ_ _ _ h=>h) (by rfl) hS (λw' q=>by have cd:=be (N:=N) q;go_simp) ?_;simp only[Act.put,cm,co,cC];have bv:=al;refine rF (S:=λK=>K.cell? ⟨E.bb,1,O⟩=M (.slice s m t)) (C:=λy=>!(y==7||y==8||y==9||y==10)) (i:=4) (v:= .slice s m t) rfl (xD (by kernel_rfl)) (λ_ _ _ h=>h) ?hC _ _ _ _ (xF rfl (by kernel_rfl)) (List.contains_iff_mem.1 (by kernel_rfl)) (Or.inl ⟨by rfl,λw' q=>by go_simp⟩) hS bv ?_
 case hC=>
  intro y cb a8 j;simp only[Bool.not_eq_false',ve,jB]at j;rcases j with((rfl|rfl)|rfl)|rfl
  .obtain rfl:=bc a8;exact⟨{on:=4,ground:=Ground.data},by simp,rfl,rfl⟩
  all_goals
   obtain rfl:=bc a8;exact⟨{on:=4,ground:=Ground.phase},by simp,rfl,rfl⟩
 simp only[Act.put,cm,co,cC];refine fh (i:=6) (by kernel_rfl) rfl (λk f=>?_);go_simp;have af:∀bd,B5 g.heap.size g (g.drew.alloc bd):=λbd=>(bH (ai _ _)).alloc (by simp) _;refine f _ _ (((af _).block _ (aj l)).trans l) (λ_=>ah (af _) al) ?_;clear f k hS af;try simp only[cm,co,cC]
 have n:=bH (dE g (.cells (wg N (.slice a d b) (.slice ak mk ck)) 62));have bk:(g.alloc (.cells (wg N (.slice a d b) (.slice ak mk ck)) 62)).drew.heap[g.heap.size]?=_:=aB g _;generalize World.drew (World.alloc _ _)=bn at n bk⊢;have bh:=p.1.below n;have bf:=(n.block _ (aj o)).trans o;have bx:=p.1.lt;have bA:=p.2.2.2;obtain⟨bD,bE,b0,b1,b2⟩:=eD yA;refine fh (i:=7) (by kernel_rfl) rfl (λk f=>?_);refine step_append_lies _ (by rfl) _ _ 24 (by rfl) E.base 62 bD _ 9 112 Tryz.underlying24 bE b0 b1 b2 rfl (by decide) (.slice s m t) m _ (by rfl) (cJ B n) ⟨g.heap.size,0,O⟩ 1 1 (wg N (.slice a d b) (.slice ak mk ck)).toList (by rw[bA];rfl) rfl (Ce bk) (by intro cc a9;simp at a9;rcases a9 with rfl|rfl|rfl|rfl|rfl|rfl|rfl|rfl|rfl<;>rfl) (by decide) (by unfold E2;omega) (by omega) (by have:=n.size;omega) bn.heap.size rfl ?_;intro F A w5 a1 au bw b9;have a7:lL L++(wg N (.slice a d b) (.slice ak mk ck)).toList=lL (L++[⟨N,.slice a d b,.slice ak mk ck⟩]):=by rw[rA];show _=lL L++(cMb _++[]);rw[dr];rfl
 rw[a7]at a1;obtain⟨bj,a4,I⟩:=bh.push (by rw[H];exact bf) (by rw[ax]) a1 au;have z:=(au.block _ (by have:=n.size;omega) (λe=>ba e.symm)).trans ((n.block _ (by omega)).trans l);have bl:(w5.setCell ⟨E.bb,1,O⟩ (.slice (M ⟨F,0,O⟩) (m+1) A)).heap[W.heap.size]?=M (.cells (wg N (.slice a d b) (.slice ak mk ck)) 62 (0,0)):=(aC _ _ _ _ (by show W.heap.size≠E.bb;omega)).trans z;have c5:w5.cell? ⟨E.bb,1,O⟩=M (.slice s m t):=by rw[am _ _ _ _ _ _ I];rfl
 have bs:w5.frozen? ⟨E.bb,1,O⟩=B4:=ch _ _ _ _ _ I;have a3:=gE bj ((p.2.1.trans (n.mono bx.2.2.1)).trans a4);have bo:(w5.setCell ⟨E.bb,1,O⟩ (.slice (M ⟨F,0,O⟩) (m+1) A)).cell? ⟨E.bb,1,O⟩=M (.slice (M ⟨F,0,O⟩) (m+1) A):=by rw[am _ _ _ _ _ _ (aL _ E.bb 1 _ _ _ I)];rfl
 clear bj a4 a7 a1 au bw bh;refine f _ _ z (λj=>by cases j) ?_;clear f k;simp only[Act.put,cm,co,cC];refine fh (i:=8) (by kernel_rfl) rfl (λk f=>?_);go_simp;refine f _ _ z (λj=>by cases j) ?_;clear f k;try simp only[cm,co,cC]
 refine fh (i:=9) (by kernel_rfl) rfl (λk f=>?_);go_simp;refine f _ _ z (λj=>by cases j) ?_;clear f k;try simp only[cm,co,cC]
 refine fh (i:=10) (by kernel_rfl) rfl (λk f=>?_);go_simp;refine f _ _ bl (λj=>by cases j) ?_;clear f k;refine uk (by kernel_rfl) ?_ _;generalize w5.setCell ⟨E.bb,1,O⟩ (.slice (M ⟨F,0,O⟩) (m+1) A)=b5 at a3 bo⊢;clear I c5 bs z bl bf o;go_wp21
 go_ret;exact⟨by go_num,a3⟩
end
def In(C:Cd)(T:Int)(E:Bs)(W:B2)(c:Cr)(L:List Nd)(R:List Rwx):Prop:=∃a:List Mb,a.map Mb.N=L/\Bd C T E W c a R
def Rb(C:Cd)(T:Int)(f:FuncId)(b:List Ax)(c:Cr)(L:List Nd)(v:Ax)(d:Cr)(a:List Nd):Prop:=
 ∀ ⦃E:Bs⦄ ⦃W:B2⦄ ⦃R:List Rwx⦄,In C T E W c L R->B3 A0 f (bV E::b).toArray W λe w'=>e= A3 v/\In C T E w' d a R/\B5 E.base W w'
def Rr(C:Cd)(T:Int)(f:FuncId)(e:List Ax)(c:Cr)(L:List Nd)(t:B0)(n:Nat)(xs:List Ax)(g:Cr)(d:List Nd):Prop:=
 ∀ ⦃E:Bs⦄ ⦃W:B2⦄ ⦃R:List Rwx⦄,In C T E W c L R->B3 A0 f (bV E::e).toArray W λh w'=>∃a b,h= A3 (Z a n b)/\In C T E w' g d (⟨t,Z a n b,xs⟩::R)/\B5 E.base W w'
structure At (C:Cd) (T:Int) (E:Bs) (W w:B2) (c:Cr) (L:List Nd) (R:List Rwx):Prop where
 bd:In C T E w c L R
 bel:B5 E.base W w
def amx:(Tryz.prog.info? 3).map (λi=>(i.zero,i.size,i.bytes))=M (M (Y U 0),1,8):=by kernel_rfl
section
variable {C : Cd} {T : Int} {E : Bs} {W w w' : World} {c c' : Cr} {L L' : List Nd} {R : List Rwx} {f : FuncId} {ar : List Value} {v : Value} {Q : Ending → World → Prop} {t : TypeId} {n : Nat} {xs : List Value}
def In.at(h:In C T E w c L R):At C T E w w c L R:=⟨h,ai _ _⟩
def At.run(a:At C T E W w c L R)(k:Rb C T f ar c L v c' L')(h:∀w',At C T E W w' c' L' R->Q (A3 v) w'):B3 A0 f (bV E::ar).toArray w Q:=
 (k a.bd).mono λd w' b=>b.1 ▸ h w' ⟨b.2.1,a.bel.trans b.2.2⟩
def At.runC(a:At C T E W w c L R)(k:Rc C f ar c v c')(h:∀w',At C T E W w' c' L R->w.grownBy w' (M E.cb)->Q (A3 v) w'):B3 A0 f (cV E::ar).toArray w Q:=by
 obtain⟨⟨g,e,b⟩,i⟩:=a;refine(k b.cu).mono ?_;rintro e w' ⟨rfl,j,d⟩;exact h w' ⟨⟨g,e,b.went d j⟩,i.trans (xJ d b.cu.lo.1 b.cu.lo.2)⟩ d
def At.runR(a:At C T E W w c L R)(k:Rr C T f ar c L t n xs c' L')(h:∀w' av b,At C T E W w' c' L' (⟨t,Z av n b,xs⟩::R)->Q (A3 (Z av n b)) w'):B3 A0 f (bV E::ar).toArray w Q:=by
 refine(k a.bd).mono ?_;rintro g w' ⟨av,b,rfl,d,e⟩;exact h w' av b ⟨d,a.bel.trans e⟩
def At.cu(a:At C T E W w c L R):Cu C E w c:=by
 obtain⟨d,_,b⟩:=a.bd;exact b.cu
def At.cs(a:At C T E W w c L R):(w.cell? ⟨E.bb,0,O⟩=M (cV E)/\w.cell? ⟨E.bb,2,O⟩=M (Y U (T-L.length)))/\E.bb<w.heap.size:=by
 obtain⟨d,e,b⟩:=a.bd;have:=b.c0;rw[show d.length=L.length by rw[<-e,bi]]at this;exact⟨this,b.lt.2.1⟩
def At.below(a:At C T E W w c L R)(d:B5 w.heap.size w w'):At C T E W w' c L R:=by
 obtain⟨⟨e,f,b⟩,g⟩:=a;exact⟨⟨e,f,b.below d⟩,g.trans (d.mono b.lt.2.2.1)⟩
def At.al{o:Obj}(a:At C T E W w c L R):At C T E W (w.alloc o) c L R:=a.below (dE w o)
def At.lit(a:At C T E W w c L R)(ks:List Int)(f:ks.length<=100):At C T E W (w.alloc (A2 (ks.map (C2 U)).toArray 3)) c L (rI (Z (M ⟨w.heap.size,0,O⟩) ks.length ks.length) ks::R):=by
 obtain⟨⟨d,e,b⟩,g⟩:=a;exact⟨⟨d,e,b.newI ks f⟩,g.trans ((dE w _).mono b.lt.2.2.1)⟩
def At.lit1(a:At C T E W w c L R):At C T E W (w.alloc (A2 #[Y U z] 3)) c L (rI (Z (M ⟨w.heap.size,0,O⟩) 1 1) [z]::R):=a.lit [z] (by simp)
def At.lit2{b:Int}(a:At C T E W w c L R):At C T E W (w.alloc (A2 #[Y U z,Y U b] 3)) c L (rI (Z (M ⟨w.heap.size,0,O⟩) 2 2) [z,b]::R):=a.lit [z,b] (by simp)
def At.nilI(a:At C T E W w c L R):At C T E W w c L (rI (Z O 0 0) []::R):=by
 obtain⟨⟨b,e,d⟩,f⟩:=a;exact⟨⟨b,e,d.nil toI⟩,f⟩
def At.nilS(a:At C T E W w c L R):At C T E W w c L (rS (Z O 0 0) []::R):=by
 obtain⟨⟨b,e,d⟩,f⟩:=a;exact⟨⟨b,e,d.nil toS⟩,f⟩
def At.swap{r b:Rwx}(a:At C T E W w c L (r::b::R)):At C T E W w c L (b::r::R):=by
 obtain⟨⟨d,f,e⟩,g⟩:=a;exact⟨⟨d,f,e.swap⟩,g⟩
def At.drop{r:Rwx}(a:At C T E W w c L (r::R)):At C T E W w c L R:=by
 obtain⟨⟨b,e,d⟩,f⟩:=a;exact⟨⟨b,e,d.drop⟩,f⟩
def At.form(a:At C T E W w c L (⟨t,v,xs⟩::R)):∃a c,v= Z a xs.length c:=by
 obtain⟨⟨d,e,b⟩,f⟩:=a;exact b.form
def At.apG{st:B0}{g:Ax}{b:Nat}{l:List Oper}{Q:Exit->Act->B2->Prop}(x:Tryz.prog.underlying st=M (.slice t))(r:(Tryz.prog.info? t).map (λi=>(i.zero,i.size,i.bytes))=M (M g,1,b))(ap:g.cells.size=1)(A:b<=100)(ht:TO t)(h:At C T E W w c L (⟨t,v,xs⟩::R))(I:xs.length=n)(a4:n<=1000)(af:u.oneCell'=Ck)(F:o.guard=O)(s z:Operand)
  (J:o.op= .call {callee:= .builtin .append,args:=#[s,z],argTypes:=#[st,st]}) (ad:a.eval s=v) (an:a.eval z= .slice (M ⟨w.heap.size,0,O⟩) 1 1)
  (k:∀av cv w1,At C T E W w1 c L (⟨t,.slice av (n+1) cv,xs++[u]⟩::R)->wpList A0 ops Q l (a.put o.dst (.slice av (n+1) cv)) w1):
  wpList A0 ops Q (o::l) a (w.alloc (.cells #[u] t)):=by
 subst I;obtain⟨⟨m,p,e⟩,ak⟩:=h.al (o:= .cells #[u] t);obtain⟨a0,H,ar,au,ax⟩:=eD r;have K:(w.alloc (.cells #[u] t)).ownsRow E.base t 1 v xs.length xs:=(e.rows _ bg).2;have a3:(xs.length+1)*b<=1001*100:=Nat.mul_le_mul (by omega) A;refine Ex _ F s z st J E.base t a0 g 1 b x H ar au ax ap (by decide) v _ _ ad K ⟨w.heap.size,0,O⟩ 1 1 [u] an (by simp) (Ce (cs:=#[u]) (aB w _)) (by intro a6 ao;rw[List.mem_singleton.1 ao];exact af) (by unfold E2;omega) (by omega) e.lt.2.2.1 ?_;intro a5 w1 j B _ y;obtain⟨av,cv,rfl⟩:=bJ j;have G:∀d,(F0 av (xs.length+1) cv).ownBlock=M d->v.ownBlock=M d\/(w.alloc (.cells #[u] t)).heap.size<=d:=λd f=>by
  rcases y with q|q
  .exact .inl (q ▸ f)
  .rw[q]at f;cases f;exact .inr (ag _)
 obtain⟨a1,a2⟩:=e.hot (r':=⟨t,.slice av (xs.length+1) cv,xs++[u]⟩) B ht (by simpa using j) G;exact k av cv w1 ⟨⟨m,p,a1⟩,ak.trans a2⟩
def At.app{b:List Oper}{Q:Exit->Act->B2->Prop}(h:At C T E W w c L (rI v ks::R))(f:ks.length=n)(g:n<=1000)(e:o.guard=O)(s x:Operand)(i:o.op= .call {callee:= .builtin .append,args:=#[s,x],argTypes:=#[60,60]})(j:a.eval s=v)(l:a.eval x= .slice (M ⟨w.heap.size,0,O⟩) 1 1)
  (k:∀av cv w1,At C T E W w1 c L (rI (.slice av (n+1) cv) (ks++[z])::R)->wpList A0 ops Q b (a.put o.dst (.slice av (n+1) cv)) w1):wpList A0 ops Q (o::b) a (w.alloc (.cells #[.int .i64 z] 3)):=
 At.apG Tryz.underlying60 amx rfl (by decide) toI h (by rw[bi,f]) g rfl e s x i j l λav cv w1 d=>k av cv w1 (by unfold rI;rw[dK];exact d)
def At.appS{b:List Oper}{Q:Exit->Act->B2->Prop}{ks:List ByteArray}{z:ByteArray}(h:At C T E W w c L (rS v ks::R))(f:ks.length=n)(g:n<=1000)(e:o.guard=O)(s x:Operand)(i:o.op= .call {callee:= .builtin .append,args:=#[s,x],argTypes:=#[59,59]})(j:a.eval s=v)(l:a.eval x= .slice (M ⟨w.heap.size,0,O⟩) 1 1)
  (k:∀av cv w1,At C T E W w1 c L (rS (.slice av (n+1) cv) (ks++[z])::R)->wpList A0 ops Q b (a.put o.dst (.slice av (n+1) cv)) w1):wpList A0 ops Q (o::b) a (w.alloc (.cells #[.string z] 9)):=
 At.apG Tryz.underlying59 afh rfl (by decide) toS h (by rw[bi,f]) g rfl e s x i j l λav cv w1 d=>k av cv w1 (by unfold rS;rw[dK];exact d)
def At.add{op m:Int}{x:ByteArray}{nm:List ByteArray}{b:Option Addr}{f d mk ck:Nat}(a:At C T E W w c L (rS (Z b f d) nm::rI (Z ak mk ck) ks::R))(l: -100000<=T/\T<=100000)(e:L.length<=25000)(h:∀w',At C T E W w' c (L++[dN k op m x nm ks]) R->Q (A3 (Y U (L.length:Nat))) w'):
  B3 A0 89 #[bV E,Fs #[Y U k,Y U 0,Y U 0,Y U 0,Y U op,Y U m,Br x,Z b f d,Z ak mk ck]] w Q:=by
 obtain⟨⟨o,rfl,g⟩,n⟩:=a;rw[bi]at e;refine(apf (N:=dN k op m x nm ks) g l e).mono ?_;rintro p w' ⟨rfl,i,j⟩;rw[bi]at h;exact h w' ⟨⟨_,by rw[dK];rfl,i⟩,n.trans j⟩
def At.kids{mk ck:Nat}(a:At C T E W w c L (rI (Z ak mk ck) ks::R))(j: -100000<=T/\T<=100000)(i:L.length<=25000)(h:∀w',At C T E W w' c (L++[dN k 0 0 ⟨#[]⟩ [] ks]) R->Q (A3 (Y U (L.length:Nat))) w'):
  B3 A0 86 #[bV E,Y U k,Z ak mk ck] w Q:=by
 have e:B3 A0 86 #[bV E,Y U k,Z ak mk ck] w λb w'=>b= A3 (Y U (L.length:Nat))/\At C T E W w' c (L++[dN k 0 0 ⟨#[]⟩ [] ks]) R:=by
  clear h;have f:=aq a.nilS;clear a;go_in;go_wp2_with fail;refine f.out.add j i λw1 g=>?_;go_wp2_with fail;go_ret;exact⟨rfl,g⟩
 exact e.mono λb w' d=>d.1 ▸ h w' d.2
end
def jo{op n:Int}{nm:List ByteArray}(g:0<=k/\k<=1000)(h:0<=op/\op<=1000)(e: -9223372036854775808<=n/\n<=9223372036854775807)(ht:Txt k t)(a:nm.length<=3)(b:∀s∈nm,Shr s)(c:ks.length<=64)(d:∀z∈ks,0<=z/\z<=100000):I0 (dN k op n t nm ks):=by
 have z: -9223372036854775808<=(0:Int)/\(0:Int)<=9223372036854775807:=by decide
 exact⟨a,c,ht,b,⟨⟨by show _<=k;omega,by show k<=_;omega⟩,z,z,z,⟨by show _<=op;omega,by show op<=_;omega⟩,e,λz f=>by have:=d z f;omega⟩⟩
def Nx(c:Cr)(L:List Nd)(b:Cr)(d:List Nd):Prop:=∃a,d=L++a/\(∀N∈a,I0 N)/\c.r+bigs a<=b.r/\(c.r<=3->b.r<=3)
structure Pd (T:Int) (c:Cr) (L:List Nd) (m:Int):Prop where
 sum:T<=140
 lo: -20000+12*m<=T-L.length
 hx:c.p-400*L.length+1000*m<=4000000
 m0:0<=m/\m<=1300
 p0:0<=c.p/\0<=c.r
structure Mv (T:Int) (c0:Cr) (L0:List Nd) (c:Cr) (L:List Nd) (y:Int):Prop where
 nx:Nx c0 L0 c L
 n:L0.length<=L.length
 p:c.p<=c0.p+400*(L.length-L0.length)+y
 p0:0<=c.p/\0<=c.r
 lo: -20000<=T-L.length
abbrev Lf(s k l a:Int):Prop:=(l<5->l-s<=a)/\(5<=l->5-k<=a)
structure An (T:Int) (c:Cr) (L:List Nd) (c':Cr) (L':List Nd) (z s k g:Int):Prop where
 nx:Nx c L c' L'
 n:L.length<L'.length
 z:z=L'.length-1
 p:c'.p<=c.p+400*(L'.length-L.length)-g
 p0:0<=c'.p/\0<=c'.r
 lf:Lf s k (T-L.length) (T-L'.length)
def FB(f:FuncId)(d m s k g:Int):Prop:=∀ ⦃C:Cd⦄ ⦃T:Int⦄ ⦃c:Cr⦄ ⦃L:List Nd⦄,Pd T c L m->∃z c' L',An T c L c' L' z s k g/\Rb C T f [Y U d] c L (Y U z) c' L'
def FB.up{m j l i g e:Int}(h:FB f d m s k g)(t:0<=m:=by omega)(w:m<=j:=by omega)(x:s<=l:=by omega)(u:k<=i:=by omega)(v:e<=g:=by omega):FB f d j l i e:=λC T c L b=>by
 obtain⟨r,q,p,a,o⟩:=h (C:=C) (T:=T) (c:=c) (L:=L) ⟨b.sum,by have:=b.lo;omega,by have:=b.hx;omega,by have:=b.m0;omega,b.p0⟩;exact⟨r,q,p,⟨a.nx,a.n,a.z,by have:=a.p;omega,a.p0,by have:=a.lf;omega⟩,o⟩
def Nx.refl{a:Cr}(L:List Nd)(h:a.r=c.r):Nx c L a L:=⟨[],(dr L).symm,λb h=>(by cases h),by rw[h];exact Int.le_of_eq (Int.add_zero _),by rw[h];exact id⟩
def Nx.trans{e f:Cr}{L b d:List Nd}(h:Nx c L e b)(k:Nx e b f d):Nx c L f d:=by
 obtain⟨g,rfl,i,n,j⟩:=h;obtain⟨a,rfl,l,o,m⟩:=k;exact⟨g++a,cg _ _ _,λa h=>(List.mem_append.1 h).elim (i a) (l a),by rw[agi];omega,λh=>m (j h)⟩
def Nx.add{a b:Cr}{L d:List Nd}(h:Nx c L a d)(e:I0 N)(f:a.r+bgN N<=b.r)(g:a.r<=3->b.r<=3):Nx c L b (d++[N]):=
 h.trans ⟨[N],rfl,λi h=>by rw[List.mem_singleton.1 h];exact e,by unfold bigs;simp;exact f,g⟩
def acj(h:N.x.size<=19):bgN N=0:=by unfold bgN;rw[aa (by omega)]
def Pl(ks:List Int):Prop:=∀z∈ks,0<=z/\z<=100000
def Pl.add(h:Pl ks)(a:0<=z/\z<=100000):Pl (ks++[z]):=λb hy=>by
 rcases List.mem_append.1 hy with hy|hy
 .exact h b hy
 .rw[List.mem_singleton.1 hy];exact a
def pl0:Pl []:=λb a=>by cases a
def Lz(h:0<=z/\z<=100000):Pl [z]:=λb a=>by rw[List.mem_singleton.1 a];exact h
def pl2{a:Int}(h:0<=z/\z<=100000)(k:0<=a/\a<=100000):Pl [z,a]:=(Lz h).add k
def kK:∀s∈([]:List ByteArray),Shr s:=λs a=>by cases a
section
variable {T : Int} {c0 c : Cr} {L0 L : List Nd} {y m : Int}
def Pd.mv(p:Pd T c L m):Mv T c L c L 0:=⟨Nx.refl L rfl,ag _,by omega,p.p0,by have:=p.lo;have:=p.m0;omega⟩
def Mv.len(p:Pd T c0 L0 m)(a:Mv T c0 L0 c L y)(j:y<=600:=by omega):(L.length<=25000/\ -100000<=T/\T<=100000)/\c.p<=20000000:=by
 have b:=p.sum;have d:=a.lo;have e:=a.p;have f:=p.hx;have g:=p.m0;have h:=a.n;have i:=p.lo;omega
def Mv.pick(p:Pd T c0 L0 m)(a:Mv T c0 L0 c L y)(C:Cd)(k:Int)(l:y<=500:=by omega)(f:2<=k:=by decide)(g:k<=200:=by decide):∃z c',(0<=z/\z<k)/\Mv T c0 L0 c' L (y+1)/\Rc C 37 [Y U k] c (Y U z) c':=by
 have i:=a.len p;have d:=a.p0;have j:=a.p;obtain⟨z,c',h,e,b⟩:=kL C c k f g d.1 (by omega);exact⟨z,c',h,⟨a.nx.trans (Nx.refl L e.2),a.n,by omega,by omega,a.lo⟩,b⟩
def Mv.sub(p:Pd T c0 L0 m)(a:Mv T c0 L0 c L y)(C:Cd){b g:Int}(hF:FB f d b s k g)(F:1<=b/\b+1<=m:=by omega)(H:y<=500:=by omega)(t: -20000+12*b<=T-L.length:=by omega)(G:s<=12/\k<=4000:=by omega):
  ∃(z:Int) (c':Cr) (L':List Nd),(0<=z/\z<=100000)/\(L.length<L'.length/\z=L'.length-1/\Lf s k (T-L.length) (T-L'.length))/\Mv T c0 L0 c' L' (y-g)/\Rb C T f [Y U d] c L (Y U z) c' L':=by
 have E:=a.len p;have v:=p.hx;have w:=a.p;have r:=a.p0;have x:=p.m0;have A:=a.n;have B:=p.sum;obtain⟨z,c',L',h,e⟩:=hF (C:=C) (T:=T) (c:=c) (L:=L) ⟨p.sum,t,by omega,by omega,r⟩;obtain⟨i,j,l,u,o,q⟩:=h;exact⟨z,c',L',by omega,⟨j,l,q⟩,⟨a.nx.trans i,by omega,by omega,o,by omega⟩,e⟩
def Mv.fin(p:Pd T c0 L0 m)(a:Mv T c0 L0 c L y){op n:Int}{nm:List ByteArray}{q g:Int}(b:I0 (dN k op n t nm ks))(h:y<=400-g:=by omega)(f:Lf s q (T-L0.length) (T-L.length-1):=by omega)(ht:t.size<=19:=by first|decide|omega):An T c0 L0 c (L++[dN k op n t nm ks]) (L.length:Nat) s q g:=by
 have d:=a.p;have e:=a.n;exact⟨a.nx.add b (by rw[acj (show(dN k op n t nm ks).x.size<=19 from ht)];omega) id,by simp;omega,by simp,by simp;omega,a.p0,by simp only[aJ,bm,ej];omega⟩
def Mv.on(a:Mv T c0 L0 c L y)(b:I0 N)(ht:N.x.size<=19)(f: -20000<=T-L.length-1):Mv T c0 L0 c (L++[N]) (y-400):=by
 have d:=a.p;have e:=a.n;exact⟨a.nx.add b (by rw[acj ht];omega) id,by simp;omega,by simp;omega,a.p0,by simp;omega⟩
def Mv.tail(p:Pd T c0 L0 m)(a:Mv T c0 L0 c L0 y)(C:Cd){e g:Int}(hF:FB f d e s k g)(t:0<=e/\e+1<=m:=by omega)(u:y<=g:=by omega)(r:g<=500:=by decide):∃z c' L',An T c0 L0 c' L' z s k 0/\Rb C T f [Y U d] c L0 (Y U z) c' L':=by
 have j:=p.hx;have l:=a.p;have i:=a.p0;have o:=p.m0;have q:=p.lo;obtain⟨z,c',L',b,h⟩:=hF (C:=C) (T:=T) (c:=c) (L:=L0) ⟨p.sum,by omega,by omega,by omega,i⟩;exact⟨z,c',L',⟨a.nx.trans b.nx,b.n,b.z,by have:=b.p;omega,b.p0,b.lf⟩,h⟩
end
def shL:List ByteArray:=[⟨#[97]⟩,⟨#[98]⟩,⟨#[120]⟩,⟨#[121,49]⟩,⟨#[95]⟩,⟨#[73,102]⟩,⟨#[101,108,105]⟩,⟨#[102]⟩]
section
variable {T : Int} {c0 c : Cr} {L0 L : List Nd} {y m : Int}
def ajq{C:Cd}{e:Cr}(n:0<=z/\z<8)(g:Rc C 37 [Y U 8] c (Y U z) e)(ht:shL[z.toNat]?=M t):Rb C T 165 [] c L (Br t) e L:=by
 intro k m l i;have a:=i.at
 have h:=a.cs;have j:=a.cu;rcases(show z=0\/z=1\/z=2\/z=3\/z=4\/z=5\/z=6\/z=7 by omega) with rfl|rfl|rfl|rfl|rfl|rfl|rfl|rfl;all_goals
  obtain rfl:=bc (show M (_:ByteArray)=M t from ht);go_in;go_wp2_with fail;refine a.al.runC g λw1 d f=>?_;have o:=Cp j f;have b:=aq d;clear h f d a;go_wp2_with fail;go_ret;exact⟨rfl,b.out.bd,b.out.bel⟩
def Mv.short(p:Pd T c0 L0 m)(a:Mv T c0 L0 c L y)(C:Cd)(j:y<=500:=by omega):∃(t:ByteArray) (c':Cr),Shr t/\Mv T c0 L0 c' L (y+1)/\Rb C T 165 [] c L (Br t) c' L:=by
 obtain⟨d,g,i,f,e⟩:=a.pick p C 8;obtain⟨t,b⟩:∃t,shL[d.toNat]?=M t:=⟨_,aA (show d.toNat<8 by omega)⟩;have h:t.size<=3:=(show ∀t∈shL,t.size<=3 by decide) t (dz b);exact⟨t,g,⟨h,ur (by omega)⟩,f,ajq i e b⟩
inductive Nmc (C:Cd) (T:Int) (L:List Nd):Nat->Cr->List ByteArray->Cr->Prop
 |nil (c:Cr):Nmc C T L 0 c [] c
 |cons {n:Nat}{c c1 c2:Cr}{t:ByteArray}{l:List ByteArray}:Rb C T 165 [] c L (.string t) c1 L->Nmc C T L n c1 l c2->Nmc C T L (n+1) c (t::l) c2
def nmc(p:Pd T c0 L0 m)(C:Cd):∀(n:Nat)(c:Cr)(y:Int),Mv T c0 L0 c L y->y+n<=500->∃(l:List ByteArray) (c':Cr),l.length=n/\(∀s∈l,Shr s)/\Mv T c0 L0 c' L (y+n)/\Nmc C T L n c l c':=by
 intro n
 induction n with
 |zero=>exact λc y a _=>⟨[],c,rfl,kK,by simpa using a,.nil c⟩
 |succ n q=>
  intro c y a t;obtain⟨r,g,o,e,d⟩:=a.short p C;obtain⟨l,i,j,k,f,b⟩:=q g (y+1) e (by omega);exact⟨r::l,i,by simp[j],λs h=>by rcases List.mem_cons.1 h with rfl|h;exact o;exact k s h,by rw[show y+((n+1:Nat):Int)=y+1+n by omega];exact f,.cons d b⟩
def Mv.names(p:Pd T c0 L0 m)(a:Mv T c0 L0 c L y)(C:Cd)(n:Nat)(ap:n<=8:=by omega)(au:y<=450:=by omega):∃(nm:List ByteArray) (c':Cr),nm.length=n/\(∀s∈nm,Shr s)/\Mv T c0 L0 c' L (y+n)/\Rr C T 87 [Y U n] c L 9 n (nm.map B1) c' L:=by
 obtain⟨nm,t,i,j,o,d⟩:=nmc p C n c y a (by omega);refine⟨nm,t,i,j,o,λE H G v=>?_⟩;have b:=v.at.nilS;clear a o p v j;go_in;go_wp2_with fail;go_loopw [1,5] (λl ak wr=>∃(m g:Nat) (f k:List ByteArray) (h:Cr),l= Y U m/\m+g=n/\f.length=g/\At C T E H wr h L (rS ak f::G)/\Nmc C T L m h k t/\f++k=nm) (λl _ _=>(intOf l).toNat)
 case atStart=>exact⟨n,0,[],nm,c,rfl,rfl,rfl,b,d,rfl⟩
 case round=>
  clear b d;obtain⟨m,g,f,k,h,rfl,z,x,b,A,u⟩:=hrel;have e:=kJ z x u;have ao:m<=n:=by omega
  clear z x u i;cases A with
  |@cons m _ J _ af ad F B=>
   have an:(0:Int)<((m+1:Nat):Int):=by omega
   have ar:IntKind.i64.wrap (((m+1:Nat):Int)-1)=(m:Int):=by rw[dt];omega
   go_wp2_with fail;refine b.run F λw1 r=>?_;have d:=aq r;clear b r;go_wp2_with (at_builtin;refine d.out.appS e.2.1 (by have:=e.1;omega) rfl _ _ rfl rfl rfl ?_;intro q al ax I);go_roundw
   case rel=>exact⟨m,g+1,f++[af],ad,J,by go_num,by have:=e.1;omega,by simp[e.2.1],I,B,by rw[cg];exact e.2.2⟩
   case measure=>simp[intOf]
  |nil=>
   obtain⟨i,j,w⟩:=e.out;rw[dr]at w;subst w;obtain⟨q,K,rfl⟩:=b.form;rw[bi,show f.length=n by omega]at b⊢;have d:=aq b;clear b;go_wp2_with fail;go_ret;exact⟨q,K,rfl,d.out.bd,d.out.bel⟩
end
def w1(a: -1000<=d/\d<=1000):IntKind.i64.wrap (d-1)=d-1:=by rw[dt];omega
def wq{a o:Int}{q:Nat}(h:a+o=(q:Int))(b:q<=100):IntKind.i64.wrap (a+o)=(q:Int):=by rw[dt];omega
def wi{a:Int}(h: -9223372036854775808<=a/\a<=9223372036854775807):IntKind.i64.wrap a=a:=by rw[dt];omega
def At.last{C:Cd}{T:Int}{E:Bs}{W w:B2}{c:Cr}{L:List Nd}{R:List Rwx}(a:At C T E W w c L R){i:Nat}{N:Nd}(h:L[i]?=M N):∃g b,w.cell? ⟨E.bb,1,O⟩=M (Z (M ⟨g,0,O⟩) L.length b)/\w.cell? ⟨g,i*9,O⟩=M (Y U N.k)/\i<L.length:=by
 obtain⟨⟨m,rfl,f⟩,_⟩:=a;obtain⟨o,j,d⟩:=f.row;have e:=(List.getElem?_eq_some_iff.1 h).1;rw[cH]at h;obtain⟨p,l,rfl⟩:=Option.map_eq_some_iff.1 h;rw[bi]at e⊢;rcases bB d with⟨n,rfl⟩|⟨g,b,rfl⟩
 .omega
 .exact⟨g,b,by rw[am _ _ _ _ _ _ j];rfl,(rB d l).1,e⟩
def alb{me m ce:Int}(w:1<=me/\me+1<=m)(u:0<=ce/\ce<=3990)(H:FB 90 d me 1 ce 0):FB 164 d m 2 (ce+1) 0:=by
 intro A ad af L a;have v:=a.lo;have x:=a.m0;obtain⟨ap,ak,p,g,j,b,y⟩:=a.mv.sub a A H;have s:=b.len a;obtain⟨o,rfl⟩:=iw g.1;obtain⟨i,l⟩:∃i,p[o]?=M i:=⟨_,aA (by omega)⟩;have al:(0:Int)<=(o:Int):=g.1;by_cases r:i.k=27
 .refine⟨_,_,_,b.fin a (k:=37) (op:=0) (n:=0) (t:=⟨#[]⟩) (jo (by decide) (by decide) (by decide) (lj (by decide)) (by decide) kK (by simp) (Lz g)),λB E C f=>?_⟩;have e:=f.at
  clear f b j g a v x u w;go_in;go_wp2_with fail;refine e.run y λw1 c=>?_;obtain⟨G,F,J,z,K⟩:=c.last l;rw[r]at z;have I:(o:Int)<(p.length:Int):=by omega
  have h:=aq c;clear e c l;go_wp2_with fail;refine h.out.lit1.kids s.1.2 s.1.1 λao q=>?_;go_wp2_with fail;go_ret;exact⟨rfl,q.bd,q.bel⟩
 .refine⟨_,_,_,⟨b.nx,j.1,j.2.1,by have:=b.p;omega,b.p0,by omega⟩,λB E C f=>?_⟩;have e:=f.at
  clear f b j g a v x u w;go_in;go_wp2_with fail;refine e.run y λw1 c=>?_;obtain⟨G,F,J,z,K⟩:=c.last l;have an:(i.k==27)=B4:=by simpa using r
  have I:(o:Int)<(p.length:Int):=by omega
  have h:=aq c;clear e c l;go_wp2_with fail;go_ret;exact⟨rfl,h.out.bd,h.out.bel⟩
def fnB{mk m ck:Int}(A:1<=mk/\mk+1<=m)(y:0<=ck/\ck<=3900)(r: -1000<=d/\d<=1000)(x:FB 94 (d-1) mk 1 ck 0):FB 91 d m 2 (ck+1) 100:=by
 intro g J L G e;have z:=e.lo;have B:=e.m0;have ap:=w1 r;obtain⟨n,ad,s,i,ar⟩:=e.mv.pick e g 3;obtain⟨n,rfl⟩:=iw s.1;obtain⟨a5,af,w,q,j,au⟩:=i.names e g n;obtain⟨a6,ak,H,C,v,l,ax⟩:=j.sub e g x;obtain⟨E,al,ao,h,a0⟩:=l.pick e g 2;have b:=h.len e;refine⟨_,_,_,h.fin e (k:=36) (op:=E) (n:=0) (t:=⟨#[]⟩) (jo (by decide) (by omega) (by decide) (lj (by decide)) (by omega) q (by simp) (Lz C)),?_⟩;clear w q i j l h v e z B y A s r;intro F K I p;have a:=p.at
 have c:=a.cs;clear p;go_in
 repeat' (go_wp2_with (at_builtin;with_reducible refine At.app a rfl (by simp) rfl _ _ rfl rfl rfl ?_;clear a c;intro o an f a;have c:=a.cs);first
  |(go_at_call 37;(first|with_reducible refine At.runC a (by assumption) ?_|with_reducible refine At.runC a.lit2 (by assumption) ?_|with_reducible refine At.runC a.lit1 (by assumption) ?_);clear a c;intro f a _;have c:=a.cs)
  |(go_at_call 87;with_reducible refine At.runR a (by assumption) ?_;clear a c;intro f o u a;have c:=a.cs)
  |(go_at_call 88;with_reducible refine At.runR a (by assumption) ?_;clear a c;intro f o u a;have c:=a.cs)
  |(go_at_call 86;(first|with_reducible refine At.kids a.lit1 b.1.2 b.1.1 ?_|with_reducible refine At.kids a.lit2 b.1.2 b.1.1 ?_|with_reducible refine At.kids a.nilI b.1.2 b.1.1 ?_);clear a c;intro f a;have c:=a.cs)
  |(go_at_call 89;(first|with_reducible refine At.add a.lit1.nilS b.1.2 b.1.1 ?_|with_reducible refine At.add a.lit2.nilS b.1.2 b.1.1 ?_|with_reducible refine At.add a.lit1.swap b.1.2 b.1.1 ?_|with_reducible refine At.add a.lit2.swap b.1.2 b.1.1 ?_|with_reducible refine At.add a.swap b.1.2 b.1.1 ?_|with_reducible refine At.add a b.1.2 b.1.1 ?_|with_reducible refine At.add a.nilS b.1.2 b.1.1 ?_|with_reducible refine At.add a.nilI.nilS b.1.2 b.1.1 ?_);clear a c;intro f a;have c:=a.cs)
  |(go_ret;exact⟨rfl,a.bd,a.bel⟩)
  |(with_reducible refine At.run a (by assumption) ?_;clear a c;intro f a;have c:=a.cs))
def ajr{mb me m cb ce:Int}(H:(1<=mb/\mb+1<=m)/\1<=me/\me+1<=m)(F:0<=ce/\ce<=cb/\cb<=3900)(x: -1000<=d/\d<=1000)(w:FB 164 (d-1) mb 2 cb 0)(E:FB 90 (d-1) me 1 ce 0):FB 92 d m 4 (cb+3) 0:=by
 intro g an ap af c;have G:=c.lo;have I:=c.m0;have a4:=w1 x;obtain⟨n,ar,o,h,a5⟩:=c.mv.pick c g 4;rcases(show n=0\/n=1\/(n≠0/\n≠1) by omega) with rfl|rfl|⟨s,u⟩
 case' inl=>
  obtain⟨L,A,z,p,l,j,K⟩:=h.sub c g w;obtain⟨a6,r,ak,J,C,f,y⟩:=j.sub c g E;have b:=f.len c;refine⟨_,_,_,f.fin c (k:=32) (op:=0) (n:=0) (t:=⟨#[]⟩) (jo (by decide) (by decide) (by decide) (lj (by decide)) (by decide) kK (by simp) (pl2 p J)),?_⟩;clear h j f l C o
 case' inr.inl=>
  obtain⟨L,A,z,p,l,j,K⟩:=h.sub c g w;obtain⟨t,r,ht,f,y⟩:=j.short c g;have b:=f.len c;refine⟨_,_,_,f.fin c (k:=33) (op:=0) (n:=0) (t:=t) (jo (by decide) (by decide) (by decide) (agh (by decide) ht) (by decide) kK (by simp) (Lz p)) (ht:=by have:=ht.sz;omega),?_⟩;clear h j f l o ht
 case' inr.inr=>
  have ax:(n==0)=B4:=by simpa using s
  have a0:(n==1)=B4:=by simpa using u
  obtain⟨t,r,ht,f,y⟩:=h.short c g;have b:=f.len c;refine⟨_,_,_,f.fin c (k:=26) (op:=0) (n:=0) (t:=t) (jo (by decide) (by decide) (by decide) (agh (by decide) ht) (by decide) kK (by simp) pl0) (ht:=by have:=ht.sz;omega),?_⟩;clear h f o ht s u
 all_goals
  clear c G I F H x;intro ad ao al v;have a:=v.at
  have e:=a.cs;clear v;go_in
  repeat' (go_wp2_with (at_builtin;with_reducible refine At.app a rfl (by simp) rfl _ _ rfl rfl rfl ?_;clear a e;intro q au i a;have e:=a.cs);first
   |(go_at_call 37;(first|with_reducible refine At.runC a (by assumption) ?_|with_reducible refine At.runC a.lit2 (by assumption) ?_|with_reducible refine At.runC a.lit1 (by assumption) ?_);clear a e;intro i a _;have e:=a.cs)
   |(go_at_call 87;with_reducible refine At.runR a (by assumption) ?_;clear a e;intro i q B a;have e:=a.cs)
   |(go_at_call 88;with_reducible refine At.runR a (by assumption) ?_;clear a e;intro i q B a;have e:=a.cs)
   |(go_at_call 86;(first|with_reducible refine At.kids a.lit1 b.1.2 b.1.1 ?_|with_reducible refine At.kids a.lit2 b.1.2 b.1.1 ?_|with_reducible refine At.kids a.nilI b.1.2 b.1.1 ?_);clear a e;intro i a;have e:=a.cs)
   |(go_at_call 89;(first|with_reducible refine At.add a.lit1.nilS b.1.2 b.1.1 ?_|with_reducible refine At.add a.lit2.nilS b.1.2 b.1.1 ?_|with_reducible refine At.add a.lit1.swap b.1.2 b.1.1 ?_|with_reducible refine At.add a.lit2.swap b.1.2 b.1.1 ?_|with_reducible refine At.add a.swap b.1.2 b.1.1 ?_|with_reducible refine At.add a b.1.2 b.1.1 ?_|with_reducible refine At.add a.nilS b.1.2 b.1.1 ?_|with_reducible refine At.add a.nilI.nilS b.1.2 b.1.1 ?_);clear a e;intro i a;have e:=a.cs)
   |(go_ret;exact⟨rfl,a.bd,a.bel⟩)
   |(with_reducible refine At.run a (by assumption) ?_;clear a e;intro i a;have e:=a.cs))
structure TkC (cs:Array Ax) (T:Tk) (q:Nat) (l:Int):Prop where
 c0:cs[q*6]?=M (.int .i64 T.k)
 c1:cs[q*6+1]?=M (.int .i64 T.f)
 c2:cs[q*6+2]?=M (.int .i64 T.t)
 c3:cs[q*6+3]?=M (.int .i64 l)
 c4:cs[q*6+4]?=M (.int .i64 T.n)
 c5:cs[q*6+5]?=M (.string T.x)
 hl:T.k≠6->l=T.l
def TkR(cs:Array Ax)(tk:Nat->Tk)(n:Nat):Prop:=∀q,q<n->∃l,TkC cs (tk q) q l
structure Pe where
 base:Nat
 pb:Nat
 tb:Nat
 cap:Nat
 n:Nat
 tk:Nat->Tk
abbrev pV(E:Pe):Ax:= .pointer (M ⟨E.pb,0,O⟩)
abbrev s0:Ax:= Z O 0 0
abbrev pH(k:Int)(T:Tk):Array Ax:=#[Y U k,Y U T.f,Y U T.t,Y U T.l,Y U T.n,Br T.x]
abbrev Bxs:=List (Nat×B0×Array Ax)
abbrev Rws:=List (B0×Ax×List Ax)
abbrev TOw(t:B0):Prop:=t=9\/t=3
abbrev iv:Int->Ax:= Y U
def Ac(s:Nat)(L b:List Mb)(R:Fo):Prop:=∃a,b=L++a/\a.map Mb.N=R.flat L.length/\∀x∈a,∀g,x.vn.ownBlock=M g\/x.vk.ownBlock=M g->s<=g
def Ac.nil(s:Nat)(L:List Mb):Ac s L L .nil:=⟨[],(dr L).symm,rfl,λb a=>by cases a⟩
def Ac.len{s:Nat}{b:List Mb}(h:Ac s L b R):b.length=L.length+R.sz:=by
 obtain⟨c,rfl,a,_⟩:=h;have a:=congrArg List.length a;rw[bi,Fo.flat_len]at a;rw[aJ,a]
def Ac.app{s t:Nat}{a:List Mb}{x d:Fo}(h:Ac s L L1 x)(k:Ac t L1 a d)(ht:s<=t):Ac s L a (x.app d):=by
 have n:=h.len;obtain⟨f,rfl,i,l⟩:=h;obtain⟨g,rfl,j,m⟩:=k;refine⟨f++g,by rw[cg],by rw[dK,i,j,Fo.flat_app,n],λe hz b c=>?_⟩;rcases List.mem_append.1 hz with hz|hz
 .exact l e hz b c
 .exact bG ht (m e hz b c)
def Ac.add{s:Nat}(h:Ac s L L1 R)(N:Nd)(f:N.ks=R.tops L.length)(e:∀g,vn.ownBlock=M g\/vk.ownBlock=M g->s<=g):Ac s L (L1++[⟨N,vn,vk⟩]) (one {N with ks:=[]} R):=by
 obtain⟨b,rfl,c,d⟩:=h;refine⟨b++[⟨N,vn,vk⟩],by rw[cg],by rw[dK,c,yh,<-f];rfl,λi hz g a=>?_⟩;rcases List.mem_append.1 hz with hz|hz
 .exact d i hz g a
 .obtain rfl:=List.mem_singleton.1 hz;exact e g a
def Ap(a b:B0×Ax×List Ax):Prop:=∀g,a.2.1.ownBlock=M g->b.2.1.ownBlock≠M g
def Ng(E:Pe)(w:B2)(g:Nat):Prop:=∃v,w.cell? ⟨E.pb,2,O⟩=M v/\v.ownBlock=M g
abbrev pC(E:Pe)(i:Int)(v:Ax):Obj:= A2 #[Z (M ⟨E.tb,0,O⟩) E.n E.cap,Y U i,v] 112 (0,0)
def nbI{E:Pe}{i:Int}(h:w.heap[E.pb]?=M (pC E i v)):Ng E w g↔v.ownBlock=M g:=by
 have a:w.cell? ⟨E.pb,2,O⟩=M v:=by rw[am _ _ _ _ _ _ h];rfl
 exact⟨λ⟨d,b,c⟩=>by rw[a]at b;cases b;exact c,λh=>⟨v,a,h⟩⟩
structure Sq (E:Pe) (W:B2) (G:Option Nat) (L:List Mb) (w:B2) (i:Nat) (L1:List Mb) (D:Fo) (zs:List Int) (B:Bxs) (R:Rws):Prop where
 lo:E.base<=E.pb/\E.pb<W.heap.size/\E.tb<W.heap.size/\E.n<=1048576
 tks:∃cs fr,w.heap[E.tb]?=M (.cells cs 46 fr)/\TkR cs E.tk E.n
 row:∃v,w.heap[E.pb]?=M (pC E i v)/\w.ownsRow E.base 62 9 v L1.length (lL L1)
 nb:(∀g,Ng E w g->G=M g\/W.heap.size<=g)/\∀p∈B,¬Ng E w p.1
 each:∀x∈L1,w.ownsRow E.base 9 1 x.vn x.N.nm.length (x.N.nm.map B1)/\w.ownsRow E.base 3 1 x.vk x.N.ks.length (x.N.ks.map iv)
 ac:Ac W.heap.size L L1 D
 tp:D.tops L.length=zs
 bl:B5 E.base W w
 fz:∀k,k<W.heap.size->k≠E.pb->G≠M k->w.heap[k]?=W.heap[k]?
 bx:∀p∈B,W.heap.size<=p.1/\¬TOw p.2.1/\w.heap[p.1]?=M (.cells p.2.2 p.2.1 (0,0))
 bd:(B.map Prod.fst).Nodup
 rw:∀r∈R,TOw r.1/\w.ownsRow W.heap.size r.1 1 r.2.1 r.2.2.length r.2.2/\∀x∈L1,∀g,r.2.1.ownBlock=M g->x.vn.ownBlock≠M g/\x.vk.ownBlock≠M g
 rs:R.Pairwise Ap
section
variable {E : Pe} {W w w' : World} {G o : Option Nat} {L L1 L2 : List Mb} {i j b : Nat} {D X : Fo} {zs ys : List Int} {B : Bxs} {R R2 : Rws} {t : TypeId} {cs : Array Value} {v : Value} {xs : List Value}
def TOw.ne{t u:B0}(h:TOw t)(a:u=62\/u=112\/u=46):u≠t:=by
 rcases h with rfl|rfl<;>rcases a with rfl|rfl|rfl<;>decide
def Sq.to(S:Sq E W G L w i L1 D zs B R)(K:B5 E.base w w')(h:∀k,k<w.heap.size->k≠E.pb->M k≠o->w'.heap[k]?=w.heap[k]?)(ak:∀v,w.heap[E.pb]?=M (pC E i v)->w'.heap[E.pb]?=M (pC E j v))
  (d:∀k,o=M k->W.heap.size<=k/\¬Ng E w k/\(∀x∈L1,x.vn.ownBlock≠M k/\x.vk.ownBlock≠M k)/\(∀p∈B,p.1≠k)/\∀r∈R,r.2.1.ownBlock≠M k):Sq E W G L w' j L1 D zs B R:=by
 obtain⟨H,I,n,al⟩:=S.tks;obtain⟨v,e,p2⟩:=S.row;have u:=S.lo;have an:=S.bl.size;have C:=ak v e;have m:∀{y b size z:Nat}{q:Ax}{F:List Ax},w.ownsRow y b size q z F->b≠112->(∀k,o=M k->q.ownBlock≠M k)->w'.ownsRow y b size q z F:=λs ad af=>jG s λc t f g=>⟨h c g (λb=>gq s e (dA ad) (b ▸ t)) λb=>af c b.symm t,f⟩;have A:∀k,k<W.heap.size->M k≠o:=λk a b=>by have:=(d k b.symm).1;omega
 have b:∀c,Ng E w' c↔Ng E w c:=λc=>(nbI C).trans (nbI e).symm;exact⟨u,⟨H,I,(h _ (by omega) (λb=>by rw[b,e]at n;cases n) (A _ u.2.2.1)).trans n,al⟩,⟨v,C,m p2 (by decide) λk a=>λb=>(d k a).2.1 ((nbI e).2 b)⟩,⟨λc a=>S.nb.1 c ((b c).1 a),λp a=>λk=>S.nb.2 p a ((b _).1 k)⟩,λx l=>⟨m (S.each x l).1 (by decide) λk a=>((d k a).2.2.1 x l).1,m (S.each x l).2 (by decide) λk a=>((d k a).2.2.1 x l).2⟩,S.ac,S.tp,S.bl.trans K,λk f g J=>(h k (by omega) g (A k f)).trans (S.fz k f g J),λp a=>⟨(S.bx p a).1,(S.bx p a).2.1,(h _ (aj (S.bx p a).2.2) (by have:=(S.bx p a).1;omega) λb=>(d _ b.symm).2.2.2.1 p a rfl).trans (S.bx p a).2.2⟩,S.bd,λr a=>⟨(S.rw r a).1,m (S.rw r a).2.1 ((S.rw r a).1.ne (.inr (.inl rfl))).symm λk b=>(d k b).2.2.2.2 r a,(S.rw r a).2.2⟩,S.rs⟩
def Sq.low(S:Sq E W G L w i L1 D zs B R):E.base<=W.heap.size/\W.heap.size<=w.heap.size:=by have:=S.lo;have:=S.bl.size;omega
def Sq.below(S:A9 (Sq E W G L w i L1 D zs B R))(b:B5 w.heap.size w w'):A9 (Sq E W G L w' i L1 D zs B R):=
 S.to (o:=O) (b.mono (by have:=S.low;omega)) (λc a _ _=>b.block c a) (λd a=>(b.block _ (aj a)).trans a) λc a=>by cases a
def Sq.sub(S:Sq E W G L w i L1 D zs B R){a:Bxs}(c:∀p∈a,p∈B)(d:(a.map Prod.fst).Nodup):Sq E W G L w i L1 D zs a R:=
 {S with nb:=⟨S.nb.1,λp b=>S.nb.2 p (c p b)⟩,bx:=λp b=>S.bx p (c p b),bd:=d}
def Sq.less(S:A9 (Sq E W G L w i L1 D zs B R)){a:Rws}(h:a.Sublist R):A9 (Sq E W G L w i L1 D zs B a):={S.out with rw:=λc b=>S.rw c (h.subset b),rs:=S.rs.sublist h}
def Sq.with(S:Sq E W G L w i L1 D zs B R)(e:w.heap[b]?=M (A2 cs t (0,0)))(a:W.heap.size<=b)(ht:¬TOw t)(g:¬Ng E w b)(f:∀p∈B,p.1≠b):Sq E W G L w i L1 D zs ((b,t,cs)::B) R:=
 {S with
  nb:=⟨S.nb.1,λp h=>by rcases List.mem_cons.1 h with rfl|h;exact g;exact S.nb.2 p h⟩
  bx:=λp h=>by rcases List.mem_cons.1 h with rfl|h;exact⟨a,ht,e⟩;exact S.bx p h
  bd:=by rw[dw,List.nodup_cons];exact⟨λh=>by obtain⟨p,c,d⟩:=List.mem_map.1 h;exact f p c d,S.bd⟩}
def Sq.nlt(S:Sq E W G L w i L1 D zs B R)(h:Ng E w g):g<w.heap.size/\∃cs fr,w.heap[g]?=M (A2 cs 62 fr):=by
 obtain⟨k,e,p2⟩:=S.row;have a:=(nbI e).1 h;refine⟨(p2.lt g a).2,?_⟩;rcases p2.2 with⟨b,_⟩|⟨c,f,j,b,_,d,_⟩
 .rw[b]at a;simp[A5]at a
 .rw[b]at a;obtain rfl:c=g:=by simpa [A5] using a
  exact⟨_,_,d⟩
def Sq.box(S:A9 (Sq E W G L w i L1 D zs B R))(ht:¬TOw t:=by decide):A9 (Sq E W G L (w.alloc (A2 cs t)) i L1 D zs ((w.heap.size,t,cs)::B) R):=by
 have d:=Sq.below S (dE w (A2 cs t));obtain⟨e,b,p2⟩:=S.row;exact d.with (aB w _) S.low.2 ht (λa=>by have:=(p2.lt _ ((nbI (((dE w (A2 cs t)).block _ (aj b)).trans b)).1 a)).2;omega) λc a=>by have:=aj (S.bx c a).2.2;omega
def Sq.set{q:Nat}(S:A9 (Sq E W G L w i L1 D zs ((b,t,cs)::B) R)):A9 (Sq E W G L (w.setCell ⟨b,q,O⟩ u) i L1 D zs ((b,t,cs.setIfInBounds q u)::B) R):=by
 obtain⟨h,j,k⟩:=S.bx _ (.head _);obtain⟨v,x⟩:=List.nodup_cons.1 S.bd;have K:=S.lo;have J:=S.low;have g:∀d,d≠b->(w.setCell ⟨b,q,O⟩ u).heap[d]?=w.heap[d]?:=λd a=>aC _ _ _ _ a;have l:∀e∈B,e.1≠b:=λe a c=>v (List.mem_map.2 ⟨e,a,c⟩);have f:∀{z c F A:Nat}{u:Ax}{I:List Ax},w.ownsRow z c F u A I->TOw c->u.ownBlock≠M b:=λs y=>gq s k λc=>j (c ▸ y);have C:Sq E W G L (w.setCell ⟨b,q,O⟩ u) i L1 D zs B R:=(S.sub (λe a=> .tail _ a) x).to (o:=M b) ((ai _ w).setCell (show E.base<=b by omega) _) (λd _ _ a=>g d λc=>a (by rw[c])) (λH a=>(g _ (by omega)).trans a) λd a=>by
  cases a;exact⟨h,S.nb.2 _ (.head _),λr m=>⟨f (S.each r m).1 (.inl rfl),f (S.each r m).2 (.inr rfl)⟩,l,λp a=>f (S.rw p a).2.1 (S.rw p a).1⟩
 obtain⟨H,n,p2⟩:=S.row;exact C.with (aL _ b q _ _ _ k) h j (λa=>S.nb.2 _ (.head _) ((nbI n).2 ((nbI ((g _ (by omega)).trans n)).1 a))) l
def Sq.hd(S:A9 (Sq E W G L w i L1 D zs ((b,t,cs)::B) R)):w.heap[b]?=M (A2 cs t (0,0)):=(S.bx _ (.head _)).2.2
def Sq.tail(S:A9 (Sq E W G L w i L1 D zs (p::B) R)):A9 (Sq E W G L w i L1 D zs B R):=S.sub (λp a=> .tail _ a) (List.nodup_cons.1 S.bd).2
def Sq.drop1{r:Nat×B0×Array Ax}(S:A9 (Sq E W G L w i L1 D zs (p::r::B) R)):A9 (Sq E W G L w i L1 D zs (p::B) R):=S.sub (λa h=>by rcases List.mem_cons.1 h with rfl|h;exact .head _;exact .tail _ (.tail _ h)) (by have:=S.bd;simp only[dw,List.nodup_cons,ij,not_or]at this⊢;exact⟨this.1.2,this.2.2⟩)
def Sq.swapB{r:Nat×B0×Array Ax}(S:A9 (Sq E W G L w i L1 D zs (p::r::B) R)):A9 (Sq E W G L w i L1 D zs (r::p::B) R):=S.sub (λa h=>by simp only[ij]at h⊢;rcases h with h|h|h<;>simp[h]) (by
 have h:=S.bd;simp only[dw,List.nodup_cons,ij,not_or]at h⊢;exact⟨⟨dA h.1.1,h.2.1⟩,h.1.2,h.2.2⟩)
def Sq.rowA(S:Sq E W G L w i L1 D zs B R)(ht:TOw t)(o:w.ownsRow W.heap.size t 1 v xs.length xs)(h:∀x∈L1,∀g,v.ownBlock=M g->x.vn.ownBlock≠M g/\x.vk.ownBlock≠M g)(a:∀r∈R,Ap (t,v,xs) r):Sq E W G L w i L1 D zs B ((t,v,xs)::R):=
 {S with rw:=λr k=>by rcases List.mem_cons.1 k with rfl|k;exact⟨ht,o,h⟩;exact S.rw r k,rs:=List.pairwise_cons.2 ⟨a,S.rs⟩}
def Sq.nil(S:A9 (Sq E W G L w i L1 D zs B R))(ht:TOw t:=by decide):A9 (Sq E W G L w i L1 D zs B ((t,s0,[])::R)):=S.rowA ht (eI _ _ _ _) (λf d b a=>by simp[A5]at a) λe c b a=>by simp[A5]at a
def Sq.elt(S:Sq E W G L w i L1 D zs B R){x:Mb}(b:x∈L1)(h:w.heap.size<=g):x.vn.ownBlock≠M g/\x.vk.ownBlock≠M g:=
 ⟨λa=>by have:=((S.each x b).1.lt g a).2;omega,λa=>by have:=((S.each x b).2.lt g a).2;omega⟩
def Sq.lit(S:A9 (Sq E W G L w i L1 D zs B R))(ht:TOw t:=by decide)(d:Nat.ble xs.length 100=Ck:=by rfl):A9 (Sq E W G L (w.alloc (A2 xs.toArray t)) i L1 D zs B ((t,Z (M ⟨w.heap.size,0,O⟩) xs.length xs.length,xs)::R)):=by
 have h:=uF (base:=W.heap.size) (e:=t) (size:=1) w xs.toArray xs.length S.low.2 (by have:=Nat.le_of_ble_eq_true d;unfold E2;omega) (by simp);have e:∀{a},(F0 (M ⟨w.heap.size,0,O⟩) xs.length xs.length).ownBlock=M a->w.heap.size=a:=λb=>by simpa [A5] using b
 exact(Sq.below S (dE w (A2 xs.toArray t))).rowA ht (by simpa using h) (λk g a c=>S.elt g (Nat.le_of_eq (e c))) λj f a c b=>by have:=e c;have:=((S.rw j f).2.1.lt a b).2;omega
def Sq.lit1{V:B2}{o:Obj}(S:A9 (Sq E W G L (V.alloc o) i L1 D zs B R))(ht:TOw t:=by decide)(a:Nat.ble xs.length 100=Ck:=by rfl):A9 (Sq E W G L ((V.alloc o).alloc (A2 xs.toArray t)) i L1 D zs B ((t,Z (M ⟨V.heap.size+1,0,O⟩) xs.length xs.length,xs)::R)):=de V o ▸ Sq.lit S ht a
def Sq.lit2{V:B2}{a:Addr}(S:A9 (Sq E W G L (V.setCell a u) i L1 D zs B R))(ht:TOw t:=by decide)(b:Nat.ble xs.length 100=Ck:=by rfl):A9 (Sq E W G L ((V.setCell a u).alloc (A2 xs.toArray t)) i L1 D zs B ((t,Z (M ⟨V.heap.size,0,O⟩) xs.length xs.length,xs)::R)):=(show(V.setCell a u).heap.size=V.heap.size by simp[B6]) ▸ Sq.lit S ht b
def Sq.litm(S:A9 (Sq E W G L w i L1 D zs B R))(a:w.heap.size=m)(ht:TOw t:=by decide)(b:Nat.ble xs.length 100=Ck:=by rfl):A9 (Sq E W G L (w.alloc (A2 xs.toArray t)) i L1 D zs B ((t,Z (M ⟨m,0,O⟩) xs.length xs.length,xs)::R)):=a ▸ Sq.lit S ht b
def Sq.put{c:Ax}{h:List Ax}(S:Sq E W G L w i L1 D zs B ((t,v,xs)::R))(k:w.grownBy w' v.ownBlock)(A:w'.ownsRow W.heap.size t 1 c h.length h)(q:c.ownBlock=v.ownBlock\/c.ownBlock=M w.heap.size):Sq E W G L w' i L1 D zs B ((t,c,h)::R):=by
 obtain⟨l,m,u⟩:=S.rw _ (.head _);have J:=S.lo;have I:=S.low;have n:=λb a=>(m.lt b a).1;have x:=(List.pairwise_cons.1 S.rs).1;refine((Sq.less S (List.sublist_cons_self _ _)).to (o:=v.ownBlock) ((ai _ w).grown k (by omega) λb a=>by have:=n b a;omega) (λb a _ y=>k.block b a y) (λK a=>(k.block _ (by omega) λe=>by have:=n _ e.symm;omega).trans a) λb a=>⟨n b a,λz=>?_,λp f=>u p f b a,λs r e=>?_,λg d=>x g d b a⟩).rowA l A (λp f j a=>?_) λg d j a=>?_
 .obtain⟨_,F,H,C⟩:=S.nlt z;exact gq m C (l.ne (.inl rfl)) a
 .exact gq m (S.bx s r).2.2 (λe=>(S.bx s r).2.1 (e ▸ l)) (e ▸ a)
 .rcases q with e|e
  .exact u p f j (e ▸ a)
  .rw[e]at a;cases a;exact S.elt f (ag _)
 .rcases q with e|e
  .exact x g d j (e ▸ a)
  .rw[show(t,c,h).2.1.ownBlock=_ from e]at a;cases a;exact λe=>by have:=((S.rw g (.tail _ d)).2.1.lt _ e).2;omega
def Sq.swap{r a:B0×Ax×List Ax}(S:A9 (Sq E W G L w i L1 D zs B (r::a::R))):A9 (Sq E W G L w i L1 D zs B (a::r::R)):=
 {S.out with
  rw:=λe h=>S.rw e (by simp only[ij]at h⊢;rcases h with h|h|h<;>simp[h])
  rs:=by
   have h:=S.rs;simp only[List.pairwise_cons,ij,forall_eq_or_imp]at h⊢;exact⟨⟨λd b c=>h.1.1 d c b,h.2.1⟩,h.1.2,h.2.2⟩}
def Sq.here(S:Sq E W G L w i L1 D zs B R):∃c,(∀g,c=M g->Ng E w g)/\Sq E w c L1 w i L1 .nil [] [] []:=by
 obtain⟨f,b,p2⟩:=S.row;have d:=S.lo;have h:=S.low;exact⟨f.ownBlock,λg a=>(nbI b).2 a,⟨d.1,by omega,by omega,d.2.2.2⟩,S.tks,⟨f,b,p2⟩,⟨λg a=> .inl ((nbI b).1 a),λe a=>(by cases a)⟩,S.each,Ac.nil _ _,rfl,ai _ _,λ_ _ _ _=>rfl,λe a=>(by cases a),vh,λe a=>(by cases a),.nil⟩
def Sq.join{p:Option Nat}(S:Sq E W G L w i L1 D zs B R)(m:∀g,p=M g->Ng E w g)(s:Sq E w p L1 w' j L2 X ys [] R2):Sq E W G L w' j L2 (D.app X) (zs++ys) B (R2++R):=by
 have A:=S.lo;have r:=S.low;have ak:=s.bl.size;have t:∀a,W.heap.size<=a->a<w.heap.size->¬Ng E w a->w'.heap[a]?=w.heap[a]?:=λa h f l=>s.fz a f (by omega) λe=>l (m a e);have F:∀b∈R,∀g,b.2.1.ownBlock=M g->¬Ng E w g:=λb hr g k C=>by
  obtain⟨_,ad,af,H⟩:=S.nlt C;exact gq (S.rw b hr).2.1 H ((S.rw b hr).1.ne (.inl rfl)) k
 refine⟨A,s.tks,s.row,⟨λg k=>?_,λd c k=>?_⟩,s.each,S.ac.app s.ac r.2,by rw[Fo.tops_app,S.tp,<-S.ac.len,s.tp],S.bl.trans s.bl,λa h f l=>(s.fz a (by omega) f λe=>?_).trans (S.fz a h f l),λd c=>⟨(S.bx d c).1,(S.bx d c).2.1,(t _ (S.bx d c).1 (aj (S.bx d c).2.2) (S.nb.2 d c)).trans (S.bx d c).2.2⟩,S.bd,λb hr=>?_,List.pairwise_append.2 ⟨s.rs,S.rs,λv y x z g h f=>by have:=((s.rw v y).2.1.lt g h).1;have:=((S.rw x z).2.1.lt g f).2;omega⟩⟩
 .rcases s.nb.1 g k with e|e
  .exact S.nb.1 g (m g e)
  .exact .inr (by omega)
 .rcases s.nb.1 _ k with e|e
  .exact S.nb.2 d c (m _ e)
  .have:=aj (S.bx d c).2.2;omega
 .rcases S.nb.1 a (m a e) with e|e
  .exact l e
  .omega
 .rcases List.mem_append.1 hr with hr|hr
  .exact⟨(s.rw b hr).1,qL (s.rw b hr).2.1 r.2,(s.rw b hr).2.2⟩
  .obtain⟨I,u,J⟩:=S.rw b hr;refine⟨I,jG u λg n h f=>⟨t g h f (F b hr g n),h⟩,λo hx g n=>?_⟩;obtain⟨K,rfl,_,q⟩:=s.ac;have:=(u.lt g n).2;rcases List.mem_append.1 hx with hx|hx
   .exact J o hx g n
   .exact⟨λe=>by have:=q o hx g (.inl e);omega,λe=>by have:=q o hx g (.inr e);omega⟩
end
def CQ(E:Pe)(f:FuncId)(args:Array Ax)(i:Nat)(X:Fo)(j:Nat)(a:Ax->List Int->Rws->Prop):Prop:=
 ∀(W:B2)(G:Option Nat)(L:List Mb),Sq E W G L W i L .nil [] [] []->L.length+X.sz<=50000000->B3 A0 f args W λb w'=>∃v L2 ys R2,b= A3 v/\a v ys R2/\A9 (Sq E W G L w' j L2 X ys [] R2)
abbrev CI(E:Pe)(f:FuncId)(args:Array Ax)(i:Nat)(X:Fo)(j:Nat):Prop:=CQ E f args i X j λv ys R2=>∃z,v= Y U z/\ys=[z]/\R2=[]
abbrev CL(E:Pe)(f:FuncId)(args:Array Ax)(i:Nat)(X:Fo)(j:Nat):Prop:=CQ E f args i X j λv ys R2=>∃a c,v= Z a ys.length c/\R2=[(3,v,ys.map iv)]
abbrev CM(E:Pe)(i:Nat)(ns:List ByteArray)(j:Nat):Prop:=CQ E 149 #[pV E] i .nil j λv ys R2=>∃a c,v= Z a ns.length c/\ys=[]/\R2=[(9,v,ns.map B1)]
def Sq.cq{E:Pe}{b:Option Nat}{j:Nat}{D X:Fo}{d:List Int}{a:Bxs}{R:Rws}{args:Array Ax}{c:Ax->List Int->Rws->Prop}{Q:Ending->B2->Prop}(S:A9 (Sq E W b L w i L1 D d a R))(C:CQ E f args i X j c)(l:L1.length+X.sz<=50000000)(k:∀w' v L2 ys R2,c v ys R2->A9 (Sq E W b L w' j L2 (D.app X) (d++ys) a (R2++R))->Q (A3 v) w'):B3 A0 f args w Q:=by
 obtain⟨e,g,h⟩:=S.here;refine(C w e L1 h l).mono ?_;rintro o w' ⟨v,L2,ys,R2,rfl,m,n⟩;exact k w' v L2 ys R2 m (S.join g n)
section
variable {E : Pe} {W w w' : World} {G : Option Nat} {L L1 : List Mb} {i j b q : Nat} {D : Fo} {zs : List Int} {B : Bxs} {R : Rws} {k : Int}
def Sq.cells(S:Sq E W G L w i L1 D zs B R):w.cell? ⟨E.pb,0,O⟩=M (Z (M ⟨E.tb,0,O⟩) E.n E.cap)/\w.cell? ⟨E.pb,1,O⟩=M (Y U i)/\∀j,w.frozen? ⟨E.pb,j,O⟩=B4:=by
 obtain⟨b,a,_⟩:=S.row;exact⟨by rw[am _ _ _ _ _ _ a];rfl,by rw[am _ _ _ _ _ _ a];rfl,λj=>ch _ _ _ _ _ a⟩
def Sq.tok(S:Sq E W G L w i L1 D zs B R)(d:q<E.n):∃l,((E.tk q).k≠6->l=(E.tk q).l)/\w.cell? ⟨E.tb,q*6,O⟩=M (Y U (E.tk q).k)/\w.cell? ⟨E.tb,q*6+1,O⟩=M (Y U (E.tk q).f)/\w.cell? ⟨E.tb,q*6+2,O⟩=M (Y U (E.tk q).t)/\w.cell? ⟨E.tb,q*6+3,O⟩=M (Y U l)/\w.cell? ⟨E.tb,q*6+4,O⟩=M (Y U (E.tk q).n)/\w.cell? ⟨E.tb,q*6+5,O⟩=M (Br (E.tk q).x):=by
 obtain⟨e,g,b,c⟩:=S.tks;obtain⟨l,a⟩:=c q d;exact⟨l,a.hl,by rw[am _ _ _ _ _ _ b];exact a.c0,by rw[am _ _ _ _ _ _ b];exact a.c1,by rw[am _ _ _ _ _ _ b];exact a.c2,by rw[am _ _ _ _ _ _ b];exact a.c3,by rw[am _ _ _ _ _ _ b];exact a.c4,by rw[am _ _ _ _ _ _ b];exact a.c5⟩
def apg(S:Sq E W G L w i L1 D zs B R)(a:i<E.n):B3 A0 79 #[pV E] w λe w'=>e= A3 (Y U (E.tk i).k)/\B5 w.heap.size w w':=by
 have b:=S.cells;obtain⟨g,f,h⟩:=S.tok a;have d:(i:Int)<(E.n:Int):=by omega
 have c:(0:Int)<=(i:Int):=by omega
 clear S a;go_in;go_wp2_with fail;go_quiet (fail)
 go_wp2;go_ret;exact⟨rfl,rfl,rfl,rfl,ag _,λ_ _=>rfl⟩
def Sq.kind(S:A9 (Sq E W G L w i L1 D zs B R))(c:(E.tk i).k=k)(b:i<E.n:=by omega):B3 A0 79 #[pV E] w λe w'=>e= A3 (Y U k)/\A9 (Sq E W G L w' i L1 D zs B R):=c ▸ (apg S b).mono λ_ _ a=>⟨a.1,Sq.below S a.2⟩
def TkW(E:Pe)(q:Nat)(w:B2):Prop:=w.cell? ⟨E.tb,q*6,O⟩=M (Y U (E.tk q).k)/\w.cell? ⟨E.tb,q*6+1,O⟩=M (Y U (E.tk q).f)/\w.cell? ⟨E.tb,q*6+2,O⟩=M (Y U (E.tk q).t)/\w.cell? ⟨E.tb,q*6+3,O⟩=M (Y U (E.tk q).l)/\w.cell? ⟨E.tb,q*6+4,O⟩=M (Y U (E.tk q).n)/\w.cell? ⟨E.tb,q*6+5,O⟩=M (Br (E.tk q).x)
def Sq.tkw(S:Sq E W G L w i L1 D zs B R)(d:q<E.n)(b:(E.tk q).k≠6):TkW E q w:=by
 obtain⟨l,c,e,f,g,a,h,j⟩:=S.tok d;rw[c b]at a;exact⟨e,f,g,a,h,j⟩
def Sq.next(S:Sq E W G L w i L1 D zs B R):Sq E W G L (w.setCell ⟨E.pb,1,O⟩ (Y U ((i:Int)+1))) (i+1) L1 D zs B R:=
 S.to (o:=O) ((ai _ w).setCell S.lo.1 _) (λb _ a _=>aC _ _ _ _ a) (λc a=>(aL _ E.pb 1 _ _ _ a).trans (by rw[show((i+1:Nat):Int)=(i:Int)+1 by omega];rfl)) λb a=>by cases a
def Sq.take(S:A9 (Sq E W G L w i L1 D zs B R))(v:(E.tk i).k=k)(s:i<E.n:=by omega)(r:k≠6:=by omega):B3 A0 147 #[pV E] w λe w'=>e= .returned (.agg (pH k (E.tk i)))/\A9 (Sq E W G L w' (i+1) L1 D zs B R):=by
 subst v;have d:=Sq.box (cs:=#[.int .i64 0,.int .i64 0,.int .i64 0,.int .i64 0,.int .i64 0,.string ⟨#[]⟩]) (t:=46) S;have p:=d.cells;have F:=S.lo;have C:=S.low;have b:=aq d.next
 have j:=b.cells;have t:=b.tkw s r;unfold TkW at t;rw[show((i+1:Nat):Int)=(i:Int)+1 by omega]at j;have A:(i:Int)<(E.n:Int):=by omega
 have z:(0:Int)<=(i:Int):=by omega
 have J:IntKind.i64.wrap ((i:Int)+1-1)=(i:Int):=by rw[dt];omega
 have K:IntKind.i64.wrap (i:Int)=(i:Int):=by rw[dt];omega
 have ad:IntKind.i64.wrap ((i:Int)+1)=(i:Int)+1:=by rw[dt];omega
 go_in;go_wp2_with fail;clear p d S;generalize B6 _ _ _=h at b j t⊢;have af:=ik (Sq.hd b);have ak:=pK (Sq.hd b);have H:E.pb≠w.heap.size:=by omega
 have I:E.tb≠w.heap.size:=by omega
 have m:=λk (c:k≠w.heap.size) a=>ye (W:=h) c a;unfold six at m;go_region_held3 (λo=>∀k,k≠w.heap.size->∀a,o.cell? ⟨k,a,O⟩=h.cell? ⟨k,a,O⟩) (first|with_reducible exact λk c a=>m k c a _ _ _ _ _ _|exact λ_ _ _=>rfl) (fail)
 have g:=Sq.below (Sq.set (q:=5) (u:= .string (E.tk i).x) (Sq.set (q:=4) (u:= .int .i64 (E.tk i).n) (Sq.set (q:=3) (u:= .int .i64 (E.tk i).l) (Sq.set (q:=2) (u:= .int .i64 (E.tk i).t) (Sq.set (q:=1) (u:= .int .i64 (E.tk i).f) (Sq.set (q:=0) (u:= .int .i64 (E.tk i).k) b)))))) (bH (ai _ _));generalize World.drew _=y at g⊢;go_wp2;exact aH (gA rfl _ _ w.heap.size _ _ _ _ rfl (Sq.hd g) Tryz.underlying46 rfl (by kernel_rfl)) rfl ⟨rfl,Sq.tail g⟩
def Ca(k c:Int)(T:Tk)(w:B2):B3 A0 148 #[.int .i64 k,.agg (pH c T)] w λe w'=>e= .returned (.agg #[.int .i64 k,.int .i64 T.f,.int .i64 0,.int .i64 T.l,.int .i64 0,.int .i64 0,.string ⟨#[]⟩,s0,s0])/\B5 w.heap.size w w':=by
 go_in;go_wp2_with fail;exact aH (gA rfl _ _ (w.heap.size+1) _ _ _ _ rfl (Co rfl).2.1 Tryz.underlying62 rfl (by kernel_rfl)) rfl ⟨rfl,(dE w _).alloc (by simp) _⟩
def Sq.node(S:A9 (Sq E W G L w i L1 D zs B R)){c:Int}{T:Tk}:B3 A0 148 #[Y U k,Fs (pH c T)] w λe w'=>e= A3 (Fs #[Y U k,Y U T.f,Y U 0,Y U T.l,Y U 0,Y U 0,Br ⟨#[]⟩,s0,s0])/\A9 (Sq E W G L w' i L1 D zs B R):=(Ca k c T w).mono λ_ _ a=>⟨a.1,Sq.below S a.2⟩
def Sq.isY(S:A9 (Sq E W G L w i L1 D zs B R))(b:(E.tk i).k=k)(c:i<E.n:=by omega):B3 A0 80 #[pV E,Y U k] w λe w'=>e= A3 (F1 Ck)/\A9 (Sq E W G L w' (i+1) L1 D zs B R):=by
 have g:(k !=k)=B4:=by simp
 have j:=S.lo.2.2.2;have d:=Sq.kind S b c;clear S b;go_in;go_wp2_with fail;refine du d λw1 a=>?_;have f:=a.cells;have h:=a.lo.1;go_wp2_with fail;go_ret;exact⟨rfl,a.next⟩
def Sq.isN(S:A9 (Sq E W G L w i L1 D zs B R))(b:(E.tk i).k≠k)(a:i<E.n:=by omega):B3 A0 80 #[pV E,Y U k] w λe w'=>e= A3 (F1 B4)/\A9 (Sq E W G L w' i L1 D zs B R):=by
 have f:((E.tk i).k !=k)=Ck:=by simp[b]
 have c:=Sq.kind S rfl a;clear S b a;go_in;go_wp2_with fail;refine du c λw1 d=>?_;go_wp2_with fail;go_ret;exact⟨rfl,d⟩
end
def Rin(R:Rws)(t:B0)(v:Ax)(xs:List Ax):Prop:=(v=s0/\xs=[])\/(t,v,xs)∈R
section
variable {E : Pe} {W w w' : World} {G : Option Nat} {L L1 : List Mb} {i j b q : Nat} {D : Fo} {zs : List Int} {B : Bxs} {R : Rws} {k f t l op n : Int} {x : ByteArray}
def Rin.own{u:B0}(h:Rin R u v xs)(S:Sq E W G L w i L1 D zs B R):w.ownsRow W.heap.size u 1 v xs.length xs:=by
 rcases h with⟨rfl,rfl⟩|h
 .exact eI _ _ _ _
 .exact(S.rw _ h).2.1
def Sq.push(S:Sq E W G L w i L1 D zs B R)(K:w.heap[E.pb]?=M (pC E i v)){w5:B2}{r j:Nat}(a0:L1.length+1=r)(x:Mb)(ak:w5.ownsRow E.base 62 9 (Z (M ⟨g,0,O⟩) r j) r (lL (L1++[x])))(n:w.grownBy w5 v.ownBlock)(I:v.ownBlock=M g\/g=w.heap.size)
  (on:Rin R 9 x.vn (x.N.nm.map B1)) (a2:Rin R 3 x.vk (x.N.ks.map iv)) (ax:x.N.ks=zs):
  Sq E W G L (w5.setCell ⟨E.pb,2,O⟩ (Z (M ⟨g,0,O⟩) r j)) i (L1++[x]) (one {x.N with ks:=[]} D) [(L1.length:Int)] B []/\w5.heap[E.pb]?=M (pC E i v):=by
 subst a0;obtain⟨a4,d,p2⟩:=S.row;obtain rfl:a4=v:=by rw[d]at K;cases K;rfl
 have J:=S.lo;have q:=S.low;obtain⟨ar,p,o,a3⟩:=S.tks;have H:∀a,a<w.heap.size->¬Ng E w a->w5.heap[a]?=w.heap[a]?:=λa h l=>n.block a h λe=>l ((nbI d).2 e.symm);have a1:¬Ng E w E.pb:=λh=>by obtain⟨_,C,p,f⟩:=S.nlt h;rw[d]at f;cases f
 have A:=(H _ (by omega) a1).trans d;have s:∀a,a<w.heap.size->a≠E.pb->¬Ng E w a->(w5.setCell ⟨E.pb,2,O⟩ (Z (M ⟨g,0,O⟩) (L1.length+1) j)).heap[a]?=w.heap[a]?:=λa m c k=>(aC _ _ _ _ c).trans (H a m k);have t:∀{ad af e size l:Nat}{an:Ax}{ao:List Ax},w.ownsRow ad e size an l ao->af<=ad->e≠62->e≠112->(w5.setCell ⟨E.pb,2,O⟩ (Z (M ⟨g,0,O⟩) (L1.length+1) j)).ownsRow af e size an l ao:=λu q m c=>jG u λg n k au=>⟨s g au (λe=>gq u d (dA c) (e ▸ n)) λl=>(by obtain⟨_,C,p,f⟩:=S.nlt l;exact gq u f (dA m) n),bG q k⟩;have al:=aL w5 E.pb 2 _ _ (Z (M ⟨g,0,O⟩) (L1.length+1) j) A;have z:=on.own S;have y:=a2.own S;have F:∀{a},Ng E (w5.setCell ⟨E.pb,2,O⟩ (Z (M ⟨g,0,O⟩) (L1.length+1) j)) a->g=a:=λh=>by simpa [A5] using(nbI al).1 h
 refine⟨⟨J,⟨ar,p,(s _ (aj o) (λe=>by rw[e,d]at o;cases o) λh=>?_).trans o,a3⟩,⟨_,al,by rw[aJ];exact sI ak (gq ak A (by decide)) 2 _⟩,⟨λa h=>?_,λb h c=>?_⟩,λap hy=>?_,S.ac.add x.N (ax.trans S.tp.symm) λa h=>?_,by rw[Jg,S.ac.len],S.bl.trans (((ai _ w).grown n (by omega) λa av=>(p2.lt a av).1).setCell J.1 _),λa m c k=>(s a (by omega) c λh=>?_).trans (S.fz a m c k),λb h=>⟨(S.bx b h).1,(S.bx b h).2.1,(s _ (aj (S.bx b h).2.2) (by have:=(S.bx b h).1;omega) (S.nb.2 b h)).trans (S.bx b h).2.2⟩,S.bd,λr h=>(by cases h),.nil⟩,A⟩
 .obtain⟨_,C,p,f⟩:=S.nlt h;rw[o]at f;cases f
 .obtain rfl:=F h;rcases I with e|e
  .exact S.nb.1 g ((nbI d).2 e)
  .exact .inr (by omega)
 .obtain rfl:=F c;rcases I with e|e
  .exact S.nb.2 b h ((nbI d).2 e)
  .have:=aj (S.bx b h).2.2;omega
 .rcases List.mem_append.1 hy with hy|hy
  .exact⟨t (S.each ap hy).1 (ag _) (by decide) (by decide),t (S.each ap hy).2 (ag _) (by decide) (by decide)⟩
  .obtain rfl:=List.mem_singleton.1 hy;rw[bi]at z y;exact⟨t z q.1 (by decide) (by decide),t y q.1 (by decide) (by decide)⟩
 .rcases h with h|h
  .exact(z.lt a h).1
  .exact(y.lt a h).1
 .rcases S.nb.1 a h with e|e
  .exact k e
  .omega
def Sq.add(S:A9 (Sq E W G L w i L1 D zs B R)){nm:List ByteArray}(bb:(vn=s0/\nm=[])\/(9,vn,nm.map B1)∈R)(af:Rin R 3 vk (zs.map iv))(bs:L1.length<=50000000)(b8:1<=i:=by omega)(cb:i<=E.n:=by omega):
  B3 A0 151 #[pV E,.agg #[.int .i64 k,.int .i64 f,.int .i64 t,.int .i64 l,.int .i64 op,.int .i64 n,.string x,vn,vk]] w λe w'=>∃z,e= .returned (.int .i64 z)/\∃L2,A9 (Sq E W G L w' i L2 (one ⟨k,f,(E.tk (i-1)).t,l,op,n,x,nm,[]⟩ D) [z] B []):=by
 have ao:Rin R 9 vn (nm.map B1):=bb.imp (λu=>⟨u.1,by rw[u.2];rfl⟩) id;clear bb;obtain⟨q,rfl⟩:∃q,i=q+1:=⟨i-1,by omega⟩;obtain⟨j,o,rfl⟩:=bJ (ao.own S);obtain⟨h,m,rfl⟩:=bJ (af.own S);simp only[bi]at ao af⊢;rw[nK];obtain⟨c,al⟩:=aF L1.length;obtain⟨r,bx⟩:=aF nm.length;obtain⟨p,bw⟩:=aF zs.length;rw[al]at bs;rw[bx]at ao⊢;rw[bw]at af⊢;have ce:=S.lo;have bv:=S.low;have br:((q+1:Nat):Int)=(q:Int)+1:=by omega
 have K:=λs=>(Sq.below S (dE w s)).cells;have ap:∀s,(w.alloc s).cell? ⟨E.tb,q*6+2,O⟩=M (.int .i64 (E.tk q).t):=λs=>by
  obtain⟨l,bv,cr,ct,ap,cu,cw,cx⟩:=(Sq.below S (dE w s)).tok (q:=q) (by omega);exact ap
 rw[br]at K;have ca:(q:Int)<(E.n:Int):=by omega
 have b9:(0:Int)<=(q:Int):=by omega
 have cf:IntKind.i64.wrap ((q:Int)+1-1)=(q:Int):=by rw[dt];omega
 have cl:IntKind.i64.wrap (q:Int)=(q:Int):=by rw[dt];omega
 have bj:=Sq.box (cs:=wg ⟨k,f,(E.tk q).t,l,op,n,x,nm,zs⟩ (.slice j r o) (.slice h p m)) (t:=62) S;go_in;go_wp2_with fail;go_region_held3 (λw'=>w'.cell? ⟨E.pb,0,O⟩=M (.slice (M ⟨E.tb,0,O⟩) E.n E.cap)/\w'.cell? ⟨E.pb,1,O⟩=M (.int .i64 ((q:Int)+1))/\w'.cell? ⟨E.tb,q*6+2,O⟩=M (.int .i64 (E.tk q).t)) (exact⟨(K _).1,(K _).2.1,ap _⟩) (fail)
 have J:=Sq.below bj (bH (ai _ _));have bf:(w.alloc (.cells (wg ⟨k,f,(E.tk q).t,l,op,n,x,nm,zs⟩ (.slice j r o) (.slice h p m)) 62)).drew.heap.size=w.heap.size+1:=de _ _;generalize World.drew _=g at J bf⊢;clear bj K ap;obtain⟨v,ad,a2⟩:=J.row;obtain⟨A,H,rfl⟩:=bJ a2;have a1:g.cell? ⟨E.pb,2,O⟩=M (.slice A L1.length H):=by rw[am _ _ _ _ _ _ ad];rfl
 rw[al]at a1 ad a2;go_wp2_with fail;have a3:=Sq.hd J;refine E1 (S:=λax=>ax.heap[w.heap.size]?=M (.cells (wg ⟨k,f,(E.tk q).t,l,op,n,x,nm,zs⟩ (.slice j r o) (.slice h p m)) 62 (0,0))) (by kernel_rfl) a3 (λhS=>?_);simp only[ir,bm,ej,Nat.reduceAdd,jb,jp,jq,eu,ez];refine dF 0 (.pointer (M ⟨E.pb,0,O⟩)) rfl rfl (by kernel_rfl) (λ_ _ _=>id) hS (λw' y=>by go_simp) ?_;simp only[B7];refine dF 1 (.pointer (M ⟨E.pb,0,O⟩)) rfl rfl (by kernel_rfl) (λ_ _ _=>id) hS (λw' y=>by go_simp) ?_;simp only[B7];refine dF 2 (.pointer (M ⟨E.pb,0,O⟩)) rfl rfl (by kernel_rfl) (λ_ _ _=>id) hS (λw' y=>by go_simp) ?_;simp only[B7];refine dF 3 (.pointer (M ⟨E.pb,2,O⟩)) rfl rfl (by kernel_rfl) (λ_ _ _=>id) hS (λw' y=>by go_simp) ?_;simp only[B7];refine Ha 5 23 (.agg (wg ⟨k,f,(E.tk q).t,l,op,n,x,nm,zs⟩ (.slice j r o) (.slice h p m))) rfl rfl (by kernel_rfl) (by kernel_rfl) (by kernel_rfl) (λ_ _ _ u=>u) (by rfl) hS (λw' y=>by have z:=be (N:=⟨k,f,(E.tk q).t,l,op,n,x,nm,zs⟩) y;go_simp) ?_;simp only[Act.put,cm,co,cC];have bt:=a1;refine rF (S:=λax=>ax.cell? ⟨E.pb,2,O⟩=M (.slice A c H)) (C:=λI=>!(I==7||I==8||I==9||I==10)) (i:=4) (v:= .slice A c H) rfl (xD (by kernel_rfl)) (λ_ _ _ u=>u) ?hC _ _ _ _ (xF rfl (by kernel_rfl)) (List.contains_iff_mem.1 (by kernel_rfl)) (Or.inl ⟨by rfl,λw' y=>by go_simp⟩) hS bt ?_
 case hC=>
  intro I cq ba b;simp only[Bool.not_eq_false',ve,jB]at b;rcases b with((rfl|rfl)|rfl)|rfl
  .obtain rfl:=bc ba;exact⟨{on:=4,ground:=Ground.data},by simp,rfl,rfl⟩
  all_goals
   obtain rfl:=bc ba;exact⟨{on:=4,ground:=Ground.phase},by simp,rfl,rfl⟩
 simp only[Act.put,cm,co,cC];refine fh (i:=6) (by kernel_rfl) rfl (λd a=>?_);go_simp;have a0:∀s,B5 g.heap.size g (g.drew.alloc s):=λs=>(bH (ai _ _)).alloc (by simp) _;refine a _ _ (((a0 _).block _ (aj a3)).trans a3) (λ_=>ah (a0 _) a1) ?_;clear a d hS a0;try simp only[cm,co,cC]
 have F:=bH (dE g (.cells (wg ⟨k,f,(E.tk q).t,l,op,n,x,nm,zs⟩ (.slice j r o) (.slice h p m)) 62));have bk:(g.alloc (.cells (wg ⟨k,f,(E.tk q).t,l,op,n,x,nm,zs⟩ (.slice j r o) (.slice h p m)) 62)).drew.heap[g.heap.size]?=_:=aB g _;generalize World.drew (World.alloc _ _)=bn at F bk⊢;have b5:=Sq.below J F;have b2:=(F.block _ (aj ad)).trans ad;have cc:=J.low;obtain⟨bA,bD,bE,b0,b1⟩:=eD yA;refine fh (i:=7) (by kernel_rfl) rfl (λd a=>?_);refine step_append_lies _ (by rfl) _ _ 24 (by rfl) E.base 62 bA _ 9 112 Tryz.underlying24 bD bE b0 b1 rfl (by decide) (.slice A c H) c _ (by rfl) (cJ a2 F) ⟨g.heap.size,0,O⟩ 1 1 (wg ⟨k,f,(E.tk q).t,l,op,n,x,nm,zs⟩ (.slice j r o) (.slice h p m)).toList (by rw[bf];rfl) rfl (Ce bk) (by intro cy bd;simp at bd;rcases bd with rfl|rfl|rfl|rfl|rfl|rfl|rfl|rfl|rfl<;>rfl) (by decide) (by unfold E2;omega) (by omega) (by have:=F.size;omega) bn.heap.size rfl ?_;intro a7 a6 w5 bh a9 a8 cd;obtain⟨a5,a4⟩:=b5.push b2 (by rw[al]) ⟨⟨k,f,(E.tk q).t,l,op,n,x,nm,zs⟩,.slice j r o,.slice h p m⟩ (by rw[rA];exact bh) a9 a8 ao af rfl;have bl:=Sq.hd a5;have ar:=bl;rw[aC _ _ _ _ (by show w.heap.size≠E.pb;omega)]at ar;have c5:w5.cell? ⟨E.pb,2,O⟩=M (.slice A c H):=by rw[am _ _ _ _ _ _ a4];rfl
 have b7:w5.frozen? ⟨E.pb,2,O⟩=B4:=ch _ _ _ _ _ a4;have au:=Sq.tail a5;clear a5 bh a9 a8;refine a _ _ ar (λb=>by cases b) ?_;clear a d;simp only[Act.put,cm,co,cC];refine fh (i:=8) (by kernel_rfl) rfl (λd a=>?_);go_simp;refine a _ _ ar (λb=>by cases b) ?_;clear a d;try simp only[cm,co,cC]
 refine fh (i:=9) (by kernel_rfl) rfl (λd a=>?_);go_simp;refine a _ _ ar (λb=>by cases b) ?_;clear a d;try simp only[cm,co,cC]
 refine fh (i:=10) (by kernel_rfl) rfl (λd a=>?_);go_simp;refine a _ _ bl (λb=>by cases b) ?_;clear a d;refine uk (by kernel_rfl) ?_ _;have bo:(w5.setCell ⟨E.pb,2,O⟩ (.slice (M ⟨a7,0,O⟩) (c+1) a6)).cell? ⟨E.pb,2,O⟩=M (.slice (M ⟨a7,0,O⟩) (c+1) a6):=by rw[am _ _ _ _ _ _ (aL _ E.pb 2 _ _ _ a4)];rfl
 rw[al]at au;generalize B6 _ _ _=b6 at au bo⊢;have cp:IntKind.i64.wrap ((c:Int)+1-1)=(c:Int):=by rw[dt];omega
 go_wp2_with fail;go_ret;exact⟨c,by go_num,_,au⟩
end
def Trw(st t:B0):Prop:=∃a b,Tryz.prog.underlying st=M (.slice t)/\(Tryz.prog.info? t).map (λi=>(i.zero,i.size,i.bytes))=M (M a,1,b)/\a.cells.size=1/\b<=100
def tI:Trw 60 3:=⟨.int .i64 0,8,Tryz.underlying60,by kernel_rfl,rfl,by decide⟩
def tS:Trw 59 9:=⟨.string ⟨#[]⟩,16,Tryz.underlying59,by kernel_rfl,rfl,by decide⟩
section
variable {E : Pe} {W w w' : World} {G : Option Nat} {L L1 : List Mb} {i j b q : Nat} {D : Fo} {zs : List Int} {B : Bxs} {R : Rws} {k : Int} {t : TypeId} {cs : Array Value}
def Sq.rd(S:A9 (Sq E W G L w i L1 D zs ((b,t,cs)::B) R)):(∀q,w.cell? ⟨b,q,O⟩=cs[q]?)/\(∀q,w.frozen? ⟨b,q,O⟩=B4)/\b<w.heap.size:=by
 have a:=Sq.hd S;exact⟨λq=>by rw[am _ _ _ _ _ _ a],λq=>ch _ _ _ _ _ a,aj a⟩
def Sq.fin(S:A9 (Sq E W G L w i L1 D zs B R)):A9 (Sq E W G L w i L1 D zs [] R):=S.sub (λb a=>by cases a) vh
def Sq.fin0(S:A9 (Sq E W G L w i L1 D zs B R)):A9 (Sq E W G L w i L1 D zs [] []):=Sq.fin (Sq.less S (List.nil_sublist _))
def Sq.ln(S:A9 (Sq E W G L w i L1 D zs B R)):L1.length=L.length+D.sz:=S.ac.len
def amy{t:Int}{b:Bool}(h:jt t=b)(w:B2):B3 A0 204 #[Y U t] w λe w'=>e= A3 (F1 b)/\w'=w:=h ▸ ss w t
def amz(k:Int)(w:B2):B3 A0 237 #[Y U k] w λe w'=>e= A3 (Y U (LK k))/\w'=w:=by
 unfold LK;by_cases a:k=25
 .subst a;go_in;go_wp2;go_ret;exact⟨rfl,rfl⟩
 by_cases b:k=50
 .subst b;go_in;go_wp2;go_ret;exact⟨rfl,rfl⟩
 by_cases c:k=69
 .subst c;go_in;go_wp2;go_ret;exact⟨rfl,rfl⟩
 .rw[aa a,aa b,aa c];have d:(k==25)=B4:=by simp[a]
  have f:(k==50)=B4:=by simp[b]
  have g:(k==69)=B4:=by simp[c]
  go_in;go_wp2;go_ret;exact⟨rfl,rfl⟩
def aqL{t:Int}{b:Bool}(h:eJ t=b)(w:B2):B3 A0 142 #[Y U t] w λe w'=>e= A3 (F1 b)/\w'=w:=h ▸ su w t
def aph(a b c d e f:Ax)(w:B2):(Instr.field 46 (Fs #[a,b,c,d,e,f]) 0).run A0 w= .ok a w:=by kernel_rfl
def Sq.rn{b:Option Addr}{c:Nat}(S:A9 (Sq E W G L w i L1 D zs B ((t,Z b n c,xs)::R))):xs.length=n:=by
 obtain⟨d,e,a⟩:=bJ (S.rw _ (.head _)).2.1;simp at a;exact a.2.1.symm
def Sq.at2{r:B0×Ax×List Ax}{a:Option Addr}{c q:Nat}{k:List Int}{x:Int}(S:A9 (Sq E W G L w i L1 D zs B (r::(3,Z a n c,k.map iv)::R)))(h:k[q]?=M x):∃g,a=M ⟨g,0,O⟩/\w.cell? ⟨g,q,O⟩=M (Y U x):=by
 have j:=(S.rw _ (.tail _ (.head _))).2.1;have e:=(List.getElem?_eq_some_iff.1 h).1;rcases bB j with⟨d,_⟩|⟨g,l,f⟩
 .simp at d;rw[d]at e;simp at e
 .simp only[Value.slice.injEq]at f;obtain⟨rfl,_,_⟩:=f;have b:=j.cells rfl q (Y U x) (by rw[cH,h];rfl);rw[show(⟨g,0,O⟩:Addr).add q=⟨g,q,O⟩ by unfold Addr.add;split<;>simp_all]at b;exact⟨g,rfl,b⟩
section
variable {ops : Array Oper} {rest : List Oper} {o : Oper} {a : Act} {Q : Exit → Act → World → Prop} {av : Option Addr} {n cv : Nat} {xs : List Value}
def Sq.apG{st:B0}(T:Trw st t)(S:A9 (Sq E W G L w i L1 D zs B ((t,Z av n cv,xs)::R)))(al:n<=50000000)(F:u.oneCell'=Ck)(y:o.guard=O)(s x:Operand)(A:o.op= .call {callee:= .builtin .append,args:=#[s,x],argTypes:=#[st,st]})(C:a.eval s= Z av n cv)(I:a.eval x= Z (M ⟨m,0,O⟩) 1 1)(e:w.heap.size=m)
  (h:∀g b w1,A9 (Sq E W G L w1 i L1 D zs B ((t,Z (M ⟨g,0,O⟩) (n+1) b,xs++[u])::R))->wpList A0 ops Q rest (a.put o.dst (Z (M ⟨g,0,O⟩) (n+1) b)) w1):wpList A0 ops Q (o::rest) a (w.alloc (A2 #[u] t)):=by
 subst e;obtain⟨ak,d,k,l,p,q⟩:=T;obtain⟨af,z,J,K,ad⟩:=eD l;have c:=Sq.below S (dE w (A2 #[u] t));have j:=(c.rw _ (.head _)).2.1;simp only[Sq.rn S]at j;have e:(n+1)*d<=50000001*100:=Nat.mul_le_mul (by omega) q;refine Ex _ y s x st A W.heap.size t af ak 1 d k z J K ad p (by decide) _ _ _ C j ⟨w.heap.size,0,O⟩ 1 1 [u] I rfl (cell_one_new _ _ _) (by intro an H;rw[List.mem_singleton.1 H];exact F) (by unfold E2;omega) (by omega) (Sq.low c).2 ?_;intro ao w1 f v _ r;obtain⟨g,b,rfl⟩:=ownsRow_succ f;exact h g b w1 (Sq.put c v (by simpa [Sq.rn S] using f) r)
def Sq.app{l:List Int}(S:A9 (Sq E W G L w i L1 D (l++[z]) B ((3,Z av n cv,xs)::R)))(t:L1.length<=50000000)(f:o.guard=O)(s x:Operand)(j:o.op= .call {callee:= .builtin .append,args:=#[s,x],argTypes:=#[60,60]})(k:a.eval s= Z av n cv)(m:a.eval x= Z (M ⟨w.heap.size,0,O⟩) 1 1)(p:xs=l.map iv)
  (h:∀g b w1,A9 (Sq E W G L w1 i L1 D (l++[z]) B ((3,Z (M ⟨g,0,O⟩) (n+1) b,(l++[z]).map iv)::R))->wpList A0 ops Q rest (a.put o.dst (Z (M ⟨g,0,O⟩) (n+1) b)) w1):wpList A0 ops Q (o::rest) a (w.alloc (A2 #[Y U z] 3)):=by
 subst p;have d:=Sq.rn S;have e:=congrArg List.length S.tp;have q:=D.len_le;have r:=S.ac.len;rw[Fo.tops_len,aJ]at e;rw[bi]at d;exact Sq.apG tI S (by omega) rfl f s x j k m rfl λg b w1 c=>h g b w1 (by rw[dK];exact c)
end
end
abbrev tkV(k:Int)(T:Tk):Ax:= Fs (pH k T)
abbrev fnV(T:Tk):Ax:= Fs #[Y U 36,Y U T.f,Y U 0,Y U T.l,Y U 0,Y U 0,Br ⟨#[]⟩,s0,s0]
abbrev ndA(k op n:Int)(x:ByteArray)(T:Tk)(vn vk:Ax):Array Ax:=#[Y U k,Y U T.f,Y U 0,Y U T.l,Y U op,Y U n,Br x,vn,vk]
section
variable (E : Pe)
abbrev CX(p:Int)(i:Nat)(x:Fo)(j:Nat):Prop:=CI E 152 #[pV E,Y U p] i x j
abbrev CU(i:Nat)(x:Fo)(j:Nat):Prop:=CI E 208 #[pV E] i x j
abbrev CB(i:Nat)(x:Fo)(j:Nat):Prop:=CI E 156 #[pV E] i x j
abbrev CK(i:Nat)(x:Fo)(j:Nat):Prop:=CI E 145 #[pV E] i x j
abbrev CLx(i:Nat)(x:Fo)(j:Nat):Prop:=CL E 150 #[pV E] i x j
abbrev CSs(i:Nat)(x:Fo)(j:Nat):Prop:=CL E 44 #[pV E,Y U 43] i x j
abbrev CBd(T:Tk)(i:Nat)(x:Fo)(j:Nat):Prop:=CI E 153 #[pV E,fnV T] i x j
abbrev CBr(k:Int)(i:Nat)(x:Fo)(j:Nat):Prop:=CI E 154 #[pV E,tkV k (E.tk i)] (i+1) x j
inductive Wu (i:Nat):FuncId->Fo->Nat->Prop
 |leaf {k nk:Int}:(k=24/\nk=20)\/(k=29/\nk=21)\/(k=17/\nk=22)\/(k=49/\nk=27)->(E.tk i).k=k->i+1<E.n->Wu i 208 (one (jm nk (E.tk i) (E.tk i).t) .nil) (i+1)
 |int:(E.tk i).k=2->i+1<E.n->Wu i 208 (one (nd 23 (E.tk i) (E.tk i).t 0 (E.tk i).n z0 []) .nil) (i+1)
 |word {k nk:Int}:(k=3/\nk=24)\/(k=4/\nk=25)->(E.tk i).k=k->i+1<E.n->Wu i 208 (one (nd nk (E.tk i) (E.tk i).t 0 0 (E.tk i).x []) .nil) (i+1)
 |pre {k:Int}{x:Fo}{j:Nat}:k=25\/k=50\/k=62\/k=69->(E.tk i).k=k->i<E.n->CU E (i+1) x j->i+1<=j->j<=E.n->Wu i 208 (one (nd 30 (E.tk i) (E.tk (j-1)).t (LK k) 0 z0 []) x) j
 |fn {x:Fo}{j:Nat}:(E.tk i).k=18->i<E.n->CBd E (E.tk i) (i+1) x j->Wu i 208 x j
 |base {k:Int}{x:Fo}{j:Nat}:k=1\/k=40->(E.tk i).k=k->i<E.n->CB E i x j->Wu i 208 x j
 |block {k:Nat}{x:Fo}:(E.tk i).k=42->i<E.n->CSs E (i+1) x k->(E.tk k).k=43->k+1<E.n->Wu i 145 (one (jm 1 (E.tk i) (E.tk k).t) x) (k+1)
end
def qi{E:Pe}{j:Nat}{X:Fo}(h:Wu E i f X j):CI E f #[pV E] i X j:=by
 cases h
 case' leaf h _ _=>rcases h with⟨rfl,rfl⟩|⟨rfl,rfl⟩|⟨rfl,rfl⟩|⟨rfl,rfl⟩
 case' word h _ _=>rcases h with⟨rfl,rfl⟩|⟨rfl,rfl⟩
 case' pre h _ _ _ _ _=>rcases h with rfl|rfl|rfl|rfl
 case' base h _ _ _=>rcases h with rfl|rfl
 all_goals
  intro n l m h g;have a:=aq h;clear h;try simp only[di,Fo.sz_app,Fo.sz]at g
  go_in
  repeat' (go_wp2_with fail;first
   |(go_at_call 79;refine du (Sq.kind a (by assumption)) λc a=>?_)
   |(go_at_call 147;refine du (Sq.take (by first|exact a|exact Sq.set a) (by assumption)) λc a=>?_;(try have e:=Sq.rd a))
   |(go_at_call 204;first|refine ft (amy (b:=Ck) (by decide) _) ?_|refine ft (amy (b:=B4) (by decide) _) ?_)
   |(go_at_call 237;refine ft (amz _ _) ?_)
   |(go_at_call 148;refine du (Sq.node (by first|exact a|exact Sq.box a)) λc a=>?_;(try have e:=Sq.rd a))
   |(go_at_call 151;refine(Sq.add (by first|exact a|exact Sq.lit1 (Sq.box a)|exact Sq.box a) (.inl ⟨rfl,rfl⟩) (by first|exact .inl ⟨rfl,rfl⟩|exact .inr (.head _)) (by have:=Sq.ln a;simp only[Fo.sz_app,Fo.sz]at this;omega)).mono ?_;rintro q c ⟨k,rfl,d,a⟩)
   |(refine Sq.cq (by first|exact a|exact Sq.box a) (by assumption) (by have:=Sq.ln a;simp only[Fo.sz_app,Fo.sz]at this;omega) ?_;(first|rintro c _ d _ _ ⟨k,rfl,rfl,rfl⟩ a|rintro c _ d r _ ⟨o,p,rfl,rfl⟩ a);(try have e:=Sq.rd a)))
  all_goals
   go_wp2_with fail;go_ret;exact⟨_,_,_,_,rfl,⟨_,rfl,rfl,rfl⟩,Sq.fin a⟩
inductive Ls (E:Pe) (C:Nat->Fo->Nat->Prop):Nat->Nat->Fo->Nat->Prop where
 |stop {k:Nat}:(E.tk k).k≠46->k<E.n->Ls E C 0 k .nil k
 |go {m k k1 j:Nat}{x R:Fo}:(E.tk k).k=46->k<E.n->C (k+1) x k1->Ls E C m k1 R j->Ls E C (m+1) k (x.app R) j
inductive Ss (E:Pe) (C:Nat->Fo->Nat->Prop):Nat->Nat->Fo->Nat->Prop where
 |stop {k:Nat}:k<E.n->Ss E C 0 k .nil k
 |sep {m k j:Nat}{R:Fo}:(E.tk k).k=5->k<E.n->Ss E C m (k+1) R j->Ss E C (m+1) k R j
 |go {m k k1 j:Nat}{x R:Fo}:(E.tk k).k≠5->(E.tk k).k≠6->(E.tk k).k≠43->k<E.n->C k x k1->Ss E C m k1 R j->Ss E C (m+1) k (x.app R) j
inductive Es (E:Pe) (C:Nat->Fo->Nat->Prop):Nat->Nat->Fo->Nat->Prop where
 |stop {k:Nat}:(E.tk k).k=43->k<E.n->Es E C 0 k .nil k
 |com {m k k1 j:Nat}{x R:Fo}:(E.tk k).k≠43->k<E.n->C k x k1->(E.tk k1).k=46->k1<E.n->Es E C m (k1+1) R j->Es E C (m+1) k (x.app R) j
 |last {m k k1 j:Nat}{x R:Fo}:(E.tk k).k≠43->k<E.n->C k x k1->(E.tk k1).k≠46->k1<E.n->Es E C m k1 R j->Es E C (m+1) k (x.app R) j
def szL{a b c:Fo}(h:a.app b=c)(d:n+c.sz<=m):n+(a.sz+b.sz)<=m:=by rw[<-h,Fo.sz_app]at d;exact d
def Sq.six{E:Pe}{c:Option Nat}{b:Nat}{D:Fo}{l:List Int}{a:Bxs}{R:Rws}{t:B0}{m n o p q r:Ax}(S:A9 (Sq E W c L w i L1 D l ((b,t,#[m,n,o,p,q,r])::a) R))(d e f g h j:Ax):∃k,((((((w.setCell ⟨b,0,O⟩ d).setCell ⟨b,1,O⟩ e).setCell ⟨b,2,O⟩ f).setCell ⟨b,3,O⟩ g).setCell ⟨b,4,O⟩ h).setCell ⟨b,5,O⟩ j)=k/\A9 (Sq E W c L k i L1 D l ((b,t,#[d,e,f,g,h,j])::a) R):=⟨_,rfl,Sq.set (Sq.set (Sq.set (Sq.set (Sq.set (Sq.set S)))))⟩
section
variable {E : Pe} {i j : Nat}
def ajs{x:Fo}{k:Nat}(L:CX E 0 i x k)(v:Ls E (CX E 0) m k R j):CLx E i (x.app R) j:=by
 intro G y B s u;have a:=aq s;have A:=aq v;clear s v;go_in;go_wp2_with fail;refine Sq.cq a L (by rw[Fo.sz_app]at u;omega) ?_;rintro e _ q _ _ ⟨f,rfl,rfl,rfl⟩ a;go_wp2_with fail;go_loopg [3,4] m (λgk an al wr=>∃(k:Nat) (D g:Fo) (w:Int) (b:Option Addr) (d c:Nat) (C:List Mb) (o:List Int),an= Y U w/\al= Z b d c/\A9 (Ls E (CX E 0) gk k g j/\Sq E G y B wr k C D o [] [(3,Z b d c,o.map iv)]/\D.app g=x.app R))
 case atStart=>exact⟨k,_,R,f,_,1,1,_,_,rfl,rfl,A,Sq.lit (xs:=[iv f]) a,rfl⟩
 case round=>
  clear a;obtain⟨ap,D,g,w,b,d,c,q,o,rfl,rfl,p⟩:=hrel;obtain⟨J,a,n⟩:=p.out;have ad:=szL n u;have t:=aq n;clear n p;cases J with
  |stop h l=>
   go_wp2_with fail;refine du (Sq.isN a h l) λe a=>?_;go_wp2_with fail;go_ret;rw[<-t.out,Fo.app_nil];exact⟨Z b d c,_,_,_,rfl,⟨b,c,by rw[<-Sq.rn a,bi],rfl⟩,a⟩
  |@go ak _ af _ ar F h l I r=>
   rw[Fo.sz_app]at ad;have z:=aq r;clear r;go_wp2_with fail;refine du (Sq.isY a h l) λe a=>?_;go_wp2_with fail;refine Sq.cq a I (by have:=Sq.ln a;omega) ?_;rintro e _ q _ _ ⟨f,rfl,rfl,rfl⟩ a;have K:=Sq.ln a;rw[Fo.sz_app]at K;go_wp2_with (at_builtin;refine Sq.app a (by omega) rfl _ _ rfl rfl rfl rfl ?_;intro ao H e a);go_roundg ak
   case measure=>omega
   case rel=>exact⟨af,_,F,f,_,d+1,H,_,_,rfl,rfl,z,a,by rw[Fo.app_app];exact t⟩
def ack{u:Int}(y:u=43\/u=6)(af:(E.tk j).k=u)(x:Ss E (CI E 81 #[pV E]) m i R j):CL E 44 #[pV E,Y U u] i R j:=by
 intro H A t w ak;have a:=aq w;have B:=aq x;clear w x;go_in;go_wp2_with fail;go_loopg [5,6] m (λgk ap au wr=>∃(k:Nat) (D h:Fo) (c:Option Addr) (e d:Nat) (C:List Mb) (n:List Int),ap= Z c e d/\A9 (Ss E (CI E 81 #[pV E]) gk k h j/\Sq E H A t wr k C D n [] [(3,Z c e d,n.map iv)]/\D.app h=R))
 case atStart=>exact⟨i,.nil,R,O,0,0,t,[],rfl,B,Sq.nil a,rfl⟩
 case round=>
  clear a;obtain⟨z,D,h,c,e,d,F,n,rfl,s⟩:=hrel;obtain⟨ad,a,p⟩:=s.out;have an:=szL p ak;have q:=aq p;clear p s;cases ad with
  |stop b=>
   have v:(u !=u)=B4:=by simp
   go_wp2_with fail;refine du (Sq.kind a af b) λf a=>?_;go_wp2_with fail;go_ret;rw[<-q.out,Fo.app_nil];exact⟨Z c e d,_,_,_,rfl,⟨c,d,by rw[<-Sq.rn a,bi],rfl⟩,a⟩
  |@sep r _ _ _ l b g=>
   have o:=aq g;clear g;have v:((5:Int)!=u)=Ck:=by rcases y with rfl|rfl<;>rfl
   go_wp2_with fail;refine du (Sq.kind a l b) λf a=>?_;go_wp2_with fail;refine du (Sq.isY a l b) λf a=>?_;go_wp2_with fail;go_roundg r
   case measure=>omega
   case rel=>exact⟨z+1,D,h,c,e,d,_,n,rfl,o,a,q⟩
  |@go r _ ao _ ax G l J K b L g=>
   rw[Fo.sz_app]at an;have o:=aq g;clear g;have v:((E.tk z).k !=u)=Ck:=by rcases y with rfl|rfl<;>simp[J,K]
   go_wp2_with fail;refine du (Sq.kind a rfl b) λf a=>?_;go_wp2_with fail;refine du (Sq.isN a l b) λf a=>?_;go_wp2_with fail;refine Sq.cq a L (by have:=Sq.ln a;omega) ?_;rintro f _ F _ _ ⟨a0,rfl,rfl,rfl⟩ a;have al:=Sq.ln a;rw[Fo.sz_app]at al;go_wp2_with (at_builtin;refine Sq.app a (by omega) rfl _ _ rfl rfl rfl rfl ?_;intro ar I f a);go_roundg r
   case measure=>omega
   case rel=>exact⟨ao,_,G,_,e+1,I,_,_,rfl,o,a,by rw[Fo.app_app];exact q⟩
def vJ{ns:List ByteArray}(J:(E.tk i).k=1)(ak:i<E.n)(v:GG E.tk E.n (i+1) ns j):CM E i ((E.tk i).x::ns) j:=by
 intro C z o r al;have a:=aq r;have B:=aq v;have an:=a.lo.2.2.2;clear r v;go_in;go_wp2_with fail;refine du (Sq.take a J) λe a=>?_;have a:=Sq.lit1 (xs:=[Br (E.tk i).x]) (t:=9) (Sq.box (cs:=pH 1 (E.tk i)) (t:=46) a);go_wp2_with fail;go_loopg [4] ns.length (λgk L wr=>∃(k:Nat) (D g:List ByteArray) (c:Option Addr) (n d y:Nat),L= Z c n d/\gk=g.length/\A9 (GG E.tk E.n k g j/\Sq E C z o wr k o .nil [] [(e.heap.size,46,pH 1 (E.tk y))] [(9,Z c n d,D.map B1)]/\D++g=(E.tk i).x::ns/\i+2*D.length=k+1))
 case atStart=>exact⟨i+1,[(E.tk i).x],ns,_,1,1,i,rfl,rfl,B,a,rfl,by simp⟩
 case round=>
  clear a;obtain⟨b,D,g,c,n,d,y,rfl,I,m⟩:=hrel;obtain⟨H,a,s,af⟩:=m.out;have u:=aq s;clear s m;cases H with
  |stop h p=>
   go_wp2_with fail;refine du (Sq.isN a h p) λe a=>?_;go_wp2_with fail;go_ret;obtain rfl:D=(E.tk i).x::ns:=by simpa using u.out
   exact⟨Z c n d,_,_,_,rfl,⟨c,d,by rw[<-Sq.rn a,bi];rfl,rfl,rfl⟩,Sq.fin a⟩
  |@go _ _ w h p G q=>
   have A:=aq q;have K:n<=50000000:=by have:=Sq.rn a;rw[bi]at this;omega
   clear q;go_wp2_with fail;refine du (Sq.isY a h (by omega)) λe a=>?_;go_wp2_with fail;refine du (Sq.take a G) λe a=>?_;have ar:=Sq.rd a;obtain⟨ap,ao,a⟩:=Sq.six a (iv 1) (iv (E.tk (b+1)).f) (iv (E.tk (b+1)).t) (iv (E.tk (b+1)).l) (iv (E.tk (b+1)).n) (Br (E.tk (b+1)).x);have au:=Sq.rd a;go_wp2_with (at_builtin;refine Sq.apG tS a K rfl rfl _ _ rfl rfl rfl rfl ?_;intro ad F e a);go_roundg w.length
   case measure=>simp at I;omega
   case rel=>exact⟨b+2,D++[(E.tk (b+1)).x],w,_,n+1,F,b+1,rfl,rfl,A,by rw[dK];exact a,by rw[cg];exact u,by simp;omega⟩
def agj{d:Fo}(o:(E.tk i).k=42)(a1:i<E.n)(z:Es E (CI E 238 #[pV E]) m (i+1) d j)(y:(E.tk j).k=43)(a2:j+1<E.n):CU E i (one (jm 35 (E.tk i) (E.tk j).t) d) (j+1):=by
 intro I B e w af;have a:=aq w;have F:=aq z;clear w z;go_in;go_wp2_with fail;refine du (Sq.kind a o) λc a=>?_;go_wp2_with fail;refine du (Sq.kind a o) λc a=>?_;go_wp2_with fail;refine du (Sq.take a o) λc a=>?_;go_wp2_with fail;refine ft (amy (b:=B4) (by decide) _) ?_;go_wp2_with fail;refine du (Sq.node (Sq.box a)) λc a=>?_;go_wp2_with fail;rw[di]at af;go_loopg [10] m (λgk a4 wr=>∃(k:Nat) (D f:Fo) (g:Option Addr) (n h:Nat) (G:List Mb) (p:List Int),A9 (Es E (CI E 238 #[pV E]) gk k f j/\Sq E I B e wr k G D p [(c.heap.size,62,ndA 35 0 0 ⟨#[]⟩ (E.tk i) s0 (Z g n h))] [(3,Z g n h,p.map iv)]/\D.app f=d))
 case atStart=>exact⟨i+1,.nil,d,O,0,0,e,[],F,Sq.nil (Sq.drop1 (Sq.box a)),rfl⟩
 case round=>
  clear a;obtain⟨an,D,f,g,n,h,r,p,q⟩:=hrel;obtain⟨ad,a,l⟩:=q.out;have al:=szL l (show e.length+d.sz<=49999999 by omega);have x:=aq l;clear l q;cases ad
  case stop s K=>
   go_wp2_with fail;refine du (Sq.kind a y) λc a=>?_;go_wp2_with fail;refine du (Sq.take a y) λc a=>?_;have A:=Sq.rd a;go_wp2_with fail;refine(Sq.add a (.inl ⟨rfl,rfl⟩) (.inr (.head _)) (by have:=Sq.ln a;omega)).mono ?_;rintro ar c ⟨ap,rfl,r,a⟩;go_wp2_with fail;go_ret;obtain rfl:D=d:=by rw[<-x.out,Fo.app_nil]
   exact⟨_,_,_,_,rfl,⟨_,rfl,rfl,rfl⟩,Sq.fin a⟩
  all_goals
   rename_i ao a3 a5 H u ax _ s K L v;rw[Fo.sz_app]at al;have C:=aq v;clear v;have a0:((E.tk an).k !=43)=Ck:=by simp[s]
   go_wp2_with fail;refine du (Sq.kind a rfl) λc a=>?_;go_wp2_with fail;refine Sq.cq a L (by have:=Sq.ln a;omega) ?_;rintro c _ r _ _ ⟨ap,rfl,rfl,rfl⟩ a;have ak:=Sq.ln a;rw[Fo.sz_app]at ak;have A:=Sq.rd a;go_wp2_with (at_builtin;refine Sq.app a (by omega) rfl _ _ rfl rfl rfl rfl ?_;intro au J c a;have A:=Sq.rd a);first
    |refine du (Sq.isY (Sq.set a) u) λc a=>?_
    |refine du (Sq.isN (Sq.set a) u) λc a=>?_
   go_wp2_with fail;go_roundg ao
   case measure=>omega
   case rel=>exact⟨_,_,H,_,n+1,J,_,_,C,a,by rw[Fo.app_app];exact x⟩
end
