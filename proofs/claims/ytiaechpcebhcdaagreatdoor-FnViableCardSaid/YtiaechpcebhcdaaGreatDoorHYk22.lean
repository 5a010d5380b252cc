import Derived.Test.YtiaechpcebhcdaaGreatDoorHYk03
import Derived.Test.YtiaechpcebhcdaaGreatDoorHYk04
import Derived.Test.YtiaechpcebhcdaaGreatDoorHYk07
set_option linter.all false
set_option maxRecDepth 100000
set_option maxHeartbeats 12800000
open List renaming length->M,set->Ce
open Go.Value renaming slice->V,int->Y,string->Br,int->B2,string->B4,pointer->B7,ownBlock->Ck
open Go.IntKind renaming i64->X
open Option renaming some->Ax,none->A0
open Go.Obj renaming cells->A2
open Go.Proofs.Tryz renaming prog->A3
open Go renaming Value->A5,TypeId->B3,World->B5,Calls->B6
open Bool renaming false->A6,true->B1
open Go.Ending renaming returned->A9
open Go.RowKit renaming Below->B0,intOf->C2
namespace Go.Proofs.YtiaechpcebhcdaaGreatDoor
open Go.RowKit Go.Maps Go.WideMaps
variable{L:List Nd}{N:Nd}{a:Act}{ak:Option Addr}{c:Cr}{d g k m me s z:Int}{f:FuncId}{ks:List Int}{n:Nat}{o:Oper}{ops:Array Oper}{t:Bz}
def vw(c:Int):Bool:=aJ c||aC c
theorem fh(a b:Bz)(i:Nat):ae (a++b) i=if i<a.size then ae a i else ae b (i-a.size):=by
 have d:(a++b).data.toList=a.data.toList++b.data.toList:=byS;have f:M a.data.toList=a.size:=mJ;rw[uh,d];split<;>rename_i e
 all_goals
  by_cases c:i<a.size
  .rw[ab c,uh];grind
  .rw[aa c,uh];grind
theorem EC(s:Bz)(n i:Nat)(hn:n<=s.size)(b:i<n):ae (s.extract 0 n) i=ae s i:=by
 rw[uh,uh];have a:(s.extract 0 n).data.toList=(s.data.toList.drop 0).take (n-0):=byS;grind
theorem Dm(a:Bz):a++(⟨#[]⟩:Bz)=a:=by apply mq;simp_all
def aee(a:Bz):(⟨#[]⟩:Bz)++a=a:=by rfl
def opn(k:Int):Bool:=decide (k=46\/k=47\/k=40\/k=44\/k=10\/k=25\/60<k)
def so(q:Nat)(c:Int):Nat:=if c=9/\q=3 then 0 else if c=32\/c=9\/c=13\/(vw c=B1/\(q=1\/(q=2/\aC c=A6))) then 2 else if aC c=B1 then 32 else 12
def wm(q:Nat)(c:Int):Nat:=if c=10\/(c=9/\q=3) then 3 else if vw c=A6 then 0 else if q=1\/c≠48 then 1 else 2
def pz:Nat->List Int->Nat
 |_,[]=>0
 |q,c::l=>so q c+pz (wm q c) l
def stL:Nat->List Int->Nat
 |q,[]=>q
 |q,c::l=>stL (wm q c) l
def aef:∀(q:Nat)(a b:List Int),pz q (a++b)=pz q a+pz (stL q a) b
 |q,[],b=>by simp[pz,stL]
 |q,c::a,b=>by simp only[dt,pz,stL,aef (wm q c) a b];omega
def aeg:∀(q:Nat)(a b:List Int),stL q (a++b)=stL (stL q a) b
 |q,[],b=>rfl
 |q,c::a,b=>by simp only[dt,stL,aeg (wm q c) a b]
theorem anL:∀l:List Int,pz 1 l<=pz 2 l/\pz 2 l<=pz 0 l/\pz 3 l<=pz 0 l
 |[]=>by simp[pz]
 |c::l=>by
  have d:=anL l;have b:vw c=A6->aC c=A6:=by unfold vw;simp
  have a:vw 9=A6/\vw 10=A6/\vw 32=A6/\vw 13=A6:=Z;simp only[pz,so,wm];grind
def att(q:Nat)(l:List Int):pz q l<=pz 0 l:=by
 have:=anL l
 match q with
 |0|1|2|3=>omega
 |n+4=>cases l<;>simp[pz,so,wm]
def aeh(a b:List Int):pz 0 (a++b)<=pz 0 a+pz 0 b:=by have:=att (stL 0 a) b;rw[aef];omega
structure Cs (x:Bz) (n:Nat):Prop where
 out:pz 0 (fK x)<=n
theorem yE(a b:Bz):fK (a++b)=fK a++fK b:=by unfold fK;simp_all
section
variable {x y : Bz} {m n : Nat}
def Cs.app(h:Cs x m)(g:Cs y n):Cs (x++y) (m+n):=⟨by have:=aeh (fK x) (fK y);have:=h.out;have:=g.out;rw[yE];omega⟩
def Cs.le(h:Cs x m)(a:m<=n):Cs x n:=⟨aK h.out a⟩
end
def sr{x:Bz}(h:pz 0 (fK x)<=n:=by decide):Cs x n:=⟨h⟩
def ED:Cs ⟨#[]⟩ 0:=sr
theorem EE{c:Int}(h:vw c=B1):(97<=c/\c<=122)\/(65<=c/\c<=90)\/c=95\/(48<=c/\c<=57):=by
 unfold vw aJ aC at h;grind
theorem Jn:∀(l:List Int),(∀c∈l,vw c=B1)->pz 1 l=2*M l
 |[],_=>rfl
 |c::l,h=>by
  have a:=h c bH;have:=EE a;have:=Jn l (λd b=>h d (dC _ b));simp only[pz,so,wm,db];grind
theorem apf{c:Int}{l:List Int}(b:49<=c/\c<=57)(a:∀c∈l,vw c=B1):pz 0 (c::l)=32+2*M l:=by
 have:=Jn l a;have d:aC c=B1:=by simp[aC];omega
 simp only[pz,so,wm];grind [vw]
theorem agd{l:List Int}(b:vw d=B1)(f:d≠48)(e:∀c∈l,vw c=B1):pz 0 (48::d::l)<=64+2*M l:=by
 have:=Jn l e;have:=EE b;have a:so 0 48=32/\wm 0 48=2:=Z;simp only[pz,a.1,a.2];simp only[so,wm];grind
def apg:∀c:Fin 256,pz 0 (esc (c.val:Int))<=32:=by decide+kernel
theorem aei:∀l:List UInt8,pz 0 (l.flatMap λb=>esc (b.toNat:Int))<=32*M l
 |[]=>iz _
 |b::l=>by
  have a:pz 0 (esc (b.toNat:Int))<=32:=apg ⟨b.toNat,b.toNat_lt⟩;have c:=aei l;have:=aeh (esc (b.toNat:Int)) (l.flatMap λb=>esc (b.toNat:Int));grind
theorem Hk(s:Bz):fK (gL (jl s))=jl s:=by
 unfold fK;rw[GF,List.map_map];have:∀a∈jl s,((λb:UInt8=>(b.toNat:Int)) ∘ λd:Int=>UInt8.ofNat d.toNat) a=a:=λa c=>by
  have:=aho s a c;simp only[Function.comp];rw[UInt8.toNat_ofNat_of_lt' U];omega
 rw[List.map_congr_left this,List.map_id']
def aiv(l:List Int):pz 0 ([34]++l++[34])<=24+pz 0 l:=by
 have:=aeh ([34]++l) [34];have:=aeh [34] l;have:pz 0 [34]=12:=Z;omega
theorem aph(s:Bz):Cs (gL (jl s)) (24+32*s.size):=⟨by
 rw[Hk];unfold jl qt;have b:=aei (s.data.toList.take s.size);have c:M (s.data.toList.take s.size)<=s.size:=List.length_take_le _ _;have:=aiv ((s.data.toList.take s.size).flatMap λa=>esc (a.toNat:Int));grind⟩
theorem aej{s:Bz}(g:∀i,i<s.size->aC (ae s i)=B1):((s.data.toList.take s.size).flatMap λb=>esc (b.toNat:Int))=s.data.toList.map (λb=>(b.toNat:Int))/\∀b∈s.data.toList,aC (b.toNat:Int)=B1:=by
 have a:∀b∈s.data.toList,aC (b.toNat:Int)=B1:=λb c=>by
  obtain⟨i,e,rfl⟩:=jd c;have:=(gH s i s.data.toList[i]).1 (bi e);grind
 refine⟨?_,a⟩;rw[dH byS];revert a;generalize s.data.toList=d;intro f
 induction d with
 |nil=>rfl
 |cons b d h=>
  have c:=iq (f b bH);have:esc (b.toNat:Int)=[(b.toNat:Int)]:=by unfold esc;grind
  grind
theorem api(s:Bz)(q:2<=s.size)(o:∀i,i<s.size->aC (ae s i)=B1)(g:ae s 0=48)(h:ae s 1=49):Cs (gL (jl s)) (90+2*s.size):=⟨by
 rw[Hk];have⟨j,e⟩:=aej o;unfold jl qt;rw[j];have c:M s.data.toList=s.size:=mJ
 match hs:s.data.toList,c,e with
 |[],c,_=>grind
 |[_],c,_=>grind
 |a::b::f,c,e=>
  have k:=((gH s 0 a).1 U).2;have m:=((gH s 1 b).1 U).2;rw[g]at k;rw[h]at m;have t:=agd (d:=49) (l:=f.map λb=>(b.toNat:Int)) Z Z (λp n=>by
   obtain⟨u,r,rfl⟩:=List.mem_map.1 n;unfold vw;grind)
  have:=aiv (48::49::f.map λb=>(b.toNat:Int));grind⟩
theorem amd(s:Bz):(gL (jl s)).size<=2+4*s.size:=by
 have:=Ix s s.size cJ;rw[xk];unfold jl;grind
theorem ame(s:Bz)(a:∀i,i<s.size->aC (ae s i)=B1):(gL (jl s)).size=2+s.size:=by
 have⟨b,_⟩:=aej a;have c:M s.data.toList=s.size:=mJ;rw[xk];unfold jl qt;grind
structure Shr (s:Bz):Prop where
 sz:s.size<=3
 cs:Cs s 26
structure Lng (s:Bz):Prop where
 lo:20<=s.size
 hi:s.size<=4001
 dg:∀i,i<s.size->aC (ae s i)=B1
 b0:ae s 0=48
 b1:ae s 1=49
def Sml(s:Bz):Prop:=s.size<=19/\Cs (gL (jl s)) 190
def Hl:Nat->Bz
 |0=>⟨#[48,49,50,51,52,53,54,55,56,57]⟩
 |n+1=>Hl n++Hl n
def Ah:∀n,(Hl n).size=10*2 ^ n
 |0=>rfl
 |n+1=>by rw[Hl,ax,Ah n,Nat.pow_succ];omega
def apj(h:n<=8):(Hl n).size<=2560:=by
 have:=Nat.pow_le_pow_right (n:=2) Z h;rw[Ah];omega
structure DgT (t:Bz):Prop where
 dg:∀i,i<t.size->aC (ae t i)=B1
 b0:ae t 0=48
 b1:ae t 1=49
def dgt:∀n,DgT (Hl n)
 |0=>⟨λi a=>by
  have:i<10:=a
  iterate 10 (obtain _|i:=i;· decide)
  omega,Z,Z⟩
 |n+1=>by
  have h:=dgt n;have b:=aF h.b0;have c:=aF h.b1;rw[Hl];refine⟨λi a=>?_,by rw[fh,ab b];exact h.b0,by rw[fh,ab c];exact h.b1⟩;rw[ax]at a;rw[fh];split
  .exact h.dg i O
  .exact h.dg _ O
theorem DgT.lng(h:DgT t)(b:20<=n)(c:n<=4001)(h3:n<=t.size):Lng (t.extract 0 n):=by
 have e:(t.extract 0 n).size=n:=byS;refine⟨O,O,λa d=>?_,by rw[EC t n 0 h3 O];exact h.b0,by rw[EC t n 1 h3 O];exact h.b1⟩;rw[EC t n a h3 O];exact h.dg a O
section
variable {C : Cd} {E : Bs} {w w' W : World} {c c1 c2 c3 : Cr} {z k y n : Int}
def Cw.set3(a:Cw C E W w c)(r:Int):Cw C E W (w.setCell ⟨E.cb,3,A0⟩ (Y X r)) ⟨c.p,c.q,r⟩:=
 have b:=AC (rq w E.cb) 3 (Y X r)
 ⟨a.cu.grown b (aI _ E.cb 3 _ _ _ a.cu.cur),Ky a.gr b⟩
def Dn(d:Rc C 29 [Y X 6] c (Y X z) c1)(e:Rc C 29 [Y X k] c1 (Y X y) c2)(h:(z=0/\k=3/\IntKind.i64.wrap (9223372036854775807-y)=n)\/(z=1/\k=3/\IntKind.i64.wrap (-9223372036854775808+y)=n)\/(z=2/\k=70000/\IntKind.i64.wrap (y-35000)=n)\/((z==0)=A6/\(z==1)=A6/\(z==2)=A6/\k=12/\IntKind.i64.wrap (y-3)=n)):Rc C 66 [] c (Y X n) c2:=by
 intro j p i;have f:=i.cw;rcases h with⟨rfl,rfl,a⟩|⟨rfl,rfl,a⟩|⟨rfl,rfl,a⟩|⟨l,m,o,rfl,a⟩;all_goals
  go_in;go_wp2_with fail;refine f.run d λw1 g _=>?_;go_wp2_with fail;refine g.run e λq b _=>?_;go_wp2;go_ret;exact⟨rfl,b.cu,b.gr⟩
theorem aek(C:Cd)(c:Cr)(l:0<=c.p)(m:c.p<=800000000):∃n c',(-9223372036854775808<=n/\n<=9223372036854775807)/\(c.p<=c'.p/\c'.p<=c.p+3/\c'.r=c.r)/\Rc C 66 [] c (Y X n) c':=by
 have⟨f,h,o,k,g⟩:=gi C c 6;rcases((O:f=0\/f=1\/f=2\/(f≠0/\f≠1/\f≠2))) with d|d|d|d
 .obtain⟨e,b,j,i,a⟩:=gi C h 3;exact⟨9223372036854775807-e,b,O,O,Dn g a (.inl ⟨d,rfl,by rw[bJ];omega⟩)⟩
 .obtain⟨e,b,j,i,a⟩:=gi C h 3;exact⟨-9223372036854775808+e,b,O,O,Dn g a (.inr (.inl ⟨d,rfl,by rw[bJ];omega⟩))⟩
 .obtain⟨e,b,j,i,a⟩:=anE C h 70000 Z Z O O;exact⟨e-35000,b,O,O,Dn g a (.inr (.inr (.inl ⟨d,rfl,by rw[bJ];omega⟩)))⟩
 .obtain⟨e,b,j,i,a⟩:=gi C h 12;exact⟨e-3,b,O,O,Dn g a (.inr (.inr (.inr ⟨U,U,U,rfl,by rw[bJ];omega⟩)))⟩
theorem aiw(s:Rc C 29 [Y X 6] c (Y X 3) c1)(t:Rc C 29 [Y X 20] c1 (Y X 0) c2)(ao:c2.r<3)(ap:0<=c2.r)(u:Rc C 29 [Y X 3] ⟨c2.p,c2.q,c2.r+1⟩ (Y X z) c3)(l:0<=z/\z<3):Rc C 69 [] c (Br ((Hl 9).extract 0 (3999+z.toNat))) c3:=by
 intro af av E;have v:=E.cw;have B:(Hl 9).size=5120:=by rfl
 go_in;go_wp2_with fail;refine v.run s λw1 w _=>?_;go_wp2_with fail;refine w.run t λaL g _=>?_;have al:=g.cu.cells;have ar:IntKind.i64.wrap (c2.r+1)=c2.r+1:=by rw[bJ];omega
 have x:=aj (g.set3 (c2.r+1));go_wp2;go_loop [3] (λf=>∃a:Nat,a<=9/\f= Br (Hl a)) (λf=>6000-arn f)
 case atStart=>exact⟨0,Z,rfl⟩
 case round=>
  obtain⟨a,an,rfl⟩:=hrel;by_cases A:a<=8
  .have K:=apj A;have H:10<=(Hl a).size:=by rw[Ah];grind
   have e:((Hl a).size:Int)<4000:=O;have i:Hl (a+1)=Hl a++Hl a:=rfl;generalize Hl a=b at K H e i;have am:=aj i;go_wp2;go_round
   case rel=>grind
   case measure=>show 6000-(b++b).size<6000-b.size;grind
  .obtain rfl:a=9:=O;have e:¬((Hl 9).size:Int)<4000:=O;have m:Hid (∀b d,b=Hl 9->d=3999+z.toNat->B4 (b.extract 0 d)= Br ((Hl 9).extract 0 (3999+z.toNat))):=λb d y ak=>U;have⟨b,k⟩:=aw (Hl 9);have o:=aj k;rw[k]at B e⊢;have L:∀z:Int,0<=z->z<3->IntKind.i64.wrap (3999+z)=((3999+z.toNat:Nat):Int):=λz ag y=>by rw[bJ];omega
   have ad:=L z l.1 l.2;have F:(((3999+z.toNat:Nat):Int))<=(b.size:Int):=O;have G:(0:Int)<=((3999+z.toNat:Nat):Int):=O;have⟨d,j⟩:=aw (3999+z.toNat);have n:=aj j;rw[j]at ad F G;go_wp2_with fail;refine x.out.run u λa0 h _=>?_;go_wp2;go_ret;exact⟨congrArg Ending.returned (m.out b d o.out.symm n.out.symm),h.cu,h.gr⟩
def aam{s:Bz}(b:Rc C 29 [Y X 6] c (Y X z) c1)(h:(z=0/\s=⟨#[]⟩/\c2=c1)\/(z=2/\s=⟨#[97,34,98,92,99,10,100,9,101]⟩/\c2=c1)\/((z=4\/z=5)/\s=⟨#[116,101,120,116]⟩/\c2=c1)\/(z=3/\s=⟨#[116,101,120,116]⟩/\∃y,Rc C 29 [Y X 20] c1 (Y X y) c2/\((y==0)=A6\/(y=0/\¬c2.r<3)))):Rc C 69 [] c (Br s) c2:=by
 intro j l i;have d:=i.cw;rcases h with⟨rfl,rfl,rfl⟩|⟨rfl,rfl,rfl⟩|⟨rfl|rfl,rfl,rfl⟩|⟨rfl,rfl,y,g,h⟩
 case inr.inr.inr=>
  rcases h with h|⟨rfl,h⟩;all_goals
   go_in;go_wp2_with fail;refine d.run b λw1 a _=>?_;go_wp2_with fail;refine a.run g λm e _=>?_;have k:=e.cu.cells;have f:=aj e;go_wp2;go_ret;exact⟨rfl,f.out.cu,f.out.gr⟩
 all_goals
  go_in;go_wp2_with fail;refine d.run b λw1 a _=>?_;go_wp2;go_ret;exact⟨rfl,a.cu,a.gr⟩
def ar0{s:Bz}(b:Rc C 29 [Y X 6] c (Y X 1) c1)(d:Rc C 29 [Y X 6] c1 (Y X y) c2)(e:Rc C 31 [Y X y] c2 (Br s) c3):Rc C 69 [] c (Br s) c3:=by
 intro j k i;have f:=i.cw;go_in;go_wp2_with fail;refine f.run b λw1 g _=>?_;go_wp2_with fail;refine g.run d λl h _=>?_;go_wp2_with fail;refine h.run e λm a _=>?_;go_wp2;go_ret;exact⟨rfl,a.cu,a.gr⟩
theorem an0(C:Cd)(c:Cr)(x:0<=c.p)(y:c.p<=800000000)(z:0<=c.r):∃s c',((Sml s/\c'.r=c.r)\/(Lng s/\c.r<3/\c'.r=c.r+1))/\(c.p<=c'.p/\c'.p<=c.p+110)/\Rc C 69 [] c (Br s) c':=by
 have⟨e,g,B,k,b⟩:=gi C c 6;rcases((O:e=0\/e=1\/e=2\/e=3\/(e=4\/e=5))) with d|d|d|d|d
 .exact⟨_,g,.inl ⟨⟨Z,sr⟩,k.2⟩,O,aam b (.inl ⟨d,rfl,rfl⟩)⟩
 .subst d;have⟨i,a,n,t,f⟩:=gi C g 6;obtain⟨v,rfl⟩:=eJ n.1;have⟨s,h,A,l,j⟩:=Iz C a v O O O;exact⟨s,h,.inl ⟨⟨O,(aph s).le O⟩,O⟩,O,ar0 b f j⟩
 .exact⟨_,g,.inl ⟨⟨Z,sr⟩,k.2⟩,O,aam b (.inr (.inl ⟨d,rfl,rfl⟩))⟩
 .obtain⟨i,a,n,t,f⟩:=gi C g 20;by_cases o:i=0
  .by_cases m:a.r<3
   .subst d o;obtain⟨E,h,u,l,j⟩:=gi C ⟨a.p,a.q,a.r+1⟩ 3 Z Z U U;have w:h.p=a.p+1/\h.r=a.r+1:=l;exact⟨_,h,.inr ⟨(dgt 9).lng O O (by rw[Ah];omega),O,O⟩,O,aiw b f m O j u⟩
   .exact⟨_,a,.inl ⟨⟨Z,sr⟩,O⟩,O,aam b (.inr (.inr (.inr ⟨d,rfl,i,f,.inr ⟨o,m⟩⟩)))⟩
  .exact⟨_,a,.inl ⟨⟨Z,sr⟩,O⟩,O,aam b (.inr (.inr (.inr ⟨d,rfl,i,f,.inl U⟩)))⟩
 .exact⟨_,g,.inl ⟨⟨Z,sr⟩,k.2⟩,O,aam b (.inr (.inr (.inl ⟨d,rfl,rfl⟩)))⟩
end
abbrev bV(E:Bs):A5:= B7 (Ax ⟨E.bb,0,A0⟩)
def Txt(k:Int)(t:Bz):Prop:=(k≠25/\t.size<=19/\Cs t 130)\/(k=25/\(Sml t\/(Lng t/\t.size<=4000)))
def Txt.size(h:Txt k t):t.size<=4000:=by
 rcases h with⟨_,h,_⟩|⟨_,h|⟨_,h⟩⟩
 .omega
 .have:=h.1;omega
 omega
def lC(h:k≠25:=by first|decide|omega):Txt k ⟨#[]⟩:= .inl ⟨h,Z,ED.le Z⟩
def aix{s:Bz}(h:k≠25)(a:Shr s):Txt k s:=by
 by_cases b:s.size<=19
 .exact .inl ⟨h,b,a.cs.le Z⟩
 .have:=a.sz;omega
structure Do (N:Nd):Prop where
 nm:M N.nm<=3
 ks:M N.ks<=64
 x:Txt N.k N.x
 s:∀s∈N.nm,Shr s
 int:ahm N
def bgN(N:Nd):Nat:=if 19<N.x.size then 1 else 0
def bigs(L:List Nd):Nat:=(L.map bgN).sum
def aiy(L a:List Nd):bigs (L++a)=bigs L+bigs a:=by unfold bigs;simp
abbrev TO(t:B3):Prop:=t≠100/\t≠184/\t≠38
def toS:TO 9:=Z
def toI:TO 3:=Z
structure Rwx where
 t:B3
 v:A5
 xs:List A5
abbrev rS(v:A5)(l:List Bz):Rwx:=⟨9,v,l.map B4⟩
abbrev rI(v:A5)(l:List Int):Rwx:=⟨3,v,l.map (B2 X)⟩
def bR(R:List Rwx):List Nat:=R.flatMap λr=>r.v.ownBlock.toList
def bL(L:List Mb):List Nat:=L.flatMap λy=>y.vn.ownBlock.toList++y.vk.ownBlock.toList
structure Bd (C:Cd) (T:Int) (E:Bs) (W:B5) (c:Cr) (L:List Mb) (R:List Rwx):Prop where
 cu:Cu C E W c
 bb:E.base<=E.bb
 row:∃v,W.heap[E.bb]?=Ax (.cells #[cV E,v,.int .i64 (T-M L)] 184 (0,0))/\W.ownsRow E.base 100 9 v (M L) (oa L)
 each:∀y∈L,W.ownsRow E.base 9 1 y.vn (M y.N.nm) (y.N.nm.map B4)/\W.ownsRow E.base 3 1 y.vk (M y.N.ks) (y.N.ks.map (B2 .i64))
 rows:∀r∈R,TO r.t/\W.ownsRow E.base r.t 1 r.v (M r.xs) r.xs
 sep:(bR R++bL L).Nodup
section
variable {C : Cd} {T : Int} {E : Bs} {W W' : World} {c c' : Cr} {L : List Mb} {R : List Rwx} {r : Rwx}
theorem Bd.lt(h:Bd C T E W c L R):E.cb<W.heap.size/\E.bb<W.heap.size/\E.base<=W.heap.size/\E.cb≠E.bb:=by
 have⟨e,a,_⟩:=h.row;have d:=h.cu.cur;refine⟨h.cu.lt,ah a,h.cu.lo.2,λb=>?_⟩;grind
def Bd.below(h:Bd C T E W c L R)(a:B0 W.heap.size W W'):Bd C T E W' c L R:=by
 have⟨g,e,f⟩:=h.row;exact⟨h.cu.below a,h.bb,⟨g,(a.block _ h.lt.2.1).trans e,bz f a⟩,λd b=>⟨bz (h.each d b).1 a,bz (h.each d b).2 a⟩,λd b=>⟨(h.rows d b).1,bz (h.rows d b).2 a⟩,h.sep⟩
def Bd.ltR(h:Bd C T E W c L R):∀b∈bR R++bL L,b<W.heap.size:=by
 intro b hb;rcases List.mem_append.1 hb with hb|hb
 .obtain⟨d,a,e⟩:=List.mem_flatMap.1 hb;exact((h.rows d a).2.lt b (Option.mem_toList.1 e)).2
 .obtain⟨d,a,e⟩:=List.mem_flatMap.1 hb;rcases List.mem_append.1 e with e|e
  .exact((h.each d a).1.lt b (Option.mem_toList.1 e)).2
  .exact((h.each d a).2.lt b (Option.mem_toList.1 e)).2
def Bd.went(h:Bd C T E W c L R)(f:W.grownBy W' (Ax E.cb))(p:Cu C E W' c'):Bd C T E W' c' L R:=by
 have g:=h.lt;have⟨r,n,o⟩:=h.row;have e:∀{d k i:Nat}{l:A5}{m:List A5},W.ownsRow E.base d k l i m->d≠38->W'.ownsRow E.base d k l i m:=λj q=>j.kept f (.inr (gy j h.cu.cur (dy q)));exact⟨p,h.bb,⟨r,(f.block _ g.2.1 (λd=>g.2.2.2 (cC d).symm)).trans n,e o Z⟩,λb a=>⟨e (h.each b a).1 Z,e (h.each b a).2 Z⟩,λb a=>⟨(h.rows b a).1,e (h.rows b a).2 (h.rows b a).1.2.2⟩,h.sep⟩
theorem Bd.hot{r':Rwx}(h:Bd C T E W c L (r::R))(l:W.grownBy W' r.v.ownBlock)(ht:TO r'.t)(am:W'.ownsRow E.base r'.t 1 r'.v (M r'.xs) r'.xs)(G:∀b,r'.v.ownBlock=Ax b->r.v.ownBlock=Ax b\/W.heap.size<=b):Bd C T E W' c L (r'::R)/\B0 E.base W W':=by
 have H:=h.lt;have⟨v,F,u⟩:=h.row;have i:=h.rows r bH;have o:TO r.t:=i.1;have d:B0 E.base W W':=(ai _ W).grown l H.2.2.1 (λj f=>(i.2.lt j f).1);have x:=h.sep;have z:bR (r::R)=r.v.ownBlock.toList++bR R:=rfl;rw[z,eB,rl]at x;obtain⟨an,ad,af⟩:=x;have n:∀b∈bR R++bL L,r.v.ownBlock≠Ax b:=λb d a=>af b (Option.mem_toList.2 a) b d rfl;have k:∀{a size m:Nat}{g:A5}{xs:List A5},W.ownsRow E.base a size g m xs->(∀b,g.ownBlock=Ax b->r.v.ownBlock≠Ax b)->W'.ownsRow E.base a size g m xs:=λ{a size m g xs} K al=>by
  refine K.kept l ?_;cases hu:g.ownBlock with
  |none=>grind
  |some b=>grind
 have y:∀{j:Nat}{p:Array A5}{t:B3}{s:Nat×Nat},W.heap[j]?=Ax (A2 p t s)->t≠r.t->W'.heap[j]?=Ax (A2 p t s):=λf ht=>(l.block _ (ah f) (λa=>gy i.2 f ht a.symm)).trans f;refine⟨⟨⟨⟨h.cu.lo.1,aK h.cu.lo.2 d.size⟩,h.cu.code.below d,y h.cu.cur (dy o.2.2)⟩,h.bb,⟨v,y F (dy o.2.1),k u (λb a A=>?_)⟩,λe hz=>⟨k (h.each e hz).1 (λb a=>n b (List.mem_append.2 (.inr (List.mem_flatMap.2 ⟨e,hz,List.mem_append.2 (.inl (Option.mem_toList.2 a))⟩)))),k (h.each e hz).2 (λb a=>n b (List.mem_append.2 (.inr (List.mem_flatMap.2 ⟨e,hz,List.mem_append.2 (.inr (Option.mem_toList.2 a))⟩))))⟩,λe hz=>?_,?_⟩,d⟩
 .rcases u.2 with⟨q,_⟩|⟨B,ag,ak,q,_,w,_⟩
  .rw[q]at a;simp[Ck]at a
  .rw[q]at a;obtain rfl:B=b:=by simpa [Ck] using a
   exact gy i.2 w (dy o.1) A
 .rcases List.mem_cons.1 hz with rfl|hz
  .grind
  .have:=h.rows e (dC _ hz);exact⟨this.1,k this.2 (λb a=>n b (List.mem_append.2 (.inl (List.mem_flatMap.2 ⟨e,hz,Option.mem_toList.2 a⟩))))⟩
 .show(r'.v.ownBlock.toList++bR R++bL L).Nodup;rw[eB,rl];refine⟨?_,ad,λb d c w a=>?_⟩
  .grind
  .subst a;rcases G b (Option.mem_toList.1 d) with q|q
   .grind
   .have:=h.ltR b U;omega
theorem Bd.new(h:Bd C T E W c L R){t:B3}(ht:TO t)(cs:Array A5)(r':Rwx)(j:r'.t=t)(k:(W.alloc (A2 cs t)).ownsRow E.base t 1 r'.v (M r'.xs) r'.xs)(d:r'.v.ownBlock=Ax W.heap.size):Bd C T E (W.alloc (A2 cs t)) c L (r'::R):=by
 have a:=h.below (de W (A2 cs t));refine⟨a.cu,a.bb,a.row,a.each,λg hz=>?_,?_⟩
 .rcases List.mem_cons.1 hz with rfl|hz
  .grind
  .exact a.rows g hz
 .show(r'.v.ownBlock.toList++bR R++bL L).Nodup;rw[eB,rl];refine⟨U,h.sep,λb e c f i=>?_⟩;rw[d]at e;have:b=W.heap.size:=U;have:=h.ltR c f;omega
theorem Bd.newI(h:Bd C T E W c L R)(ks:List Int)(a:M ks<=100):Bd C T E (W.alloc (A2 (ks.map (B2 X)).toArray 3)) c L (rI (V (Ax ⟨W.heap.size,0,A0⟩) (M ks) (M ks)) ks::R):=by
 refine h.new toI _ _ rfl ?_ rfl;have:=qL (base:=E.base) (e:=3) (size:=1) W (ks.map (B2 X)).toArray (M ks) h.lt.2.2.1 py I;grind
def Bd.nil(h:Bd C T E W c L R){t:B3}(ht:TO t):Bd C T E W c L (⟨t,V A0 0 0,[]⟩::R):=
 ⟨h.cu,h.bb,h.row,h.each,λa hz=>by
  rcases List.mem_cons.1 hz with rfl|hz
  .exact⟨ht,dA _ _ _ _⟩
  .exact h.rows a hz,h.sep⟩
def Bd.drop(h:Bd C T E W c L (r::R)):Bd C T E W c L R:=by
 have a:=h.sep;have b:bR (r::R)=r.v.ownBlock.toList++bR R:=rfl;rw[b,eB,rl]at a;exact⟨h.cu,h.bb,h.row,h.each,λe d=>h.rows e (dC _ d),a.2.1⟩
theorem Bd.swap{a:Rwx}(h:Bd C T E W c L (r::a::R)):Bd C T E W c L (a::r::R):=by
 refine⟨h.cu,h.bb,h.row,h.each,λb g=>h.rows b ?_,?_⟩
 .grind
 .have f:=h.sep;have d:bR (r::a::R)=r.v.ownBlock.toList++(a.v.ownBlock.toList++bR R):=rfl;have e:bR (a::r::R)=a.v.ownBlock.toList++(r.v.ownBlock.toList++bR R):=rfl;grind
theorem Bd.c0(h:Bd C T E W c L R):W.cell? ⟨E.bb,0,A0⟩=Ax (cV E)/\W.cell? ⟨E.bb,2,A0⟩=Ax (Y X (T-M L)):=by
 have⟨f,a,d⟩:=h.row;have e:=λb=>au W E.bb b _ _ _ a;grind
def Bd.form{t:B3}{v:A5}{xs:List A5}(h:Bd C T E W c L (⟨t,v,xs⟩::R)):∃a c,v= V a (M xs) c:=cG (h.rows _ bH).2
def Bd.less(h:Bd C T E W c L R):Bd C (T-1) E (W.setCell ⟨E.bb,2,A0⟩ (Y X (T-M L-1))) c L R/\B0 E.base W (W.setCell ⟨E.bb,2,A0⟩ (Y X (T-M L-1))):=by
 have p:=h.lt;have⟨q,g,n⟩:=h.row;have f:B0 E.base W (W.setCell ⟨E.bb,2,A0⟩ (Y X (T-M L-1))):=(ai _ W).setCell h.bb _;have d:∀{e k i:Nat}{l:A5}{m:List A5},W.ownsRow E.base e k l i m->e≠184->(W.setCell ⟨E.bb,2,A0⟩ (Y X (T-M L-1))).ownsRow E.base e k l i m:=λj o=>uq j (gy j g (dy o)) 2 _;refine⟨⟨⟨⟨h.cu.lo.1,aK h.cu.lo.2 f.size⟩,h.cu.code.below f,(az _ _ _ _ p.2.2.2).trans h.cu.cur⟩,h.bb,⟨q,?_,d n Z⟩,λb a=>⟨d (h.each b a).1 Z,d (h.each b a).2 Z⟩,λb a=>⟨(h.rows b a).1,d (h.rows b a).2 (h.rows b a).1.2.1⟩,h.sep⟩,f⟩;rw[(O:T-1-(M L:Int)=T-M L-1)];exact aI _ E.bb 2 _ _ _ g
theorem Bd.push{vn vk:A5}(h:Bd C (T-1) E W c L (rS vn N.nm::rI vk N.ks::R)){v:A5}(ad:W.heap[E.bb]?=Ax (A2 #[cV E,v,Y X (T-M L-1)] 184 (0,0))){a:B5}{g r cap:Nat}(af:M L+1=r)(t:a.ownsRow E.base 100 9 (V (Ax ⟨g,0,A0⟩) r cap) r (oa (L++[⟨N,vn,vk⟩])))(f:W.grownBy a v.ownBlock):
  Bd C T E (a.setCell ⟨E.bb,1,A0⟩ (V (Ax ⟨g,0,A0⟩) r cap)) c (L++[⟨N,vn,vk⟩]) R/\B0 E.base W (a.setCell ⟨E.bb,1,A0⟩ (V (Ax ⟨g,0,A0⟩) r cap))/\a.heap[E.bb]?=Ax (A2 #[cV E,v,Y X (T-M L-1)] 184 (0,0)):=by
 subst af;have⟨ar,F,o⟩:=h.row;obtain rfl:ar=v:=U;have p:=h.lt;have j:∀{b:Nat}{m:Array A5}{l:B3}{n:Nat×Nat},W.heap[b]?=Ax (A2 m l n)->l≠100->a.heap[b]?=Ax (A2 m l n):=λd ag=>(f.block _ (ah d) (λe=>gy o d ag e.symm)).trans d;have k:=j ad Z;have ap:∀b,b≠E.bb->(a.setCell ⟨E.bb,1,A0⟩ (V (Ax ⟨g,0,A0⟩) (M L+1) cap)).heap[b]?=a.heap[b]?:=λb d=>az _ _ _ _ d;have q:∀{base e x s:Nat}{y:A5}{z:List A5},W.ownsRow base e x y s z->e≠100->e≠184->(a.setCell ⟨E.bb,1,A0⟩ (V (Ax ⟨g,0,A0⟩) (M L+1) cap)).ownsRow base e x y s z:=λu G H=>by
  refine uq ?_ ?_ 1 _
  .obtain⟨an,w⟩:=u;refine⟨an,?_⟩;rcases w with w|⟨g,cap,B,ak,f,K,ao⟩
   .grind
   .exact .inr ⟨g,cap,B,ak,f,j K G,ao⟩
  .exact gy u F (dy H)
 have i:B0 E.base W (a.setCell ⟨E.bb,1,A0⟩ (V (Ax ⟨g,0,A0⟩) (M L+1) cap)):=((ai _ W).grown f p.2.2.1 (λb d=>(o.lt b d).1)).setCell h.bb _;have on:=(h.rows _ bH).2;have am:=(h.rows _ (dC _ bH)).2;simp only[dr]at on am;refine⟨⟨⟨⟨h.cu.lo.1,aK h.cu.lo.2 i.size⟩,h.cu.code.below i,(ap _ p.2.2.2).trans (j h.cu.cur Z)⟩,h.bb,⟨V (Ax ⟨g,0,A0⟩) (M L+1) cap,?_,?_⟩,λA hy=>?_,λav al=>?_,?_⟩,i,k⟩
 .rw[aB,(U:T-((M L+M [(⟨N,vn,vk⟩:Mb)]:Nat):Int)=T-M L-1)];exact aI _ E.bb 1 _ _ _ k
 .rw[aB];exact uq t (gy t k Z) 1 _
 .rcases List.mem_append.1 hy with hy|hy
  .exact⟨q (h.each A hy).1 Z Z,q (h.each A hy).2 Z Z⟩
  grind
 .have a2:=h.rows av (dC _ (dC _ al));grind
 .have a1:=h.sep;have aL:bR (rS vn N.nm::rI vk N.ks::R)++bL L=(vn.ownBlock.toList++vk.ownBlock.toList)++(bR R++bL L):=by unfold bR;grind
  have a0:bR R++bL (L++[⟨N,vn,vk⟩])=(bR R++bL L)++(vn.ownBlock.toList++vk.ownBlock.toList):=by unfold bL;grind
  grind
end
def dN(k op n:Int)(t:Bz)(nm:List Bz)(ks:List Int):Nd:=⟨k,0,0,0,op,n,t,nm,ks⟩
section
variable {C : Cd} {T : Int} {E : Bs} {W W' : World} {c c' : Cr} {L : List Mb} {R : List Rwx}
def ar1{a:Option Addr}{d b mk ck:Nat}(h:Bd C T E W c L (rS (V a d b) N.nm::rI (V ak mk ck) N.ks::R))(b5: -100000<=T/\T<=100000)(bk:M L<=25000):
  B6 A3 171 #[bV E,.agg (xF N (V a d b) (V ak mk ck))] W λe w'=>e= A9 (Y X (M L:Nat))/\Bd C T E w' c (L++[⟨N,V a d b,V ak mk ck⟩]) R/\B0 E.base W w':=by
 have⟨k,al⟩:=aw (M L);have⟨p,G⟩:=aw (T-(M L:Int));have b8: -200000<=p/\p<=200000:=O;rw[al]at bk⊢;have ca:=h.lt;have a3:=de W (A2 (xF N (V a d b) (V ak mk ck)) 100);have bf:=(h.below a3).c0;have b1:(W.alloc (A2 (xF N (V a d b) (V ak mk ck)) 100)).frozen? ⟨E.bb,2,A0⟩=A6:=by
  have⟨v,y,z⟩:=(h.below a3).row;exact cD _ _ _ _ _ y
 rw[G]at bf;go_in;go_wp21
 have⟨ad,a2⟩:=aw (W.setCell ⟨E.bb,2,A0⟩ (Y X (p-1)));have B:=h.less;rw[G]at B;have am:(W.setCell ⟨E.bb,2,A0⟩ (Y X (p-1))).heap.size=W.heap.size:=by simp[World.setCell]
 have⟨ar,a1,bh⟩:=h.row;rw[G]at a1;have ap:(W.setCell ⟨E.bb,2,A0⟩ (Y X (p-1))).heap[E.bb]?=Ax (A2 #[cV E,ar,Y X (p-1)] 184 (0,0)):=aI W E.bb 2 _ _ _ a1;rw[a2]at B am ap;rw[a2];have F:=de ad (A2 (xF N (V a d b) (V ak mk ck)) 100);have m:=ay ad (A2 (xF N (V a d b) (V ak mk ck)) 100);have⟨f,ag⟩:=aw (ad.alloc (A2 (xF N (V a d b) (V ak mk ck)) 100));rw[ag]at F m;rw[am]at m;have n:=Dy (B.1.below F) (B.2.trans (F.mono O)) m (show f.heap.size=W.heap.size+1 by rw[<-ag];simp[am]);have q:=(F.block _ (ah ap)).trans ap;rw[ag];have a7:ar.ownBlock≠Ax W.heap.size:=λe=>by have:=(bh.lt _ e).2;omega
 have⟨v,y,z⟩:=n.1.row;obtain rfl:ar=v:=by
  rw[y]at q;simp at q;exact q.1.symm
 obtain⟨r,s,rfl⟩:=cG z;have af:f.cell? ⟨E.bb,1,A0⟩=Ax (V r (M L) s):=by rw[au _ _ _ _ _ _ y];rfl
 rw[al]at af z a7 q;have m:=n.2.2.1;refine wp_region_held_drew (S:=λK=>K.heap[W.heap.size]?=Ax (A2 (xF N (V a d b) (V ak mk ck)) 100 (0,0))) J m (λhS=>?_);simp only[iB,db,fx,Nat.reduceAdd,iA,jb,jc,dI,dt];refine bB 0 (B7 (Ax ⟨E.bb,0,A0⟩)) rfl rfl hS (λw' o=>by go_simp) ?_;simp only[Ce];refine bB 1 (B7 (Ax ⟨E.bb,0,A0⟩)) rfl rfl hS (λw' o=>by go_simp) ?_;simp only[Ce];refine bB 2 (B7 (Ax ⟨E.bb,0,A0⟩)) rfl rfl hS (λw' o=>by go_simp) ?_;simp only[Ce];refine bB 3 (B7 (Ax ⟨E.bb,1,A0⟩)) rfl rfl hS (λw' o=>by go_simp) ?_;simp only[Ce];refine I3 5 17 (.agg (xF N (V a d b) (V ak mk ck))) rfl rfl J J J (λ_ _ _ h=>h) byR hS (λw' o=>by have cd:=co (N:=N) o;go_simp) ?_;simp only[Act.put,bF,bG,bI];have bl:=af;refine tg (S:=λK=>K.cell? ⟨E.bb,1,A0⟩=Ax (V r k s)) (C:=λt=>!(t==7||t==8||t==9||t==10)) (i:=4) (v:= V r k s) rfl (zn J) (λ_ _ _ h=>h) ?hC _ _ _ _ (zo rfl J) (List.contains_iff_mem.1 J) (Or.inl ⟨byR,λw' o=>by go_simp⟩) hS bl ?_
 case hC=>
  intro t cb a5 g;simp only[Bool.not_eq_false',xc,mL]at g;rcases g with((rfl|rfl)|rfl)|rfl
  .obtain rfl:=cC a5;exact⟨{on:=4,ground:=Ground.data},I,rfl,rfl⟩
  all_goals
   obtain rfl:=cC a5;exact⟨{on:=4,ground:=Ground.phase},I,rfl,rfl⟩
 simp only[Act.put,bF,bG,bI];refine eK (i:=6) J rfl (λw j=>?_);go_simp;have a0:∀a8,B0 f.heap.size f (f.drew.alloc a8):=λa8=>(bu (ai _ _)).alloc I _;refine j _ _ (((a0 _).block _ (ah m)).trans m) (λ_=>aq (a0 _) af) ?_;try simp only[bF,bG,bI]
 have l:=bu (de f (A2 (xF N (V a d b) (V ak mk ck)) 100));have ba:(f.alloc (A2 (xF N (V a d b) (V ak mk ck)) 100)).drew.heap[f.heap.size]?=_:=ay f _;generalize World.drew (World.alloc _ _)=bc at l ba⊢;have bx:=n.1.below l;have bw:=(l.block _ (ah q)).trans q;have bn:=n.1.lt;have bo:=n.2.2.2;have⟨bp,br,bs,bt,bv⟩:=eC Aa;refine eK (i:=7) J rfl (λw j=>?_);refine step_append_lies _ byR _ _ 24 byR E.base 100 bp _ 9 112 Tryz.underlying24 br bs bt bv rfl Z (V r k s) k _ byR (bz z l) ⟨f.heap.size,0,A0⟩ 1 1 (xF N (V a d b) (V ak mk ck)).toList (by rw[bo];rfl) rfl (World.news_of_block ba) (by intro cc a6;simp at a6;rcases a6 with rfl|rfl|rfl|rfl|rfl|rfl|rfl|rfl|rfl<;>rfl) Z py O (by have:=l.size;omega) bc.heap.size rfl ?_;intro A x u a9 a4 b7 b9;have bj:oa L++(xF N (V a d b) (V ak mk ck)).toList=oa (L++[⟨N,V a d b,V ak mk ck⟩]):=by rw[vG];show _=oa L++(cMb _++[]);rw[dD];rfl
 rw[bj]at a9;have⟨bA,bd,ao⟩:=bx.push (by rw[G];exact bw) (by rw[al]) a9 a4;have H:=(a4.block _ (by have:=l.size;omega) (λe=>a7 e.symm)).trans ((l.block _ O).trans m);have bD:(u.setCell ⟨E.bb,1,A0⟩ (V (Ax ⟨A,0,A0⟩) (k+1) x)).heap[W.heap.size]?=Ax (A2 (xF N (V a d b) (V ak mk ck)) 100 (0,0)):=(az _ _ _ _ (by show W.heap.size≠E.bb;omega)).trans H;have b0:u.cell? ⟨E.bb,1,A0⟩=Ax (V r k s):=by rw[au _ _ _ _ _ _ ao];rfl
 have b2:u.frozen? ⟨E.bb,1,A0⟩=A6:=cD _ _ _ _ _ ao;have aL:=fD bA ((n.2.1.trans (l.mono bn.2.2.1)).trans bd);have bg:(u.setCell ⟨E.bb,1,A0⟩ (V (Ax ⟨A,0,A0⟩) (k+1) x)).cell? ⟨E.bb,1,A0⟩=Ax (V (Ax ⟨A,0,A0⟩) (k+1) x):=by rw[au _ _ _ _ _ _ (aI _ E.bb 1 _ _ _ ao)];rfl
 refine j _ _ H (λg=>by cases g) ?_;simp only[Act.put,bF,bG,bI];refine eK (i:=8) J rfl (λw j=>?_);go_simp;refine j _ _ H (λg=>by cases g) ?_;try simp only[bF,bG,bI]
 refine eK (i:=9) J rfl (λw j=>?_);go_simp;refine j _ _ H (λg=>by cases g) ?_;try simp only[bF,bG,bI]
 refine eK (i:=10) J rfl (λw j=>?_);go_simp;refine j _ _ bD (λg=>by cases g) ?_;refine vI J ?_ _;generalize u.setCell ⟨E.bb,1,A0⟩ (V (Ax ⟨A,0,A0⟩) (k+1) x)=bE at aL bg⊢;go_wp21
 go_ret;exact⟨by go_num,aL⟩
end
def In(C:Cd)(T:Int)(E:Bs)(W:B5)(c:Cr)(L:List Nd)(R:List Rwx):Prop:=∃a:List Mb,a.map Mb.N=L/\Bd C T E W c a R
def Rb(C:Cd)(T:Int)(f:FuncId)(b:List A5)(c:Cr)(L:List Nd)(v:A5)(d:Cr)(a:List Nd):Prop:=
 ∀ ⦃E:Bs⦄ ⦃W:B5⦄ ⦃R:List Rwx⦄,In C T E W c L R->B6 A3 f (bV E::b).toArray W λe w'=>e= A9 v/\In C T E w' d a R/\B0 E.base W w'
def Rr(C:Cd)(T:Int)(f:FuncId)(e:List A5)(c:Cr)(L:List Nd)(t:B3)(n:Nat)(xs:List A5)(g:Cr)(d:List Nd):Prop:=
 ∀ ⦃E:Bs⦄ ⦃W:B5⦄ ⦃R:List Rwx⦄,In C T E W c L R->B6 A3 f (bV E::e).toArray W λh w'=>∃a b,h= A9 (V a n b)/\In C T E w' g d (⟨t,V a n b,xs⟩::R)/\B0 E.base W w'
structure At (C:Cd) (T:Int) (E:Bs) (W w:B5) (c:Cr) (L:List Nd) (R:List Rwx):Prop where
 bd:In C T E w c L R
 bel:B0 E.base W w
def apk:(Tryz.prog.info? 3).map (λi=>(i.zero,i.size,i.bytes))=Ax (Ax (Y X 0),1,8):=J
section
variable {C : Cd} {T : Int} {E : Bs} {W w w' : World} {c c' : Cr} {L L' : List Nd} {R : List Rwx} {f : FuncId} {ar : List Value} {v : Value} {Q : Ending → World → Prop} {t : TypeId} {n : Nat} {xs : List Value}
def In.at(h:In C T E w c L R):At C T E w w c L R:=⟨h,ai _ _⟩
def At.run(a:At C T E W w c L R)(k:Rb C T f ar c L v c' L')(h:∀w',At C T E W w' c' L' R->Q (A9 v) w'):B6 A3 f (bV E::ar).toArray w Q:=
 (k a.bd).mono λd w' b=>b.1 ▸ h w' ⟨b.2.1,a.bel.trans b.2.2⟩
def At.runC(a:At C T E W w c L R)(k:Rc C f ar c v c')(h:∀w',At C T E W w' c' L R->w.grownBy w' (Ax E.cb)->Q (A9 v) w'):B6 A3 f (cV E::ar).toArray w Q:=by
 obtain⟨⟨g,e,b⟩,i⟩:=a;refine(k b.cu).mono ?_;rintro e w' ⟨rfl,j,d⟩;exact h w' ⟨⟨g,e,b.went d j⟩,i.trans (vz d b.cu.lo.1 b.cu.lo.2)⟩ d
def At.runR(a:At C T E W w c L R)(k:Rr C T f ar c L t n xs c' L')(h:∀w' b d,At C T E W w' c' L' (⟨t,V b n d,xs⟩::R)->Q (A9 (V b n d)) w'):B6 A3 f (bV E::ar).toArray w Q:=by
 refine(k a.bd).mono ?_;rintro i w' ⟨b,d,rfl,e,g⟩;exact h w' b d ⟨e,a.bel.trans g⟩
def At.low(a:At C T E W w c L R):E.base<=w.heap.size/\E.cb<w.heap.size/\E.bb<w.heap.size:=by
 have⟨d,_,b⟩:=a.bd;have:=b.lt;omega
def At.cu(a:At C T E W w c L R):Cu C E w c:=by
 have⟨d,_,b⟩:=a.bd;exact b.cu
theorem At.cs(a:At C T E W w c L R):(w.cell? ⟨E.bb,0,A0⟩=Ax (cV E)/\w.cell? ⟨E.bb,2,A0⟩=Ax (Y X (T-M L)))/\E.bb<w.heap.size:=by
 have⟨d,e,b⟩:=a.bd;have:=b.c0;rw[(U:M d=M L)]at this;exact⟨this,b.lt.2.1⟩
def At.below(a:At C T E W w c L R)(d:B0 w.heap.size w w'):At C T E W w' c L R:=by
 obtain⟨⟨e,f,b⟩,g⟩:=a;exact⟨⟨e,f,b.below d⟩,g.trans (d.mono b.lt.2.2.1)⟩
def At.al{o:Obj}(a:At C T E W w c L R):At C T E W (w.alloc o) c L R:=a.below (de w o)
def At.lit(a:At C T E W w c L R)(ks:List Int)(f:M ks<=100):At C T E W (w.alloc (A2 (ks.map (B2 X)).toArray 3)) c L (rI (V (Ax ⟨w.heap.size,0,A0⟩) (M ks) (M ks)) ks::R):=by
 obtain⟨⟨d,e,b⟩,g⟩:=a;exact⟨⟨d,e,b.newI ks f⟩,g.trans ((de w _).mono b.lt.2.2.1)⟩
def At.lit1(a:At C T E W w c L R):At C T E W (w.alloc (A2 #[Y X z] 3)) c L (rI (V (Ax ⟨w.heap.size,0,A0⟩) 1 1) [z]::R):=a.lit [z] I
def At.lit2{b:Int}(a:At C T E W w c L R):At C T E W (w.alloc (A2 #[Y X z,Y X b] 3)) c L (rI (V (Ax ⟨w.heap.size,0,A0⟩) 2 2) [z,b]::R):=a.lit [z,b] I
def At.nilI(a:At C T E W w c L R):At C T E W w c L (rI (V A0 0 0) []::R):=by
 obtain⟨⟨b,e,d⟩,f⟩:=a;exact⟨⟨b,e,d.nil toI⟩,f⟩
def At.nilS(a:At C T E W w c L R):At C T E W w c L (rS (V A0 0 0) []::R):=by
 obtain⟨⟨b,e,d⟩,f⟩:=a;exact⟨⟨b,e,d.nil toS⟩,f⟩
def At.swap{r b:Rwx}(a:At C T E W w c L (r::b::R)):At C T E W w c L (b::r::R):=by
 obtain⟨⟨d,f,e⟩,g⟩:=a;exact⟨⟨d,f,e.swap⟩,g⟩
def At.drop{r:Rwx}(a:At C T E W w c L (r::R)):At C T E W w c L R:=by
 obtain⟨⟨b,e,d⟩,f⟩:=a;exact⟨⟨b,e,d.drop⟩,f⟩
def At.form(a:At C T E W w c L (⟨t,v,xs⟩::R)):∃a c,v= V a (M xs) c:=by
 obtain⟨⟨d,e,b⟩,f⟩:=a;exact b.form
theorem At.apG{st:B3}{u j:A5}{e:Nat}{l:List Oper}{Q:Exit->Act->B5->Prop}(r:Tryz.prog.underlying st=Ax (.slice t))(q:(Tryz.prog.info? t).map (λi=>(i.zero,i.size,i.bytes))=Ax (Ax j,1,e))(am:j.cells.size=1)(x:e<=100)(ht:TO t)(h:At C T E W w c L (⟨t,v,xs⟩::R))(G:M xs=n)(hn:n<=1000)(a4:u.oneCell'=B1)(A:o.guard=A0)(s z:Operand)
  (H:o.op= .call {callee:= .builtin .append,args:=#[s,z],argTypes:=#[st,st]}) (af:a.eval s=v) (ak:a.eval z= .slice (Ax ⟨w.heap.size,0,A0⟩) 1 1)
  (k:∀b d w1,At C T E W w1 c L (⟨t,.slice b (n+1) d,xs++[u]⟩::R)->wpList A3 ops Q l (a.put o.dst (.slice b (n+1) d)) w1):
  wpList A3 ops Q (o::l) a (w.alloc (.cells #[u] t)):=by
 subst G;obtain⟨⟨m,p,g⟩,ag⟩:=h.al (o:= .cells #[u] t);have⟨ar,F,an,ao,ap⟩:=eC q;have ad:(w.alloc (.cells #[u] t)).ownsRow E.base t 1 v (M xs) xs:=(g.rows _ bH).2;have a3:(M xs+1)*e<=1001*100:=Nat.mul_le_mul O x;refine wpList_append_own_at _ A s z st H E.base t ar j 1 e r F an ao ap am Z v _ _ af ad ⟨w.heap.size,0,A0⟩ 1 1 [u] ak I (World.news_of_block (cs:=#[u]) (ay w _)) U py O g.lt.2.2.1 ?_;intro a5 w1 K y _ a1;obtain⟨b,d,rfl⟩:=cG K;have B:∀f,(Value.slice b (M xs+1) d).ownBlock=Ax f->v.ownBlock=Ax f\/(w.alloc (.cells #[u] t)).heap.size<=f:=λf a2=>by
  grind
 obtain⟨aL,a0⟩:=g.hot (r':=⟨t,.slice b (M xs+1) d,xs++[u]⟩) y ht U B;exact k b d w1 ⟨⟨m,p,aL⟩,ag.trans a0⟩
theorem At.app{e:List Oper}{Q:Exit->Act->B5->Prop}(h:At C T E W w c L (rI v ks::R))(m:M ks=n)(hn:n<=1000)(f:o.guard=A0)(s x:Operand)(g:o.op= .call {callee:= .builtin .append,args:=#[s,x],argTypes:=#[98,98]})(i:a.eval s=v)(j:a.eval x= V (Ax ⟨w.heap.size,0,A0⟩) 1 1)
  (k:∀b d w1,At C T E W w1 c L (rI (V b (n+1) d) (ks++[z])::R)->wpList A3 ops Q e (a.put o.dst (V b (n+1) d)) w1):wpList A3 ops Q (o::e) a (w.alloc (A2 #[Y X z] 3)):=
 At.apG Tryz.underlying98 apk rfl Z toI h U hn rfl f s x g i j λb d w1 l=>k b d w1 U
theorem At.appS{e:List Oper}{Q:Exit->Act->B5->Prop}{ks:List Bz}{z:Bz}(h:At C T E W w c L (rS v ks::R))(m:M ks=n)(hn:n<=1000)(f:o.guard=A0)(s x:Operand)(g:o.op= .call {callee:= .builtin .append,args:=#[s,x],argTypes:=#[97,97]})(i:a.eval s=v)(j:a.eval x= V (Ax ⟨w.heap.size,0,A0⟩) 1 1)
  (k:∀b d w1,At C T E W w1 c L (rS (V b (n+1) d) (ks++[z])::R)->wpList A3 ops Q e (a.put o.dst (V b (n+1) d)) w1):wpList A3 ops Q (o::e) a (w.alloc (A2 #[Br z] 9)):=
 At.apG Tryz.underlying97 ahq rfl Z toS h U hn rfl f s x g i j λb d w1 l=>k b d w1 U
theorem At.add{op:Int}{x:Bz}{nm:List Bz}{b:Option Addr}{f d mk ck:Nat}(a:At C T E W w c L (rS (V b f d) nm::rI (V ak mk ck) ks::R))(l: -100000<=T/\T<=100000)(e:M L<=25000)(h:∀w',At C T E W w' c (L++[dN k op m x nm ks]) R->Q (A9 (Y X (M L:Nat))) w'):
  B6 A3 171 #[bV E,.agg #[Y X k,Y X 0,Y X 0,Y X 0,Y X op,Y X m,Br x,V b f d,V ak mk ck]] w Q:=by
 obtain⟨⟨o,rfl,g⟩,n⟩:=a;rw[dr]at e;refine(ar1 (N:=dN k op m x nm ks) g l e).mono ?_;rintro p w' ⟨rfl,i,j⟩;rw[dr]at h;exact h w' ⟨⟨_,U,i⟩,n.trans j⟩
theorem At.kids{mk ck:Nat}(a:At C T E W w c L (rI (V ak mk ck) ks::R))(i: -100000<=T/\T<=100000)(g:M L<=25000)(h:∀w',At C T E W w' c (L++[dN k 0 0 ⟨#[]⟩ [] ks]) R->Q (A9 (Y X (M L:Nat))) w'):
  B6 A3 168 #[bV E,Y X k,V ak mk ck] w Q:=by
 have e:B6 A3 168 #[bV E,Y X k,V ak mk ck] w λb w'=>b= A9 (Y X (M L:Nat))/\At C T E W w' c (L++[dN k 0 0 ⟨#[]⟩ [] ks]) R:=by
  have f:=aj a.nilS;go_in;go_wp2_with fail;refine f.out.add i g λw1 j=>?_;go_wp2;go_ret
  simp_all
 exact e.mono λb w' d=>d.1 ▸ h w' d.2
end
def jp{op n:Int}{nm:List Bz}(ht:Txt k t)(b:∀s∈nm,Shr s)(c:∀z∈ks,0<=z/\z<=100000)(e:0<=k/\k<=1000:=by first|decide|omega)(f:0<=op/\op<=1000:=by first|decide|omega)(hn: -9223372036854775808<=n/\n<=9223372036854775807:=by first|decide|omega)(a:M nm<=3:=by first|decide|omega)(h3:M ks<=64:=by first|(simp;done)|omega|(simp;omega)):Do (dN k op n t nm ks):=by
 have z: -9223372036854775808<=(0:Int)/\(0:Int)<=9223372036854775807:=Z;exact⟨a,h3,ht,b,⟨⟨by show _<=k;omega,by show k<=_;omega⟩,z,z,z,⟨by show _<=op;omega,by show op<=_;omega⟩,hn,λz d=>by have:=c z d;omega⟩⟩
def Nx(c:Cr)(L:List Nd)(b:Cr)(d:List Nd):Prop:=∃a,d=L++a/\(∀N∈a,Do N)/\c.r+bigs a<=b.r/\(c.r<=3->b.r<=3)
structure Pd (T:Int) (c:Cr) (L:List Nd) (m:Int):Prop where
 sum:T<=140
 lo: -20000+12*m<=T-M L
 hx:c.p-400*M L+1000*m<=4000000
 m0:0<=m/\m<=1300
 p0:0<=c.p/\0<=c.r
structure Mv (T:Int) (c0:Cr) (L0:List Nd) (c:Cr) (L:List Nd) (y:Int):Prop where
 nx:Nx c0 L0 c L
 n:M L0<=M L
 p:c.p<=c0.p+400*(M L-M L0)+y
 p0:0<=c.p/\0<=c.r
 lo: -20000<=T-M L
abbrev Lf(s k l a:Int):Prop:=(l<5->l-s<=a)/\(5<=l->5-k<=a)
structure An (T:Int) (c:Cr) (L:List Nd) (c':Cr) (L':List Nd) (z s k g:Int):Prop where
 nx:Nx c L c' L'
 n:M L<M L'
 z:z=M L'-1
 p:c'.p<=c.p+400*(M L'-M L)-g
 p0:0<=c'.p/\0<=c'.r
 lf:Lf s k (T-M L) (T-M L')
def FB(f:FuncId)(d m s k g:Int):Prop:=∀ ⦃C:Cd⦄ ⦃T:Int⦄ ⦃c:Cr⦄ ⦃L:List Nd⦄,Pd T c L m->∃z c' L',An T c L c' L' z s k g/\Rb C T f [Y X d] c L (Y X z) c' L'
def FB.up{j l i e:Int}(h:FB f d m s k g)(t:0<=m:=by omega)(w:m<=j:=by omega)(x:s<=l:=by omega)(u:k<=i:=by omega)(v:e<=g:=by omega):FB f d j l i e:=λC T c L b=>by
 obtain⟨r,q,p,a,o⟩:=h (C:=C) (T:=T) (c:=c) (L:=L) ⟨b.sum,by have:=b.lo;omega,by have:=b.hx;omega,by have:=b.m0;omega,b.p0⟩;exact⟨r,q,p,⟨a.nx,a.n,a.z,by have:=a.p;omega,a.p0,by have:=a.lf;omega⟩,o⟩
def Nx.refl{a:Cr}(L:List Nd)(h:a.r=c.r):Nx c L a L:=⟨[],(dD L).symm,λb h=>(by cases h),by rw[h];exact Int.le_of_eq (Int.add_zero _),O⟩
def Nx.trans{e f:Cr}{b d:List Nd}(h:Nx c L e b)(k:Nx e b f d):Nx c L f d:=by
 obtain⟨g,rfl,i,n,j⟩:=h;obtain⟨a,rfl,l,o,m⟩:=k;exact⟨g++a,eB _ _ _,λa h=>(List.mem_append.1 h).elim (i a) (l a),by rw[aiy];omega,λh=>m (j h)⟩
theorem Nx.add{a b:Cr}{d:List Nd}(h:Nx c L a d)(g:Do N)(i:a.r+bgN N<=b.r)(e:a.r<=3->b.r<=3):Nx c L b (d++[N]):=
 h.trans ⟨[N],rfl,λf h=>U,by unfold bigs;grind,e⟩
theorem ael(h:N.x.size<=19):bgN N=0:=by unfold bgN;grind
def Pl(ks:List Int):Prop:=∀z∈ks,0<=z/\z<=100000
theorem Pl.add(h:Pl ks)(b:0<=z/\z<=100000):Pl (ks++[z]):=λa hy=>by
 rcases List.mem_append.1 hy with hy|hy
 .exact h a hy
 grind
def pl0:Pl []:=λb a=>by cases a
theorem pl1(h:0<=z/\z<=100000):Pl [z]:=λb a=>U
def pl2{a:Int}(h:0<=z/\z<=100000)(k:0<=a/\a<=100000):Pl [z,a]:=(pl1 h).add k
def li:∀s∈([]:List Bz),Shr s:=λs a=>by cases a
section
variable {T : Int} {c0 c : Cr} {L0 L : List Nd} {y m : Int}
def Pd.mv(p:Pd T c L m):Mv T c L c L 0:=⟨Nx.refl L rfl,cJ,O,p.p0,by have:=p.lo;have:=p.m0;omega⟩
def Mv.len(p:Pd T c0 L0 m)(a:Mv T c0 L0 c L y)(h:y<=600:=by omega):(M L<=25000/\ -100000<=T/\T<=100000)/\c.p<=20000000:=by
 have b:=p.sum;have d:=a.lo;have e:=a.p;have f:=p.hx;have g:=p.m0;omega
def Mv.pick(p:Pd T c0 L0 m)(a:Mv T c0 L0 c L y)(C:Cd)(k:Int)(l:y<=500:=by omega)(f:2<=k:=by decide)(g:k<=200:=by decide):∃z c',(0<=z/\z<k)/\Mv T c0 L0 c' L (y+1)/\Rc C 29 [Y X k] c (Y X z) c':=by
 have i:=a.len p;have d:=a.p0;have j:=a.p;have⟨z,c',h,e,b⟩:=gi C c k f g d.1 O;exact⟨z,c',h,⟨a.nx.trans (Nx.refl L e.2),a.n,O,O,a.lo⟩,b⟩
def Mv.sub(p:Pd T c0 L0 m)(a:Mv T c0 L0 c L y)(C:Cd){b:Int}(hF:FB f d b s k g)(F:1<=b/\b+1<=m:=by omega)(H:y<=500:=by omega)(t: -20000+12*b<=T-M L:=by omega)(G:s<=12/\k<=4000:=by omega):
  ∃(z:Int) (c':Cr) (L':List Nd),(0<=z/\z<=100000)/\(M L<M L'/\z=M L'-1/\Lf s k (T-M L) (T-M L'))/\Mv T c0 L0 c' L' (y-g)/\Rb C T f [Y X d] c L (Y X z) c' L':=by
 have E:=a.len p;have v:=p.hx;have w:=a.p;have r:=a.p0;have x:=p.m0;have A:=a.n;have B:=p.sum;obtain⟨z,c',L',h,e⟩:=hF (C:=C) (T:=T) (c:=c) (L:=L) ⟨p.sum,t,O,O,r⟩;obtain⟨i,j,l,u,o,q⟩:=h;exact⟨z,c',L',O,⟨j,l,q⟩,⟨a.nx.trans i,O,O,o,O⟩,e⟩
theorem Mv.fin(p:Pd T c0 L0 m)(a:Mv T c0 L0 c L y){op n:Int}{nm:List Bz}{q:Int}(b:Do (dN k op n t nm ks))(h:y<=400-g:=by omega)(f:Lf s q (T-M L0) (T-M L-1):=by omega)(ht:t.size<=19:=by first|decide|omega):An T c0 L0 c (L++[dN k op n t nm ks]) (M L:Nat) s q g:=by
 have d:=a.p;have e:=a.n;exact⟨a.nx.add b (by rw[ael (show(dN k op n t nm ks).x.size<=19 from ht)];omega) id,U,I,U,a.p0,U⟩
theorem Mv.on(a:Mv T c0 L0 c L y)(b:Do N)(ht:N.x.size<=19)(f: -20000<=T-M L-1):Mv T c0 L0 c (L++[N]) (y-400):=by
 have d:=a.p;have e:=a.n;exact⟨a.nx.add b (by rw[ael ht];omega) id,U,U,a.p0,U⟩
def Mv.tail(p:Pd T c0 L0 m)(a:Mv T c0 L0 c L0 y)(C:Cd){e:Int}(hF:FB f d e s k g)(t:0<=e/\e+1<=m:=by omega)(u:y<=g:=by omega)(r:g<=500:=by decide):∃z c' L',An T c0 L0 c' L' z s k 0/\Rb C T f [Y X d] c L0 (Y X z) c' L':=by
 have j:=p.hx;have l:=a.p;have i:=a.p0;have o:=p.m0;have q:=p.lo;obtain⟨z,c',L',b,h⟩:=hF (C:=C) (T:=T) (c:=c) (L:=L0) ⟨p.sum,O,O,O,i⟩;exact⟨z,c',L',⟨a.nx.trans b.nx,b.n,b.z,by have:=b.p;omega,b.p0,b.lf⟩,h⟩
end
def shL:List Bz:=[⟨#[97]⟩,⟨#[98]⟩,⟨#[120]⟩,⟨#[121,49]⟩,⟨#[95]⟩,⟨#[73,102]⟩,⟨#[101,108,105]⟩,⟨#[102]⟩]
section
variable {T : Int} {c0 c : Cr} {L0 L : List Nd} {y m : Int}
def amf{C:Cd}{d:Cr}(m:0<=z/\z<8)(K:Rc C 29 [Y X 8] c (Y X z) d)(ht:shL[z.toNat]?=Ax t):Rb C T 212 [] c L (Br t) d L:=by
 intro i k j f;have a:=f.at
 have l:=a.cs;have h:=a.cu;rcases(O:z=0\/z=1\/z=2\/z=3\/z=4\/z=5\/z=6\/z=7) with rfl|rfl|rfl|rfl|rfl|rfl|rfl|rfl;all_goals
  obtain rfl:=cC (show Ax (_:Bz)=Ax t from ht);go_in;go_wp2_with fail;refine a.al.runC K λw1 e g=>?_;have n:=rJ h g;have b:=aj e;go_wp2;go_ret;exact⟨rfl,b.out.bd,b.out.bel⟩
def Mv.short(p:Pd T c0 L0 m)(a:Mv T c0 L0 c L y)(C:Cd)(k:y<=500:=by omega):∃(t:Bz) (c':Cr),Shr t/\Mv T c0 L0 c' L (y+1)/\Rb C T 212 [] c L (Br t) c' L:=by
 have⟨d,g,j,f,e⟩:=a.pick p C 8;obtain⟨t,b⟩:∃t,shL[d.toNat]?=Ax t:=⟨_,bi (O:d.toNat<8)⟩;have h:t.size<=3:=(Z:∀t∈shL,t.size<=3) t (da b);have i:Cs t 26:=by
  have:=da b;simp only[shL,gG,iC,iD]at this;rcases this with rfl|rfl|rfl|rfl|rfl|rfl|rfl|rfl<;>exact sr
 exact⟨t,g,⟨h,i⟩,f,amf j e b⟩
inductive Nmc (C:Cd) (T:Int) (L:List Nd):Nat->Cr->List Bz->Cr->Prop
 |nil (c:Cr):Nmc C T L 0 c [] c
 |cons {n:Nat}{c c1 c2:Cr}{t:Bz}{l:List Bz}:Rb C T 212 [] c L (.string t) c1 L->Nmc C T L n c1 l c2->Nmc C T L (n+1) c (t::l) c2
theorem nmc(p:Pd T c0 L0 m)(C:Cd):∀(n:Nat)(c:Cr)(y:Int),Mv T c0 L0 c L y->y+n<=500->∃(l:List Bz) (c':Cr),M l=n/\(∀s∈l,Shr s)/\Mv T c0 L0 c' L (y+n)/\Nmc C T L n c l c':=by
 intro n
 induction n with
 |zero=>exact λc y a _=>⟨[],c,rfl,li,U,.nil c⟩
 |succ n h=>
  intro c y a t;have⟨i,f,r,e,d⟩:=a.short p C;have⟨l,g,o,q,j,b⟩:=h f (y+1) e O;exact⟨i::l,g,U,λs k=>U,U,.cons d b⟩
theorem Mv.names(p:Pd T c0 L0 m)(a:Mv T c0 L0 c L y)(C:Cd)(n:Nat)(hn:n<=8:=by omega)(ar:y<=450:=by omega):∃(nm:List Bz) (c':Cr),M nm=n/\(∀s∈nm,Shr s)/\Mv T c0 L0 c' L (y+n)/\Rr C T 169 [Y X n] c L 9 n (nm.map B4) c' L:=by
 have⟨nm,l,o,q,A,b⟩:=nmc p C n c y a O;refine⟨nm,l,o,q,A,λv z x K=>?_⟩;have d:=K.at.nilS;go_in;go_wp2;go_loopw [1,5] (λi al wr=>∃(m f:Nat) (e h:List Bz) (g:Cr),i= Y X m/\m+f=n/\M e=f/\At C T v z wr g L (rS al e::x)/\Nmc C T L m g h l/\e++h=nm) (λi _ _=>(C2 i).toNat)
 case atStart=>exact⟨n,0,[],nm,c,rfl,rfl,rfl,d,b,rfl⟩
 case round=>
  obtain⟨m,f,e,h,g,rfl,af,ad,d,t,H⟩:=hrel;have j:=jB af ad H;have ao:m<=n:=O;cases t with
  |@cons m _ F _ ak ag w u=>
   have an:(0:Int)<((m+1:Nat):Int):=O;have ap:IntKind.i64.wrap (((m+1:Nat):Int)-1)=(m:Int):=by rw[bJ];omega
   go_wp2_with fail;refine d.run w λw1 B=>?_;have b:=aj B;go_wp2_with (at_builtin;refine b.out.appS j.2.1 O rfl _ _ rfl rfl rfl ?_;intro k am aL E);go_roundw
   case rel=>exact⟨m,f+1,e++[ak],ag,F,by go_num,O,U,E,u,U⟩
   case measure=>simp[C2]
  |nil=>
   have⟨o,q,r⟩:=j.out;rw[dD]at r;subst r;obtain⟨k,G,rfl⟩:=d.form;rw[dr,(O:M e=n)]at d⊢;have b:=aj d;go_wp2;go_ret;exact⟨k,G,rfl,b.out.bd,b.out.bel⟩
end
def w1(a: -1000<=d/\d<=1000):IntKind.i64.wrap (d-1)=d-1:=by rw[bJ];omega
def wq{a o:Int}{q:Nat}(h:a+o=(q:Int))(b:q<=100):IntKind.i64.wrap (a+o)=(q:Int):=by rw[bJ];omega
def wi{a:Int}(h: -9223372036854775808<=a/\a<=9223372036854775807):IntKind.i64.wrap a=a:=by rw[bJ];omega
def At.last{C:Cd}{T:Int}{E:Bs}{W w:B5}{c:Cr}{L:List Nd}{R:List Rwx}(a:At C T E W w c L R){i:Nat}{N:Nd}(h:L[i]?=Ax N):∃g cap,w.cell? ⟨E.bb,1,A0⟩=Ax (V (Ax ⟨g,0,A0⟩) (M L) cap)/\w.cell? ⟨g,i*9,A0⟩=Ax (Y X N.k)/\i<M L:=by
 obtain⟨⟨l,rfl,e⟩,_⟩:=a;have⟨n,f,b⟩:=e.row;have d:=(List.getElem?_eq_some_iff.1 h).1;rw[dw]at h;obtain⟨o,j,rfl⟩:=Option.map_eq_some_iff.1 h;rw[dr]at d⊢;rcases bm b with⟨m,rfl⟩|⟨g,cap,rfl⟩
 .omega
 .exact⟨g,cap,by rw[au _ _ _ _ _ _ f];rfl,(td b j).1,d⟩
theorem an1{ce:Int}(v:1<=me/\me+1<=m)(s:0<=ce/\ce<=3990)(H:FB 172 d me 1 ce 0):FB 211 d m 2 (ce+1) 0:=by
 intro z ag ak af a;have u:=a.lo;have w:=a.m0;have⟨ap,al,p,g,j,b,x⟩:=a.mv.sub a z H;have r:=b.len a;obtain⟨o,rfl⟩:=eJ g.1;obtain⟨i,l⟩:∃i,p[o]?=Ax i:=⟨_,bi O⟩;have am:(0:Int)<=(o:Int):=g.1;by_cases G:i.k=27
 .refine⟨_,_,_,b.fin a (k:=37) (op:=0) (n:=0) (t:=⟨#[]⟩) (jp lC li (pl1 g)),λA C B f=>?_⟩;have e:=f.at
  clear f b j g a u w s v;go_in;go_wp2_with fail;refine e.run x λw1 c=>?_;obtain⟨F,E,L,y,ad⟩:=c.last l;rw[G]at y;have K:(o:Int)<(M p:Int):=O;have h:=aj c;clear e c l;go_wp2_with fail;refine h.out.lit1.kids r.1.2 r.1.1 λao q=>?_;go_wp2;go_ret;exact⟨rfl,q.bd,q.bel⟩
 .refine⟨_,_,_,⟨b.nx,j.1,j.2.1,by have:=b.p;omega,b.p0,O⟩,λA C B f=>?_⟩;have e:=f.at
  clear f b j g a u w s v;go_in;go_wp2_with fail;refine e.run x λw1 c=>?_;obtain⟨F,E,L,y,ad⟩:=c.last l;have an:(i.k==27)=A6:=U;have K:(o:Int)<(M p:Int):=O;have h:=aj c;clear e c l;go_wp2;go_ret;exact⟨rfl,h.out.bd,h.out.bel⟩
def fnB{mk ck:Int}(A:1<=mk/\mk+1<=m)(y:0<=ck/\ck<=3900)(r: -1000<=d/\d<=1000)(x:FB 176 (d-1) mk 1 ck 0):FB 173 d m 2 (ck+1) 100:=by
 intro g L af G e;have z:=e.lo;have B:=e.m0;have ap:=w1 r;obtain⟨n,ag,s,i,ar⟩:=e.mv.pick e g 3;obtain⟨n,rfl⟩:=eJ s.1;obtain⟨a6,ak,w,q,j,aL⟩:=i.names e g n;obtain⟨a7,al,H,C,v,l,a0⟩:=j.sub e g x;obtain⟨E,am,ao,h,a5⟩:=l.pick e g 2;have b:=h.len e;refine⟨_,_,_,h.fin e (k:=36) (op:=E) (n:=0) (t:=⟨#[]⟩) (jp lC q (pl1 C)),?_⟩;clear w q i j l h v e z B y A s r;intro F ad K p;have a:=p.at
 have c:=a.cs;clear p;go_in
 repeat' (go_wp2_with (at_builtin;with_reducible refine At.app a rfl I rfl _ _ rfl rfl rfl ?_;clear a c;intro o an f a;have c:=a.cs);first
  |(go_at_call 29;(first|with_reducible refine At.runC a O ?_|with_reducible refine At.runC a.lit2 lG ?_|with_reducible refine At.runC a.lit1 lG ?_);clear a c;intro f a _;have c:=a.cs)
  |(go_at_call 169;with_reducible refine At.runR a O ?_;clear a c;intro f o u a;have c:=a.cs)
  |(go_at_call 170;with_reducible refine At.runR a lG ?_;clear a c;intro f o u a;have c:=a.cs)
  |(go_at_call 168;(first|with_reducible refine At.kids a.lit1 b.1.2 b.1.1 ?_|with_reducible refine At.kids a.lit2 b.1.2 b.1.1 ?_|with_reducible refine At.kids a.nilI b.1.2 b.1.1 ?_);clear a c;intro f a;have c:=a.cs)
  |(go_at_call 171;(first|with_reducible refine At.add a.lit1.nilS b.1.2 b.1.1 ?_|with_reducible refine At.add a.lit2.nilS b.1.2 b.1.1 ?_|with_reducible refine At.add a.lit1.swap b.1.2 b.1.1 ?_|with_reducible refine At.add a.lit2.swap b.1.2 b.1.1 ?_|with_reducible refine At.add a.swap b.1.2 b.1.1 ?_|with_reducible refine At.add a b.1.2 b.1.1 ?_|with_reducible refine At.add a.nilS b.1.2 b.1.1 ?_|with_reducible refine At.add a.nilI.nilS b.1.2 b.1.1 ?_);clear a c;intro f a;have c:=a.cs)
  |(go_ret;exact⟨rfl,a.bd,a.bel⟩)
  |(with_reducible refine At.run a O ?_;clear a c;intro f a;have c:=a.cs))
theorem amg{mb cb ce:Int}(H:(1<=mb/\mb+1<=m)/\1<=me/\me+1<=m)(F:0<=ce/\ce<=cb/\cb<=3900)(v: -1000<=d/\d<=1000)(u:FB 211 (d-1) mb 2 cb 0)(E:FB 172 (d-1) me 1 ce 0):FB 174 d m 4 (cb+3) 0:=by
 intro g an ap ak c;have G:=c.lo;have K:=c.m0;have a5:=w1 v;obtain⟨n,ar,o,h,a6⟩:=c.mv.pick c g 4;rcases((O:n=0\/n=1\/(n≠0/\n≠1))) with rfl|rfl|⟨A,B⟩
 case' inl=>
  obtain⟨af,y,x,p,l,j,ad⟩:=h.sub c g u;obtain⟨a7,r,al,L,C,f,w⟩:=j.sub c g E;have b:=f.len c;refine⟨_,_,_,f.fin c (k:=32) (op:=0) (n:=0) (t:=⟨#[]⟩) (jp lC li (pl2 p L)),?_⟩;clear h j f l C o
 case' inr.inl=>
  obtain⟨af,y,x,p,l,j,ad⟩:=h.sub c g u;obtain⟨t,r,ht,f,w⟩:=j.short c g;have b:=f.len c;refine⟨_,_,_,f.fin c (k:=33) (op:=0) (n:=0) (t:=t) (jp (aix Z ht) li (pl1 p)) (ht:=by have:=ht.sz;omega),?_⟩;clear h j f l o ht
 case' inr.inr=>
  have a0:(n==0)=A6:=U;have a4:(n==1)=A6:=U;obtain⟨t,r,ht,f,w⟩:=h.short c g;have b:=f.len c;refine⟨_,_,_,f.fin c (k:=26) (op:=0) (n:=0) (t:=t) (jp (aix Z ht) li pl0) (ht:=by have:=ht.sz;omega),?_⟩;clear h f o ht A B
 all_goals
  clear c G K F H v;intro ag ao am s;have a:=s.at
  have e:=a.cs;clear s;go_in
  repeat' (go_wp2_with (at_builtin;with_reducible refine At.app a rfl I rfl _ _ rfl rfl rfl ?_;clear a e;intro q aL i a;have e:=a.cs);first
   |(go_at_call 29;(first|with_reducible refine At.runC a O ?_|with_reducible refine At.runC a.lit2 lG ?_|with_reducible refine At.runC a.lit1 lG ?_);clear a e;intro i a _;have e:=a.cs)
   |(go_at_call 169;with_reducible refine At.runR a lG ?_;clear a e;intro i q z a;have e:=a.cs)
   |(go_at_call 170;with_reducible refine At.runR a lG ?_;clear a e;intro i q z a;have e:=a.cs)
   |(go_at_call 168;(first|with_reducible refine At.kids a.lit1 b.1.2 b.1.1 ?_|with_reducible refine At.kids a.lit2 b.1.2 b.1.1 ?_|with_reducible refine At.kids a.nilI b.1.2 b.1.1 ?_);clear a e;intro i a;have e:=a.cs)
   |(go_at_call 171;(first|with_reducible refine At.add a.lit1.nilS b.1.2 b.1.1 ?_|with_reducible refine At.add a.lit2.nilS b.1.2 b.1.1 ?_|with_reducible refine At.add a.lit1.swap b.1.2 b.1.1 ?_|with_reducible refine At.add a.lit2.swap b.1.2 b.1.1 ?_|with_reducible refine At.add a.swap b.1.2 b.1.1 ?_|with_reducible refine At.add a b.1.2 b.1.1 ?_|with_reducible refine At.add a.nilS b.1.2 b.1.1 ?_|with_reducible refine At.add a.nilI.nilS b.1.2 b.1.1 ?_);clear a e;intro i a;have e:=a.cs)
   |(go_ret;exact⟨rfl,a.bd,a.bel⟩)
   |(with_reducible refine At.run a O ?_;clear a e;intro i a;have e:=a.cs))
def flL:List Bz:=[⟨#[49,46,53]⟩,⟨#[48,46,48]⟩,⟨#[49,101,57]⟩,⟨#[50,46,50,53,101,45,51]⟩,⟨#[57,50,50,51,51,55,50,48,51,54,56,53,52,55,55,53,56,48,56]⟩]
section
variable {T : Int} {c : Cr} {L : List Nd} {m : Int}
theorem an2(p:Pd T c L m)(C:Cd)(bh:1<=m):∃z c' L',An T c L c' L' z 1 1 0/\Rb C T 213 [] c L (Y X z) c' L':=by
 have bg:=p.lo;have bj:=p.m0;have⟨z,w,bn,f,G⟩:=p.mv.pick p C 9;have d:=f.len p;have F:=f.p0;have bc:=f.p;rcases((O:z=0\/(z=1\/z=2)\/z=3\/z=4\/z=5\/(z≠0/\z≠1/\z≠2/\z≠3/\z≠4/\z≠5))) with rfl|h12|rfl|rfl|rfl|⟨a5,a6,a7,a8,a9,ba⟩
 case' inl=>
  have⟨g,j,a3,q,s⟩:=f.pick p C 3;have bl:=wi (a:=20+g) O;refine⟨_,_,_,q.fin p (k:=20+g) (op:=0) (n:=0) (t:=⟨#[]⟩) (jp lC li pl0),?_⟩
 case' inr.inl=>
  have⟨n,j,hn,an,s⟩:=aek C w F.1 O;have q:Mv T c L j L 4:=⟨f.nx.trans (Nx.refl L an.2.2),f.n,O,O,f.lo⟩;refine⟨_,_,_,q.fin p (k:=23) (op:=0) (n:=n) (t:=⟨#[]⟩) (jp lC li pl0 (hn:=hn)),?_⟩
 case inr.inr.inl=>
  have⟨g,j,a3,q,s⟩:=f.pick p C 5;obtain⟨t,ht⟩:∃t,flL[g.toNat]?=Ax t:=⟨_,bi (O:g.toNat<5)⟩;have K:t.size<=19:=(Z:∀t∈flL,t.size<=19) t (da ht);have am:Cs t 130:=by
   have:=da ht;simp only[flL,gG,iC,iD]at this;rcases this with rfl|rfl|rfl|rfl|rfl<;>exact sr
  refine⟨_,_,_,q.fin p (k:=24) (op:=0) (n:=0) (t:=t) (jp (.inl ⟨Z,K,am⟩) li pl0) (ht:=K),λA E B h=>?_⟩;have b:=h.at
  have e:=b.cs;rcases(O:g=0\/g=1\/g=2\/g=3\/g=4) with rfl|rfl|rfl|rfl|rfl;all_goals
   obtain rfl:=cC (show Ax (_:Bz)=Ax t from ht);go_in;go_wp2_with fail;refine b.runC G λw1 i _=>?_;have a0:=i.cu;have e:=i.cs;go_wp2_with fail;refine i.al.runC s λaf r ao=>?_;have bo:=rJ a0 ao;have v:=aj r;go_wp2_with fail;refine v.out.nilI.nilS.add d.1.2 d.1.1 λag l=>?_;go_wp2;go_ret;exact⟨rfl,l.bd,l.bel⟩
 case inr.inr.inr.inl=>
  have⟨y,j,aL,bk,s⟩:=an0 C w F.1 O F.2;have ad:∀{t:Bz},Rb C T 213 [] c L (Y X (M L:Nat)) j (L++[dN 25 0 0 t [] []])->(Sml t/\w.r<=j.r\/(Lng t/\t.size<=4000/\w.r+1<=j.r))->(w.r<=3->j.r<=3)->∃z c' L',An T c L c' L' z 1 1 0/\Rb C T 213 [] c L (Y X z) c' L':=λ{t} k h ar=>⟨_,_,_,⟨f.nx.add (jp (.inr ⟨rfl,h.imp (λo=>o.1) λo=>⟨o.1,o.2.1⟩⟩) li pl0) (by
   rcases h with h|h
   .rw[ael (show(dN 25 0 0 t [] []).x.size<=19 from h.1.1)];omega
   .have:bgN (dN 25 0 0 t [] [])<=1:=by unfold bgN;grind
    omega) ar,I,I,U,⟨O,O⟩,U⟩,k⟩
  by_cases bf:4000<y.size
  .have ap:(4000:Int)<(y.size:Int):=O;refine ad (t:=⟨#[99,117,116]⟩) (λA E B h=>?_) (.inl ⟨⟨Z,sr⟩,O⟩) O;have b:=h.at
   have e:=b.cs;go_in;go_wp2_with fail;refine b.runC G λw1 i _=>?_;have e:=i.cs;go_wp2_with fail;refine i.runC s λaf r _=>?_;have e:=r.cs;have v:=aj r;go_wp2_with fail;refine v.out.nilI.nilS.add d.1.2 d.1.1 λag l=>?_;go_wp2;go_ret;exact⟨rfl,l.bd,l.bel⟩
  .have ap:¬(4000:Int)<(y.size:Int):=O;refine ad (t:=y) (λA E B h=>?_) (aL.imp (λo=>⟨o.1,O⟩) λo=>⟨o.1,O,O⟩) O;have b:=h.at
   have e:=b.cs;go_in;go_wp2_with fail;refine b.runC G λw1 i _=>?_;have e:=i.cs;go_wp2_with fail;refine i.runC s λaf r _=>?_;have e:=r.cs;have v:=aj r;go_wp2_with fail;refine v.out.nilI.nilS.add d.1.2 d.1.1 λag l=>?_;go_wp2;go_ret;exact⟨rfl,l.bd,l.bel⟩
 case' inr.inr.inr.inr.inl=>
  refine⟨_,_,_,f.fin p (k:=27) (op:=0) (n:=0) (t:=⟨#[]⟩) (jp lC li pl0),?_⟩
 case' inr.inr.inr.inr.inr=>
  have⟨t,j,ht,q,s⟩:=f.short p C;refine⟨_,_,_,q.fin p (k:=26) (op:=0) (n:=0) (t:=t) (jp (aix Z ht) li pl0) (ht:=by have:=ht.sz;omega),?_⟩;have bb:((z==0)=A6/\(z==1)=A6/\(z==2)=A6)/\(z==3)=A6/\(z==4)=A6/\(z==5)=A6:=U
 case' inr.inl=>rcases h12 with rfl|rfl
 all_goals
  intro A E B h;have b:=h.at
  have e:=b.cs;go_in
  repeat' (go_wp2_with (at_builtin;with_reducible refine At.app b rfl I rfl _ _ rfl rfl rfl ?_;clear b e;intro H a4 u b;have e:=b.cs);first
   |(go_at_call 29;(first|with_reducible refine At.runC b O ?_|with_reducible refine At.runC b.lit2 lG ?_|with_reducible refine At.runC b.lit1 lG ?_);clear b e;intro u b _;have e:=b.cs)
   |(go_at_call 66;with_reducible refine At.runC b O ?_;clear b e;intro u b _;have e:=b.cs)
   |(go_at_call 169;with_reducible refine At.runR b lG ?_;clear b e;intro u H ak b;have e:=b.cs)
   |(go_at_call 170;with_reducible refine At.runR b lG ?_;clear b e;intro u H ak b;have e:=b.cs)
   |(go_at_call 168;(first|with_reducible refine At.kids b.lit1 d.1.2 d.1.1 ?_|with_reducible refine At.kids b.lit2 d.1.2 d.1.1 ?_|with_reducible refine At.kids b.nilI d.1.2 d.1.1 ?_);clear b e;intro u b;have e:=b.cs)
   |(go_at_call 171;(first|with_reducible refine At.add b.lit1.nilS d.1.2 d.1.1 ?_|with_reducible refine At.add b.lit2.nilS d.1.2 d.1.1 ?_|with_reducible refine At.add b.lit1.swap d.1.2 d.1.1 ?_|with_reducible refine At.add b.lit2.swap d.1.2 d.1.1 ?_|with_reducible refine At.add b.swap d.1.2 d.1.1 ?_|with_reducible refine At.add b d.1.2 d.1.1 ?_|with_reducible refine At.add b.nilS d.1.2 d.1.1 ?_|with_reducible refine At.add b.nilI.nilS d.1.2 d.1.1 ?_);clear b e;intro u b;have e:=b.cs)
   |(go_ret;exact⟨rfl,b.bd,b.bel⟩)
   |(with_reducible refine At.run b O ?_;clear b e;intro u b;have e:=b.cs))
end
def EF(v:d<=0):FB 172 d 2 1 1 0:=by
 intro i g m j f;have⟨q,n,k,l,w⟩:=an2 f i Z;refine⟨q,n,k,l,?_⟩;have b:(M j<=25000/\ -100000<=g/\g<=100000)/\m.p<=20000000:=f.mv.len f Z;intro r t s p;have a:=p.at
 have c:=a.cs;go_in
 repeat' (go_wp2_with (at_builtin;with_reducible refine At.app a rfl I rfl _ _ rfl rfl rfl ?_;clear a c;intro h u e a;have c:=a.cs);first
  |(go_at_call 29;(first|with_reducible refine At.runC a lG ?_|with_reducible refine At.runC a.lit2 lG ?_|with_reducible refine At.runC a.lit1 lG ?_);clear a c;intro e a _;have c:=a.cs)
  |(go_at_call 169;with_reducible refine At.runR a lG ?_;clear a c;intro e h o a;have c:=a.cs)
  |(go_at_call 170;with_reducible refine At.runR a lG ?_;clear a c;intro e h o a;have c:=a.cs)
  |(go_at_call 168;(first|with_reducible refine At.kids a.lit1 b.1.2 b.1.1 ?_|with_reducible refine At.kids a.lit2 b.1.2 b.1.1 ?_|with_reducible refine At.kids a.nilI b.1.2 b.1.1 ?_);clear a c;intro e a;have c:=a.cs)
  |(go_at_call 171;(first|with_reducible refine At.add a.lit1.nilS b.1.2 b.1.1 ?_|with_reducible refine At.add a.lit2.nilS b.1.2 b.1.1 ?_|with_reducible refine At.add a.lit1.swap b.1.2 b.1.1 ?_|with_reducible refine At.add a.lit2.swap b.1.2 b.1.1 ?_|with_reducible refine At.add a.swap b.1.2 b.1.1 ?_|with_reducible refine At.add a b.1.2 b.1.1 ?_|with_reducible refine At.add a.nilS b.1.2 b.1.1 ?_|with_reducible refine At.add a.nilI.nilS b.1.2 b.1.1 ?_);clear a c;intro e a;have c:=a.cs)
  |(go_ret;exact⟨rfl,a.bd,a.bel⟩)
  |(with_reducible refine At.run a O ?_;clear a c;intro e a;have c:=a.cs))
def apl{mb mc ce cb cc:Int}(a0:1<=d/\d<=1000)(a6:(1<=me/\me+1<=m)/\(1<=mb/\mb+1<=m)/\(1<=mc/\mc+1<=m))(aL:1<=ce/\ce<=cb/\cb+1<=cc/\cc<=3800)(w:FB 172 (d-1) me 1 ce 0)(af:FB 211 (d-1) mb 2 cb 0)
  (ag:FB 167 d mc 12 cc 100) (ar:FB 214 d mc 12 cc 100) (hF:FB 173 d mc 12 cc 100):FB 172 d m 1 (cc+1) 0:=by
 intro f B ao F c;have bk:=w1 (d:=d) O;have a5:=c.lo;have a7:=c.m0;have bh:¬d<=0:=O;by_cases bj:B-M F<5
 case' pos=>
  obtain⟨l,K,an,a,ba⟩:=an2 c f O;have e:(M F<=25000/\ -100000<=B/\B<=100000)/\ao.p<=20000000:=c.mv.len c Z;refine⟨l,K,an,⟨a.nx,a.n,a.z,a.p,a.p0,by have:=a.lf;omega⟩,?_⟩;clear a
 case' neg=>
  obtain⟨n,K,a8,i,ba⟩:=c.mv.pick c f 14;rcases((O:(n=0\/n=1\/n=2\/n=3)\/n=4\/(n=5\/n=6)\/n=7\/n=8\/(n=9\/n=10)\/n=11\/n=12\/n=13)) with a9|rfl|hn2|rfl|rfl|hn2|rfl|rfl|rfl
  case' inl=>
   obtain⟨l,q,o,s,r,g,u⟩:=i.sub c f w;obtain⟨am,C,G,A,y,j,E⟩:=g.sub c f w;obtain⟨v,L,z,p,al⟩:=j.pick c f 18;have e:=p.len c;have ak:=wi (a:=1+v) O;refine⟨_,_,_,p.fin c (k:=31) (op:=1+v) (n:=0) (t:=⟨#[]⟩) (jp lC li (pl2 s A)),?_⟩;clear g j p r y z
  case' inr.inl=>
   obtain⟨l,q,o,s,r,g,u⟩:=i.sub c f w;obtain⟨am,C,G,A,y,j,E⟩:=g.sub c f w;obtain⟨v,L,z,p,al⟩:=j.pick c f 2;have e:=p.len c;have ak:=wi (a:=28+v) O;refine⟨_,_,_,p.fin c (k:=28+v) (op:=0) (n:=0) (t:=⟨#[]⟩) (jp lC li (pl2 s A)),?_⟩;clear g j p r y z
  case' inr.inr.inl=>
   obtain⟨l,q,o,s,r,g,u⟩:=i.sub c f w;obtain⟨v,L,z,p,al⟩:=g.pick c f 4;have e:=p.len c;have ak:=wi (a:=19+v) O;refine⟨_,_,_,p.fin c (k:=30) (op:=19+v) (n:=0) (t:=⟨#[]⟩) (jp lC li (pl1 s)),?_⟩;clear g p r z
  case' inr.inr.inr.inl=>
   obtain⟨l,q,o,s,r,g,u⟩:=i.sub c f af;obtain⟨am,C,G,A,y,j,E⟩:=g.sub c f w;have e:=j.len c;refine⟨_,_,_,j.fin c (k:=32) (op:=0) (n:=0) (t:=⟨#[]⟩) (jp lC li (pl2 s A)),?_⟩;clear g j r y
  case' inr.inr.inr.inr.inl=>
   obtain⟨l,q,o,s,r,g,u⟩:=i.sub c f af;obtain⟨t,C,ht,j,E⟩:=g.short c f;have e:=j.len c;refine⟨_,_,_,j.fin c (k:=33) (op:=0) (n:=0) (t:=t) (jp (aix Z ht) li (pl1 s)) (ht:=by have:=ht.sz;omega),?_⟩;clear g j r ht
  case' inr.inr.inr.inr.inr.inl=>
   obtain⟨l,q,o,a,u⟩:=i.tail c f ag;have e:=i.len c;refine⟨l,q,o,⟨a.nx,a.n,a.z,a.p,a.p0,by have:=a.lf;omega⟩,?_⟩;clear a
  case' inr.inr.inr.inr.inr.inr.inl=>
   obtain⟨l,q,o,a,u⟩:=i.tail c f ar;have e:=i.len c;refine⟨l,q,o,⟨a.nx,a.n,a.z,a.p,a.p0,by have:=a.lf;omega⟩,?_⟩;clear a
  case' inr.inr.inr.inr.inr.inr.inr.inl=>
   obtain⟨l,q,o,a,u⟩:=i.tail c f hF;have e:=i.len c;refine⟨l,q,o,⟨a.nx,a.n,a.z,a.p,a.p0,by have:=a.lf;omega⟩,?_⟩;clear a
  case' inr.inr.inr.inr.inr.inr.inr.inr=>
   obtain⟨l,q,o,s,r,g,u⟩:=i.sub c f ag;have e:=g.len c;refine⟨_,_,_,g.fin c (k:=37) (op:=0) (n:=0) (t:=⟨#[]⟩) (jp lC li (pl1 s)),?_⟩;clear g r
  all_goals clear i a8
  all_goals (try rcases a9 with rfl|rfl|rfl|rfl)
  all_goals (try rcases hn2 with rfl|rfl)
 all_goals
  clear c a5 a7 aL a6 a0;intro bb bf bc ad;have b:=ad.at
  have h:=b.cs;clear ad;go_in
  repeat' (go_wp2_with (at_builtin;with_reducible refine At.app b rfl I rfl _ _ rfl rfl rfl ?_;clear b h;intro H bg x b;have h:=b.cs);first
   |(go_at_call 29;(first|with_reducible refine At.runC b lG ?_|with_reducible refine At.runC b.lit2 lG ?_|with_reducible refine At.runC b.lit1 lG ?_);clear b h;intro x b _;have h:=b.cs)
   |(go_at_call 169;with_reducible refine At.runR b lG ?_;clear b h;intro x H ap b;have h:=b.cs)
   |(go_at_call 170;with_reducible refine At.runR b lG ?_;clear b h;intro x H ap b;have h:=b.cs)
   |(go_at_call 168;(first|with_reducible refine At.kids b.lit1 e.1.2 e.1.1 ?_|with_reducible refine At.kids b.lit2 e.1.2 e.1.1 ?_|with_reducible refine At.kids b.nilI e.1.2 e.1.1 ?_);clear b h;intro x b;have h:=b.cs)
   |(go_at_call 171;(first|with_reducible refine At.add b.lit1.nilS e.1.2 e.1.1 ?_|with_reducible refine At.add b.lit2.nilS e.1.2 e.1.1 ?_|with_reducible refine At.add b.lit1.swap e.1.2 e.1.1 ?_|with_reducible refine At.add b.lit2.swap e.1.2 e.1.1 ?_|with_reducible refine At.add b.swap e.1.2 e.1.1 ?_|with_reducible refine At.add b e.1.2 e.1.1 ?_|with_reducible refine At.add b.nilS e.1.2 e.1.1 ?_|with_reducible refine At.add b.nilI.nilS e.1.2 e.1.1 ?_);clear b h;intro x b;have h:=b.cs)
   |(go_ret;exact⟨rfl,b.bd,b.bel⟩)
   |(with_reducible refine At.run b lG ?_;clear b h;intro x b;have h:=b.cs))
inductive Xsc (C:Cd) (T:Int) (f:FuncId) (d:Int):Nat->Cr->List Nd->List Int->Cr->List Nd->Prop
 |nil (c:Cr) (L:List Nd):Xsc C T f d 0 c L [] c L
 |cons {n:Nat}{c c1 c2:Cr}{L L1 L2:List Nd}{z:Int}{l:List Int}:Rb C T f [.int .i64 d] c L (.int .i64 z) c1 L1->Xsc C T f d n c1 L1 l c2 L2->Xsc C T f d (n+1) c L (z::l) c2 L2
section
variable {T : Int} {c0 c : Cr} {L0 L : List Nd} {y m : Int}
theorem xsc(p:Pd T c0 L0 m)(C:Cd){ce:Int}(w:FB f d me s ce 0)(af:1<=me/\me+1<=m)(x:1<=s/\s<=4/\0<=ce/\ce<=3950):∀(n:Nat)(c:Cr)(L:List Nd),Mv T c0 L0 c L y->y<=500->n<=8-> -20000+12*me+s*n<=T-M L->∃(l:List Int) (c':Cr) (L':List Nd),M l=n/\Pl l/\(M L<=M L'/\Lf (s*n) (ce+s*n) (T-M L) (T-M L')/\(n=0->M L'=M L)/\(1<=n->5<=T-M L->5-ce-s*n+s<=T-M L'))/\Mv T c0 L0 c' L' y/\Xsc C T f d n c L l c' L':=by
 intro n;have ag:=p.m0
 induction n with
 |zero=>exact λc L a _ _ _=>⟨[],c,L,rfl,pl0,⟨cJ,O,λ_=>rfl,λK=>O⟩,a,.nil c L⟩
 |succ n e=>
  intro c L a z ak b;have r:s*((n+1:Nat):Int)=s*n+s:=U;have t:s*(n:Int)<=4*8:=Int.mul_le_mul x.2.1 O O Z;have u:0<=s*(n:Int):=Int.mul_nonneg O O;rw[r]at b⊢;generalize s*(n:Int)=al at e b t u⊢;have⟨E,o,i,A,G,F,h⟩:=a.sub p C w;have⟨l,q,j,ad,v,H,k,g⟩:=e o i U z O O;exact⟨E::l,q,j,U,λB hx=>by rcases List.mem_cons.1 hx with rfl|hx;exact A;exact v B hx,⟨O,O,O,O⟩,k,.cons h g⟩
theorem Mv.exprs(p:Pd T c0 L0 m)(a:Mv T c0 L0 c L y)(C:Cd){ce:Int}(an:FB 172 d me 1 ce 0)(n:Nat)(hn:n<=8:=by omega)(ap:y<=500:=by omega)(w:1<=me/\me+1<=m:=by omega)(a3:0<=ce/\ce<=3950:=by omega)(v: -20000+12*me+8<=T-M L:=by omega):
  ∃(ks:List Int) (c':Cr) (L':List Nd),M ks=n/\Pl ks/\(M L<=M L'/\Lf n (ce+n) (T-M L) (T-M L'))/\Mv T c0 L0 c' L' y/\Rr C T 170 [Y X n,Y X d] c L 3 n (ks.map (B2 X)) c' L':=by
 have⟨ks,r,o,s,t,al,H,b⟩:=xsc p C an w O n c L a ap hn O;refine⟨ks,r,o,s,t,⟨al.1,O⟩,H,λA G F am=>?_⟩;have e:=am.at.nilI;go_in;go_wp2;go_loopw [1,7] (λk aL wr=>∃(m g:Nat) (f j:List Int) (i:Cr) (h:List Nd),k= Y X m/\m+g=n/\M f=g/\At C T A G wr i h (rI aL f::F)/\Xsc C T 172 d m i h j r o/\f++j=ks) (λk _ _=>(C2 k).toNat)
 case atStart=>exact⟨n,0,[],ks,c,L,rfl,rfl,rfl,e,b,rfl⟩
 case round=>
  obtain⟨m,g,f,j,i,h,rfl,ao,v,e,x,ak⟩:=hrel;have l:=jB ao v ak;have a4:m<=n:=O;cases x with
  |@cons m _ af _ _ E _ a0 ar B z=>
   have w:(0:Int)<((m+1:Nat):Int):=O;have a5:IntKind.i64.wrap (((m+1:Nat):Int)-1)=(m:Int):=by rw[bJ];omega
   go_wp2_with fail;refine e.run B λw1 K=>?_;have b:=aj K;go_wp2_with (at_builtin;refine b.out.app l.2.1 O rfl _ _ rfl rfl rfl ?_;intro q a1 a6 ad);go_roundw
   case rel=>exact⟨m,g+1,f++[a0],ar,af,E,by go_num,O,U,ad,z,U⟩
   case measure=>simp[C2]
  |nil=>
   have⟨s,t,u⟩:=l.out;rw[dD]at u;subst u;obtain⟨q,ag,rfl⟩:=e.form;rw[dr,(O:M f=n)]at e⊢;have b:=aj e;go_wp2;go_ret;exact⟨q,ag,rfl,b.out.bd,b.out.bel⟩
end
def At.intAt{C:Cd}{T:Int}{E:Bs}{W w:B5}{R:List Rwx}{r:Rwx}{a:Option Addr}{j:Nat}(h:At C T E W w c L (r::rI (V a n j) ks::R)){i:Nat}(e:ks[i]?=Ax z):∃g,a=Ax ⟨g,0,A0⟩/\w.cell? ⟨g,i,A0⟩=Ax (Y X z):=by
 obtain⟨⟨k,_,f⟩,_⟩:=h;have b:=(f.rows _ (dC _ bH)).2;simp only[dr]at b;have o:=(List.getElem?_eq_some_iff.1 e).1;rcases bm b with⟨m,_⟩|⟨g,l,d⟩
 .omega
 .simp at d;obtain⟨rfl,rfl,rfl⟩:=d;refine⟨g,rfl,?_⟩;rw[b.cellAt i O,dw,e];rfl
def an4{mb cb ce:Int}(ar:1<=mb/\mb+1<=m/\1<=me/\me+2<=m)(an:0<=ce/\ce<=cb/\cb<=3900)(x: -1000<=d/\d<=1000)(al:FB 211 (d-1) mb 2 cb 0)(am:FB 172 (d-1) me 1 ce 0):FB 167 d m 5 (cb+3) 100:=by
 intro h F a9 a7 c;have ap:=c.lo;have aL:=c.m0;have bn:=w1 x;have⟨f,ba,a8,z,ag,o,a0⟩:=c.mv.sub c h al;have⟨n,K,y,i,a4⟩:=o.pick c h 3;obtain⟨n,rfl⟩:=eJ y.1;have⟨ks,L,C,bg,v,ak,j,a5⟩:=i.exprs c h am n;have w:=j.len c;refine⟨_,_,_,j.fin c (k:=34) (op:=0) (n:=0) (t:=⟨#[]⟩) (nm:=[]) (ks:=f::ks) (jp lC li (λg hx=>by rcases List.mem_cons.1 hx with rfl|hx;exact z;exact v g hx)),λA G E u=>?_⟩;have bl:n<3:=O;clear o i j ag ak c ap aL an ar x y z v;have b:=u.at
 clear u;go_in;go_wp2_with fail;refine b.run a0 λw1 l=>?_;clear b;have af:=l.cs;go_wp2_with fail;refine l.lit1.runC a4 λbo q _=>?_;clear l af;go_wp2_with fail;refine q.runR a5 λbp p ad r=>?_;have e:=aj r.swap;clear q r;go_wp2;go_loopw [6,25] (λa6 iv wr=>∃(a:Nat),iv= Y X a/\a<=n/\At h F A G wr L C (rI a6 (f::ks.take a)::rI (V p n ad) ks::E)) (λ_ iv _=>n-(C2 iv).toNat)
 case atStart=>exact⟨0,rfl,nH,e.out⟩
 case round=>
  obtain⟨a,rfl,bk,b⟩:=hrel;by_cases bh:a<n
  .obtain⟨g,hx⟩:∃g,ks[a]?=Ax g:=⟨_,bi O⟩;obtain⟨bf,rfl,bc⟩:=b.intAt hx;have bj:(0:Int)<=(a:Int):=O;have ao:(a:Int)<(n:Int):=O;have e:=fD b ((byT:M (f::ks.take a)=a+1));have B:=aj (show f::ks.take (a+1)=f::ks.take a++[g] by rw[il,hx];rfl);go_wp2_with (at_builtin;refine e.1.app e.2 O rfl _ _ rfl rfl rfl ?_;intro p bb br H);go_roundw
   case rel=>exact⟨a+1,by go_num,O,by rw[B.out];exact H⟩
   case measure=>simp[C2];omega
  .obtain⟨i,K,rfl⟩:=b.form;have ao:¬(a:Int)<(n:Int):=O;rw[dr,(byT:M (f::ks.take a)=a+1)]at b⊢;rw[dH O]at b;have e:=aj (b.swap.drop.nilS);go_wp2_with fail;refine e.out.add w.1.2 w.1.1 λbs s=>?_;go_wp2;go_ret;exact⟨rfl,s.bd,s.bel⟩
