import Derived.Test.YtnlhhmlcjbohbaaGreatDoorHNk19
set_option linter.all false
set_option maxRecDepth 100000
set_option maxHeartbeats 6400000
open Go.IntKind renaming i64->O
open Go.Proofs.Tryz renaming prog->S
open Go.Value renaming int->T,slice->U,int->X,string->Y,string->Br,slice->B3
open Go.Ending renaming returned->V
open Go renaming Calls->Z,World->A5,wpList_append_own_at->B1,maxLen->B4
open Go.RowKit renaming Below->Ax,intOf->B0
open Option renaming none->A0,some->A2
open Bool renaming false->A9
namespace Go.Proofs.YtnlhhmlcjbohbaaGreatDoor
open Go.RowKit Go.Maps Go.WideMaps
variable{Q:Exit->Act->World->Prop}{a:Act}{ak an:Option Addr}{c d k m m' me n op s z:Int}{ck mk:Nat}{f:FuncId}{ks:List Int}{o:Oper}{ops:Array Oper}{r:Rwx}{t:ByteArray}{v:Value}{w':World}
section
variable {E : Bs} {W : World} {L : List Mb} {l x : Int} {R : List Rwx}
theorem abB(h:Bd E W L l x R)(j:L.length<=25000)(q:x<=19000000):
  Z S 152 #[bV E] W fun e w'=>∃s:ByteArray,Shr s/\e= V (Br s)/\Bd E w' L l (x+1) R/\Ax E.base W w':=by
 have k:=h.lt;have b:=aw fun (n:Obj)=>ru (h.below (bG W n)) 8 (by decide) (by decide) j;have o:=h.c0;go_in;go_wp2_with fail;refine(b _).mono ?_;rintro e w1 ⟨a,z0,r,rfl,c,d,f⟩;have g:=d.blk (ay W _) (by decide);have p:=fun m=>au w1 W.heap.size m _ _ _ g;have i:=dC c (((bG W _).mono k.2.2.1).trans f);clear c d f g b;rcases(show a=0\/a=1\/a=2\/a=3\/a=4\/a=5\/a=6\/a=7 by omega) with rfl|rfl|rfl|rfl|rfl|rfl|rfl|rfl;all_goals
  go_wp2_with fail;go_ret;exact⟨_,⟨by decide,qm⟩,rfl,i⟩
theorem LE{n:List Oper}{m:Nat}{d:List ByteArray}(u:o.guard=A0)(s y:Operand)
  (B:o.op= .call {callee:= .builtin .append,args:=#[s,y],argTypes:=#[86,86]}) (h:Bd E W L l x (⟨9,v,d.map Y⟩::R)) (C:a.eval s=v) (t:ByteArray) {f:A5}(F:W=f.alloc (.cells #[.string t] 9)) (G:a.eval y= .slice (A2 ⟨f.heap.size,0,A0⟩) 1 1) (A:d.length=m) (ag:m<=1000)
  (k:∀b c w1,Bd E w1 L l x (⟨9,.slice b (m+1) c,(d++[t]).map Y⟩::R)->Ax E.base W w1->wpList S ops Q n (a.put o.dst (.slice b (m+1) c)) w1):
  wpList S ops Q (o::n) a W:=by
 subst A;obtain⟨K,z,H,I,J⟩:=dD af4;have j:=(h.rows _ bB).2;simp only[cA]at j;refine B1 _ u s y 86 B E.base 9 K _ 1 16 Tryz.underlying86 z H I J rfl (by decide) v _ _ C j ⟨f.heap.size,0,A0⟩ 1 1 [.string t] G (by simp) (World.news_of_block (cs:=#[.string t]) (by rw[F];exact ay f _)) (by simp[Value.oneCell']) (by unfold B4;omega) (by omega) h.lt.2.2.1 ?_;intro ak w1 i r _ p;obtain⟨b,c,rfl⟩:=cj i;have w:∀e,(B3 b (d.length+1) c).ownBlock=A2 e->v.ownBlock=A2 e\/W.heap.size<=e:=fun e g=>by
  rcases p with q|q
  ·exact .inl (q ▸ g)
  ·rw[q]at g;cases g;exact .inr (ae _)
 obtain⟨ad,af⟩:=h.hot (r':=⟨9,.slice b (d.length+1) c,(d++[t]).map Y⟩) r KH (by simpa using i) w;exact k b c w1 ad af
end
section
variable {E : Bs} {W : World} {L : List Mb} {l x : Int} {R : List Rwx}
theorem Bd.formS{d:List ByteArray}(h:Bd E W L l x (⟨9,v,d.map Y⟩::R)):∃a c,v= U a d.length c:=by
 have b:=(h.rows _ bB).2;simp only[cA]at b;exact cj b
theorem ao5(h:Bd E W L l x R)(n:Nat)(K:n<=8)(y:L.length<=25000)(ad:x<=18000000):
  Z S 100 #[bV E,X O n] W fun e w'=>∃a c,∃nm:List ByteArray,e= V (U a nm.length c)/\nm.length=n/\(∀s∈nm,Shr s)/\Bd E w' L l (x+n) (⟨9,U a nm.length c,nm.map Y⟩::R)/\Ax E.base W w':=by
 go_in;go_wp2_with fail;go_loopw [1,5] (fun p F wr=>∃(b d:Nat) (f:List ByteArray),p= X O b/\b+d=n/\f.length=d/\(∀s∈f,Shr s)/\Bd E wr L l (x+d) (⟨9,F,f.map Y⟩::R)/\Ax E.base W wr) (fun p _ _=>(B0 p).toNat)
 case atStart=>exact⟨n,0,[],rfl,rfl,rfl,fun s hs=>(by cases hs),(h.nil (by decide)).wide,ah _ _⟩
 case round=>
  obtain⟨b,d,f,rfl,t,C,o,g,m⟩:=hrel;have J:b<=n:=by omega
  by_cases I:0<b
  ·have u:=abB g y (by omega);have j:=CB t o m C;clear t o m h;go_wp2_with fail;refine u.mono ?_;rintro e w1 ⟨v,B,rfl,q,r⟩;have i:=dC q r;clear g q r u;go_wp2_with (at_builtin;refine LE rfl _ _ rfl (i.1.below (bG w1 _)) rfl v rfl rfl j.2.2.2 (by have:=j.1;omega) ?_;intro G H af w z);go_roundw
   case rel=>
    have k:=j.out;have A:=i.1.lt;exact⟨b-1,d+1,f++[v],by go_num,by omega,by rw[aB,k.2.2.2];rfl,fun s hs=>by
     rcases List.mem_append.1 hs with hs|hs
     ·exact k.2.1 s hs
     ·rw[List.mem_singleton.1 hs];exact B,w.wide,((k.2.2.1.trans i.2).trans ((bG w1 _).mono A.2.2.1)).trans z⟩
   case measure=>simp[B0];omega
  ·obtain rfl:b=0:=by omega
   obtain⟨a,c,rfl⟩:=g.formS;go_wp2_with fail;go_ret;exact⟨a,c,f,rfl,by omega,o,by rw[show n=d by omega];exact g,m⟩
end
def dN(k op n:Int)(t:ByteArray)(nm:List ByteArray)(ks:List Int):Nd:=⟨k,0,0,0,op,n,t,nm,ks⟩
theorem pC{nm:List ByteArray}(h:0<=k/\k<=1000)(i:0<=op/\op<=1000)(e: -9223372036854775808<=n/\n<=9223372036854775807)(f:Txt k t)(a:nm.length<=3)(b:∀s∈nm,Shr s)(c:ks.length<=64)(d:∀z∈ks,0<=z/\z<=100000):zI (dN k op n t nm ks):=by
 have z: -9223372036854775808<=(0:Int)/\(0:Int)<=9223372036854775807:=by decide
 exact⟨a,c,f,b,⟨⟨by show _<=k;omega,by show k<=_;omega⟩,z,z,z,⟨by show _<=op;omega,by show op<=_;omega⟩,e,fun z g=>by have:=d z g;omega⟩⟩
section
variable {E : Bs} {W : World} {L : List Mb} {l x : Int} {R : List Rwx}
theorem E7{nm:List ByteArray}{mn cn:Nat}(h:Bd E W L l x (⟨9,U an mn cn,nm.map Y⟩::⟨3,U ak mk ck,ks.map (T O)⟩::R))(d: -100000<=l/\l<=100000)(b:zI (dN k op n t nm ks))(a:L.length<=25000)(c:t.size<=19\/Bg E W L 1:=by exact .inl (by first|decide|omega)):
  Z S 102 #[bV E,.agg #[X O k,X O 0,X O 0,X O 0,X O op,X O n,Br t,U an mn cn,U ak mk ck]] W fun e w'=>e= V (X O (L.length:Nat))/\Bd E w' (L++[⟨dN k op n t nm ks,U an mn cn,U ak mk ck⟩]) (l-1) (x-400) R/\Ax E.base W w':=aqb (N:=dN k op n t nm ks) h d b a (by
   rcases c with g|g
   ·rw[ahh (show(dN k op n t nm ks).x.size<=19 from g)];exact h.bg0
   ·by_cases f:19<t.size
    ·have e:bgN (dN k op n t nm ks)=1:=by unfold bgN;rw[ab (show 19<(dN k op n t nm ks).x.size from f)]
     rw[e];exact g
    ·rw[ahh (show(dN k op n t nm ks).x.size<=19 by show t.size<=19;omega)];exact h.bg0)
theorem aiC(h:Bd E W L l x (⟨3,U ak mk ck,ks.map (T O)⟩::R))(g: -100000<=l/\l<=100000)(a:0<=k/\k<=1000/\k≠25)(c:ks.length<=64)(d:∀z∈ks,0<=z/\z<=100000)(f:L.length<=25000):
  Z S 99 #[bV E,X O k,U ak mk ck] W fun e w'=>e= V (X O (L.length:Nat))/\Bd E w' (L++[⟨dN k 0 0 ⟨#[]⟩ [] ks,U A0 0 0,U ak mk ck⟩]) (l-1) (x-400) R/\Ax E.base W w':=by
 have j:=E7 (k:=k) (op:=0) (n:=0) (t:=⟨#[]⟩) (nm:=[]) (an:=A0) (mn:=0) (cn:=0) (h.nil (by decide)) g (pC ⟨a.1,a.2.1⟩ (by decide) (by decide) (qD a.2.2) (by decide) (fun m i=>by cases i) c d) f;go_in;go_wp2_with fail;refine cJ j fun w1 b=>?_;go_wp2_with fail;go_ret;exact⟨rfl,b⟩
theorem Bw(k:Int)(C:200<k)(E:k<=100000)(b base:Nat)(w:A5)(c:Option Addr)(a d:Nat)(p q r:Int)(n:base<=b)(m:base<=w.heap.size)(o:fj b w c a d p q r)(h:Code base w c a)(v:0<=p)(F:p<=900000000)(i:a<=1048576):
  Z S 13 #[.pointer (A2 ⟨b,0,A0⟩),X O k] w fun e w'=>∃z:Int,0<=z/\z<k/\e= V (X O z)/\∃y,fj b w' c a d (p+2) y r/\w.grownBy w' (A2 b):=by
 have j:=yx b base w c a d p q r o h v (by omega) i;go_in;go_wp2_with fail;refine j.mono ?_;rintro e w1 ⟨z,z0,L,rfl,A,s,f⟩;have x:=yx b base w1 c a d (p+1) A r s (h.below (oB f n m)) (by omega) (by omega) i;have l:=aw f;clear f j;have G:IntKind.i64.wrap (z*256)=z*256:=by rw[di];omega
 go_wp2_with fail;refine x.mono ?_;rintro e I ⟨g,J,K,rfl,B,t,u⟩;have H:IntKind.i64.wrap (z*256+g)=z*256+g:=by rw[di];omega
 go_wp2_with fail;go_ret;exact⟨(z*256+g)%k,Int.emod_nonneg _ (by omega),Int.emod_lt_of_pos _ (by omega),rfl,B,by rw[show p+2=p+1+1 by omega];exact t,Je l u⟩
theorem aly(h:Bd E W L l x R)(k:Int)(i:200<k)(j:k<=100000)(s:L.length<=25000)(t:x<=20000000):
  Z S 13 #[cV E,X O k] W fun e w'=>∃z:Int,0<=z/\z<k/\e= V (X O z)/\Bd E w' L l (x+2) R/\Ax E.base W w':=by
 obtain⟨n,p,q,c,o,u,m⟩:=h.cur;have:=h.hl;refine(Bw k i j E.cb E.base W E.a0 E.len E.cap n p q h.lo.1 h.lt.2.2.1 c h.code o (by omega) this.1).mono ?_;rintro e w' ⟨z,z0,r,f,v,d,g⟩;obtain⟨a,_,b⟩:=h.went (y:=x+2) g d (by omega) m;exact⟨z,z0,r,f,a,b⟩
theorem ao6(h:Bd E W L l x R)(g:L.length<=25000)(B:x<=19000000):
  Z S 36 #[cV E] W fun e w'=>∃n:Int,(-9223372036854775808<=n/\n<=9223372036854775807)/\e= V (X O n)/\Bd E w' L l (x+3) R/\Ax E.base W w':=by
 have t:=ru h 6 (by decide) (by decide) g;go_in;go_wp2_with fail;refine t.mono ?_;rintro e w1 ⟨b,z0,C,rfl,m,_,s⟩;have f:=aw s;clear s t h;have j:=ru m 3 (by decide) (by decide) g;have i:=ru m 12 (by decide) (by decide) g;have k:=aly m 70000 (by decide) (by decide) g (by omega);rcases(show b=0\/b=1\/b=2\/(b≠0/\b≠1/\b≠2) by omega) with rfl|rfl|rfl|⟨u,v,w⟩
 ·clear i k;go_wp2_with fail;refine j.mono ?_;rintro e p ⟨a,q,r,rfl,c,_,d⟩;have o:IntKind.i64.wrap (9223372036854775807-a)=9223372036854775807-a:=by rw[di];omega
  go_wp2_with fail;go_ret;exact⟨_,by omega,rfl,c.wide,f.out.trans d⟩
 ·clear i k;go_wp2_with fail;refine j.mono ?_;rintro e p ⟨a,q,r,rfl,c,_,d⟩;have o:IntKind.i64.wrap (-9223372036854775808+a)= -9223372036854775808+a:=by rw[di];omega
  go_wp2_with fail;go_ret;exact⟨_,by omega,rfl,c.wide,f.out.trans d⟩
 ·clear i j;go_wp2_with fail;refine k.mono ?_;rintro e p ⟨a,q,r,rfl,c,d⟩;have o:IntKind.i64.wrap (a-35000)=a-35000:=by rw[di];omega
  go_wp2_with fail;go_ret;exact⟨_,by omega,rfl,c.wide,f.out.trans d⟩
 ·clear k j;have y:(b==0)=A9:=by simpa using u
  have z:(b==1)=A9:=by simpa using v
  have A:(b==2)=A9:=by simpa using w
  go_wp2_with fail;refine i.mono ?_;rintro e p ⟨a,q,r,rfl,c,_,d⟩;have o:IntKind.i64.wrap (a-3)=a-3:=by rw[di];omega
  go_wp2_with fail;go_ret;exact⟨_,by omega,rfl,c.wide,f.out.trans d⟩
end
section
variable {E : Bs} {W : World} {L : List Mb} {l x : Int} {R : List Rwx}
theorem ao7(h:Bd E W L l x R)(n:Int)(i:0<=n)(t:n<=100)(r:L.length<=25000)(v:x<=18000000):
  Z S 42 #[cV E,X O n] W fun e w'=>∃s:ByteArray,(s.size:Int)<=n/\e= V (Br s)/\Bd E w' L l (x+100) R/\Ax E.base W w':=by
 obtain⟨k,rfl⟩:=gl i;obtain⟨m,p,q,c,o,A,j⟩:=h.cur;have:=h.hl;refine(Ff k (by omega) E.cb E.base W E.a0 E.len E.cap m p q h.lo.1 h.lt.2.2.1 c h.code o (by omega) this.1).mono ?_;rintro e w' ⟨s,u,f,w,C,z,B,d,g⟩;obtain⟨a,_,b⟩:=h.went (y:=x+100) g d (by omega) j;exact⟨s,by omega,f,a,b⟩
end
structure DgT (t:ByteArray):Prop where
 dg:∀i,i<t.size->bc (aq t i)=true
 b0:aq t 0=48
 b1:aq t 1=49
theorem aq2:DgT ⟨#[48,49,50,51,52,53,54,55,56,57]⟩:=⟨fun a b=>by
 have:a<10:=b;rcases(show a=0\/a=1\/a=2\/a=3\/a=4\/a=5\/a=6\/a=7\/a=8\/a=9 by omega) with rfl|rfl|rfl|rfl|rfl|rfl|rfl|rfl|rfl|rfl<;>decide,by decide,by decide⟩
theorem DgT.twice(h:DgT t):DgT (t++t):=by
 have a:=bz h.b0;have b:=bz h.b1;refine⟨fun d c=>?_,by rw[ib,ab a];exact h.b0,by rw[ib,ab b];exact h.b1⟩;rw[ax]at c;rw[ib];split
 ·exact h.dg d (by omega)
 ·exact h.dg _ (by omega)
theorem DgT.lng(h:DgT t){n:Nat}(c:20<=n)(d:n<=4001)(a:n<=t.size):Lng (t.extract 0 n):=by
 have f:(t.extract 0 n).size=n:=by rw[ik];omega
 refine⟨by omega,by omega,fun b e=>?_,by rw[Dt t n 0 a (by omega)];exact h.b0,by rw[Dt t n 1 a (by omega)];exact h.b1⟩;rw[Dt t n b a (by omega)];exact h.dg b (by omega)
section
variable {E : Bs} {W : World} {L : List Mb} {l x : Int} {R : List Rwx}
theorem ar7(h:Bd E W L l x R)(i:L.length<=25000)(be:x<=17000000):
  Z S 39 #[cV E] W fun e w'=>∃s:ByteArray,(Sml s\/(Lng s/\Bg E w' L 1))/\e= V (Br s)/\Bd E w' L l (x+110) R/\Ax E.base W w':=by
 have af:=ru h 6 (by decide) (by decide) i;go_in;go_wp2_with fail;refine af.mono ?_;rintro e w1 ⟨g,z0,bx,rfl,o,_,F⟩;have a:=dC o F;clear F af h;rcases(show g=0\/g=1\/g=2\/g=3\/g=4\/g=5 by omega) with rfl|rfl|rfl|rfl|rfl|rfl
 ·go_wp2;go_ret;exact⟨_,.inl ⟨by decide,qm⟩,rfl,a.1.wide,a.2⟩
 ·have k:=ru o 6 (by decide) (by decide) i;go_wp2_with fail;refine k.mono ?_;rintro e w ⟨y,ap,ar,rfl,f,_,j⟩;have am:=ao7 f y (by omega) (by omega) i (by omega);have c:=aw j;clear j k;go_wp2_with fail;refine am.mono ?_;rintro e bt ⟨s,bb,rfl,ak,al⟩;go_wp2;go_ret;exact⟨_,.inl ⟨by omega,(anr s).le (by omega)⟩,rfl,ak.wide,(a.2.trans c).trans al⟩
 ·go_wp2;go_ret;exact⟨_,.inl ⟨by decide,qm⟩,rfl,a.1.wide,a.2⟩
 ·have k:=ru o 20 (by decide) (by decide) i;go_wp2_with fail;refine k.mono ?_;rintro e w ⟨y,ap,ar,rfl,f,_,j⟩;have c:=dC f (a.2.trans j);clear j k o;obtain⟨bh,bk,d,t,an,bj,bn,bo,ao⟩:=f.cur;obtain⟨av,a0,a1,a2,a3,a4,a5⟩:=wd t;by_cases ad:y=0
  ·subst ad;by_cases a9:d<3
   ·have r:=f.went (y:=x+2) (xl (pj w E.cb) 3 (X O (d+1))) (t.set3 (d+1)) ⟨an,by omega⟩ ⟨by omega,by omega,by omega⟩;have B:Bg E (w.setCell ⟨E.cb,3,A0⟩ (X O (d+1))) L 1:=fun p2 bl ao n=>by
     have H:=t.set3 (d+1);unfold fj at H n;rw[H]at n;simp at n;obtain⟨_,_,rfl⟩:=n;exact⟨by omega,by omega,by omega⟩
    have p:=iF r.1 r.2.2 B;clear B;clear r f;have bd:IntKind.i64.wrap (d+1)=d+1:=by rw[di];omega
    go_wp2_with fail;go_loop [3] (fun u=>∃b:ByteArray,u= Br b/\Ten b.size/\DgT b) (fun u=>6000-amI u)
    case atStart=>exact⟨_,rfl,.inl rfl,aq2⟩
    case round=>
     obtain⟨b,rfl,K,I⟩:=hrel;have m:=aw K;have z:=aw I;clear K I;by_cases J:b.size<4000
     ·go_wp2;go_round
      case rel=>exact⟨_,rfl,Fg m J,z.twice⟩
      case measure=>have a6:=ab8 m.out;show 6000-(b++b).size<6000-b.size;rw[ax];omega
     ·have a7:4001<=b.size:=ab6 m.out J;have a8:b.size<=5120:=ab7 m.out;have ag:=aqa p.1 p.2.2 3 (by decide) (by decide) i (by omega);go_wp2_with fail;refine ag.mono ?_;rintro e bw ⟨v,br,bs,rfl,A,C,G⟩;have q:=iF A ((c.2.trans p.2.1).trans G) C;clear A G ag C;rcases(show v=0\/v=1\/v=2 by omega) with rfl|rfl|rfl;all_goals
       go_wp2;go_ret;exact⟨_,.inr ⟨z.lng (by omega) (by omega) (by omega),q.2.2⟩,rfl,q.1.wide,q.2.1⟩
   ·go_wp2;go_ret;exact⟨_,.inl ⟨by decide,qm⟩,rfl,c.1.wide,c.2⟩
  ·have bf:(y==0)=A9:=by simp[ad]
   go_wp2;go_ret;exact⟨_,.inl ⟨by decide,qm⟩,rfl,c.1.wide,c.2⟩
 ·go_wp2;go_ret;exact⟨_,.inl ⟨by decide,qm⟩,rfl,a.1.wide,a.2⟩
 ·go_wp2;go_ret;exact⟨_,.inl ⟨by decide,qm⟩,rfl,a.1.wide,a.2⟩
end
def Lf(s c l a:Int):Prop:=(l<5->l-s<=a)/\(5<=l->5-c<=a)
structure uu (E:Bs) (W:A5) (L:List Mb) (l x:Int) (R:List Rwx) (m:Int):Prop where
 bd:Bd E W L l x R
 sum:l+L.length<=140
 lo: -20000+12*m<=l
 hx:x+1000*m<=4000000
 m0:0<=m/\m<=1300
def Ans(a:Bs)(W:A5)(b:List Mb)(l x:Int)(f:List Rwx)(s c:Int)(e:Ending)(d:A5):Prop:=
 ∃M:List Mb,0<M.length/\e= V (X O ((b.length:Int)+M.length-1))/\Bd a d (b++M) (l-M.length) x f/\Ax a.base W d/\Lf s c l (l-M.length)
section
variable {E : Bs} {W : World} {L : List Mb} {l x : Int} {R : List Rwx}
theorem abC{y:Mb}{a:Int}(f:1<=s)(e:1<=c)(d:a-400<=x)(h:Bd E w' (L++[y]) (l-1) (a-400) R)(b:Ax E.base W w'):Ans E W L l x R s c (V (X O (L.length:Nat))) w':=
 ⟨[y],by simp,by congr 2;simp,h.wide d,b,⟨fun _=>by simp;omega,fun _=>by simp;omega⟩⟩
theorem amy(h:uu E W L l x R m)(bf:1<=m):
  Z S 153 #[bV E] W (Ans E W L l x R 1 1):=by
 obtain⟨B,bk,be,bn,bh⟩:=h;have c:L.length<=25000:=by omega
 have a4:=B.c0;have r: -100000<=l/\l<=100000:=by omega
 have I:=ru B 9 (by decide) (by decide) c;go_in;go_wp2_with fail;refine I.mono ?_;rintro z w1 ⟨b,z0,bo,rfl,p,_,G⟩;have o:=aw G;clear G I B;have u:∀{W:A5}{L:List Mb}{l x:Int}{R:List Rwx},Bd E W L l x R->Bd E W L l x (⟨9,U A0 0 0,([]:List ByteArray).map Y⟩::⟨3,U A0 0 0,([]:List Int).map (T O)⟩::R):=fun h=>(h.nil toI).nil KH;have s:∀{k n:Int}{t:ByteArray},0<=k->k<=1000-> -9223372036854775808<=n/\n<=9223372036854775807->Txt k t->zI (dN k 0 n t [] []):=fun J K ad af=>pC ⟨J,K⟩ (by decide) ad af (by decide) (fun q i=>by cases i) (by decide) (fun q i=>by cases i);rcases(show b=0\/b=1\/b=2\/b=3\/b=4\/b=5\/(b≠0/\b≠1/\b≠2/\b≠3/\b≠4/\b≠5) by omega) with rfl|rfl|rfl|rfl|rfl|rfl|⟨ag,ak,al,am,an,ao⟩
 ·have j:=ru p 3 (by decide) (by decide) c;go_wp2_with fail;refine j.mono ?_;rintro z v ⟨g,a2,a3,rfl,f,_,e⟩;have bl:IntKind.i64.wrap (20+g)=20+g:=by rw[di];omega
  have d:=E7 (k:=20+g) (op:=0) (n:=0) (t:=⟨#[]⟩) (u f) r (s (by omega) (by omega) (by decide) (qD (by omega))) c;go_wp2_with fail;refine cJ d fun w a=>?_;go_wp2_with fail;go_ret;exact abC (by decide) (by decide) (by omega) a.1 ((o.out.trans e).trans a.2)
 iterate 2
  ·have j:=ao6 p c (by omega);go_wp2_with fail;refine j.mono ?_;rintro z v ⟨n,av,rfl,f,e⟩;have d:=E7 (k:=23) (op:=0) (n:=n) (t:=⟨#[]⟩) (u f) r (s (by decide) (by decide) av (qD (by decide))) c;go_wp2_with fail;refine cJ d fun w a=>?_;go_wp2_with fail;go_ret;exact abC (by decide) (by decide) (by omega) a.1 ((o.out.trans e).trans a.2)
 ·have C:=aw fun (a1:Obj)=>ru (p.below (bG w1 a1)) 5 (by decide) (by decide) c;have ar:=p.lt;go_wp2_with fail;refine(C _).mono ?_;rintro z v ⟨g,a2,a3,rfl,f,F,e⟩;have H:=F.blk (ay w1 _) (by decide);have bj:=fun a0=>au v w1.heap.size a0 _ _ _ H;have y:=dC f (((bG w1 _).mono ar.2.2.1).trans e);clear f F e H C;have d:=fun (t:ByteArray) (A:t.size<=19/\Cs t 90)=>E7 (k:=24) (op:=0) (n:=0) (t:=t) (u y.1) r (s (by decide) (by decide) (by decide) (.inl ⟨by decide,A⟩)) c (.inl A.1);rcases(show g=0\/g=1\/g=2\/g=3\/g=4 by omega) with rfl|rfl|rfl|rfl|rfl;all_goals
   go_wp2_with fail;refine cJ (d _ ⟨by decide,qm⟩) fun w a=>?_;go_wp2_with fail;go_ret;exact abC (by decide) (by decide) (by omega) a.1 ((o.out.trans y.2).trans a.2)
 ·have j:=ar7 p c (by omega);go_wp2_with fail;refine j.mono ?_;rintro z v ⟨q,i,rfl,f,e⟩;have d:=fun (t:ByteArray) (A:Sml t\/(Lng t/\t.size<=4000/\Bg E v L 1))=>E7 (k:=25) (op:=0) (n:=0) (t:=t) (u f) r (s (by decide) (by decide) (by decide) (.inr ⟨rfl,A.imp id fun h=>⟨h.1,h.2.1⟩⟩)) c (A.imp (fun h=>h.1) fun h=>h.2.2);have y:=aw e;clear e j;by_cases bd:4000<q.size
  ·have ap:(4000:Int)<(q.size:Int):=by omega
   go_wp2_with fail;refine cJ (d _ (.inl ⟨by decide,qm⟩)) fun w a=>?_;go_wp2_with fail;go_ret;exact abC (by decide) (by decide) (by omega) a.1 ((o.out.trans y).trans a.2)
  ·have ap:¬(4000:Int)<(q.size:Int):=by omega
   go_wp2_with fail;refine cJ (d _ (i.imp id fun h=>⟨h.1,by omega,h.2⟩)) fun w a=>?_;go_wp2_with fail;go_ret;exact abC (by decide) (by decide) (by omega) a.1 ((o.out.trans y).trans a.2)
 ·have d:=E7 (k:=27) (op:=0) (n:=0) (t:=⟨#[]⟩) (u p) r (s (by decide) (by decide) (by decide) (qD (by decide))) c;go_wp2_with fail;refine cJ d fun w a=>?_;go_wp2_with fail;go_ret;exact abC (by decide) (by decide) (by omega) a.1 (o.out.trans a.2)
 ·have a5:(b==0)=A9:=by simpa using ag
  have a6:(b==1)=A9:=by simpa using ak
  have a7:(b==2)=A9:=by simpa using al
  have a8:(b==3)=A9:=by simpa using am
  have a9:(b==4)=A9:=by simpa using an
  have bb:(b==5)=A9:=by simpa using ao
  have j:=abB p c (by omega);go_wp2_with fail;refine j.mono ?_;rintro z v ⟨q,i,rfl,f,e⟩;have d:=E7 (k:=26) (op:=0) (n:=0) (t:=q) (u f) r (s (by decide) (by decide) (by decide) (ahf (by decide) i)) c (.inl (by have:=i.sz;omega));go_wp2_with fail;refine cJ d fun w a=>?_;go_wp2_with fail;go_ret;exact abC (by decide) (by decide) (by omega) a.1 ((o.out.trans e).trans a.2)
end
def FB(f:FuncId)(d m s c:Int):Prop:=∀ ⦃E:Bs⦄ ⦃W:A5⦄ ⦃L:List Mb⦄ ⦃l x:Int⦄ ⦃R:List Rwx⦄,uu E W L l x R m->Z S f #[bV E,X O d] W (Ans E W L l x R s c)
def AL(f:FuncId)(d m s c:Int):Prop:=∀ ⦃E:Bs⦄ ⦃W:A5⦄ ⦃L:List Mb⦄ ⦃l x:Int⦄ ⦃R:List Rwx⦄,uu E W L l x R m->Z S f #[bV E,X O d] W (Ans E W L l (x-100) R s c)
theorem AL.weak(h:AL f d m s c):FB f d m s c:=fun _ _ _ _ _ _ j=>(h j).mono fun k l ⟨a,b,e,g,i⟩=>⟨a,b,e,g.wide,i⟩
theorem uu.less{a:Bs}{W:A5}{b:List Mb}{l x:Int}{c:List Rwx}(p:uu a W b l x c m)(d:0<=m')(h:m'<=m):uu a W b l x c m':=⟨p.bd,p.sum,by have:=p.lo;omega,by have:=p.hx;omega,by have:=p.m0;omega⟩
theorem FB.up{b a:Int}(h:FB f d m s c)(g:0<=m)(n:m<=m')(t:s<=b)(r:c<=a):FB f d m' b a:=fun _ _ _ _ _ _ o=>(h (o.less g n)).mono fun p u ⟨e,i,j,k,l,q⟩=>⟨e,i,j,k,l,by unfold Lf at *;omega⟩
theorem AL.up{b a:Int}(h:AL f d m s c)(g:0<=m)(n:m<=m')(t:s<=b)(r:c<=a):AL f d m' b a:=fun _ _ _ _ _ _ o=>(h (o.less g n)).mono fun p u ⟨e,i,j,k,l,q⟩=>⟨e,i,j,k,l,by unfold Lf at *;omega⟩
section
variable {E : Bs} {W : World} {L M : List Mb} {l x y : Int} {R R' : List Rwx} {m m' : Int}
theorem uu.len(h:uu E W L l x R m):L.length<=25000/\ -100000<=l/\l<=100000:=by
 obtain⟨_,a,b,c,d⟩:=h;omega
theorem uu.next(h:uu E W L l x R m){w:A5}(a:Bd E w (L++M) (l-M.length) y R')(i:y<=x+900)(c:0<=m'/\m'+1<=m)(b: -20000+12*m'<=l-M.length):uu E w (L++M) (l-M.length) y R' m':=by
 obtain⟨_,d,e,f,g⟩:=h;exact⟨a,by rw[aB];simp;omega,b,by omega,⟨c.1,by omega⟩⟩
theorem Bd.newI(h:Bd E W L l x R)(ks:List Int)(b:ks.length<=100)(n:Nat)(a:ks.length=n):Bd E (W.alloc (.cells (ks.map (T O)).toArray 3)) L l x (⟨3,U (A2 ⟨W.heap.size,0,A0⟩) n n,ks.map (T O)⟩::R):=by
 subst a;refine h.new toI _ _ rfl ?_ rfl;have:=lC (base:=E.base) (e:=3) (size:=1) W (ks.map (T O)).toArray ks.length h.lt.2.2.1 (by unfold B4;omega) (by simp);simpa using this
theorem alz{z:Mb}{b:Int}{r:Int}(g:b-400<=x)(h:Bd E w' (L++M++[z]) (l-M.length-1) (b-400) R)(d:Ax E.base W w')(e:Lf s c l (l-M.length-1))(f:r=(L.length:Int)+M.length:=by simp):Ans E W L l x R s c (V (X O r)) w':=by
 subst f;have a:l-((M++[z]).length:Nat)=l-M.length-1:=by simp;omega
 refine⟨M++[z],by simp,by congr 2;simp;omega,?_,d,?_⟩
 ·rw[a,<-cH];exact h.wide g
 ·rw[a];exact e
theorem Bd.last(h:Bd E W (L++M) l x R)(i:0<M.length):∃(k g a:Nat) (y:Mb),k+1=L.length+M.length/\W.cell? ⟨E.bb,1,A0⟩=A2 (U (A2 ⟨g,0,A0⟩) (k+1) a)/\W.cell? ⟨g,k*9,A0⟩=A2 (X O y.N.k):=by
 obtain⟨m,d,b⟩:=h.row;have e:(L++M).length=L.length+M.length:=aB;obtain⟨y,f⟩:∃y,(L++M)[L.length+M.length-1]?=A2 y:=⟨_,aE (by omega)⟩;rcases bq b with⟨j,rfl⟩|⟨g,a,rfl⟩
 ·omega
 ·refine⟨L.length+M.length-1,g,a,y,by omega,?_,?_⟩
  ·rw[au _ _ _ _ _ _ d,e,show L.length+M.length-1+1=L.length+M.length by omega];rfl
  ·obtain⟨c,_⟩:=wh b f;exact c
end
theorem amz{ce:Int}(ag:0<=me/\me+1<=m)(I:0<=ce/\ce<=4000)(u:FB 103 d me 1 ce):FB 151 d m 2 (ce+1):=by
 intro p r g y A q a;have t:uu p r g y A q me:=⟨a.bd,a.sum,by have:=a.lo;omega,by have:=a.hx;omega,by have:=a.m0;omega⟩;have n:=u t;go_in;go_wp2_with fail;refine n.mono ?_;rintro E w1 ⟨c,i,rfl,e,j,v⟩;have ad:=a.len;have al:=a.sum;have af:=a.lo;have ak:=a.m0;unfold Lf at v;obtain⟨k,G,C,o,L,B,s⟩:=e.last i;have f:((g.length:Int)+c.length-1)=(k:Int):=by omega
 rw[f];have b:=dC e j;clear e j n;have J:(0:Int)<=(k:Int):=by omega
 have K:(k:Int)<((k+1:Nat):Int):=by omega
 have H:(c.length:Int)<=22000:=by omega
 by_cases l:o.N.k=27
 ·rw[l]at s;have w:=b.1.newI [(k:Int)] (by simp) 1 rfl;have x:=aiC (k:=37) w (by omega) (by decide) (by simp) (fun an f=>by rw[List.mem_singleton.1 f];omega) (by rw[aB];omega);go_wp2_with fail;refine cJ x fun am h=>?_;go_wp2_with fail;go_ret;exact alz (by omega) h.1 ((b.2.trans ((bG w1 _).mono b.1.lt.2.2.1)).trans h.2) (by unfold Lf;omega)
 ·have F:(o.N.k==27)=A9:=by simpa using l
  go_wp2_with fail;go_ret;exact⟨c,i,congrArg (fun z=>Ending.returned (X O z)) (show(k:Int)=_ by omega),b.1,b.2,by unfold Lf;omega⟩
theorem ao8:(Tryz.prog.info? 3).map (fun i=>(i.zero,i.size,i.bytes))=A2 (A2 (X O 0),1,8):=by kernel_rfl
section
variable {E : Bs} {W : World} {L : List Mb} {l x : Int} {R : List Rwx}
theorem Bd.formI(h:Bd E W L l x (⟨3,v,ks.map (T O)⟩::R)):∃a c,v= U a ks.length c:=by
 have b:=(h.rows _ bB).2;simp only[cA]at b;exact cj b
theorem vB{j:List Oper}{m:Nat}(r:o.guard=A0)(s y:Operand)
  (A:o.op= .call {callee:= .builtin .append,args:=#[s,y],argTypes:=#[24,24]}) (h:Bd E W L l x (⟨3,v,ks.map (T .i64)⟩::R)) (B:a.eval s=v) (t:Int) {e:A5}(C:W=e.alloc (.cells #[.int .i64 t] 3)) (F:a.eval y= .slice (A2 ⟨e.heap.size,0,A0⟩) 1 1) (z:ks.length=m) (af:m<=1000)
  (k:∀b c w1,Bd E w1 L l x (⟨3,.slice b (m+1) c,(ks++[t]).map (T .i64)⟩::R)->Ax E.base W w1->wpList S ops Q j (a.put o.dst (.slice b (m+1) c)) w1):
  wpList S ops Q (o::j) a W:=by
 subst z;obtain⟨J,w,G,H,I⟩:=dD ao8;have i:=(h.rows _ bB).2;simp only[cA]at i;refine B1 _ r s y 24 A E.base 3 J _ 1 8 Tryz.underlying24 w G H I rfl (by decide) v _ _ B i ⟨e.heap.size,0,A0⟩ 1 1 [.int .i64 t] F (by simp) (World.news_of_block (cs:=#[.int .i64 t]) (by rw[C];exact ay e _)) (by simp[Value.oneCell']) (by unfold B4;omega) (by omega) h.lt.2.2.1 ?_;intro ag w1 g p _ n;obtain⟨b,c,rfl⟩:=cj g;have u:∀d,(B3 b (ks.length+1) c).ownBlock=A2 d->v.ownBlock=A2 d\/W.heap.size<=d:=fun d f=>by
  rcases n with q|q
  ·exact .inl (q ▸ f)
  ·rw[q]at f;cases f;exact .inr (ae _)
 obtain⟨K,ad⟩:=h.hot (r':=⟨3,.slice b (ks.length+1) c,(ks++[t]).map (T .i64)⟩) p toI (by simpa using g) u;exact k b c w1 K ad
end
def Pl(ks:List Int):Prop:=∀z∈ks,0<=z/\z<=100000
theorem Pl.add(h:Pl ks)(a:0<=z)(b:z<=100000):Pl (ks++[z]):=fun c hy=>by
 rcases List.mem_append.1 hy with hy|hy
 ·exact h c hy
 ·rw[List.mem_singleton.1 hy];exact⟨a,b⟩
def ar8(b:Bs)(W:A5)(g:List Mb)(l x:Int)(h:List Rwx)(n:Nat)(s c:Int)(e:Ending)(f:A5):Prop:=
 ∃(M:List Mb) (ks:List Int) (a:Option Addr) (d:Nat),e= V (U a n d)/\ks.length=n/\Pl ks/\Bd b f (g++M) (l-M.length) x (⟨3,U a n d,ks.map (T O)⟩::h)/\Ax b.base W f/\Lf s c l (l-M.length)
theorem aiD{ce:Int}(ak:0<=me/\me+1<=m)(a2:0<=ce/\ce<=4000)(L:FB 103 d me 1 ce){e:Bs}{W:A5}{g:List Mb}{l x:Int}{r:List Rwx}(h:uu e W g l x r m)(n:Nat)(a9:n<=8):
  Z S 101 #[bV e,X O n,X O d] W (ar8 e W g l x r n n (ce+n)):=by
 have a6:=h.len;have F:=h.sum;have a7:=h.lo;have a8:=h.m0;have bb:=h.hx;go_in;go_wp2_with fail;go_loopw [1,7] (fun y ao wr=>∃(c b:Nat) (a:List Mb) (f:List Int),y= X O c/\c+b=n/\f.length=b/\Pl f/\Bd e wr (g++a) (l-a.length) x (⟨3,ao,f.map (T O)⟩::r)/\Ax e.base W wr/\Lf b (ce+b) l (l-a.length)) (fun y _ _=>(B0 y).toNat)
 case atStart=>exact⟨n,0,[],[],rfl,rfl,rfl,fun be F=>(by cases F),by simpa using h.bd.nil toI,ah _ _,by unfold Lf;simp;omega⟩
 case round=>
  obtain⟨c,b,a,f,rfl,C,v,w,i,u,B⟩:=hrel;have a5:c<=n:=by omega
  have a3:b<=n:=by omega
  have H:=aw B;unfold Lf at B;have E:uu e wr (g++a) (l-a.length) x _ me:=h.next i (by omega) ak (by omega)
  by_cases a4:0<c
  ·have G:=L E;have q:=CB C w u v;clear C w u i;go_wp2_with fail;refine G.mono ?_;rintro s w1 ⟨j,a1,rfl,z,A,af⟩;unfold Lf at af;have al:=E.sum;have p:=dC z A;clear z A G;obtain⟨o,k⟩:=aA (((g++a).length:Int)+j.length-1);rw[k];rw[aB]at k al;have am:0<=o:=by omega
   have an:o<=100000:=by omega
   have ap:=aw k;clear k;go_wp2_with (at_builtin;refine vB rfl _ _ rfl (p.1.below (bG w1 _)) rfl o rfl rfl q.2.2.2 (by have:=q.1;omega) ?_;intro ar a0 bf K ad);go_roundw
   case rel=>
    have t:=q.out;have ag:=p.1.lt;have s:l-((a++j).length:Nat)=l-a.length-j.length:=by simp;omega
    refine⟨c-1,b+1,a++j,f++[o],by go_num,by omega,by rw[aB,t.2.2.2];rfl,t.2.1.add am an,?_,((t.2.2.1.trans p.2).trans ((bG w1 _).mono ag.2.2.1)).trans ad,?_⟩
    ·rw[s,<-cH];exact K
    ·rw[s];unfold Lf;omega
   case measure=>simp[B0];omega
  ·obtain rfl:c=0:=by omega
   obtain⟨I,J,rfl⟩:=i.formI;obtain rfl:b=n:=by omega
   rw[v]at i⊢;go_wp2_with fail;go_ret;exact⟨a,f,I,J,rfl,v,w,i,u,H⟩
section
variable {E : Bs} {W : World} {L : List Mb} {l x : Int} {R : List Rwx}
theorem Bd.intAt{a:Option Addr}{n d:Nat}(h:Bd E W L l x (r::⟨3,U a n d,ks.map (T O)⟩::R))(f:ks.length=n){i:Nat}(m:i<n):∃g z,a=A2 ⟨g,0,A0⟩/\ks[i]?=A2 z/\W.cell? ⟨g,i,A0⟩=A2 (X O z):=by
 have b:=(h.rows _ (cL _ bB)).2;simp only[cA,f]at b;obtain⟨z,c⟩:∃z,ks[i]?=A2 z:=⟨_,aE (by omega)⟩;rcases bq b with⟨k,_⟩|⟨g,j,e⟩
 ·omega
 ·cases e;refine⟨g,z,rfl,c,?_⟩;rw[b.cellAt i (by omega),bK,c];rfl
end
theorem amA{mb cb ce:Int}(b8:0<=mb/\mb+1<=m/\0<=me/\me+2<=m)(b1:0<=ce/\ce<=cb/\cb<=4000)(b2: -100<=d/\d<=100)(a7:FB 151 (d-1) mb 2 cb)(a9:FB 103 (d-1) me 1 ce):AL 98 d m 5 (cb+3):=by
 intro f y l i u x c;have b5:=c.len;have am:=c.sum;have b6:=c.lo;have b9:=c.m0;have cc:=c.hx;have a6:uu f y l i u x mb:=⟨c.bd,c.sum,by omega,by omega,by omega⟩;have kB:=a7 a6;have ca:IntKind.i64.wrap (d-1)=d-1:=by rw[di];omega
 go_in;go_wp2_with fail;refine kB.mono ?_;rintro o w1 ⟨a,b0,rfl,p,K,be⟩;unfold Lf at be;obtain⟨q,C⟩:=aA ((l.length:Int)+a.length-1);rw[C];have bl:0<=q/\q<=100000:=by omega
 have al:=p.newI [q] (by simp) 1 rfl;have af:Ax f.base y (w1.alloc (.cells ([q].map (T O)).toArray 3)):=K.trans ((bG w1 _).mono p.lt.2.2.1);have bx:=p.c0;have b7:=p.lt;have ap:=ru al 3 (by decide) (by decide) (by rw[aB];omega);have a0:=dC af C;clear al af p K kB C;go_wp2_with fail;refine ap.mono ?_;rintro o bt ⟨n,br,cf,rfl,G,_,L⟩;obtain⟨n,rfl⟩:=gl br;have p2:uu f bt (l++a) (i-a.length) (u+1) _ (m-1):=c.next G (by omega) (by omega) (by omega)
 have ao:=aiD (m:=m-1) (by omega) (by omega) a9 p2 n (by omega);have ar:=aw (a0.1.trans L);clear G L ap;go_wp2_with fail;refine ao.mono ?_;rintro o ch ⟨g,bo,a1,a5,rfl,ag,ak,H,ad,bf⟩;unfold Lf at bf;have bk:=p2.sum;have I:=H.swap;have w:=iF I (ar.out.trans ad) ak;clear H ad ao I p2 ak;rw[aB]at bk;go_wp2_with fail;go_loopw [6,25] (fun bs E wr=>∃(b:Nat) (e:List Int),E= X O b/\b<=n/\e.length=b+1/\Pl e/\Bd f wr (l++a++g) (i-a.length-g.length) (u+1) (⟨3,bs,e.map (T O)⟩::⟨3,U a1 n a5,bo.map (T O)⟩::x)/\Ax f.base y wr) (fun _ E _=>n-(B0 E).toNat)
 case atStart=>exact⟨0,[q],rfl,aF _,rfl,fun v B=>by rw[List.mem_singleton.1 B];exact bl,w.1,w.2.1⟩
 case round=>
  obtain⟨b,e,rfl,b4,z,A,h,s⟩:=hrel;by_cases bh:b<n
  ·obtain⟨bE,v,rfl,B,bD⟩:=h.intAt ag bh;have an:=w.2.2 v (cG B);have b3:(0:Int)<=(b:Int):=by omega
   have bj:(b:Int)<(n:Int):=by omega
   have j:=CB h s A z;clear h s A z;go_wp2_with (at_builtin;refine vB rfl _ _ rfl (j.1.below (bG wr _)) rfl v rfl rfl j.2.2.2 (by omega) ?_;intro bw bA ck a8 bb);go_roundw
   case rel=>
    have r:=j.out;exact⟨b+1,e++[v],by go_num,by omega,by rw[aB,r.2.2.2];rfl,r.2.2.1.add an.1 an.2,a8,(r.2.1.trans ((bG wr _).mono r.1.lt.2.2.1)).trans bb⟩
   case measure=>simp[B0];omega
  ·obtain⟨a3,a4,rfl⟩:=h.formI;have bj:¬(b:Int)<(n:Int):=by omega
   have o:i-((a++g).length:Nat)=i-a.length-g.length:=by simp;omega
   have J:Bd f wr (l++(a++g)) (i-((a++g).length:Nat)) (u+1) (⟨9,U A0 0 0,([]:List ByteArray).map Y⟩::⟨3,U a3 e.length a4,e.map (T O)⟩::x):=by
    rw[o,<-cH];exact(h.swap.drop).nil KH
   have bn:=E7 (k:=34) (op:=0) (n:=0) (t:=⟨#[]⟩) J (by omega) (pC (by decide) (by decide) (by decide) (qD (by first|decide|omega)) (by decide) (fun cg am=>by cases am) (by omega) A) (by simp;omega);have j:=aw s;clear h s J z ag;go_wp2_with fail;refine cJ bn fun cl F=>?_;go_wp2_with fail;go_ret;exact alz (by omega) F.1 (j.out.trans F.2) (by unfold Lf;rw[o];omega)
structure At (E:Bs) (W:A5) (L:List Mb) (l x:Int) (w:A5) (M:List Mb) (y:Int) (R:List Rwx):Prop where
 bd:Bd E w (L++M) (l-M.length) y R
 bel:Ax E.base W w
 hy:y<=x+600
 lo: -20000<=l-M.length
section
variable {E : Bs} {W w : World} {L M : List Mb} {l x y : Int} {R R' : List Rwx} {m : Int}
theorem uu.at(p:uu E W L l x R m):At E W L l x W [] x R:=⟨by simpa using p.bd,ah _ _,by omega,by have:=p.lo;have:=p.m0;simp;omega⟩
theorem At.len(p:uu E W L l x R m)(a:At E W L l x w M y R'):(L++M).length<=25000/\(-100000<=l-M.length/\l-M.length<=100000)/\y<=5000000/\L.length+M.length<=25000:=by
 have b:=p.sum;have c:=a.lo;have d:=a.hy;have e:=p.hx;have f:=p.m0;rw[aB];omega
theorem At.low(a:At E W L l x w M y R'):E.base<=w.heap.size:=a.bd.lt.2.2.1
theorem At.c0(a:At E W L l x w M y R'):w.cell? ⟨E.bb,0,A0⟩=A2 (cV E):=a.bd.c0
theorem At.c2(a:At E W L l x w M y R'):w.cell? ⟨E.bb,2,A0⟩=A2 (X O (l-M.length)):=a.bd.c2
theorem At.pick(p:uu E W L l x R m)(a:At E W L l x w M y R')(h:y+1<=x+600)(k:Int)(d:2<=k:=by decide)(f:k<=200:=by decide):
  Z S 13 #[cV E,X O k] w fun e w'=>∃z:Int,e= V (X O z)/\(0<=z/\z<k)/\At E W L l x w' M (y+1) R':=by
 have g:=a.len p;refine(ru a.bd k d f g.1).mono ?_;rintro e w' ⟨z,z0,i,rfl,b,_,c⟩;exact⟨z,rfl,⟨z0,i⟩,b,a.bel.trans c,h,a.lo⟩
theorem At.short(p:uu E W L l x R m)(a:At E W L l x w M y R')(g:y+1<=x+600):
  Z S 152 #[bV E] w fun e w'=>∃s:ByteArray,e= V (Br s)/\Shr s/\At E W L l x w' M (y+1) R':=by
 have d:=a.len p;refine(abB a.bd d.1 (by omega)).mono ?_;rintro e w' ⟨s,f,rfl,b,c⟩;exact⟨s,rfl,f,b,a.bel.trans c,g,a.lo⟩
theorem At.names(p:uu E W L l x R m)(a:At E W L l x w M y R')(n:Nat)(h:n<=8:=by omega)(j:y+n<=x+600:=by omega):
  Z S 100 #[bV E,X O n] w fun e w'=>∃(v:Option Addr) (c:Nat) (nm:List ByteArray),e= V (U v n c)/\nm.length=n/\(∀s∈nm,Shr s)/\At E W L l x w' M (y+n) (⟨9,U v n c,nm.map Y⟩::R'):=by
 have g:=a.len p;refine(ao5 a.bd n h g.1 (by omega)).mono ?_;rintro e w' ⟨v,c,nm,rfl,d,i,b,f⟩;rw[d]at b⊢;exact⟨v,c,nm,rfl,d,i,b,a.bel.trans f,j,a.lo⟩
theorem At.newI(a:At E W L l x w M y R')(ks:List Int)(b:ks.length<=100)(n:Nat)(c:ks.length=n):At E W L l x (w.alloc (.cells (ks.map (T O)).toArray 3)) M y (⟨3,U (A2 ⟨w.heap.size,0,A0⟩) n n,ks.map (T O)⟩::R'):=
 ⟨a.bd.newI ks b n c,a.bel.trans ((bG w _).mono a.low),a.hy,a.lo⟩
theorem At.nil(a:At E W L l x w M y R'){t:TypeId}(b:TO t):At E W L l x w M y (⟨t,U A0 0 0,[]⟩::R'):=⟨a.bd.nil b,a.bel,a.hy,a.lo⟩
theorem At.swap{b:Rwx}(a:At E W L l x w M y (r::b::R')):At E W L l x w M y (b::r::R'):=⟨a.bd.swap,a.bel,a.hy,a.lo⟩
theorem At.drop(a:At E W L l x w M y (r::R')):At E W L l x w M y R':=⟨a.bd.drop,a.bel,a.hy,a.lo⟩
theorem At.below(a:At E W L l x w M y R')(b:Ax w.heap.size w w'):At E W L l x w' M y R':=⟨a.bd.below b,a.bel.trans (b.mono a.low),a.hy,a.lo⟩
theorem LF{M1:List Mb}(h:Bd E w (L++M++M1) (l-M.length-M1.length) y R'):Bd E w (L++(M++M1)) (l-((M++M1).length:Nat)) y R':=by
 have a:l-((M++M1).length:Nat)=l-M.length-M1.length:=by simp;omega
 rw[a,<-cH];exact h
theorem At.sub(p:uu E W L l x R m)(a:At E W L l x w M y R')(hF:FB f d m' s c)(q:1<=m'/\m'+1<=m:=by omega)(n: -20000+12*m'<=l-M.length:=by omega)(v:s<=12/\c<=4000:=by omega):
  Z S f #[bV E,X O d] w fun e w'=>∃(M':List Mb) (z:Int),e= V (X O z)/\(0<=z/\z<=100000)/\M.length<M'.length/\At E W L l x w' M' y R'/\Lf s c (l-M.length) (l-M'.length):=by
 have u:=a.len p;have B:=p.hx;have C:=a.hy;have r:uu E w (L++M) (l-M.length) y R' m':=⟨a.bd,by have:=p.sum;rw[aB];simp;omega,n,by omega,⟨by omega,by have:=p.m0;omega⟩⟩;refine(hF r).mono ?_;rintro e w' ⟨b,t,rfl,i,j,h⟩;have g:l-((M++b).length:Nat)=l-M.length-b.length:=by simp;omega
 have k:=h;unfold Lf at k;have o: -20000<=l-M.length-b.length:=by
  have:=q.1;omega
 have A:=p.sum;refine⟨M++b,_,rfl,⟨by omega,by rw[aB];simp;omega⟩,by rw[aB];omega,⟨LF i,a.bel.trans j,a.hy,by rw[g];exact o⟩,by rw[g];exact h⟩
theorem At.add(p:uu E W L l x R m){nm:List ByteArray}{mn cn:Nat}(a:At E W L l x w M y (⟨9,U an mn cn,nm.map Y⟩::⟨3,U ak mk ck,ks.map (T O)⟩::R))(d:zI (dN k op n t nm ks)){x2:Int}(q:y<=x2+400)(i:Lf s c l (l-M.length-1))(j:k≠25:=by first|decide|omega):
  Z S 102 #[bV E,.agg #[X O k,X O 0,X O 0,X O 0,X O op,X O n,Br t,U an mn cn,U ak mk ck]] w fun e w'=>∃z:Int,e= V (X O z)/\Ans E W L l x2 R s c (V (X O z)) w':=by
 have f:=a.len p;have o:t.size<=19:=by
  rcases d.x with⟨_,b,_⟩|⟨b,_⟩
  ·exact b
  ·exact absurd b j
 refine(E7 a.bd f.2.1 d f.1 (.inl o)).mono ?_;rintro e w' ⟨rfl,g,h⟩;exact⟨_,rfl,alz (by omega) g (a.bel.trans h) i⟩
theorem At.addOn(p:uu E W L l x R m){nm:List ByteArray}{mn cn:Nat}(a:At E W L l x w M y (⟨9,U an mn cn,nm.map Y⟩::⟨3,U ak mk ck,ks.map (T O)⟩::R'))(c:zI (dN k op n t nm ks))(j: -20000<=l-M.length-1)(i:k≠25:=by first|decide|omega):
  Z S 102 #[bV E,.agg #[X O k,X O 0,X O 0,X O 0,X O op,X O n,Br t,U an mn cn,U ak mk ck]] w fun e w'=>∃(M':List Mb) (z:Int),e= V (X O z)/\(0<=z/\z<=100000)/\M'.length=M.length+1/\At E W L l x w' M' (y-400) R':=by
 have d:=a.len p;have o:t.size<=19:=by
  rcases c.x with⟨_,b,_⟩|⟨b,_⟩
  ·exact b
  ·exact absurd b i
 refine(E7 a.bd d.2.1 c d.1 (.inl o)).mono ?_;rintro e w' ⟨rfl,g,h⟩;have f:∀z:Mb,l-((M++[z]).length:Nat)=l-M.length-1:=fun z=>by simp;omega
 exact⟨M++[_],_,rfl,⟨by omega,by omega⟩,by simp,⟨LF (M1:=[_]) (by simpa using g),a.bel.trans h,by have:=a.hy;omega,by rw[f];exact j⟩⟩
theorem At.kids(p:uu E W L l x R m)(a:At E W L l x w M y (⟨3,U ak mk ck,ks.map (T O)⟩::R))(j:0<=k/\k<=1000/\k≠25)(d:ks.length<=64)(f:Pl ks){x2:Int}(n:y<=x2+400)(i:Lf s c l (l-M.length-1)):
  Z S 99 #[bV E,X O k,U ak mk ck] w fun e w'=>∃z:Int,e= V (X O z)/\Ans E W L l x2 R s c (V (X O z)) w':=by
 have b:=a.len p;refine(aiC a.bd b.2.1 j d f b.1).mono ?_;rintro e w' ⟨rfl,g,h⟩;exact⟨_,rfl,alz (by omega) g (a.bel.trans h) i⟩
theorem At.kidsM(p:uu E W L l x R m)(a:At E W L l x w M y (⟨3,U ak mk ck,ks.map (T O)⟩::R'))(i:0<=k/\k<=1000/\k≠25)(d:ks.length<=64)(f:Pl ks)(j: -20000<=l-M.length-1):
  Z S 99 #[bV E,X O k,U ak mk ck] w fun e w'=>∃(M':List Mb) (z:Int),e= V (X O z)/\(0<=z/\z<=100000)/\M'.length=M.length+1/\At E W L l x w' M' (y-400) R':=by
 have b:=a.len p;refine(aiC a.bd b.2.1 i d f b.1).mono ?_;rintro e w' ⟨rfl,g,h⟩;have c:∀z:Mb,l-((M++[z]).length:Nat)=l-M.length-1:=fun z=>by simp;omega
 exact⟨M++[_],_,rfl,⟨by omega,by omega⟩,by simp,⟨LF (M1:=[_]) (by simpa using g),a.bel.trans h,by have:=a.hy;omega,by rw[c];exact j⟩⟩
theorem At.exprs(p:uu E W L l x R m)(a:At E W L l x w M y R'){mx ce:Int}(i:FB 103 d me 1 ce)(A:0<=me/\me+1<=mx/\mx+1<=m)(u:0<=ce/\ce<=3900)(q: -20000+12*mx<=l-M.length)(n:Nat)(r:n<=8):
  Z S 101 #[bV E,X O n,X O d] w fun e w'=>∃(M':List Mb) (ks:List Int) (v:Option Addr) (c:Nat),e= V (U v n c)/\ks.length=n/\Pl ks/\M.length<=M'.length/\At E W L l x w' M' y (⟨3,U v n c,ks.map (T O)⟩::R')/\Lf n (ce+n) (l-M.length) (l-M'.length):=by
 have z:=a.len p;have B:=p.hx;have C:=a.hy;have s:uu E w (L++M) (l-M.length) y R' mx:=⟨a.bd,by have:=p.sum;rw[aB];simp;omega,q,by omega,⟨by omega,by have:=p.m0;omega⟩⟩;refine(aiD (m:=mx) (by omega) (by omega) i s n r).mono ?_;rintro e w' ⟨b,ks,v,c,rfl,o,t,h,j,g⟩;have f:l-((M++b).length:Nat)=l-M.length-b.length:=by simp;omega
 have k:=g;unfold Lf at k;exact⟨M++b,ks,v,c,rfl,o,t,by rw[aB];omega,⟨LF h,a.bel.trans j,a.hy,by rw[f];omega⟩,by rw[f];exact g⟩
end
theorem w1(a: -1000<=d/\d<=1000):IntKind.i64.wrap (d-1)=d-1:=by rw[di];omega
theorem pl1(h:0<=z/\z<=100000):Pl [z]:=fun b a=>by rw[List.mem_singleton.1 a];exact h
theorem pl2{y:Int}(h:0<=z/\z<=100000)(k:0<=y/\y<=100000):Pl [z,y]:=fun b a=>by
 simp at a;rcases a with rfl|rfl
 ·exact h
 ·exact k
theorem zE:∀s∈([]:List ByteArray),Shr s:=fun s a=>by cases a
theorem fnB{mk ck:Int}(z:1<=mk/\mk+1<=m)(ak:0<=ck/\ck<=3900)(y: -1000<=d/\d<=1000)(x:FB 107 (d-1) mk 1 ck):AL 104 d m 2 (ck+1):=by
 intro H L I ap F K a;have ad:=a.at.c0;have ao:=w1 y;have al:=a.lo;have am:=a.m0;have i:=a.at.pick a (by omega) 3;go_in;go_wp2_with fail;refine i.mono ?_;rintro b w1 ⟨n,rfl,A,p⟩;obtain⟨n,rfl⟩:=gl A.1;have j:=p.names a n;clear i;go_wp2_with fail;refine j.mono ?_;rintro b a0 ⟨av,c,ar,rfl,g,h,q⟩;have l:=q.sub a x z (by simp;omega);have e:=dC g h;clear j g h;go_wp2_with fail;refine l.mono ?_;rintro b a6 ⟨J,G,rfl,B,ag,f,v⟩;have af:=f.c0;have o:=f.pick a (by omega) 2;clear l;go_wp2_with fail;refine o.mono ?_;rintro b a7 ⟨E,rfl,an,r⟩;have u:=(r.newI [G] (by simp) 1 rfl).swap;have C:=u.add a (k:=36) (op:=E) (n:=0) (t:=⟨#[]⟩) (x2:=F-100) (s:=2) (c:=ck+1) (pC (by decide) (by omega) (by decide) (qD (by first|decide|omega)) (by rw[e.out.1];omega) e.2 (by simp) (pl1 B)) (by omega) (by unfold Lf at *;simp at v;omega);clear o;go_wp2_with fail;refine C.mono ?_;rintro b a8 ⟨a9,rfl,w⟩;go_wp2_with fail;go_ret;exact w
theorem alA{mb cb ce:Int}(w:(1<=mb/\mb+1<=m)/\1<=me/\me+1<=m)(av:0<=ce/\ce<=cb/\cb<=3900)(I: -1000<=d/\d<=1000)(F:FB 151 (d-1) mb 2 cb)(G:FB 103 (d-1) me 1 ce):FB 105 d m 4 (cb+3):=by
 intro af am ag a7 q al a;have an:=a.at.c0;have a6:=w1 I;have a0:=a.lo;have a4:=a.m0;have x:=a.at.pick a (by omega) 4;go_in;go_wp2_with fail;refine x.mono ?_;rintro b w1 ⟨n,rfl,a5,v⟩;have i:=v.sub a F w.1 (by simp;omega);clear x;rcases(show n=0\/n=1\/(n≠0/\n≠1) by omega) with rfl|rfl|⟨B,C⟩
 ·go_wp2_with fail;refine i.mono ?_;rintro b L ⟨A,u,rfl,p,H,l,g⟩;unfold Lf at g;simp at g;have e:=l.sub a G w.2;clear i;go_wp2_with fail;refine e.mono ?_;rintro b y ⟨ak,ad,rfl,K,ar,f,E⟩;unfold Lf at E;have j:=(f.newI [u,ad] (by simp) 2 rfl).kids a (k:=32) (x2:=q) (s:=4) (c:=cb+3) (by decide) (by simp) (pl2 p K) (by omega) (by unfold Lf;omega);clear e;go_wp2_with fail;refine j.mono ?_;rintro b z ⟨r,rfl,h⟩;go_wp2_with fail;go_ret;exact h
 ·go_wp2_with fail;refine i.mono ?_;rintro b L ⟨A,u,rfl,p,H,l,g⟩;unfold Lf at g;simp at g;have e:=l.short a (by omega);clear i;go_wp2_with fail;refine e.mono ?_;rintro b y ⟨s,rfl,o,f⟩;have j:=((f.newI [u] (by simp) 1 rfl).nil KH).add a (k:=33) (op:=0) (n:=0) (t:=s) (nm:=[]) (x2:=q) (s:=4) (c:=cb+3) (pC (by decide) (by decide) (by decide) (ahf (by first|decide|omega) o) (by decide) zE (by simp) (pl1 p)) (by omega) (by unfold Lf;omega);clear e;go_wp2_with fail;refine j.mono ?_;rintro b z ⟨r,rfl,h⟩;go_wp2_with fail;go_ret;exact h
 ·have ao:(n==0)=A9:=by simpa using B
  have ap:(n==1)=A9:=by simpa using C
  have e:=v.short a (by omega);clear i;go_wp2_with fail;refine e.mono ?_;rintro b y ⟨s,rfl,o,f⟩;have j:=((f.nil toI).nil KH).add a (k:=26) (op:=0) (n:=0) (t:=s) (nm:=[]) (ks:=[]) (x2:=q) (s:=4) (c:=cb+3) (pC (by decide) (by decide) (by decide) (ahf (by first|decide|omega) o) (by decide) zE (by simp) (fun r J=>by cases J)) (by omega) (by unfold Lf;simp;omega);clear e;go_wp2_with fail;refine j.mono ?_;rintro b z ⟨r,rfl,h⟩;go_wp2_with fail;go_ret;exact h
section
variable {E : Bs} {W w : World} {L M : List Mb} {l x y : Int} {R R' : List Rwx} {m : Int}
theorem At.formI(a:At E W L l x w M y (⟨3,v,ks.map (T O)⟩::R')):∃b c,v= U b ks.length c:=a.bd.formI
theorem At.app{e:List Oper}{n:Nat}(h:At E W L l x w M y (⟨3,v,ks.map (T O)⟩::R'))(t:Int)(j:ks.length=n)(m:n<=1000)(i:o.guard=A0)(s z:Operand)
  (p:o.op= .call {callee:= .builtin .append,args:=#[s,z],argTypes:=#[24,24]}) (q:a.eval s=v) (r:a.eval z= U (A2 ⟨w.heap.size,0,A0⟩) 1 1)
  (k:∀b c w1,At E W L l x w1 M y (⟨3,U b (n+1) c,(ks++[t]).map (T O)⟩::R')->wpList S ops Q e (a.put o.dst (U b (n+1) c)) w1):
  wpList S ops Q (o::e) a (w.alloc (.cells #[X O t] 3)):=
 have d:=h.below (bG w (.cells #[X O t] 3))
 vB i s z p d.bd q t rfl r j m fun b c w1 f g=>k b c w1 ⟨f,d.bel.trans g,h.hy,h.lo⟩
end
theorem aiE{ms cs:Int}(al:1<=ms/\ms+1<=m)(a8:0<=cs/\cs<=3900)(hS:FB 67 d ms 6 cs):AL 107 d m 1 (cs+1):=by
 intro A F B f v E b;have a4:=b.at.c0;have bb:=b.lo;have bd:=b.m0;have be:=b.sum;have x:=(b.at.nil toI).pick b (by omega) 4;go_in;go_wp2_with fail;refine x.mono ?_;rintro o w1 ⟨n,rfl,am,G⟩;obtain⟨n,rfl⟩:=gl am.1;clear x;go_wp2_with fail;go_loopw [5,6] (fun ao u wr=>∃(a:Nat) (e:List Mb) (h:List Int),u= X O a/\h.length+a<=3/\Pl h/\At A F B f v wr e (v+1) (⟨3,ao,h.map (T O)⟩::E)/\(f<5->e.length=0)/\(5<=f->5-cs<=f-e.length)) (fun _ u _=>(B0 u).toNat)
 case atStart=>exact⟨n,[],[],rfl,by simp;omega,(fun y an=>by cases an),G,fun _=>rfl,fun a6=>by simp;omega⟩
 case round=>
  obtain⟨a,e,h,rfl,r,j,i,L,ad⟩:=hrel;have J:=i.c2;have a9:a<=3:=by omega
  by_cases q:0<a/\5<f-e.length
  ·have af:(0:Int)<(a:Int):=by omega
   have ak:=q.2;have g:=i.sub b hS al;have l:=dC r j;clear r j;go_wp2_with fail;refine g.mono ?_;rintro o bf ⟨C,z,rfl,w,a7,H,K⟩;unfold Lf at K;clear g J;go_wp2_with (at_builtin;refine H.app z rfl (by have:=l.1;omega) rfl _ _ rfl rfl rfl ?_;intro ar a5 bh I);go_roundw
   case rel=>exact⟨a-1,C,h++[z],by go_num,by have:=l.1;simp;omega,l.2.add w.1 w.2,I,by omega,by omega⟩
   case measure=>simp[B0];omega
  ·obtain⟨a0,c,rfl⟩:=i.formI;have g:=(i.nil KH).add b (k:=1) (op:=0) (n:=0) (t:=⟨#[]⟩) (nm:=[]) (x2:=v-100) (s:=1) (c:=cs+1) (pC (by decide) (by decide) (by decide) (qD (by first|decide|omega)) (by decide) zE (by omega) j) (by omega) (by unfold Lf;omega);clear j r L ad;by_cases af:0<a
   ·have ag:(0:Int)<(a:Int):=by omega
    have ak:¬5<f-e.length:=by omega
    clear q;go_wp2_with fail;refine g.mono ?_;rintro o ap ⟨y,rfl,p⟩;go_wp2_with fail;go_ret;exact p
   ·have ag:¬(0:Int)<(a:Int):=by omega
    clear q;go_wp2_with fail;refine g.mono ?_;rintro o ap ⟨y,rfl,p⟩;go_wp2_with fail;go_ret;exact p
theorem ao9{ce:Int}(al:1<=me/\me+1<=m)(b6:0<=ce/\ce<=3900)(bh: -1000<=d/\d<=1000)(ag:FB 103 (d-1) me 1 ce):AL 154 d m 10 (ce+10):=by
 intro ap a7 ar G y a0 a;have b0:=a.at.c0;have cf:=w1 bh;have b9:=a.lo;have ca:=a.m0;have cc:=a.sum;have am:=(a.at.nil toI).pick a (by omega) 4;go_in;go_wp2_with fail;refine am.mono ?_;rintro g w1 ⟨n,rfl,bk,a8⟩;obtain⟨n,rfl⟩:=gl bk.1;clear am;go_wp2_with fail;go_loopw [5,6] (fun bs H wr=>∃(e:Nat) (z:List Mb) (f:List Int) (J:Int),H= X O e/\f.length+e=n/\J<=y+1/\Pl f/\At ap a7 ar G y wr z J (⟨3,bs,f.map (T O)⟩::a0)/\Lf (3*f.length) (ce+3*f.length) G (G-z.length)) (fun _ H _=>(B0 H).toNat)
 case atStart=>exact⟨n,[],[],y+1,rfl,by simp,by omega,(fun bw bn=>by cases bn),a8,by unfold Lf;simp;omega⟩
 case round=>
  obtain⟨e,z,f,J,rfl,u,cg,v,A,E⟩:=hrel;unfold Lf at E;obtain⟨br,w⟩:=aA f.length;rw[w]at E u;have b8:e<=3/\br<=3:=by omega
  by_cases b7:0<e
  ·have bj:(0:Int)<(e:Int):=by omega
   have x:=A.sub a ag al;have b:=iF u v w;clear u v w;go_wp2_with fail;refine x.mono ?_;rintro g ch ⟨bA,K,rfl,F,b4,L,bd⟩;unfold Lf at bd;have b1:=L.c0;have an:=L.pick a (by omega) 3;clear x;go_wp2_with fail;refine an.mono ?_;rintro g ck ⟨l,rfl,cb,B⟩;clear an;rcases(show l=0\/l=1\/(l≠0/\l≠1) by omega) with rfl|rfl|⟨a9,bb⟩
   ·have i:=(B.newI [K] (by simp) 1 rfl).kidsM a (k:=40) (by decide) (by simp) (pl1 F) (by omega);go_wp2_with fail;refine i.mono ?_;rintro g ao ⟨o,j,rfl,h,ak,p⟩;clear i;go_wp2_with (at_builtin;refine p.app j rfl (by have:=b.2.2;omega) rfl _ _ rfl rfl rfl ?_;intro ad af I q);go_roundw
    case rel=>exact⟨e-1,o,f++[j],_,by go_num,by have:=b.out;simp;omega,by omega,b.2.1.add h.1 h.2,q,by unfold Lf;have:=b.2.2;simp;omega⟩
    case measure=>simp[B0];omega
   ·have i:=B.sub a ag al;go_wp2_with fail;refine i.mono ?_;rintro g bt ⟨bD,bx,rfl,bo,b5,C,be⟩;unfold Lf at be;have r:=(C.newI [K,bx] (by simp) 2 rfl).kidsM a (k:=41) (by decide) (by simp) (pl2 F bo) (by omega);clear i;go_wp2_with fail;refine r.mono ?_;rintro g ao ⟨o,j,rfl,h,ak,p⟩;clear r;go_wp2_with (at_builtin;refine p.app j rfl (by have:=b.2.2;omega) rfl _ _ rfl rfl rfl ?_;intro ad af I q);go_roundw
    case rel=>exact⟨e-1,o,f++[j],_,by go_num,by have:=b.out;simp;omega,by omega,b.2.1.add h.1 h.2,q,by unfold Lf;have:=b.2.2;simp;omega⟩
    case measure=>simp[B0];omega
   ·have b2:(l==0)=A9:=by simpa using a9
    have b3:(l==1)=A9:=by simpa using bb
    have i:=B.short a (by omega);go_wp2_with fail;refine i.mono ?_;rintro g bt ⟨s,rfl,bl,C⟩;have r:=((C.newI [K] (by simp) 1 rfl).nil KH).addOn a (k:=42) (op:=0) (n:=0) (t:=s) (nm:=[]) (pC (by decide) (by decide) (by decide) (ahf (by first|decide|omega) bl) (by decide) zE (by simp) (pl1 F)) (by omega);clear i;go_wp2_with fail;refine r.mono ?_;rintro g ao ⟨o,j,rfl,h,ak,p⟩;clear r;go_wp2_with (at_builtin;refine p.app j rfl (by have:=b.2.2;omega) rfl _ _ rfl rfl rfl ?_;intro ad af I q);go_roundw
    case rel=>exact⟨e-1,o,f++[j],_,by go_num,by have:=b.out;simp;omega,by omega,b.2.1.add h.1 h.2,q,by unfold Lf;have:=b.2.2;simp;omega⟩
    case measure=>simp[B0];omega
  ·obtain⟨bE,c,rfl⟩:=A.formI;have bj:¬(0:Int)<(e:Int):=by omega
   have x:=(A.nil KH).add a (k:=35) (op:=0) (n:=0) (t:=⟨#[]⟩) (nm:=[]) (x2:=y-100) (s:=10) (c:=ce+10) (pC (by decide) (by decide) (by decide) (qD (by first|decide|omega)) (by decide) zE (by omega) v) (by omega) (by unfold Lf;omega);clear v u E w;go_wp2_with fail;refine x.mono ?_;rintro g I ⟨bw,rfl,bf⟩;go_wp2_with fail;go_ret;exact bf
section
variable {E : Bs} {W w : World} {L M : List Mb} {l x y : Int} {R R' : List Rwx} {m : Int}
theorem At.tail(p:uu E W L l x R m)(a:At E W L l x w [] y R)(hF:AL f d m' s c)(n:0<=m'/\m'+1<=m:=by omega)(r:y<=x+100:=by omega):
  Z S f #[bV E,X O d] w fun e w'=>∃z:Int,e= V (X O z)/\Ans E W L l x R s c (V (X O z)) w':=by
 have q:=p.hx;have h:Bd E w L l y R:=by simpa using a.bd
 have o:uu E w L l y R m':=⟨h,p.sum,by have:=p.lo;omega,by omega,⟨n.1,by have:=p.m0;omega⟩⟩;refine(hF o).mono ?_;rintro e w' ⟨b,g,rfl,i,j,k⟩;exact⟨_,rfl,b,g,rfl,i.wide,a.bel.trans j,k⟩
end
theorem Ev(n:d<=0):FB 103 d 2 1 1:=by
 intro g j h o p i a;have k:=a.at.c0;have l:=a.bd.c2;have f:=amy (a.less (m':=1) (by decide) (by decide)) (by decide);go_in;go_wp2_with fail;refine f.mono ?_;rintro m w1 ⟨b,c,rfl,e⟩;go_wp2_with fail;go_ret;exact⟨b,c,rfl,e⟩
theorem apa{mb mc ce cb cc:Int}(bs:1<=d/\d<=1000)(A:(1<=me/\me+1<=m)/\(1<=mb/\mb+1<=m)/\(1<=mc/\mc+1<=m))(br:1<=ce/\ce<=cb/\cb+1<=cc/\cc<=3800)(L:FB 103 (d-1) me 1 ce)(av:FB 151 (d-1) mb 2 cb)
  (am:AL 98 d mc 12 cc) (a5:AL 154 d mc 12 cc) (hF:AL 104 d mc 12 cc):FB 103 d m 1 (cc+1):=by
 intro bh bl bj a9 B bk a;have bn:=a.at.c0;have bo:=a.bd.c2;have b0:=w1 (d:=d) (by omega);have bx:=a.lo;have bA:=a.m0;have bE:=a.sum;have bt:¬d<=0:=by omega
 by_cases bw:a9<5
 ·have k:=amy (a.less (m':=1) (by decide) (by omega)) (by decide);go_in;go_wp2_with fail;refine k.mono ?_;rintro b w1 ⟨r,u,rfl,v,w,z⟩;go_wp2_with fail;go_ret;exact⟨r,u,rfl,v,w,by unfold Lf at *;omega⟩
 have a7:=a.at.pick a (by omega) 14;go_in;go_wp2_with fail;refine a7.mono ?_;rintro b w1 ⟨n,rfl,bD,y⟩;have ad:=y.sub a L A.1 (by simp;omega);have kB:=y.sub a av A.2.1 (by simp;omega);have a8:=y.sub a am.weak A.2.2 (by simp;omega);have bb:=y.tail a am;have bf:=y.tail a a5;have be:=y.tail a hF;have a0:n=0\/n=1\/n=2\/n=3\/n=4\/n=5\/n=6\/n=7\/n=8\/n=9\/n=10\/n=11\/n=12\/n=13:=by omega
 rcases a0 with rfl|rfl|rfl|rfl|rfl|rfl|rfl|rfl|rfl|rfl|rfl|rfl|rfl|rfl
 iterate 4
  ·go_wp2_with fail;refine ad.mono ?_;rintro b p ⟨C,l,rfl,h,G,f,e⟩;unfold Lf at e;simp at e;have x:=f.sub a L A.1;go_wp2_with fail;refine x.mono ?_;rintro b af ⟨ag,K,rfl,H,an,o,F⟩;unfold Lf at F;have ak:=o.c0;have I:=o.pick a (by omega) 18;go_wp2_with fail;refine I.mono ?_;rintro b ar ⟨j,rfl,ao,E⟩;have ap:IntKind.i64.wrap (1+j)=1+j:=by rw[di];omega
   have i:=((E.newI [l,K] (by simp) 2 rfl).nil KH).add a (k:=31) (op:=1+j) (n:=0) (t:=⟨#[]⟩) (nm:=[]) (x2:=B) (s:=1) (c:=cc+1) (pC (by decide) (by omega) (by decide) (qD (by first|decide|omega)) (by decide) zE (by simp) (pl2 h H)) (by omega) (by unfold Lf;omega);go_wp2_with fail;refine i.mono ?_;rintro b J ⟨q,rfl,g⟩;go_wp2_with fail;go_ret;exact g
 ·go_wp2_with fail;refine ad.mono ?_;rintro b p ⟨C,l,rfl,h,G,f,e⟩;unfold Lf at e;simp at e;have x:=f.sub a L A.1;go_wp2_with fail;refine x.mono ?_;rintro b af ⟨ag,K,rfl,H,an,o,F⟩;unfold Lf at F;have ak:=o.c0;have I:=o.pick a (by omega) 2;go_wp2_with fail;refine I.mono ?_;rintro b ar ⟨j,rfl,ao,E⟩;have ap:IntKind.i64.wrap (28+j)=28+j:=by rw[di];omega
  have i:=(E.newI [l,K] (by simp) 2 rfl).kids a (k:=28+j) (x2:=B) (s:=1) (c:=cc+1) (by omega) (by simp) (pl2 h H) (by omega) (by unfold Lf;omega);go_wp2_with fail;refine i.mono ?_;rintro b J ⟨q,rfl,g⟩;go_wp2_with fail;go_ret;exact g
 iterate 2
  ·go_wp2_with fail;refine ad.mono ?_;rintro b p ⟨C,l,rfl,h,G,f,e⟩;unfold Lf at e;simp at e;have ak:=f.c0;have I:=f.pick a (by omega) 4;go_wp2_with fail;refine I.mono ?_;rintro b ar ⟨j,rfl,ao,E⟩;have ap:IntKind.i64.wrap (19+j)=19+j:=by rw[di];omega
   have i:=((E.newI [l] (by simp) 1 rfl).nil KH).add a (k:=30) (op:=19+j) (n:=0) (t:=⟨#[]⟩) (nm:=[]) (x2:=B) (s:=1) (c:=cc+1) (pC (by decide) (by omega) (by decide) (qD (by first|decide|omega)) (by decide) zE (by simp) (pl1 h)) (by omega) (by unfold Lf;omega);go_wp2_with fail;refine i.mono ?_;rintro b J ⟨q,rfl,g⟩;go_wp2_with fail;go_ret;exact g
 ·go_wp2_with fail;refine kB.mono ?_;rintro b p ⟨C,l,rfl,h,G,f,e⟩;unfold Lf at e;simp at e;have x:=f.sub a L A.1;go_wp2_with fail;refine x.mono ?_;rintro b af ⟨ag,K,rfl,H,an,o,F⟩;unfold Lf at F;have i:=(o.newI [l,K] (by simp) 2 rfl).kids a (k:=32) (x2:=B) (s:=1) (c:=cc+1) (by omega) (by simp) (pl2 h H) (by omega) (by unfold Lf;omega);go_wp2_with fail;refine i.mono ?_;rintro b J ⟨q,rfl,g⟩;go_wp2_with fail;go_ret;exact g
 ·go_wp2_with fail;refine kB.mono ?_;rintro b p ⟨C,l,rfl,h,G,f,e⟩;unfold Lf at e;simp at e;have x:=f.short a (by omega);go_wp2_with fail;refine x.mono ?_;rintro b af ⟨s,rfl,a6,o⟩;have i:=((o.newI [l] (by simp) 1 rfl).nil KH).add a (k:=33) (op:=0) (n:=0) (t:=s) (nm:=[]) (x2:=B) (s:=1) (c:=cc+1) (pC (by decide) (by decide) (by decide) (ahf (by first|decide|omega) a6) (by decide) zE (by simp) (pl1 h)) (by omega) (by unfold Lf;omega);go_wp2_with fail;refine i.mono ?_;rintro b J ⟨q,rfl,g⟩;go_wp2_with fail;go_ret;exact g
 iterate 2
  ·go_wp2_with fail;refine bb.mono ?_;rintro b p ⟨q,rfl,r,u,v,w,z,al⟩;go_wp2_with fail;go_ret;exact⟨r,u,v,w,z,by unfold Lf at *;omega⟩
 ·go_wp2_with fail;refine bf.mono ?_;rintro b p ⟨q,rfl,r,u,v,w,z,al⟩;go_wp2_with fail;go_ret;exact⟨r,u,v,w,z,by unfold Lf at *;omega⟩
 ·go_wp2_with fail;refine be.mono ?_;rintro b p ⟨q,rfl,r,u,v,w,z,al⟩;go_wp2_with fail;go_ret;exact⟨r,u,v,w,z,by unfold Lf at *;omega⟩
 ·go_wp2_with fail;refine a8.mono ?_;rintro b p ⟨C,l,rfl,h,G,f,e⟩;unfold Lf at e;simp at e;have i:=(f.newI [l] (by simp) 1 rfl).kids a (k:=37) (x2:=B) (s:=1) (c:=cc+1) (by omega) (by simp) (pl1 h) (by omega) (by unfold Lf;omega);go_wp2_with fail;refine i.mono ?_;rintro b J ⟨q,rfl,g⟩;go_wp2_with fail;go_ret;exact g
