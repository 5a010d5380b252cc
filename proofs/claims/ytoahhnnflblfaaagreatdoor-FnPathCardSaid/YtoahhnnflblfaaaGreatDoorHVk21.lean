import Derived.Test.YtoahhnnflblfaaaGreatDoorHVk17
set_option linter.all false
set_option maxRecDepth 100000
set_option maxHeartbeats 6400000
open Go.IntKind renaming i64->O
open Go.Proofs.Tryz renaming prog->Q
open Go.Value renaming int->S,slice->T,int->V,string->X,string->A3,slice->A7
open Go.Ending renaming returned->U
open Go renaming Calls->Y,World->Z,wpList_append_own_at->A5,Value->A6,maxLen->A8
open Go.RowKit renaming Below->Ax,intOf->A4
open Option renaming none->A0,some->A1
open Bool renaming false->A2
namespace Go.Proofs.YtoahhnnflblfaaaGreatDoor
open Go.RowKit Go.Maps Go.WideMaps
section
variable {E : Bs} {W : World} {L : List Mb} {l x : Int} {R : List Rwx}
theorem Jf(h:Bd E W L l x R)(k:L.length<=25000)(t:x<=19000000):
  Y Q 112 #[bV E] W fun e i=>∃s:ByteArray,Shr s/\e= U (A3 s)/\Bd E i L l (x+1) R/\Ax E.base W i:=by
 have n:=h.lt;have b:=aj fun (p:Obj)=>pK (h.below (bI W p)) 8 (by decide) (by decide) k (by omega);have q:=h.c0;go_in;go_wp2_with fail;refine(b.out _).mono ?_;rintro e w1 ⟨a,z0,u,rfl,c,d,f⟩;have g:=d.blk (ar W _) (by decide);have r:=fun o=>ay w1 W.heap.size o _ _ _ g;have j:=eH c (((bI W _).mono n.2.2.1).trans f);clear c d f g b;rcases(show a=0\/a=1\/a=2\/a=3\/a=4\/a=5\/a=6\/a=7 by omega) with rfl|rfl|rfl|rfl|rfl|rfl|rfl|rfl;all_goals
  go_wp2_with fail;go_ret;exact⟨_,⟨by decide,rl (by decide)⟩,rfl,j.out⟩
theorem G1{n:Array Oper}{p:List Oper}{o:Oper}{a:Act}{g:Exit->Act->Z->Prop}{v:A6}{m:Nat}{d:List ByteArray}(z:o.guard=A0)(s y:Operand)
  (F:o.op= .call {callee:= .builtin .append,args:=#[s,y],argTypes:=#[34,34]}) (h:Bd E W L l x (⟨9,v,d.map X⟩::R)) (G:a.eval s=v) (t:ByteArray) {w0:Z}(H:W=w0.alloc (.cells #[.string t] 9)) (I:a.eval y= .slice (A1 ⟨w0.heap.size,0,A0⟩) 1 1) (C:d.length=m) (an:m<=1000)
  (k:∀b c w1,Bd E w1 L l x (⟨9,.slice b (m+1) c,(d++[t]).map X⟩::R)->Ax E.base W w1->wpList Q n g p (a.put o.dst (.slice b (m+1) c)) w1):
  wpList Q n g (o::p) a W:=by
 subst C;obtain⟨ak,B,J,K,af⟩:=fl acF;have j:=(h.rows _ bz).2;simp only[dL]at j;refine A5 _ z s y 34 F E.base 9 ak _ 1 16 Tryz.underlying34 B J K af rfl (by decide) v _ _ G j ⟨w0.heap.size,0,A0⟩ 1 1 [.string t] I (by simp) (World.news_of_block (cs:=#[.string t]) (by rw[H];exact ar w0 _)) (by simp[Value.oneCell']) (by unfold A8;omega) (by omega) h.lt.2.2.1 ?_;intro ao w1 i u _ r;obtain⟨b,c,rfl⟩:=cH i;have A:∀e,(A7 b (d.length+1) c).ownBlock=A1 e->v.ownBlock=A1 e\/W.heap.size<=e:=fun e f=>by
  rcases r with q|q
  ·exact .inl (q ▸ f)
  ·rw[q]at f;cases f;exact .inr (ag _)
 obtain⟨al,am⟩:=h.hot (r':=⟨9,.slice b (d.length+1) c,(d++[t]).map X⟩) u GE (by simpa using i) A;exact k b c w1 al am
end
section
variable {E : Bs} {W : World} {L : List Mb} {l x : Int} {R : List Rwx}
theorem Bd.formS{v:A6}{d:List ByteArray}(h:Bd E W L l x (⟨9,v,d.map X⟩::R)):∃a c,v= T a d.length c:=by
 have b:=(h.rows _ bz).2;simp only[dL]at b;exact cH b
theorem akn(h:Bd E W L l x R)(n:Nat)(al:n<=8)(B:L.length<=25000)(am:x<=18000000):
  Y Q 56 #[bV E,V O n] W fun e z=>∃a c,∃nm:List ByteArray,e= U (T a nm.length c)/\nm.length=n/\(∀s∈nm,Shr s)/\Bd E z L l (x+n) (⟨9,T a nm.length c,nm.map X⟩::R)/\Ax E.base W z:=by
 go_in;go_wp2_with fail;go_loopw [1,5] (fun p I wr=>∃(m b:Nat) (d:List ByteArray),p= V O m/\m+b=n/\d.length=b/\(∀s∈d,Shr s)/\Bd E wr L l (x+b) (⟨9,I,d.map X⟩::R)/\Ax E.base W wr) (fun p _ _=>(A4 p).toNat)
 case atStart=>exact⟨n,0,[],rfl,rfl,rfl,fun s hs=>(by cases hs),(h.nil (by decide)).wide (by omega),ai _ _⟩
 case round=>
  obtain⟨m,b,d,rfl,t,H,o,f,k⟩:=hrel;have ak:m<=n:=by omega
  by_cases af:0<m
  ·have u:=Jf f B (by omega);have i:=tH t o k H;clear t o k h;go_wp2_with fail;refine u.mono ?_;rintro e w1 ⟨v,G,rfl,q,r⟩;have g:=eH q r;clear f q r u;go_wp2_with (at_builtin;refine G1 rfl _ _ rfl (g.out.1.below (bI w1 _)) rfl v rfl rfl i.out.2.2.2 (by have:=i.out.1;omega) ?_;intro J K an A C);go_roundw
   case rel=>
    have j:=i.out;have F:=g.out.1.lt;exact⟨m-1,b+1,d++[v],by go_num,by omega,by rw[aF,j.2.2.2];rfl,fun s hs=>by
     rcases List.mem_append.1 hs with hs|hs
     ·exact j.2.1 s hs
     ·rw[List.mem_singleton.1 hs];exact G,A.wide (by omega),((j.2.2.1.trans g.out.2).trans ((bI w1 _).mono F.2.2.1)).trans C⟩
   case measure=>simp[A4];omega
  ·obtain rfl:m=0:=by omega
   obtain⟨a,c,rfl⟩:=f.formS;go_wp2_with fail;go_ret;exact⟨a,c,d,rfl,by omega,o,by rw[show n=b by omega];exact f,k⟩
end
def dN(k op n:Int)(t:ByteArray)(nm:List ByteArray)(ks:List Int):Nd:=⟨k,0,0,0,op,n,t,nm,ks⟩
theorem oF{k op n:Int}{t:ByteArray}{nm:List ByteArray}{ks:List Int}(i:0<=k/\k<=1000)(j:0<=op/\op<=1000)(f: -9223372036854775808<=n/\n<=9223372036854775807)(g:Txt k t)(b:nm.length<=3)(c:∀s∈nm,Shr s)(d:ks.length<=64)(e:∀a∈ks,0<=a/\a<=100000):B9 (dN k op n t nm ks):=by
 have a: -9223372036854775808<=(0:Int)/\(0:Int)<=9223372036854775807:=by decide
 exact⟨b,d,g,c,⟨⟨by show _<=k;omega,by show k<=_;omega⟩,a,a,a,⟨by show _<=op;omega,by show op<=_;omega⟩,f,fun a h=>by have:=e a h;omega⟩⟩
section
variable {E : Bs} {W : World} {L : List Mb} {l x : Int} {R : List Rwx}
theorem Cq{k op n:Int}{t:ByteArray}{nm:List ByteArray}{ks:List Int}{an a:Option Addr}{mn cn mk ck:Nat}(h:Bd E W L l x (⟨9,T an mn cn,nm.map X⟩::⟨3,T a mk ck,ks.map (S O)⟩::R))(i: -100000<=l/\l<=100000)(d:B9 (dN k op n t nm ks))(c:L.length<=25000)(f:t.size<=19\/Bg E W L 1:=by exact .inl (by first|decide|omega)):
  Y Q 58 #[bV E,.agg #[V O k,V O 0,V O 0,V O 0,V O op,V O n,A3 t,T an mn cn,T a mk ck]] W fun e b=>e= U (V O (L.length:Nat))/\Bd E b (L++[⟨dN k op n t nm ks,T an mn cn,T a mk ck⟩]) (l-1) (x-400) R/\Ax E.base W b:=amu (N:=dN k op n t nm ks) h i d c (by
   rcases f with g|g
   ·rw[ad0 (show(dN k op n t nm ks).x.size<=19 from g)];exact h.bg0
   ·by_cases j:19<t.size
    ·have e:bgN (dN k op n t nm ks)=1:=by unfold bgN;rw[ab (show 19<(dN k op n t nm ks).x.size from j)]
     rw[e];exact g
    ·rw[ad0 (show(dN k op n t nm ks).x.size<=19 by show t.size<=19;omega)];exact h.bg0)
theorem aeg{k:Int}{ks:List Int}{a:Option Addr}{mk ck:Nat}(h:Bd E W L l x (⟨3,T a mk ck,ks.map (S O)⟩::R))(o: -100000<=l/\l<=100000)(b:0<=k/\k<=1000/\k≠25)(g:ks.length<=64)(i:∀d∈ks,0<=d/\d<=100000)(j:L.length<=25000):
  Y Q 55 #[bV E,V O k,T a mk ck] W fun e c=>e= U (V O (L.length:Nat))/\Bd E c (L++[⟨dN k 0 0 ⟨#[]⟩ [] ks,T A0 0 0,T a mk ck⟩]) (l-1) (x-400) R/\Ax E.base W c:=by
 have q:=Cq (k:=k) (op:=0) (n:=0) (t:=⟨#[]⟩) (nm:=[]) (an:=A0) (mn:=0) (cn:=0) (h.nil (by decide)) o (oF ⟨b.1,b.2.1⟩ (by decide) (by decide) (pD b.2.2) (by decide) (fun r p=>by cases p) g i) j;go_in;go_wp2_with fail;refine cd q fun w1 f=>?_;go_wp2_with fail;go_ret;exact⟨rfl,f⟩
theorem G2(k:Int)(H:200<k)(I:k<=100000)(b base:Nat)(w:Z)(d:Option Addr)(c cap:Nat)(p q r:Int)(s:base<=b)(o:base<=w.heap.size)(t:fw b w d c cap p q r)(g:Code base w d c)(A:0<=p)(J:p<=900000000)(h:c<=1048576):
  Y Q 28 #[.pointer (A1 ⟨b,0,A0⟩),V O k] w fun e j=>∃a:Int,0<=a/\a<k/\e= U (V O a)/\∃C,fw b j d c cap (p+2) C r/\w.grownBy j (A1 b):=by
 have i:=vq b base w d c cap p q r t g A (by omega) h;go_in;go_wp2_with fail;refine i.mono ?_;rintro e w1 ⟨a,z0,an,rfl,F,u,f⟩;have B:=vq b base w1 d c cap (p+1) F r u (g.below (vh f s o)) (by omega) (by omega) h;have n:=aj f;clear f i;have K:IntKind.i64.wrap (a*256)=a*256:=by rw[cw];omega
 go_wp2_with fail;refine B.mono ?_;rintro e ak ⟨y,al,am,rfl,G,v,z⟩;have af:IntKind.i64.wrap (a*256+y)=a*256+y:=by rw[cw];omega
 go_wp2_with fail;go_ret;exact⟨(a*256+y)%k,Int.emod_nonneg _ (by omega),Int.emod_lt_of_pos _ (by omega),rfl,G,by rw[show p+2=p+1+1 by omega];exact v,FI n.out z⟩
theorem ahz(h:Bd E W L l x R)(k:Int)(n:200<k)(o:k<=100000)(v:L.length<=25000)(z:x<=20000000):
  Y Q 28 #[cV E,V O k] W fun e b=>∃a:Int,0<=a/\a<k/\e= U (V O a)/\Bd E b L l (x+2) R/\Ax E.base W b:=by
 obtain⟨q,s,t,f,r,A,p⟩:=h.cur;have:=h.hl;refine(G2 k n o E.cb E.base W E.a0 E.len E.cap q s t h.lo.1 h.lt.2.2.1 f h.code r (by omega) this.1).mono ?_;rintro e b ⟨a,z0,u,i,B,g,j⟩;obtain⟨c,_,d⟩:=h.went (y:=x+2) j g (by omega) p;exact⟨a,z0,u,i,c,d⟩
theorem ako(h:Bd E W L l x R)(f:L.length<=25000)(G:x<=19000000):
  Y Q 144 #[cV E] W fun e u=>∃n:Int,(-9223372036854775808<=n/\n<=9223372036854775807)/\e= U (V O n)/\Bd E u L l (x+3) R/\Ax E.base W u:=by
 have t:=pK h 6 (by decide) (by decide) f (by omega);go_in;go_wp2_with fail;refine t.mono ?_;rintro e w1 ⟨a,z0,H,rfl,k,_,s⟩;have d:=aj s;clear s t h;have i:=pK k 3 (by decide) (by decide) f (by omega);have g:=pK k 12 (by decide) (by decide) f (by omega);have j:=ahz k 70000 (by decide) (by decide) f (by omega);rcases(show a=0\/a=1\/a=2\/(a≠0/\a≠1/\a≠2) by omega) with rfl|rfl|rfl|⟨v,z,A⟩
 ·clear g j;go_wp2_with fail;refine i.mono ?_;rintro e p ⟨y,q,r,rfl,b,_,c⟩;have o:IntKind.i64.wrap (9223372036854775807-y)=9223372036854775807-y:=by rw[cw];omega
  go_wp2_with fail;go_ret;exact⟨_,by omega,rfl,b.wide (by omega),d.out.trans c⟩
 ·clear g j;go_wp2_with fail;refine i.mono ?_;rintro e p ⟨y,q,r,rfl,b,_,c⟩;have o:IntKind.i64.wrap (-9223372036854775808+y)= -9223372036854775808+y:=by rw[cw];omega
  go_wp2_with fail;go_ret;exact⟨_,by omega,rfl,b.wide (by omega),d.out.trans c⟩
 ·clear g i;go_wp2_with fail;refine j.mono ?_;rintro e p ⟨y,q,r,rfl,b,c⟩;have o:IntKind.i64.wrap (y-35000)=y-35000:=by rw[cw];omega
  go_wp2_with fail;go_ret;exact⟨_,by omega,rfl,b.wide (by omega),d.out.trans c⟩
 ·clear j i;have B:(a==0)=A2:=by simpa using v
  have C:(a==1)=A2:=by simpa using z
  have F:(a==2)=A2:=by simpa using A
  go_wp2_with fail;refine g.mono ?_;rintro e p ⟨y,q,r,rfl,b,_,c⟩;have o:IntKind.i64.wrap (y-3)=y-3:=by rw[cw];omega
  go_wp2_with fail;go_ret;exact⟨_,by omega,rfl,b.wide (by omega),d.out.trans c⟩
end
section
variable {E : Bs} {W : World} {L : List Mb} {l x : Int} {R : List Rwx}
theorem akp(h:Bd E W L l x R)(n:Int)(j:0<=n)(u:n<=100)(t:L.length<=25000)(z:x<=18000000):
  Y Q 165 #[cV E,V O n] W fun e a=>∃s:ByteArray,(s.size:Int)<=n/\e= U (A3 s)/\Bd E a L l (x+100) R/\Ax E.base W a:=by
 obtain⟨m,rfl⟩:=gc j;obtain⟨o,q,r,d,p,C,k⟩:=h.cur;have:=h.hl;refine(aaK m (by omega) E.cb E.base W E.a0 E.len E.cap o q r h.lo.1 h.lt.2.2.1 d h.code p (by omega) this.1).mono ?_;rintro e a ⟨s,v,g,A,G,B,F,f,i⟩;obtain⟨b,_,c⟩:=h.went (y:=x+100) i f (by omega) k;exact⟨s,by omega,g,b,c⟩
end
structure DgT (t:ByteArray):Prop where
 dg:∀i,i<t.size->ch (aw t i)=true
 b0:aw t 0=48
 b1:aw t 1=49
theorem anA:DgT ⟨#[48,49,50,51,52,53,54,55,56,57]⟩:=⟨fun a b=>by
 have:a<10:=b;rcases(show a=0\/a=1\/a=2\/a=3\/a=4\/a=5\/a=6\/a=7\/a=8\/a=9 by omega) with rfl|rfl|rfl|rfl|rfl|rfl|rfl|rfl|rfl|rfl<;>decide,by decide,by decide⟩
theorem DgT.twice{t:ByteArray}(h:DgT t):DgT (t++t):=by
 have a:=bm h.b0 (by omega);have b:=bm h.b1 (by omega);refine⟨fun d c=>?_,by rw[mI,ab a];exact h.b0,by rw[mI,ab b];exact h.b1⟩;rw[ae]at c;rw[mI];split
 ·exact h.dg d (by omega)
 ·exact h.dg _ (by omega)
theorem DgT.lng{t:ByteArray}(h:DgT t){n:Nat}(c:20<=n)(d:n<=4001)(a:n<=t.size):Lng (t.extract 0 n):=by
 have f:(t.extract 0 n).size=n:=by rw[oy];omega
 refine⟨by omega,by omega,fun b e=>?_,by rw[Ay t n 0 a (by omega)];exact h.b0,by rw[Ay t n 1 a (by omega)];exact h.b1⟩;rw[Ay t n b a (by omega)];exact h.dg b (by omega)
section
variable {E : Bs} {W : World} {L : List Mb} {l x : Int} {R : List Rwx}
theorem anB(h:Bd E W L l x R)(i:L.length<=25000)(bo:x<=17000000):
  Y Q 145 #[cV E] W fun e A=>∃s:ByteArray,(Sml s\/(Lng s/\Bg E A L 1))/\e= U (A3 s)/\Bd E A L l (x+110) R/\Ax E.base W A:=by
 have an:=pK h 6 (by decide) (by decide) i (by omega);go_in;go_wp2_with fail;refine an.mono ?_;rintro e w1 ⟨g,z0,b1,rfl,p,_,I⟩;have a:=eH p I;clear I an h;rcases(show g=0\/g=1\/g=2\/g=3\/g=4\/g=5 by omega) with rfl|rfl|rfl|rfl|rfl|rfl
 ·go_wp2;go_ret;exact⟨_,.inl ⟨by decide,rl (by decide)⟩,rfl,a.out.1.wide (by omega),a.out.2⟩
 ·have k:=pK p 6 (by decide) (by decide) i (by omega);go_wp2_with fail;refine k.mono ?_;rintro e B ⟨y,a3,a4,rfl,f,_,j⟩;have a0:=akp f y (by omega) (by omega) i (by omega);have c:=aj j;clear j k;go_wp2_with fail;refine a0.mono ?_;rintro e bE ⟨s,bl,rfl,ap,av⟩;go_wp2;go_ret;exact⟨_,.inl ⟨by omega,(akf s).le (by omega)⟩,rfl,ap.wide (by omega),(a.out.2.trans c.out).trans av⟩
 ·go_wp2;go_ret;exact⟨_,.inl ⟨by decide,rl (by decide)⟩,rfl,a.out.1.wide (by omega),a.out.2⟩
 ·have k:=pK p 20 (by decide) (by decide) i (by omega);go_wp2_with fail;refine k.mono ?_;rintro e B ⟨y,a3,a4,rfl,f,_,j⟩;have c:=eH f (a.out.2.trans j);clear j k p;obtain⟨bq,bs,d,u,a1,br,bw,bx,a2⟩:=f.cur;obtain⟨a5,a6,a7,a8,a9,ba,bb⟩:=wH u;by_cases am:y=0
  ·subst am;by_cases bk:d<3
   ·have t:=f.went (y:=x+2) (wI (vg B E.cb) 3 (V O (d+1))) (u.set3 (d+1)) ⟨a1,by omega⟩ ⟨by omega,by omega,by omega⟩;have G:Bg E (B.setCell ⟨E.cb,3,A0⟩ (V O (d+1))) L 1:=fun p2 bt a2 o=>by
     have K:=u.set3 (d+1);unfold fw at K o;rw[K]at o;simp at o;obtain⟨_,_,rfl⟩:=o;exact⟨by omega,by omega,by omega⟩
    have q:=jn t.1 t.2.2 G;clear G;clear t f;have bn:IntKind.i64.wrap (d+1)=d+1:=by rw[cw];omega
    go_wp2_with fail;go_loop [3] (fun v=>∃b:ByteArray,v= A3 b/\Ten b.size/\DgT b) (fun v=>6000-ans v)
    case atStart=>exact⟨_,rfl,.inl rfl,anA⟩
    case round=>
     obtain⟨b,rfl,al,af⟩:=hrel;have n:=aj al;have C:=aj af;clear al af;by_cases ak:b.size<4000
     ·go_wp2;go_round
      case rel=>exact⟨_,rfl,aaL n.out ak,C.out.twice⟩
      case measure=>have bd:=agx n.out;show 6000-(b++b).size<6000-b.size;rw[ae];omega
     ·have bf:4001<=b.size:=agv n.out ak;have bj:b.size<=5120:=agw n.out;have ao:=amt q.out.1 q.out.2.2 3 (by decide) (by decide) i (by omega);go_wp2_with fail;refine ao.mono ?_;rintro e b0 ⟨z,bA,bD,rfl,F,H,J⟩;have r:=jn F ((c.out.2.trans q.out.2.1).trans J) H;clear F J ao H;rcases(show z=0\/z=1\/z=2 by omega) with rfl|rfl|rfl;all_goals
       go_wp2;go_ret;exact⟨_,.inr ⟨C.out.lng (by omega) (by omega) (by omega),r.out.2.2⟩,rfl,r.out.1.wide (by omega),r.out.2.1⟩
   ·go_wp2;go_ret;exact⟨_,.inl ⟨by decide,rl (by decide)⟩,rfl,c.out.1.wide (by omega),c.out.2⟩
  ·have bp:(y==0)=A2:=by simp[am]
   go_wp2;go_ret;exact⟨_,.inl ⟨by decide,rl (by decide)⟩,rfl,c.out.1.wide (by omega),c.out.2⟩
 ·go_wp2;go_ret;exact⟨_,.inl ⟨by decide,rl (by decide)⟩,rfl,a.out.1.wide (by omega),a.out.2⟩
 ·go_wp2;go_ret;exact⟨_,.inl ⟨by decide,rl (by decide)⟩,rfl,a.out.1.wide (by omega),a.out.2⟩
end
def Lf(s c l a:Int):Prop:=(l<5->l-s<=a)/\(5<=l->5-c<=a)
structure rH (E:Bs) (W:Z) (L:List Mb) (l x:Int) (R:List Rwx) (m:Int):Prop where
 bd:Bd E W L l x R
 sum:l+L.length<=140
 lo: -20000+12*m<=l
 hx:x+1000*m<=4000000
 m0:0<=m/\m<=1300
def Ans(E:Bs)(W:Z)(L:List Mb)(l x:Int)(R:List Rwx)(s c:Int)(e:Ending)(a:Z):Prop:=
 ∃M:List Mb,0<M.length/\e= U (V O ((L.length:Int)+M.length-1))/\Bd E a (L++M) (l-M.length) x R/\Ax E.base W a/\Lf s c l (l-M.length)
section
variable {E : Bs} {W : World} {L : List Mb} {l x : Int} {R : List Rwx}
theorem Jg{a:Z}{y:Mb}{s c b:Int}(g:1<=s)(f:1<=c)(e:b-400<=x)(h:Bd E a (L++[y]) (l-1) (b-400) R)(d:Ax E.base W a):Ans E W L l x R s c (U (V O (L.length:Nat))) a:=
 ⟨[y],by simp,by congr 2;simp,h.wide e,d,⟨fun _=>by simp;omega,fun _=>by simp;omega⟩⟩
theorem ai4{m:Int}(h:rH E W L l x R m)(bl:1<=m):
  Y Q 113 #[bV E] W (Ans E W L l x R 1 1):=by
 obtain⟨B,bp,bk,br,bn⟩:=h;have c:L.length<=25000:=by omega
 have a7:=B.c0;have q: -100000<=l/\l<=100000:=by omega
 have I:=pK B 9 (by decide) (by decide) c (by omega);go_in;go_wp2_with fail;refine I.mono ?_;rintro z w1 ⟨b,z0,bs,rfl,o,_,G⟩;have j:=aj G;clear G I B;have r:∀{W:Z}{L:List Mb}{l x:Int}{R:List Rwx},Bd E W L l x R->Bd E W L l x (⟨9,T A0 0 0,([]:List ByteArray).map X⟩::⟨3,T A0 0 0,([]:List Int).map (S O)⟩::R):=fun h=>(h.nil toI).nil GE;have nB:∀{k n:Int}{t:ByteArray},0<=k->k<=1000-> -9223372036854775808<=n/\n<=9223372036854775807->Txt k t->B9 (dN k 0 n t [] []):=fun J K af ak=>oF ⟨J,K⟩ (by decide) af ak (by decide) (fun p g=>by cases g) (by decide) (fun p g=>by cases g);rcases(show b=0\/b=1\/b=2\/b=3\/b=4\/b=5\/(b≠0/\b≠1/\b≠2/\b≠3/\b≠4/\b≠5) by omega) with rfl|rfl|rfl|rfl|rfl|rfl|⟨al,am,an,ao,ap,av⟩
 ·have i:=pK o 3 (by decide) (by decide) c (by omega);go_wp2_with fail;refine i.mono ?_;rintro z s ⟨y,a5,a6,rfl,f,_,e⟩;have bq:IntKind.i64.wrap (20+y)=20+y:=by rw[cw];omega
  have d:=Cq (k:=20+y) (op:=0) (n:=0) (t:=⟨#[]⟩) (r f) q (nB (by omega) (by omega) (by decide) (pD (by omega))) c;go_wp2_with fail;refine cd d fun u a=>?_;go_wp2_with fail;go_ret;exact Jg (by decide) (by decide) (by omega) a.1 ((j.out.trans e).trans a.2)
 iterate 2
  ·have i:=ako o c (by omega);go_wp2_with fail;refine i.mono ?_;rintro z s ⟨n,a2,rfl,f,e⟩;have d:=Cq (k:=23) (op:=0) (n:=n) (t:=⟨#[]⟩) (r f) q (nB (by decide) (by decide) a2 (pD (by decide))) c;go_wp2_with fail;refine cd d fun u a=>?_;go_wp2_with fail;go_ret;exact Jg (by decide) (by decide) (by omega) a.1 ((j.out.trans e).trans a.2)
 ·have C:=aj fun (a4:Obj)=>pK (o.below (bI w1 a4)) 5 (by decide) (by decide) c (by omega);have a1:=o.lt;go_wp2_with fail;refine(C.out _).mono ?_;rintro z s ⟨y,a5,a6,rfl,f,F,e⟩;have H:=F.blk (ar w1 _) (by decide);have bo:=fun a3=>ay s w1.heap.size a3 _ _ _ H;have v:=eH f (((bI w1 _).mono a1.2.2.1).trans e);clear f F e H C;have d:=fun (t:ByteArray) (A:t.size<=19/\Cs t 90)=>Cq (k:=24) (op:=0) (n:=0) (t:=t) (r v.out.1) q (nB (by decide) (by decide) (by decide) (.inl ⟨by decide,A⟩)) c (.inl A.1);rcases(show y=0\/y=1\/y=2\/y=3\/y=4 by omega) with rfl|rfl|rfl|rfl|rfl;all_goals
   go_wp2_with fail;refine cd (d _ ⟨by decide,rl (by decide)⟩) fun u a=>?_;go_wp2_with fail;go_ret;exact Jg (by decide) (by decide) (by omega) a.1 ((j.out.trans v.out.2).trans a.2)
 ·have i:=anB o c (by omega);go_wp2_with fail;refine i.mono ?_;rintro z s ⟨p,g,rfl,f,e⟩;have d:=fun (t:ByteArray) (A:Sml t\/(Lng t/\t.size<=4000/\Bg E s L 1))=>Cq (k:=25) (op:=0) (n:=0) (t:=t) (r f) q (nB (by decide) (by decide) (by decide) (.inr ⟨rfl,A.imp id fun h=>⟨h.1,h.2.1⟩⟩)) c (A.imp (fun h=>h.1) fun h=>h.2.2);have v:=aj e;clear e i;by_cases bj:4000<p.size
  ·have a0:(4000:Int)<(p.size:Int):=by omega
   go_wp2_with fail;refine cd (d _ (.inl ⟨by decide,rl (by decide)⟩)) fun u a=>?_;go_wp2_with fail;go_ret;exact Jg (by decide) (by decide) (by omega) a.1 ((j.out.trans v.out).trans a.2)
  ·have a0:¬(4000:Int)<(p.size:Int):=by omega
   go_wp2_with fail;refine cd (d _ (g.imp id fun h=>⟨h.1,by omega,h.2⟩)) fun u a=>?_;go_wp2_with fail;go_ret;exact Jg (by decide) (by decide) (by omega) a.1 ((j.out.trans v.out).trans a.2)
 ·have d:=Cq (k:=27) (op:=0) (n:=0) (t:=⟨#[]⟩) (r o) q (nB (by decide) (by decide) (by decide) (pD (by decide))) c;go_wp2_with fail;refine cd d fun u a=>?_;go_wp2_with fail;go_ret;exact Jg (by decide) (by decide) (by omega) a.1 (j.out.trans a.2)
 ·have a8:(b==0)=A2:=by simpa using al
  have a9:(b==1)=A2:=by simpa using am
  have ba:(b==2)=A2:=by simpa using an
  have bb:(b==3)=A2:=by simpa using ao
  have bd:(b==4)=A2:=by simpa using ap
  have bf:(b==5)=A2:=by simpa using av
  have i:=Jf o c (by omega);go_wp2_with fail;refine i.mono ?_;rintro z s ⟨p,g,rfl,f,e⟩;have d:=Cq (k:=26) (op:=0) (n:=0) (t:=p) (r f) q (nB (by decide) (by decide) (by decide) (adK (by decide) g)) c (.inl (by have:=g.sz;omega));go_wp2_with fail;refine cd d fun u a=>?_;go_wp2_with fail;go_ret;exact Jg (by decide) (by decide) (by omega) a.1 ((j.out.trans e).trans a.2)
end
def FB(f:FuncId)(d m s c:Int):Prop:=∀ ⦃E:Bs⦄ ⦃W:Z⦄ ⦃L:List Mb⦄ ⦃l x:Int⦄ ⦃R:List Rwx⦄,rH E W L l x R m->Y Q f #[bV E,V O d] W (Ans E W L l x R s c)
def xu(f:FuncId)(d m s c:Int):Prop:=∀ ⦃E:Bs⦄ ⦃W:Z⦄ ⦃L:List Mb⦄ ⦃l x:Int⦄ ⦃R:List Rwx⦄,rH E W L l x R m->Y Q f #[bV E,V O d] W (Ans E W L l (x-100) R s c)
theorem xu.weak{f:FuncId}{d m s c:Int}(h:xu f d m s c):FB f d m s c:=fun _ _ _ _ _ _ i=>(h i).mono fun j k ⟨M,a,b,e,g⟩=>⟨M,a,b,e.wide (by omega),g⟩
theorem rH.less{E:Bs}{W:Z}{L:List Mb}{l x m m':Int}{R:List Rwx}(p:rH E W L l x R m)(a:0<=m')(h:m'<=m):rH E W L l x R m':=⟨p.bd,p.sum,by have:=p.lo;omega,by have:=p.hx;omega,by have:=p.m0;omega⟩
theorem FB.up{f:FuncId}{d m m' s c b a:Int}(h:FB f d m s c)(e:0<=m)(n:m<=m')(t:s<=b)(r:c<=a):FB f d m' b a:=fun _ _ _ _ _ _ o=>(h (o.less e n)).mono fun p u ⟨M,g,i,j,k,q⟩=>⟨M,g,i,j,k,by unfold Lf at *;omega⟩
theorem xu.up{f:FuncId}{d m m' s c b a:Int}(h:xu f d m s c)(e:0<=m)(n:m<=m')(t:s<=b)(r:c<=a):xu f d m' b a:=fun _ _ _ _ _ _ o=>(h (o.less e n)).mono fun p u ⟨M,g,i,j,k,q⟩=>⟨M,g,i,j,k,by unfold Lf at *;omega⟩
section
variable {E : Bs} {W : World} {L M : List Mb} {l x y : Int} {R R' : List Rwx} {m m' : Int}
theorem rH.len(h:rH E W L l x R m):L.length<=25000/\ -100000<=l/\l<=100000:=by
 obtain⟨_,a,b,c,d⟩:=h;omega
theorem rH.next(h:rH E W L l x R m){w:Z}(a:Bd E w (L++M) (l-M.length) y R')(i:y<=x+900)(c:0<=m'/\m'+1<=m)(b: -20000+12*m'<=l-M.length):rH E w (L++M) (l-M.length) y R' m':=by
 obtain⟨_,d,e,f,g⟩:=h;exact⟨a,by rw[aF];simp;omega,b,by omega,⟨c.1,by omega⟩⟩
theorem Bd.newI(h:Bd E W L l x R)(ks:List Int)(b:ks.length<=100)(n:Nat)(a:ks.length=n):Bd E (W.alloc (.cells (ks.map (S O)).toArray 3)) L l x (⟨3,T (A1 ⟨W.heap.size,0,A0⟩) n n,ks.map (S O)⟩::R):=by
 subst a;refine h.new toI _ _ rfl ?_ rfl;have:=Dz (base:=E.base) (e:=3) (size:=1) W (ks.map (S O)).toArray ks.length h.lt.2.2.1 (by unfold A8;omega) (by simp);simpa using this
theorem ahA{a:Z}{b:Mb}{s c e:Int}{r:Int}(j:e-400<=x)(h:Bd E a (L++M++[b]) (l-M.length-1) (e-400) R)(f:Ax E.base W a)(g:Lf s c l (l-M.length-1))(i:r=(L.length:Int)+M.length:=by simp):Ans E W L l x R s c (U (V O r)) a:=by
 subst i;have d:l-((M++[b]).length:Nat)=l-M.length-1:=by simp;omega
 refine⟨M++[b],by simp,by congr 2;simp;omega,?_,f,?_⟩
 ·rw[d,<-dC];exact h.wide j
 ·rw[d];exact g
theorem Bd.last(h:Bd E W (L++M) l x R)(f:0<M.length):∃(k g cap:Nat) (y:Mb),k+1=L.length+M.length/\W.cell? ⟨E.bb,1,A0⟩=A1 (T (A1 ⟨g,0,A0⟩) (k+1) cap)/\W.cell? ⟨g,k*9,A0⟩=A1 (V O y.N.k):=by
 obtain⟨j,c,a⟩:=h.row;have d:(L++M).length=L.length+M.length:=aF;obtain⟨y,e⟩:∃y,(L++M)[L.length+M.length-1]?=A1 y:=⟨_,aE (by omega)⟩;rcases bK a with⟨i,rfl⟩|⟨g,cap,rfl⟩
 ·omega
 ·refine⟨L.length+M.length-1,g,cap,y,by omega,?_,?_⟩
  ·rw[ay _ _ _ _ _ _ c,d,show L.length+M.length-1+1=L.length+M.length by omega];rfl
  ·obtain⟨b,_⟩:=td a e;exact b
end
theorem ai5{d me m ce:Int}(af:0<=me/\me+1<=m)(F:0<=ce/\ce<=4000)(p:FB 59 d me 1 ce):FB 111 d m 2 (ce+1):=by
 intro E W L l x R a;have o:rH E W L l x R me:=⟨a.bd,a.sum,by have:=a.lo;omega,by have:=a.hx;omega,by have:=a.m0;omega⟩;have j:=p o;go_in;go_wp2_with fail;refine j.mono ?_;rintro z w1 ⟨M,g,rfl,c,h,q⟩;have J:=a.len;have al:=a.sum;have K:=a.lo;have ak:=a.m0;unfold Lf at q;obtain⟨k,B,v,y,I,u,n⟩:=c.last g;have e:((L.length:Int)+M.length-1)=(k:Int):=by omega
 rw[e];have b:=eH c h;clear c h j;have G:(0:Int)<=(k:Int):=by omega
 have H:(k:Int)<((k+1:Nat):Int):=by omega
 have C:(M.length:Int)<=22000:=by omega
 by_cases i:y.N.k=27
 ·rw[i]at n;have r:=b.out.1.newI [(k:Int)] (by simp) 1 rfl;have s:=aeg (k:=37) r (by omega) (by decide) (by simp) (fun an e=>by rw[List.mem_singleton.1 e];omega) (by rw[aF];omega);go_wp2_with fail;refine cd s fun am f=>?_;go_wp2_with fail;go_ret;exact ahA (by omega) f.1 ((b.out.2.trans ((bI w1 _).mono b.out.1.lt.2.2.1)).trans f.2) (by unfold Lf;omega)
 ·have A:(y.N.k==27)=A2:=by simpa using i
  go_wp2_with fail;go_ret;exact⟨M,g,congrArg (fun t=>Ending.returned (V O t)) (show(k:Int)=_ by omega),b.out.1,b.out.2,by unfold Lf;omega⟩
theorem akq:(Tryz.prog.info? 3).map (fun i=>(i.zero,i.size,i.bytes))=A1 (A1 (V O 0),1,8):=by kernel_rfl
section
variable {E : Bs} {W : World} {L : List Mb} {l x : Int} {R : List Rwx}
theorem Bd.formI{v:A6}{ks:List Int}(h:Bd E W L l x (⟨3,v,ks.map (S O)⟩::R)):∃a c,v= T a ks.length c:=by
 have b:=(h.rows _ bz).2;simp only[dL]at b;exact cH b
theorem su{j:Array Oper}{n:List Oper}{o:Oper}{a:Act}{f:Exit->Act->Z->Prop}{v:A6}{m:Nat}{ks:List Int}(u:o.guard=A0)(s y:Operand)
  (C:o.op= .call {callee:= .builtin .append,args:=#[s,y],argTypes:=#[31,31]}) (h:Bd E W L l x (⟨3,v,ks.map (S .i64)⟩::R)) (F:a.eval s=v) (t:Int) {w0:Z}(G:W=w0.alloc (.cells #[.int .i64 t] 3)) (H:a.eval y= .slice (A1 ⟨w0.heap.size,0,A0⟩) 1 1) (B:ks.length=m) (am:m<=1000)
  (k:∀b c w1,Bd E w1 L l x (⟨3,.slice b (m+1) c,(ks++[t]).map (S .i64)⟩::R)->Ax E.base W w1->wpList Q j f n (a.put o.dst (.slice b (m+1) c)) w1):
  wpList Q j f (o::n) a W:=by
 subst B;obtain⟨af,A,I,J,K⟩:=fl akq;have i:=(h.rows _ bz).2;simp only[dL]at i;refine A5 _ u s y 31 C E.base 3 af _ 1 8 Tryz.underlying31 A I J K rfl (by decide) v _ _ F i ⟨w0.heap.size,0,A0⟩ 1 1 [.int .i64 t] H (by simp) (World.news_of_block (cs:=#[.int .i64 t]) (by rw[G];exact ar w0 _)) (by simp[Value.oneCell']) (by unfold A8;omega) (by omega) h.lt.2.2.1 ?_;intro an w1 g r _ p;obtain⟨b,c,rfl⟩:=cH g;have z:∀d,(A7 b (ks.length+1) c).ownBlock=A1 d->v.ownBlock=A1 d\/W.heap.size<=d:=fun d e=>by
  rcases p with q|q
  ·exact .inl (q ▸ e)
  ·rw[q]at e;cases e;exact .inr (ag _)
 obtain⟨ak,al⟩:=h.hot (r':=⟨3,.slice b (ks.length+1) c,(ks++[t]).map (S .i64)⟩) r toI (by simpa using g) z;exact k b c w1 ak al
end
def Pl(ks:List Int):Prop:=∀a∈ks,0<=a/\a<=100000
theorem Pl.add{ks:List Int}(h:Pl ks){a:Int}(b:0<=a)(c:a<=100000):Pl (ks++[a]):=fun y hy=>by
 rcases List.mem_append.1 hy with hy|hy
 ·exact h y hy
 ·rw[List.mem_singleton.1 hy];exact⟨b,c⟩
def anC(E:Bs)(W:Z)(L:List Mb)(l x:Int)(R:List Rwx)(n:Nat)(s c:Int)(e:Ending)(f:Z):Prop:=
 ∃(M:List Mb) (a:List Int) (b:Option Addr) (d:Nat),e= U (T b n d)/\a.length=n/\Pl a/\Bd E f (L++M) (l-M.length) x (⟨3,T b n d,a.map (S O)⟩::R)/\Ax E.base W f/\Lf s c l (l-M.length)
theorem aeh{d me m ce:Int}(am:0<=me/\me+1<=m)(a5:0<=ce/\ce<=4000)(K:FB 59 d me 1 ce){E:Bs}{W:Z}{L:List Mb}{l x:Int}{R:List Rwx}(h:rH E W L l x R m)(n:Nat)(bf:n<=8):
  Y Q 57 #[bV E,V O n,V O d] W (anC E W L l x R n n (ce+n)):=by
 have a9:=h.len;have C:=h.sum;have ba:=h.lo;have bb:=h.m0;have bj:=h.hx;go_in;go_wp2_with fail;go_loopw [1,7] (fun t a0 wr=>∃(b a:Nat) (M:List Mb) (c:List Int),t= V O b/\b+a=n/\c.length=a/\Pl c/\Bd E wr (L++M) (l-M.length) x (⟨3,a0,c.map (S O)⟩::R)/\Ax E.base W wr/\Lf a (ce+a) l (l-M.length)) (fun t _ _=>(A4 t).toNat)
 case atStart=>exact⟨n,0,[],[],rfl,rfl,rfl,fun bk C=>(by cases C),by simpa using h.bd.nil toI,ai _ _,by unfold Lf;simp;omega⟩
 case round=>
  obtain⟨b,a,M,c,rfl,A,r,s,e,q,z⟩:=hrel;have a8:b<=n:=by omega
  have a6:a<=n:=by omega
  have G:=aj z;unfold Lf at z;have B:rH E wr (L++M) (l-M.length) x _ me:=h.next e (by omega) am (by omega)
  by_cases a7:0<b
  ·have F:=K B;have k:=tH A s q r;clear A s q e;go_wp2_with fail;refine F.mono ?_;rintro o w1 ⟨f,a4,rfl,u,v,ak⟩;unfold Lf at ak;have an:=B.sum;have j:=eH u v;clear u v F;obtain⟨i,g⟩:=aA (((L++M).length:Int)+f.length-1);rw[g];rw[aF]at g an;have ao:0<=i:=by omega
   have ap:i<=100000:=by omega
   have a1:=aj g;clear g;go_wp2_with (at_builtin;refine su rfl _ _ rfl (j.out.1.below (bI w1 _)) rfl i rfl rfl k.out.2.2.2 (by have:=k.out.1;omega) ?_;intro a2 a3 bl J af);go_roundw
   case rel=>
    have p:=k.out;have al:=j.out.1.lt;have o:l-((M++f).length:Nat)=l-M.length-f.length:=by simp;omega
    refine⟨b-1,a+1,M++f,c++[i],by go_num,by omega,by rw[aF,p.2.2.2];rfl,p.2.1.add ao ap,?_,((p.2.2.1.trans j.out.2).trans ((bI w1 _).mono al.2.2.1)).trans af,?_⟩
    ·rw[o,<-dC];exact J
    ·rw[o];unfold Lf;omega
   case measure=>simp[A4];omega
  ·obtain rfl:b=0:=by omega
   obtain⟨H,I,rfl⟩:=e.formI;obtain rfl:a=n:=by omega
   rw[r]at e⊢;go_wp2_with fail;go_ret;exact⟨M,c,H,I,rfl,r,s,e,q,G.out⟩
section
variable {E : Bs} {W : World} {L : List Mb} {l x : Int} {R : List Rwx}
theorem Bd.intAt{r:Rwx}{a:Option Addr}{n e:Nat}{ks:List Int}(h:Bd E W L l x (r::⟨3,T a n e,ks.map (S O)⟩::R))(j:ks.length=n){i:Nat}(p:i<n):∃g b,a=A1 ⟨g,0,A0⟩/\ks[i]?=A1 b/\W.cell? ⟨g,i,A0⟩=A1 (V O b):=by
 have c:=(h.rows _ (dm _ bz)).2;simp only[dL,j]at c;obtain⟨b,d⟩:∃b,ks[i]?=A1 b:=⟨_,aE (by omega)⟩;rcases bK c with⟨o,_⟩|⟨g,k,f⟩
 ·omega
 ·cases f;refine⟨g,b,rfl,d,?_⟩;rw[c.cellAt i (by omega),cA,d];rfl
end
theorem ai6{d mb me m cb ce:Int}(ca:0<=mb/\mb+1<=m/\0<=me/\me+2<=m)(b3:0<=ce/\ce<=cb/\cb<=4000)(b4: -100<=d/\d<=100)(ba:FB 111 (d-1) mb 2 cb)(bf:FB 59 (d-1) me 1 ce):xu 54 d m 5 (cb+3):=by
 intro E W L l x R c;have b7:=c.len;have an:=c.sum;have b8:=c.lo;have cc:=c.m0;have ck:=c.hx;have a9:rH E W L l x R mb:=⟨c.bd,c.sum,by omega,by omega,by omega⟩;have ap:=ba a9;have cf:IntKind.i64.wrap (d-1)=d-1:=by rw[cw];omega
 go_in;go_wp2_with fail;refine ap.mono ?_;rintro i w1 ⟨a,b2,rfl,j,I,bk⟩;unfold Lf at bk;obtain⟨o,z⟩:=aA ((L.length:Int)+a.length-1);rw[z];have bq:0<=o/\o<=100000:=by omega
 have am:=j.newI [o] (by simp) 1 rfl;have af:Ax E.base W (w1.alloc (.cells ([o].map (S O)).toArray 3)):=I.trans ((bI w1 _).mono j.lt.2.2.1);have bD:=j.c0;have b9:=j.lt;have a1:=pK am 3 (by decide) (by decide) (by rw[aF];omega) (by omega);have a4:=eH af z;clear am af j I ap z;go_wp2_with fail;refine a1.mono ?_;rintro i bx ⟨n,bt,cl,rfl,C,_,J⟩;obtain⟨n,rfl⟩:=gc bt;have p2:rH E bx (L++a) (l-a.length) (x+1) _ (m-1):=c.next C (by omega) (by omega) (by omega)
 have a0:=aeh (m:=m-1) (by omega) (by omega) bf p2 n (by omega);have a3:=aj (a4.out.1.trans J);clear C J a1;go_wp2_with fail;refine a0.mono ?_;rintro i cn ⟨f,bs,a5,a8,rfl,ak,al,F,K,bl⟩;unfold Lf at bl;have bp:=p2.sum;have G:=F.swap;have r:=jn G (a3.out.trans K) al;clear F K a0 G p2 al;rw[aF]at bp;go_wp2_with fail;go_loopw [6,25] (fun bw A wr=>∃(b:Nat) (e:List Int),A= V O b/\b<=n/\e.length=b+1/\Pl e/\Bd E wr (L++a++f) (l-a.length-f.length) (x+1) (⟨3,bw,e.map (S O)⟩::⟨3,T a5 n a8,bs.map (S O)⟩::R)/\Ax E.base W wr) (fun _ A _=>n-(A4 A).toNat)
 case atStart=>exact⟨0,[o],rfl,aG _,rfl,fun y v=>by rw[List.mem_singleton.1 v];exact bq,r.out.1,r.out.2.1⟩
 case round=>
  obtain⟨b,e,rfl,b6,s,u,g,q⟩:=hrel;by_cases bn:b<n
  ·obtain⟨b1,y,rfl,v,b0⟩:=g.intAt ak bn;have ao:=r.out.2.2 y (dl v);have b5:(0:Int)<=(b:Int):=by omega
   have bo:(b:Int)<(n:Int):=by omega
   have h:=tH g q u s;clear g q u s;go_wp2_with (at_builtin;refine su rfl _ _ rfl (h.out.1.below (bI wr _)) rfl y rfl rfl h.out.2.2.2 (by omega) ?_;intro bA bE cq bb bj);go_roundw
   case rel=>
    have p:=h.out;exact⟨b+1,e++[y],by go_num,by omega,by rw[aF,p.2.2.2];rfl,p.2.2.1.add ao.1 ao.2,bb,(p.2.1.trans ((bI wr _).mono p.1.lt.2.2.1)).trans bj⟩
   case measure=>simp[A4];omega
  ·obtain⟨a6,a7,rfl⟩:=g.formI;have bo:¬(b:Int)<(n:Int):=by omega
   have i:l-((a++f).length:Nat)=l-a.length-f.length:=by simp;omega
   have H:Bd E wr (L++(a++f)) (l-((a++f).length:Nat)) (x+1) (⟨9,T A0 0 0,([]:List ByteArray).map X⟩::⟨3,T a6 e.length a7,e.map (S O)⟩::R):=by
    rw[i,<-dC];exact(g.swap.drop).nil GE
   have br:=Cq (k:=34) (op:=0) (n:=0) (t:=⟨#[]⟩) H (by omega) (oF (by decide) (by decide) (by decide) (pD (by first|decide|omega)) (by decide) (fun cm an=>by cases an) (by omega) u) (by simp;omega);have h:=aj q;clear g q H s ak;go_wp2_with fail;refine cd br fun cr B=>?_;go_wp2_with fail;go_ret;exact ahA (by omega) B.1 (h.out.trans B.2) (by unfold Lf;rw[i];omega)
structure At (E:Bs) (W:Z) (L:List Mb) (l x:Int) (w:Z) (M:List Mb) (y:Int) (R:List Rwx):Prop where
 bd:Bd E w (L++M) (l-M.length) y R
 bel:Ax E.base W w
 hy:y<=x+600
 lo: -20000<=l-M.length
section
variable {E : Bs} {W w : World} {L M : List Mb} {l x y : Int} {R R' : List Rwx} {m : Int}
theorem rH.at(p:rH E W L l x R m):At E W L l x W [] x R:=⟨by simpa using p.bd,ai _ _,by omega,by have:=p.lo;have:=p.m0;simp;omega⟩
theorem At.len(p:rH E W L l x R m)(a:At E W L l x w M y R'):(L++M).length<=25000/\(-100000<=l-M.length/\l-M.length<=100000)/\y<=5000000/\L.length+M.length<=25000:=by
 have b:=p.sum;have c:=a.lo;have d:=a.hy;have e:=p.hx;have f:=p.m0;rw[aF];omega
theorem At.low(a:At E W L l x w M y R'):E.base<=w.heap.size:=a.bd.lt.2.2.1
theorem At.c0(a:At E W L l x w M y R'):w.cell? ⟨E.bb,0,A0⟩=A1 (cV E):=a.bd.c0
theorem At.c2(a:At E W L l x w M y R'):w.cell? ⟨E.bb,2,A0⟩=A1 (V O (l-M.length)):=a.bd.c2
theorem At.pick(p:rH E W L l x R m)(a:At E W L l x w M y R')(j:y+1<=x+600)(k:Int)(g:2<=k)(h:k<=200):
  Y Q 28 #[cV E,V O k] w fun e c=>∃b:Int,e= U (V O b)/\(0<=b/\b<k)/\At E W L l x c M (y+1) R':=by
 have i:=a.len p;refine(pK a.bd k g h i.1 (by omega)).mono ?_;rintro e c ⟨b,z0,n,rfl,d,_,f⟩;exact⟨b,rfl,⟨z0,n⟩,d,a.bel.trans f,j,a.lo⟩
theorem At.short(p:rH E W L l x R m)(a:At E W L l x w M y R')(h:y+1<=x+600):
  Y Q 112 #[bV E] w fun e b=>∃s:ByteArray,e= U (A3 s)/\Shr s/\At E W L l x b M (y+1) R':=by
 have f:=a.len p;refine(Jf a.bd f.1 (by omega)).mono ?_;rintro e b ⟨s,g,rfl,c,d⟩;exact⟨s,rfl,g,c,a.bel.trans d,h,a.lo⟩
theorem At.names(p:rH E W L l x R m)(a:At E W L l x w M y R')(n:Nat)(i:n<=8)(k:y+n<=x+600):
  Y Q 56 #[bV E,V O n] w fun e f=>∃(v:Option Addr) (c:Nat) (nm:List ByteArray),e= U (T v n c)/\nm.length=n/\(∀s∈nm,Shr s)/\At E W L l x f M (y+n) (⟨9,T v n c,nm.map X⟩::R'):=by
 have h:=a.len p;refine(akn a.bd n i h.1 (by omega)).mono ?_;rintro e f ⟨v,c,nm,rfl,d,j,b,g⟩;rw[d]at b⊢;exact⟨v,c,nm,rfl,d,j,b,a.bel.trans g,k,a.lo⟩
theorem At.newI(a:At E W L l x w M y R')(ks:List Int)(b:ks.length<=100)(n:Nat)(c:ks.length=n):At E W L l x (w.alloc (.cells (ks.map (S O)).toArray 3)) M y (⟨3,T (A1 ⟨w.heap.size,0,A0⟩) n n,ks.map (S O)⟩::R'):=
 ⟨a.bd.newI ks b n c,a.bel.trans ((bI w _).mono a.low),a.hy,a.lo⟩
theorem At.nil(a:At E W L l x w M y R'){t:TypeId}(b:TO t):At E W L l x w M y (⟨t,T A0 0 0,[]⟩::R'):=⟨a.bd.nil b,a.bel,a.hy,a.lo⟩
theorem At.swap{r b:Rwx}(a:At E W L l x w M y (r::b::R')):At E W L l x w M y (b::r::R'):=⟨a.bd.swap,a.bel,a.hy,a.lo⟩
theorem At.drop{r:Rwx}(a:At E W L l x w M y (r::R')):At E W L l x w M y R':=⟨a.bd.drop,a.bel,a.hy,a.lo⟩
theorem At.below{c:Z}(a:At E W L l x w M y R')(b:Ax w.heap.size w c):At E W L l x c M y R':=⟨a.bd.below b,a.bel.trans (b.mono a.low),a.hy,a.lo⟩
theorem G3{M1:List Mb}(h:Bd E w (L++M++M1) (l-M.length-M1.length) y R'):Bd E w (L++(M++M1)) (l-((M++M1).length:Nat)) y R':=by
 have a:l-((M++M1).length:Nat)=l-M.length-M1.length:=by simp;omega
 rw[a,<-dC];exact h
theorem At.sub(p:rH E W L l x R m)(a:At E W L l x w M y R'){f:FuncId}{d m' s c:Int}(hF:FB f d m' s c)(u:1<=m'/\m'+1<=m)(r: -20000+12*m'<=l-M.length)(B:s<=12/\c<=4000):
  Y Q f #[bV E,V O d] w fun e k=>∃(g:List Mb) (h:Int),e= U (V O h)/\(0<=h/\h<=100000)/\M.length<g.length/\At E W L l x k g y R'/\Lf s c (l-M.length) (l-g.length):=by
 have A:=a.len p;have F:=p.hx;have G:=a.hy;have v:rH E w (L++M) (l-M.length) y R' m':=⟨a.bd,by have:=p.sum;rw[aF];simp;omega,r,by omega,⟨by omega,by have:=p.m0;omega⟩⟩;refine(hF v).mono ?_;rintro e k ⟨b,z,rfl,n,o,j⟩;have i:l-((M++b).length:Nat)=l-M.length-b.length:=by simp;omega
 have q:=j;unfold Lf at q;have t: -20000<=l-M.length-b.length:=by
  have:=u.1;omega
 have C:=p.sum;refine⟨M++b,_,rfl,⟨by omega,by rw[aF];simp;omega⟩,by rw[aF];omega,⟨G3 n,a.bel.trans o,a.hy,by rw[i];exact t⟩,by rw[i];exact j⟩
theorem At.add(p:rH E W L l x R m){k op n:Int}{t:ByteArray}{nm:List ByteArray}{ks:List Int}{an d:Option Addr}{mn cn mk ck:Nat}(a:At E W L l x w M y (⟨9,T an mn cn,nm.map X⟩::⟨3,T d mk ck,ks.map (S O)⟩::R))(f:B9 (dN k op n t nm ks)){x2:Int}(v:y<=x2+400){s c:Int}(q:Lf s c l (l-M.length-1))(r:k≠25:=by first|decide|omega):
  Y Q 58 #[bV E,.agg #[V O k,V O 0,V O 0,V O 0,V O op,V O n,A3 t,T an mn cn,T d mk ck]] w fun e h=>∃i:Int,e= U (V O i)/\Ans E W L l x2 R s c (U (V O i)) h:=by
 have g:=a.len p;have u:t.size<=19:=by
  rcases f.x with⟨_,b,_⟩|⟨b,_⟩
  ·exact b
  ·exact absurd b r
 refine(Cq a.bd g.2.1 f g.1 (.inl u)).mono ?_;rintro e h ⟨rfl,j,o⟩;exact⟨_,rfl,ahA (by omega) j (a.bel.trans o) q⟩
theorem At.addOn(p:rH E W L l x R m){k op n:Int}{t:ByteArray}{nm:List ByteArray}{ks:List Int}{an f:Option Addr}{mn cn mk ck:Nat}(a:At E W L l x w M y (⟨9,T an mn cn,nm.map X⟩::⟨3,T f mk ck,ks.map (S O)⟩::R'))(g:B9 (dN k op n t nm ks))(s: -20000<=l-M.length-1)(r:k≠25:=by first|decide|omega):
  Y Q 58 #[bV E,.agg #[V O k,V O 0,V O 0,V O 0,V O op,V O n,A3 t,T an mn cn,T f mk ck]] w fun e i=>∃(d:List Mb) (b:Int),e= U (V O b)/\(0<=b/\b<=100000)/\d.length=M.length+1/\At E W L l x i d (y-400) R':=by
 have h:=a.len p;have u:t.size<=19:=by
  rcases g.x with⟨_,c,_⟩|⟨c,_⟩
  ·exact c
  ·exact absurd c r
 refine(Cq a.bd h.2.1 g h.1 (.inl u)).mono ?_;rintro e i ⟨rfl,o,q⟩;have j:∀b:Mb,l-((M++[b]).length:Nat)=l-M.length-1:=fun b=>by simp;omega
 exact⟨M++[_],_,rfl,⟨by omega,by omega⟩,by simp,⟨G3 (M1:=[_]) (by simpa using o),a.bel.trans q,by have:=a.hy;omega,by rw[j];exact s⟩⟩
theorem At.kids(p:rH E W L l x R m){k:Int}{ks:List Int}{b:Option Addr}{mk ck:Nat}(a:At E W L l x w M y (⟨3,T b mk ck,ks.map (S O)⟩::R))(q:0<=k/\k<=1000/\k≠25)(h:ks.length<=64)(i:Pl ks){x2:Int}(r:y<=x2+400){s c:Int}(o:Lf s c l (l-M.length-1)):
  Y Q 55 #[bV E,V O k,T b mk ck] w fun e f=>∃g:Int,e= U (V O g)/\Ans E W L l x2 R s c (U (V O g)) f:=by
 have d:=a.len p;refine(aeg a.bd d.2.1 q h i d.1).mono ?_;rintro e f ⟨rfl,j,n⟩;exact⟨_,rfl,ahA (by omega) j (a.bel.trans n) o⟩
theorem At.kidsM(p:rH E W L l x R m){k:Int}{ks:List Int}{d:Option Addr}{mk ck:Nat}(a:At E W L l x w M y (⟨3,T d mk ck,ks.map (S O)⟩::R'))(q:0<=k/\k<=1000/\k≠25)(i:ks.length<=64)(j:Pl ks)(r: -20000<=l-M.length-1):
  Y Q 55 #[bV E,V O k,T d mk ck] w fun e g=>∃(c:List Mb) (b:Int),e= U (V O b)/\(0<=b/\b<=100000)/\c.length=M.length+1/\At E W L l x g c (y-400) R':=by
 have f:=a.len p;refine(aeg a.bd f.2.1 q i j f.1).mono ?_;rintro e g ⟨rfl,n,o⟩;have h:∀b:Mb,l-((M++[b]).length:Nat)=l-M.length-1:=fun b=>by simp;omega
 exact⟨M++[_],_,rfl,⟨by omega,by omega⟩,by simp,⟨G3 (M1:=[_]) (by simpa using n),a.bel.trans o,by have:=a.hy;omega,by rw[h];exact r⟩⟩
theorem At.exprs(p:rH E W L l x R m)(a:At E W L l x w M y R'){d me mx ce:Int}(k:FB 59 d me 1 ce)(C:0<=me/\me+1<=mx/\mx+1<=m)(A:0<=ce/\ce<=3900)(s: -20000+12*mx<=l-M.length)(n:Nat)(t:n<=8):
  Y Q 57 #[bV E,V O n,V O d] w fun e i=>∃(b:List Mb) (ks:List Int) (v:Option Addr) (c:Nat),e= U (T v n c)/\ks.length=n/\Pl ks/\M.length<=b.length/\At E W L l x i b y (⟨3,T v n c,ks.map (S O)⟩::R')/\Lf n (ce+n) (l-M.length) (l-b.length):=by
 have B:=a.len p;have F:=p.hx;have G:=a.hy;have u:rH E w (L++M) (l-M.length) y R' mx:=⟨a.bd,by have:=p.sum;rw[aF];simp;omega,s,by omega,⟨by omega,by have:=p.m0;omega⟩⟩;refine(aeh (m:=mx) (by omega) (by omega) k u n t).mono ?_;rintro e i ⟨f,ks,v,c,rfl,r,z,j,o,h⟩;have g:l-((M++f).length:Nat)=l-M.length-f.length:=by simp;omega
 have q:=h;unfold Lf at q;exact⟨M++f,ks,v,c,rfl,r,z,by rw[aF];omega,⟨G3 j,a.bel.trans o,a.hy,by rw[g];omega⟩,by rw[g];exact h⟩
end
theorem w1{d:Int}(a: -1000<=d/\d<=1000):IntKind.i64.wrap (d-1)=d-1:=by rw[cw];omega
theorem LG{a:Int}(h:0<=a/\a<=100000):Pl [a]:=fun y b=>by rw[List.mem_singleton.1 b];exact h
theorem pl2{a y:Int}(h:0<=a/\a<=100000)(k:0<=y/\y<=100000):Pl [a,y]:=fun c b=>by
 simp at b;rcases b with rfl|rfl
 ·exact h
 ·exact k
theorem wn:∀s∈([]:List ByteArray),Shr s:=fun s a=>by cases a
theorem fnB{d mk m ck:Int}(F:1<=mk/\mk+1<=m)(an:0<=ck/\ck<=3900)(C: -1000<=d/\d<=1000)(B:FB 63 (d-1) mk 1 ck):xu 60 d m 2 (ck+1):=by
 intro E W L l x R a;have ak:=a.at.c0;have a0:=w1 C;have ao:=a.lo;have ap:=a.m0;have i:=a.at.pick a (by omega) 3 (by decide) (by decide);go_in;go_wp2_with fail;refine i.mono ?_;rintro b w1 ⟨n,rfl,G,q⟩;obtain⟨n,rfl⟩:=gc G.1;have j:=q.names a n (by omega) (by omega);clear i;go_wp2_with fail;refine j.mono ?_;rintro b a8 ⟨a7,c,a6,rfl,g,h,r⟩;have o:=r.sub a B F (by simp;omega) (by omega);have e:=eH g h;clear j g h;go_wp2_with fail;refine o.mono ?_;rintro b a9 ⟨af,K,rfl,H,am,f,z⟩;have al:=f.c0;have p:=f.pick a (by omega) 2 (by decide) (by decide);clear o;go_wp2_with fail;refine p.mono ?_;rintro b ba ⟨J,rfl,av,u⟩;have v:=(u.newI [K] (by simp) 1 rfl).swap;have I:=v.add a (k:=36) (op:=J) (n:=0) (t:=⟨#[]⟩) (x2:=x-100) (s:=2) (c:=ck+1) (oF (by decide) (by omega) (by decide) (pD (by first|decide|omega)) (by rw[e.out.1];omega) e.out.2 (by simp) (LG H)) (by omega) (by unfold Lf at *;simp at z;omega);clear p;go_wp2_with fail;refine I.mono ?_;rintro b bb ⟨bd,rfl,A⟩;go_wp2_with fail;go_ret;exact A
theorem ahB{d mb me m cb ce:Int}(z:(1<=mb/\mb+1<=m)/\1<=me/\me+1<=m)(a6:0<=ce/\ce<=cb/\cb<=3900)(ak: -1000<=d/\d<=1000)(J:FB 111 (d-1) mb 2 cb)(K:FB 59 (d-1) me 1 ce):FB 61 d m 4 (cb+3):=by
 intro E W L l x R a;have av:=a.at.c0;have ba:=w1 ak;have a7:=a.lo;have a8:=a.m0;have A:=a.at.pick a (by omega) 4 (by decide) (by decide);go_in;go_wp2_with fail;refine A.mono ?_;rintro b w1 ⟨n,rfl,a9,v⟩;have i:=v.sub a J z.1 (by simp;omega) (by omega);clear A;rcases(show n=0\/n=1\/(n≠0/\n≠1) by omega) with rfl|rfl|⟨G,H⟩
 ·go_wp2_with fail;refine i.mono ?_;rintro b an ⟨F,u,rfl,q,af,o,g⟩;unfold Lf at g;simp at g;have e:=o.sub a K z.2 (by omega) (by omega);clear i;go_wp2_with fail;refine e.mono ?_;rintro b B ⟨ap,ao,rfl,am,a5,f,I⟩;unfold Lf at I;have j:=(f.newI [u,ao] (by simp) 2 rfl).kids a (k:=32) (x2:=x) (s:=4) (c:=cb+3) (by decide) (by simp) (pl2 q am) (by omega) (by unfold Lf;omega);clear e;go_wp2_with fail;refine j.mono ?_;rintro b C ⟨r,rfl,h⟩;go_wp2_with fail;go_ret;exact h
 ·go_wp2_with fail;refine i.mono ?_;rintro b an ⟨F,u,rfl,q,af,o,g⟩;unfold Lf at g;simp at g;have e:=o.short a (by omega);clear i;go_wp2_with fail;refine e.mono ?_;rintro b B ⟨s,rfl,p,f⟩;have j:=((f.newI [u] (by simp) 1 rfl).nil GE).add a (k:=33) (op:=0) (n:=0) (t:=s) (nm:=[]) (x2:=x) (s:=4) (c:=cb+3) (oF (by decide) (by decide) (by decide) (adK (by first|decide|omega) p) (by decide) wn (by simp) (LG q)) (by omega) (by unfold Lf;omega);clear e;go_wp2_with fail;refine j.mono ?_;rintro b C ⟨r,rfl,h⟩;go_wp2_with fail;go_ret;exact h
 ·have a0:(n==0)=A2:=by simpa using G
  have a4:(n==1)=A2:=by simpa using H
  have e:=v.short a (by omega);clear i;go_wp2_with fail;refine e.mono ?_;rintro b B ⟨s,rfl,p,f⟩;have j:=((f.nil toI).nil GE).add a (k:=26) (op:=0) (n:=0) (t:=s) (nm:=[]) (ks:=[]) (x2:=x) (s:=4) (c:=cb+3) (oF (by decide) (by decide) (by decide) (adK (by first|decide|omega) p) (by decide) wn (by simp) (fun r al=>by cases al)) (by omega) (by unfold Lf;simp;omega);clear e;go_wp2_with fail;refine j.mono ?_;rintro b C ⟨r,rfl,h⟩;go_wp2_with fail;go_ret;exact h
section
variable {E : Bs} {W w : World} {L M : List Mb} {l x y : Int} {R R' : List Rwx} {m : Int}
theorem At.formI{v:A6}{ks:List Int}(a:At E W L l x w M y (⟨3,v,ks.map (S O)⟩::R')):∃b c,v= T b ks.length c:=a.bd.formI
theorem At.app{g:Array Oper}{i:List Oper}{o:Oper}{a:Act}{e:Exit->Act->Z->Prop}{v:A6}{n:Nat}{ks:List Int}(h:At E W L l x w M y (⟨3,v,ks.map (S O)⟩::R'))(t:Int)(r:ks.length=n)(u:n<=1000)(q:o.guard=A0)(s d:Operand)
  (z:o.op= .call {callee:= .builtin .append,args:=#[s,d],argTypes:=#[31,31]}) (A:a.eval s=v) (B:a.eval d= T (A1 ⟨w.heap.size,0,A0⟩) 1 1)
  (k:∀b c w1,At E W L l x w1 M y (⟨3,T b (n+1) c,(ks++[t]).map (S O)⟩::R')->wpList Q g e i (a.put o.dst (T b (n+1) c)) w1):
  wpList Q g e (o::i) a (w.alloc (.cells #[V O t] 3)):=
 have f:=h.below (bI w (.cells #[V O t] 3))
 su q s d z f.bd A t rfl B r u fun b c w1 j p=>k b c w1 ⟨j,f.bel.trans p,h.hy,h.lo⟩
end
theorem aei{d ms m cs:Int}(am:1<=ms/\ms+1<=m)(ba:0<=cs/\cs<=3900)(hS:FB 29 d ms 6 cs):xu 63 d m 1 (cs+1):=by
 intro E W L l x R b;have a6:=b.at.c0;have bd:=b.lo;have bf:=b.m0;have bj:=b.sum;have v:=(b.at.nil toI).pick b (by omega) 4 (by decide) (by decide);go_in;go_wp2_with fail;refine v.mono ?_;rintro j w1 ⟨n,rfl,an,C⟩;obtain⟨n,rfl⟩:=gc an.1;clear v;go_wp2_with fail;go_loopw [5,6] (fun ap r wr=>∃(a:Nat) (M:List Mb) (f:List Int),r= V O a/\f.length+a<=3/\Pl f/\At E W L l x wr M (x+1) (⟨3,ap,f.map (S O)⟩::R)/\(l<5->M.length=0)/\(5<=l->5-cs<=l-M.length)) (fun _ r _=>(A4 r).toNat)
 case atStart=>exact⟨n,[],[],rfl,by simp;omega,(fun z ao=>by cases ao),C,fun _=>rfl,fun a8=>by simp;omega⟩
 case round=>
  obtain⟨a,M,f,rfl,q,h,g,J,K⟩:=hrel;have H:=g.c2;have bb:a<=3:=by omega
  by_cases p:0<a/\5<l-M.length
  ·have af:(0:Int)<(a:Int):=by omega
   have al:=p.2;have e:=g.sub b hS am (by omega) (by omega);have i:=eH q h;clear q h;go_wp2_with fail;refine e.mono ?_;rintro j bk ⟨B,A,rfl,u,a9,F,I⟩;unfold Lf at I;clear e H;go_wp2_with (at_builtin;refine F.app A rfl (by have:=i.out.1;omega) rfl _ _ rfl rfl rfl ?_;intro a4 a7 bl G);go_roundw
   case rel=>exact⟨a-1,B,f++[A],by go_num,by have:=i.out.1;simp;omega,i.out.2.add u.1 u.2,G,by omega,by omega⟩
   case measure=>simp[A4];omega
  ·obtain⟨a5,c,rfl⟩:=g.formI;have e:=(g.nil GE).add b (k:=1) (op:=0) (n:=0) (t:=⟨#[]⟩) (nm:=[]) (x2:=x-100) (s:=1) (c:=cs+1) (oF (by decide) (by decide) (by decide) (pD (by first|decide|omega)) (by decide) wn (by omega) h) (by omega) (by unfold Lf;omega);clear h q J K;by_cases af:0<a
   ·have ak:(0:Int)<(a:Int):=by omega
    have al:¬5<l-M.length:=by omega
    clear p;go_wp2_with fail;refine e.mono ?_;rintro j a0 ⟨z,rfl,o⟩;go_wp2_with fail;go_ret;exact o
   ·have ak:¬(0:Int)<(a:Int):=by omega
    clear p;go_wp2_with fail;refine e.mono ?_;rintro j a0 ⟨z,rfl,o⟩;go_wp2_with fail;go_ret;exact o
theorem akr{d me m ce:Int}(ap:1<=me/\me+1<=m)(b6:0<=ce/\ce<=3900)(bk: -1000<=d/\d<=1000)(an:FB 59 (d-1) me 1 ce):xu 114 d m 10 (ce+10):=by
 intro E W L l x R a;have b0:=a.at.c0;have cf:=w1 bk;have b9:=a.lo;have ca:=a.m0;have cc:=a.sum;have a0:=(a.at.nil toI).pick a (by omega) 4 (by decide) (by decide);go_in;go_wp2_with fail;refine a0.mono ?_;rintro g w1 ⟨n,rfl,bn,a9⟩;obtain⟨n,rfl⟩:=gc bn.1;clear a0;go_wp2_with fail;go_loopw [5,6] (fun bs J wr=>∃(e:Nat) (M:List Mb) (f:List Int) (y:Int),J= V O e/\f.length+e=n/\y<=x+1/\Pl f/\At E W L l x wr M y (⟨3,bs,f.map (S O)⟩::R)/\Lf (3*f.length) (ce+3*f.length) l (l-M.length)) (fun _ J _=>(A4 J).toNat)
 case atStart=>exact⟨n,[],[],x+1,rfl,by simp,by omega,(fun bw bp=>by cases bp),a9,by unfold Lf;simp;omega⟩
 case round=>
  obtain⟨e,M,f,y,rfl,v,ck,z,C,H⟩:=hrel;unfold Lf at H;obtain⟨br,A⟩:=aA f.length;rw[A]at H v;have b8:e<=3/\br<=3:=by omega
  by_cases b7:0<e
  ·have bl:(0:Int)<(e:Int):=by omega
   have B:=C.sub a an ap (by omega) (by omega);have b:=jn v z A;clear v z A;go_wp2_with fail;refine B.mono ?_;rintro g cl ⟨bA,af,rfl,I,b4,ak,bd⟩;unfold Lf at bd;have b1:=ak.c0;have a7:=ak.pick a (by omega) 3 (by decide) (by decide);clear B;go_wp2_with fail;refine a7.mono ?_;rintro g cm ⟨o,rfl,cb,F⟩;clear a7;rcases(show o=0\/o=1\/(o≠0/\o≠1) by omega) with rfl|rfl|⟨ba,bb⟩
   ·have i:=(F.newI [af] (by simp) 1 rfl).kidsM a (k:=40) (by decide) (by simp) (LG I) (by omega);go_wp2_with fail;refine i.mono ?_;rintro g a8 ⟨p,j,rfl,h,ao,q⟩;clear i;go_wp2_with (at_builtin;refine q.app j rfl (by have:=b.out.2.2;omega) rfl _ _ rfl rfl rfl ?_;intro al am K r);go_roundw
    case rel=>exact⟨e-1,p,f++[j],_,by go_num,by have:=b.out;simp;omega,by omega,b.out.2.1.add h.1 h.2,r,by unfold Lf;have:=b.out.2.2;simp;omega⟩
    case measure=>simp[A4];omega
   ·have i:=F.sub a an ap (by omega) (by omega);go_wp2_with fail;refine i.mono ?_;rintro g bt ⟨bD,bx,rfl,bq,b5,G,bf⟩;unfold Lf at bf;have u:=(G.newI [af,bx] (by simp) 2 rfl).kidsM a (k:=41) (by decide) (by simp) (pl2 I bq) (by omega);clear i;go_wp2_with fail;refine u.mono ?_;rintro g a8 ⟨p,j,rfl,h,ao,q⟩;clear u;go_wp2_with (at_builtin;refine q.app j rfl (by have:=b.out.2.2;omega) rfl _ _ rfl rfl rfl ?_;intro al am K r);go_roundw
    case rel=>exact⟨e-1,p,f++[j],_,by go_num,by have:=b.out;simp;omega,by omega,b.out.2.1.add h.1 h.2,r,by unfold Lf;have:=b.out.2.2;simp;omega⟩
    case measure=>simp[A4];omega
   ·have b2:(o==0)=A2:=by simpa using ba
    have b3:(o==1)=A2:=by simpa using bb
    have i:=F.short a (by omega);go_wp2_with fail;refine i.mono ?_;rintro g bt ⟨s,rfl,bo,G⟩;have u:=((G.newI [af] (by simp) 1 rfl).nil GE).addOn a (k:=42) (op:=0) (n:=0) (t:=s) (nm:=[]) (oF (by decide) (by decide) (by decide) (adK (by first|decide|omega) bo) (by decide) wn (by simp) (LG I)) (by omega);clear i;go_wp2_with fail;refine u.mono ?_;rintro g a8 ⟨p,j,rfl,h,ao,q⟩;clear u;go_wp2_with (at_builtin;refine q.app j rfl (by have:=b.out.2.2;omega) rfl _ _ rfl rfl rfl ?_;intro al am K r);go_roundw
    case rel=>exact⟨e-1,p,f++[j],_,by go_num,by have:=b.out;simp;omega,by omega,b.out.2.1.add h.1 h.2,r,by unfold Lf;have:=b.out.2.2;simp;omega⟩
    case measure=>simp[A4];omega
  ·obtain⟨bE,c,rfl⟩:=C.formI;have bl:¬(0:Int)<(e:Int):=by omega
   have B:=(C.nil GE).add a (k:=35) (op:=0) (n:=0) (t:=⟨#[]⟩) (nm:=[]) (x2:=x-100) (s:=10) (c:=ce+10) (oF (by decide) (by decide) (by decide) (pD (by first|decide|omega)) (by decide) wn (by omega) z) (by omega) (by unfold Lf;omega);clear z v H A;go_wp2_with fail;refine B.mono ?_;rintro g K ⟨bw,rfl,bj⟩;go_wp2_with fail;go_ret;exact bj
section
variable {E : Bs} {W w : World} {L M : List Mb} {l x y : Int} {R R' : List Rwx} {m : Int}
theorem At.tail(p:rH E W L l x R m)(a:At E W L l x w [] y R){f:FuncId}{d m' s c:Int}(hF:xu f d m' s c)(q:0<=m'/\m'+1<=m)(u:y<=x+100):
  Y Q f #[bV E,V O d] w fun e b=>∃g:Int,e= U (V O g)/\Ans E W L l x R s c (U (V O g)) b:=by
 have t:=p.hx;have j:Bd E w L l y R:=by simpa using a.bd
 have r:rH E w L l y R m':=⟨j,p.sum,by have:=p.lo;omega,by omega,⟨q.1,by have:=p.m0;omega⟩⟩;refine(hF r).mono ?_;rintro e b ⟨h,i,rfl,k,n,o⟩;exact⟨_,rfl,h,i,rfl,k.wide (by omega),a.bel.trans n,o⟩
end
theorem AF{d:Int}(j:d<=0):FB 59 d 2 1 1:=by
 intro E W L l x R a;have g:=a.at.c0;have h:=a.bd.c2;have f:=ai4 (a.less (m':=1) (by decide) (by decide)) (by decide);go_in;go_wp2_with fail;refine f.mono ?_;rintro i w1 ⟨b,c,rfl,e⟩;go_wp2_with fail;go_ret;exact⟨b,c,rfl,e⟩
theorem aks{d me mb mc m ce cb cc:Int}(bw:1<=d/\d<=1000)(ak:(1<=me/\me+1<=m)/\(1<=mb/\mb+1<=m)/\(1<=mc/\mc+1<=m))(bt:1<=ce/\ce<=cb/\cb+1<=cc/\cc<=3800)(a5:FB 59 (d-1) me 1 ce)(bp:FB 111 (d-1) mb 2 cb)
  (ba:xu 54 d mc 12 cc) (br:xu 114 d mc 12 cc) (hF:xu 60 d mc 12 cc):FB 59 d m 1 (cc+1):=by
 intro E W L l x R a;have bn:=a.at.c0;have bo:=a.bd.c2;have b2:=w1 (d:=d) (by omega);have bD:=a.lo;have bE:=a.m0;have b1:=a.sum;have bx:¬d<=0:=by omega
 by_cases bA:l<5
 ·have k:=ai4 (a.less (m':=1) (by decide) (by omega)) (by decide);go_in;go_wp2_with fail;refine k.mono ?_;rintro b w1 ⟨G,H,rfl,I,J,af⟩;go_wp2_with fail;go_ret;exact⟨G,H,rfl,I,J,by unfold Lf at *;omega⟩
 have bk:=a.at.pick a (by omega) 14 (by decide) (by decide);go_in;go_wp2_with fail;refine bk.mono ?_;rintro b w1 ⟨n,rfl,b0,K⟩;clear bk bn bo;have g:=K.sub a a5 ak.1 (by simp;omega) (by omega);have p:=K.sub a bp ak.2.1 (by simp;omega) (by omega);have u:=K.sub a ba.weak ak.2.2 (by simp;omega) (by omega);have tC:=K.tail a ba (by omega) (by omega);have A:=K.tail a br (by omega) (by omega);have z:=K.tail a hF (by omega) (by omega);have bq:n=0\/n=1\/n=2\/n=3\/n=4\/n=5\/n=6\/n=7\/n=8\/n=9\/n=10\/n=11\/n=12\/n=13:=by omega
 rcases bq with rfl|rfl|rfl|rfl|rfl|rfl|rfl|rfl|rfl|rfl|rfl|rfl|rfl|rfl
 iterate 4
  ·clear p u tC A z;go_wp2_with fail;refine g.mono ?_;rintro b C ⟨al,r,rfl,i,ao,f,e⟩;unfold Lf at e;simp at e;have j:=f.sub a a5 ak.1 (by omega) (by omega);clear g;go_wp2_with fail;refine j.mono ?_;rintro b a6 ⟨a7,a0,rfl,ap,bb,v,an⟩;unfold Lf at an;have a8:=v.c0;have B:=v.pick a (by omega) 18 (by decide) (by decide);clear j;go_wp2_with fail;refine B.mono ?_;rintro b bl ⟨q,rfl,bf,am⟩;have bj:IntKind.i64.wrap (1+q)=1+q:=by rw[cw];omega
   have o:=((am.newI [r,a0] (by simp) 2 rfl).nil GE).add a (k:=31) (op:=1+q) (n:=0) (t:=⟨#[]⟩) (nm:=[]) (x2:=x) (s:=1) (c:=cc+1) (oF (by decide) (by omega) (by decide) (pD (by first|decide|omega)) (by decide) wn (by simp) (pl2 i ap)) (by omega) (by unfold Lf;omega);clear B;go_wp2_with fail;refine o.mono ?_;rintro b av ⟨F,rfl,h⟩;go_wp2_with fail;go_ret;exact h
 ·clear p u tC A z;go_wp2_with fail;refine g.mono ?_;rintro b C ⟨al,r,rfl,i,ao,f,e⟩;unfold Lf at e;simp at e;have j:=f.sub a a5 ak.1 (by omega) (by omega);clear g;go_wp2_with fail;refine j.mono ?_;rintro b a6 ⟨a7,a0,rfl,ap,bb,v,an⟩;unfold Lf at an;have a8:=v.c0;have B:=v.pick a (by omega) 2 (by decide) (by decide);clear j;go_wp2_with fail;refine B.mono ?_;rintro b bl ⟨q,rfl,bf,am⟩;have bj:IntKind.i64.wrap (28+q)=28+q:=by rw[cw];omega
  have o:=(am.newI [r,a0] (by simp) 2 rfl).kids a (k:=28+q) (x2:=x) (s:=1) (c:=cc+1) (by omega) (by simp) (pl2 i ap) (by omega) (by unfold Lf;omega);clear B;go_wp2_with fail;refine o.mono ?_;rintro b av ⟨F,rfl,h⟩;go_wp2_with fail;go_ret;exact h
 iterate 2
  ·clear p u tC A z;go_wp2_with fail;refine g.mono ?_;rintro b C ⟨al,r,rfl,i,ao,f,e⟩;unfold Lf at e;simp at e;have a8:=f.c0;have B:=f.pick a (by omega) 4 (by decide) (by decide);clear g;go_wp2_with fail;refine B.mono ?_;rintro b bl ⟨q,rfl,bf,am⟩;have bj:IntKind.i64.wrap (19+q)=19+q:=by rw[cw];omega
   have o:=((am.newI [r] (by simp) 1 rfl).nil GE).add a (k:=30) (op:=19+q) (n:=0) (t:=⟨#[]⟩) (nm:=[]) (x2:=x) (s:=1) (c:=cc+1) (oF (by decide) (by omega) (by decide) (pD (by first|decide|omega)) (by decide) wn (by simp) (LG i)) (by omega) (by unfold Lf;omega);clear B;go_wp2_with fail;refine o.mono ?_;rintro b av ⟨F,rfl,h⟩;go_wp2_with fail;go_ret;exact h
 ·clear g u tC A z;go_wp2_with fail;refine p.mono ?_;rintro b C ⟨al,r,rfl,i,ao,f,e⟩;unfold Lf at e;simp at e;have j:=f.sub a a5 ak.1 (by omega) (by omega);clear p;go_wp2_with fail;refine j.mono ?_;rintro b a6 ⟨a7,a0,rfl,ap,bb,v,an⟩;unfold Lf at an;have o:=(v.newI [r,a0] (by simp) 2 rfl).kids a (k:=32) (x2:=x) (s:=1) (c:=cc+1) (by omega) (by simp) (pl2 i ap) (by omega) (by unfold Lf;omega);clear j;go_wp2_with fail;refine o.mono ?_;rintro b av ⟨F,rfl,h⟩;go_wp2_with fail;go_ret;exact h
 ·clear g u tC A z;go_wp2_with fail;refine p.mono ?_;rintro b C ⟨al,r,rfl,i,ao,f,e⟩;unfold Lf at e;simp at e;have j:=f.short a (by omega);clear p;go_wp2_with fail;refine j.mono ?_;rintro b a6 ⟨s,rfl,bs,v⟩;have o:=((v.newI [r] (by simp) 1 rfl).nil GE).add a (k:=33) (op:=0) (n:=0) (t:=s) (nm:=[]) (x2:=x) (s:=1) (c:=cc+1) (oF (by decide) (by decide) (by decide) (adK (by first|decide|omega) bs) (by decide) wn (by simp) (LG i)) (by omega) (by unfold Lf;omega);clear j;go_wp2_with fail;refine o.mono ?_;rintro b av ⟨F,rfl,h⟩;go_wp2_with fail;go_ret;exact h
 iterate 2
  ·clear g p u A z;go_wp2_with fail;refine tC.mono ?_;rintro b C ⟨F,rfl,G,H,I,J,af,a9⟩;go_wp2_with fail;go_ret;exact⟨G,H,I,J,af,by unfold Lf at *;omega⟩
 ·clear g p u tC z;go_wp2_with fail;refine A.mono ?_;rintro b C ⟨F,rfl,G,H,I,J,af,a9⟩;go_wp2_with fail;go_ret;exact⟨G,H,I,J,af,by unfold Lf at *;omega⟩
 ·clear g p u tC A;go_wp2_with fail;refine z.mono ?_;rintro b C ⟨F,rfl,G,H,I,J,af,a9⟩;go_wp2_with fail;go_ret;exact⟨G,H,I,J,af,by unfold Lf at *;omega⟩
 ·clear g p tC A z;go_wp2_with fail;refine u.mono ?_;rintro b C ⟨al,r,rfl,i,ao,f,e⟩;unfold Lf at e;simp at e;have o:=(f.newI [r] (by simp) 1 rfl).kids a (k:=37) (x2:=x) (s:=1) (c:=cc+1) (by omega) (by simp) (LG i) (by omega) (by unfold Lf;omega);clear u;go_wp2_with fail;refine o.mono ?_;rintro b av ⟨F,rfl,h⟩;go_wp2_with fail;go_ret;exact h
def FBl(f:FuncId)(d m s c b:Int):Prop:=∀ ⦃E:Bs⦄ ⦃W:Z⦄ ⦃L:List Mb⦄ ⦃l x:Int⦄ ⦃R:List Rwx⦄,rH E W L l x R m->l<=b->Y Q f #[bV E,V O d] W (Ans E W L l (x-100) R s c)
section
variable {E : Bs} {W w : World} {L M : List Mb} {l x y : Int} {R R' : List Rwx} {m : Int}
theorem At.subL(p:rH E W L l x R m)(a:At E W L l x w M y R'){f:FuncId}{d m' s c b:Int}(hF:FBl f d m' s c b)(i:l-M.length<=b)(B:1<=m'/\m'+1<=m)(t: -20000+12*m'<=l-M.length)(C:s<=12/\c<=4000):
  Y Q f #[bV E,V O d] w fun e o=>∃(h:List Mb) (j:Int),e= U (V O j)/\(0<=j/\j<=100000)/\M.length<h.length/\At E W L l x o h y R'/\Lf s c (l-M.length) (l-h.length):=by
 have A:=a.len p;have G:=p.hx;have H:=a.hy;have v:rH E w (L++M) (l-M.length) y R' m':=⟨a.bd,by have:=p.sum;rw[aF];simp;omega,t,by omega,⟨by omega,by have:=p.m0;omega⟩⟩;refine(hF v i).mono ?_;rintro e o ⟨g,z,rfl,q,i,n⟩;have k:l-((M++g).length:Nat)=l-M.length-g.length:=by simp;omega
 have r:=n;unfold Lf at r;have u: -20000<=l-M.length-g.length:=by omega
 have F:=p.sum;refine⟨M++g,_,rfl,⟨by omega,by rw[aF];simp;omega⟩,by rw[aF];omega,⟨G3 (q.wide (by omega)),a.bel.trans i,a.hy,by rw[k];exact u⟩,by rw[k];exact n⟩
end
theorem EF{d me mk mr m ce ck cr c b:Int}(bj: -1000<=d/\d<=1000)(j:(1<=me/\me+1<=m)/\(1<=mk/\mk+1<=m)/\(1<=mr/\mr+1<=m))(bx:(0<=ce/\ce+3<=c)/\(0<=ck/\ck+3<=c)/\(0<=cr/\cr+1<=c)/\c<=3800)(ba:FB 59 d me 1 ce)(J:FB 63 (d-1) mk 1 ck)
  (bf:10<b->FBl 62 (d-1) mr 4 cr (b-2)):FBl 62 d m 4 c b:=by
 intro E W L l x R a bA;have b3:=w1 bj;have bD:=a.lo;have b0:=a.m0;have b2:=a.sum;have K:=a.at.sub a ba j.1 (by simp;omega) (by omega);go_in;go_wp2_with fail;refine K.mono ?_;rintro e w1 ⟨bp,bn,rfl,z,bt,an,I⟩;unfold Lf at I;simp at I;have af:=an.sub a J j.2.1 (by omega) (by omega);clear K;go_wp2_with fail;refine af.mono ?_;rintro e b4 ⟨al,bo,rfl,A,bw,p,a9⟩;unfold Lf at a9;have H:=p.newI [bn,bo] (by simp) 2 rfl;have ap:=p.c0;have bE:=p.bd.lt;have ak:=H.pick a (by omega) 3 (by decide) (by decide);clear af;go_wp2_with fail;refine ak.mono ?_;rintro e b5 ⟨n,rfl,b1,i⟩;clear ak H ap;have u:=i.c2;have o:=(i.nil GE).add a (k:=7) (op:=0) (n:=0) (t:=⟨#[]⟩) (nm:=[]) (x2:=x-100) (s:=4) (c:=c) (oF (by decide) (by decide) (by decide) (pD (by first|decide|omega)) (by decide) wn (by simp) (pl2 z A)) (by omega) (by unfold Lf;omega);rcases(show n=0\/n=1\/(n≠0/\n≠1) by omega) with rfl|rfl|⟨a7,a8⟩
 ·have h:=i.sub a J j.2.1 (by omega) (by omega);clear o;go_wp2_with fail;refine h.mono ?_;rintro e bk ⟨am,G,rfl,g,bb,q,v⟩;unfold Lf at v;clear h u;go_wp2_with (at_builtin;refine q.app G rfl (by simp) rfl _ _ rfl rfl rfl ?_;intro ao a0 bl r);have B:=(r.nil GE).add a (k:=7) (op:=0) (n:=0) (t:=⟨#[]⟩) (nm:=[]) (x2:=x-100) (s:=4) (c:=c) (oF (by decide) (by decide) (by decide) (pD (by first|decide|omega)) (by decide) wn (by simp) ((pl2 z A).add g.1 g.2)) (by omega) (by unfold Lf;omega);go_wp2_with fail;refine B.mono ?_;rintro e C ⟨F,rfl,f⟩;go_wp2_with fail;go_ret;exact f
 ·by_cases bs:10<l-al.length
  ·have h:=i.subL a (bf (by omega)) (by omega) j.2.2 (by omega) (by omega);clear o;go_wp2_with fail;refine h.mono ?_;rintro e bk ⟨am,G,rfl,g,bb,q,v⟩;unfold Lf at v;clear h u;go_wp2_with (at_builtin;refine q.app G rfl (by simp) rfl _ _ rfl rfl rfl ?_;intro ao a0 bl r);have B:=(r.nil GE).add a (k:=7) (op:=0) (n:=0) (t:=⟨#[]⟩) (nm:=[]) (x2:=x-100) (s:=4) (c:=c) (oF (by decide) (by decide) (by decide) (pD (by first|decide|omega)) (by decide) wn (by simp) ((pl2 z A).add g.1 g.2)) (by omega) (by unfold Lf;omega);go_wp2_with fail;refine B.mono ?_;rintro e C ⟨F,rfl,f⟩;go_wp2_with fail;go_ret;exact f
  ·go_wp2_with fail;refine o.mono ?_;rintro e C ⟨F,rfl,f⟩;go_wp2_with fail;go_ret;exact f
 ·have bq:(n==0)=A2:=by simpa using a7
  have br:(n==1)=A2:=by simpa using a8
  clear u;go_wp2_with fail;refine o.mono ?_;rintro e C ⟨F,rfl,f⟩;go_wp2_with fail;go_ret;exact f
