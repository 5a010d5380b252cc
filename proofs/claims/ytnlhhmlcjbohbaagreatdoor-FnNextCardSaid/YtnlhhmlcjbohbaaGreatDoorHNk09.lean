import Derived.Test.YtnlhhmlcjbohbaaGreatDoorHNk04
import Derived.Test.YtnlhhmlcjbohbaaGreatDoorHNk08
set_option linter.all false
set_option maxRecDepth 100000
set_option maxHeartbeats 6400000
open Go.Proofs.Tryz renaming prog->M
open ByteArray renaming empty->O
open Go.Value renaming int->S,string->X,pointer->B7,string->Ce,agg->Ck,tuple->C2,slice->C4,bool->C5
open Go.IntKind renaming i64->T
open Go.Lib renaming decDigits->U,hasPrefix->A5,TabIs->C6
open Bool renaming true->Y,false->Ax
open Option renaming none->Z,some->A0
open Go.Ending renaming returned->A2
open Go renaming World->A9,Calls->B0,Value->B6,maxLen->C7
open Go.Calls renaming quiet_of_same->Br
open Go.RowKit renaming Below->B1,intOf->B4,Hid->Cr
open Go.Instr renaming index->B3
namespace Go.Proofs.YtnlhhmlcjbohbaaGreatDoor
open Go.RowKit Go.Maps Go.WideMaps
variable{fr l:Int}{k:Bool}{m:Value}{s:ByteArray}{w w':World}
def hxd(u:Nat)(j:Nat):Int:=qA ((u / 16 ^ j%16:Nat):Int)
def Ac(u:Nat):Nat->ByteArray
 |0=>⟨#[48,120]⟩
 |r+1=>Ac u r++ey [hxd u (15-r)]
theorem Nat.pow_mul_two16(k:Nat):(2:Int) ^ (4*k)=(16:Int) ^ k:=by rw[Int.pow_mul];rfl
theorem sr(u:Nat):∀r,(Ac u r).size=r+2
 |0=>rfl
 |r+1=>by show(Ac u r++ey [hxd u (15-r)]).size=_;rw[ax,sr u r];rfl
theorem af6(d:Int)(b:0<=d)(c:d<16)(w:A9):(B3 9 (X ⟨#[48,49,50,51,52,53,54,55,56,57,97,98,99,100,101,102]⟩) (S .u64 d)).run M w= .ok (S .u8 (qA d)) w:=by
 have a:d.toNat<DG.size:=by simp only[DG];show d.toNat<16;omega
 have e:=al7 d b c a;go_simp;exact e
theorem ap0(c:Int)(a:0<=c)(b:c<18446744073709551616):bits .and .u64 c 15=c%16:=by
 have:=bits_mask .u64 64 (by decide) (fun f d e=>by rw[IntKind.wrap_u64];omega) 4 (by decide) c a b;simpa using this
theorem adL(n:Int)(z: -9223372036854775808<=n)(A:n<0)(w:A9):B0 M 35 #[S T n] w fun e w'=>e= A2 (X (Ac (n+18446744073709551616).toNat 16))/\B1 w.heap.size w w':=by
 obtain⟨c,x⟩:∃c:Nat,(c:Int)=n+18446744073709551616:=⟨(n+18446744073709551616).toNat,by omega⟩;rw[show(n+18446744073709551616).toNat=c by omega];obtain⟨d,p⟩:∃d:Int,d=(c:Int):=⟨_,rfl⟩;have ad:IntKind.u64.wrap n=d:=by rw[IntKind.wrap_u64];omega
 have K:0<=d:=by omega
 have L:d<18446744073709551616:=by omega
 have l:=aw p;have G:¬0<=n:=by omega
 clear p x;go_in;go_wp2_with fail;go_loopw [4,5] (fun y j wr=>∃b:Nat,b<=16/\j= S T (60-4*(b:Int))/\y= X (Ac c b)/\B1 w.heap.size w wr) (fun _ j _=>(B4 j+4).toNat)
 case atStart=>exact⟨0,by omega,rfl,rfl,ah _ _⟩
 case round=>
  obtain⟨b,H,rfl,rfl,h⟩:=hrel;by_cases B:b<16
  ·obtain⟨f,i⟩:∃f:Int,60-4*(b:Int)=f:=⟨_,rfl⟩;have E:0<=f:=by omega
   have F:f<=60:=by omega
   obtain⟨a,r⟩:∃a:Int,d / 2 ^ f.toNat=a:=⟨_,rfl⟩;have g:a=((c / 16 ^ (15-b):Nat):Int):=by
    rw[<-r,l.out,show f.toNat=4*(15-b) by omega,Nat.pow_mul_two16,Int.natCast_ediv];rfl
   have s:0<=a:=by rw[g];exact Int.natCast_nonneg _
   have t:a<18446744073709551616:=by
    rw[g];have:=Nat.div_le_self c (16 ^ (15-b));have:=l.out;omega
   have m:0<=a%16:=by omega
   have o:a%16<16:=by omega
   have u:bits .and .u64 a 15=a%16:=ap0 a s t;have v:=fun w=>af6 (a%16) m o w;have k:Cr (ey [qA (a%16)]=ey [hxd c (15-b)]):=by
    show _=_;unfold hxd;rw[g];rfl
   generalize a%16=D at m o u v k;have C:=fun w=>oA (zK w (qA D));have I:=sr c b;have J:(ey [qA D]).size=1:=rfl;have q:=aw i;rw[i];clear g i;go_wp2;go_roundw
   case rel=>exact⟨b+1,by omega,by have:=q.out;congr 1;omega,by rw[k.out];rfl,h.alloc h.size _⟩
   case measure=>simp[B4];omega
  ·obtain rfl:b=16:=by omega
   go_wp2;go_ret;exact⟨rfl,h⟩
theorem anb:bits .and T 16 15=0:=by decide+kernel
theorem p2(w:A9):B0 M 266 #[S T 16] w fun e w'=>e= A2 (C5 Y)/\w'=w:=by
 have a:=anb;go_in;go_wp2;go_ret;exact⟨rfl,rfl⟩
theorem JL(a b:List Int):ey (a++b)=ey a++ey b:=by
 have h:∀(d:List Int)(c:ByteArray),d.foldl (fun e f=>e.push (UInt8.ofNat f.toNat)) c=c++d.foldl (fun e f=>e.push (UInt8.ofNat f.toNat)) O:=by
  intro d
  induction d with
  |nil=>intro c;simp
  |cons a e g=>
   intro c;rw[tq,tq,g (c.push _),g (ByteArray.empty.push _)];apply oc;simp[ByteArray.push,oa]
 unfold ey;rw[List.foldl_append];exact h b _
def xx(d:List UInt8):List Int:=d.map fun a=>(a.toNat:Int)
theorem Ah(d:List UInt8):ey (xx d)=⟨d.toArray⟩:=by
 have g:∀(d:List UInt8)(a:ByteArray),(xx d).foldl (fun c h=>c.push (UInt8.ofNat h.toNat)) a=⟨a.data++d.toArray⟩:=by
  intro d
  induction d with
  |nil=>intro a;simp[xx]
  |cons b c f=>
   intro a;show(xx c).foldl _ (a.push (UInt8.ofNat ((b.toNat:Int)).toNat))=_;rw[f];have e:UInt8.ofNat ((b.toNat:Int)).toNat=b:=by simp
   rw[e];simp[ByteArray.push]
 have:=g d O;unfold ey;rw[this];simp
def pre(c:Nat):List Int:=if c=0 then [] else xx (U c)
theorem af7(c:Nat)(h:c≠0):pre c=pre (c / 10)++[48+((c%10:Nat):Int)]:=by
 have d:∀b,b<10->(((UInt8.ofNat (48+b)).toNat:Nat):Int)=48+(b:Int):=fun b e=>by
  rw[UInt8.toNat_ofNat',Nat.mod_eq_of_lt (by omega)];omega
 unfold pre;rw[aa h];by_cases a:c<10
 ·rw[ab (by omega),U,lD a,Nat.mod_eq_of_lt a];show [(((UInt8.ofNat (48+c)).toNat:Nat):Int)]=_;rw[d c a];rfl
 ·rw[aa (by omega),U,dif_neg a];show List.map _ (_++_)=_;rw[eB];show xx (U (c / 10))++[(((UInt8.ofNat (48+c%10)).toNat:Nat):Int)]=_;rw[d _ (by omega)]
theorem EH(N:Nat)(a1:N≠0)(br:N<=9223372036854775807)(w:A9):B0 M 75 #[S T (N:Int)] w fun e w'=>e= A2 (X ⟨(U N).toArray⟩)/\B1 w.heap.size w w':=by
 obtain⟨g,A⟩:∃g:Int,(N:Int)=g:=⟨_,rfl⟩;rw[A];have b2:0<g:=by omega
 have bf:g<=9223372036854775807:=by omega
 have b4:(g==0)=Ax:=by rw[bH];omega
 have b3:¬g<0:=by omega
 have am:=aw A;clear A;go_in;go_wp2_with fail;go_loopw [0,4,5] (fun E bk b5 wr=>∃(c:Int) (a:List Int),E= S T c/\0<=c/\c<=9223372036854775807/\Cr (c.toNat<10 ^ (19-a.length)/\a.length<=19/\xx (U N)=pre c.toNat++a.reverse)/\wr.ownsRow w.heap.size 5 1 bk a.length (B8 a)/\B1 w.heap.size w wr) (fun E _ _ _=>(B4 E).toNat)
 case atStart=>
  refine⟨g,[],rfl,by omega,bf,⟨?_,by simp,?_⟩,cE _ _ _ _,ah _ _⟩
  ·have:(10:Nat) ^ (19-([]:List Int).length)=10000000000000000000:=by decide
   rw[this];omega
  ·rw[show g.toNat=N by have:=am.out;omega];unfold pre;rw[aa a1];simp
 case round=>
  obtain⟨c,a,rfl,bl,bn,l,q,o⟩:=hrel;by_cases u:c=0
  ·subst u;obtain⟨_,L,K⟩:=l.out;have x:xx (U N)=a.reverse:=K;have z:0<a.length:=by
    have e:=congrArg List.length x;rw[Gw]at e;have:0<(xx (U N)).length:=by
     rw[U];split<;>simp[xx]
    omega
   have F:Cr (ey a.reverse=⟨(U N).toArray⟩):=by show _=_;rw[<-x,Ah]
   rcases q.2 with⟨h,bd⟩|⟨t,ao,bo,ak,bD,y,_,a8,m,ag⟩
   ·have:a=[]:=by
     have bs:(B8 a).length=a.length:=afe a;have:=q.1;simp at bd;omega
    rw[this]at z;simp at z
   ·have v:∀k,k<a.length->wr.cell? ⟨t,k,Z⟩=A0 (S .u8 (a.getD k 0)):=fun k a7=>by
     rw[au _ _ _ _ _ _ y];have f:(B8 a)[k]?=A0 (S .u8 (a.getD k 0)):=by simp[B8,a7,List.getD]
     rw[<-ag,mu]at f;split at f
     ·simpa using f
     ·cases f
    have a5:t<wr.heap.size:=ai y;obtain⟨d,n⟩:=aA a.length;rw[n]at z L v ak;subst ak;clear l K x q y ag m a8;have ad:∀b,b<d->a.reverse.take (b+1)=a.reverse.take b++[a.getD (d-1-b) 0]:=fun b B=>by
     have e:a.reverse[b]?=A0 (a.getD (d-1-b) 0):=by
      rw[List.getElem?_reverse (by omega),List.getD,n,aE (by omega)];rfl
     rw[iw,e];rfl
    have m:∀b,b<=d->(ey (a.reverse.take b)).size=b:=fun b B=>by
     have:∀j:List Int,(ey j).size=j.length:=by
      intro j
      induction j with
      |nil=>rfl
      |cons I J be=>rw[show I::J=[I]++J from rfl,JL,ax,be,aB];rfl
     rw[this,jx,Gw];omega
    have H:=aw ad;have al:=aw n;clear ad n;go_wp2_with fail;go_loopw [6,7] (fun bj C wq=>∃b:Nat,b<=d/\C= S T ((d:Int)-1-(b:Int))/\bj= X (ey (a.reverse.take b))/\B1 wr.heap.size wr wq) (fun _ C _=>(B4 C+1).toNat)
    case atStart=>exact⟨0,by omega,by first|rfl|(congr 1;omega),rfl,ah _ _⟩
    case round=>
     obtain⟨b,B,rfl,rfl,p⟩:=hrel;have af:=m b B;by_cases bb:b<d
     ·obtain⟨i,a2⟩:∃i:Nat,d-1-b=i:=⟨_,rfl⟩;have a4:=(tE p a5).trans (v i (by omega));have s:=H.out b bb;rw[a2]at s;have r:Cr (ey (a.reverse.take b)++ey [a.getD i 0]=ey (a.reverse.take (b+1))):=by show _=_;rw[s,JL]
      generalize a.getD i 0=j at a4 r;have bx:=fun w=>oA (zK w j);have b1:(ey [j]).size=1:=rfl;have a6:(d:Int)-1-(b:Int)=(i:Int):=by omega
      have bt:i<d:=by omega
      generalize ey (a.reverse.take b)=bh at af r⊢;rw[a6];clear m s v;go_wp2;go_roundw
      case rel=>exact⟨b+1,by omega,by first|rfl|(congr 1;omega),by rw[r.out],p.alloc p.size _⟩
      case measure=>simp[B4]
     ·obtain rfl:b=d:=by omega
      have b0:¬(0:Int)<=(b:Int)-1-(b:Int):=by omega
      rw[dj (by rw[Gw,al.out];exact ae _)];have G:=F.out;generalize ey a.reverse=bh at G⊢;subst G;clear af m F H;go_wp2;go_ret;exact⟨rfl,o.trans (p.mono o.size)⟩
  ·have bA:(c==0)=Ax:=by rw[bH];exact u
   have bw:(c !=0)=Y:=by rw[Ci];exact u
   have bE:¬c%10<0:=by omega
   have L:a.length<=18:=by
    obtain⟨f,ap,_⟩:=l.out;rcases aH a.length 19 with h|h
    ·omega
    ·rw[show 19-a.length=0 by omega]at f;simp at f;omega
   have an:Cr ((c / 10).toNat<10 ^ (19-(a++[48+c%10]).length)/\(a++[48+c%10]).length<=19/\xx (U N)=pre (c / 10).toNat++(a++[48+c%10]).reverse):=by
    obtain⟨f,ap,ar⟩:=l.out;have a0:(a++[48+c%10]).length=a.length+1:=by simp
    refine⟨?_,by omega,?_⟩
    ·rw[a0];have av:10 ^ (19-a.length)=10 ^ (19-(a.length+1))*10:=by rw[<-Nat.pow_succ];congr 1;omega
     rw[av]at f;have:(c / 10).toNat=c.toNat / 10:=by omega
     rw[this];omega
    ·rw[ar,af7 c.toNat (by omega),show(c / 10).toNat=c.toNat / 10 by omega,show((c.toNat%10:Nat):Int)=c%10 by omega];simp
   clear l;go_wp2_with (at_builtin;refine mz rfl (.tmp 20) (.tmp 24) rfl w.heap.size u4 a.length a rfl q o.size (by omega) [48+c%10] 1 rfl (by decide) (by decide) _ rfl rfl ?_;intro t ao w1 a9 a3);go_roundw
   case rel=>exact⟨c / 10,a++[48+c%10],by first|rfl|(congr 1;omega),by omega,by omega,an,by rw[aB];exact a9,o.trans (a3.mono (by omega))⟩
   case measure=>simp[B4];omega
structure Fy (w:A9):Prop where
 tabs:si w
 errs:oE w
 pow:C6 M w "internal/strconv.uint64pow10" .u64 Lib.pow10Tab
 brj:w.cell? ⟨11,15,Z⟩=A0 (.int .u8 4)
theorem Ai{P:Program}{B:Nat}{n:String}{cs:Array B6}(h:w.var? P n=A0 cs)(c:B1 B w w')(b:w.heap.size<=B):w'.var? P n=A0 cs:=by
 unfold World.var? at h⊢;cases hg:P.globalNamed n with
 |none=>simp[hg]at h
 |some a=>
  simp only[hg,Cf]at h⊢;have d:a<w.heap.size:=by
   rcases aH a w.heap.size with h'|h'
   ·exact h'
   ·simp[yi h']at h
  rw[c.block a (gh d b)];exact h
theorem Fy.below{B:Nat}(h:Fy w)(b:B1 B w w')(a:w.heap.size<=B):Fy w':=
 ⟨h.tabs.below b a,h.errs.below b a,Ai h.pow b a,(tE b (gh (Ca w _ h.brj) a)).trans h.brj⟩
def xy(n:Int):ByteArray:=if n<0 then Ac (n+18446744073709551616).toNat 16 else⟨(U n.toNat).toArray⟩
theorem ad0(N:Nat)(b:N<=9223372036854775807)(w:A9):B0 M 75 #[S T (N:Int)] w fun e w'=>e= A2 (X ⟨(U N).toArray⟩)/\B1 w.heap.size w w':=by
 by_cases a:N=0
 ·subst a;have e:(⟨(U 0).toArray⟩:ByteArray)=⟨#[48]⟩:=by rw[U,lD (by omega)];rfl
  rw[e];show B0 M 75 #[S T 0] w _;go_in;go_wp2;go_ret;exact⟨rfl,ah _ _⟩
 ·exact EH N a b w
theorem Aj(n:Int)(c: -9223372036854775808<=n)(g:n<=9223372036854775807)(w:A9):B0 M 35 #[S T n] w fun e w'=>e= A2 (X (xy n))/\B1 w.heap.size w w':=by
 unfold xy;by_cases a:n<0
 ·rw[ab a];exact adL n c a w
 ·rw[aa a];have b:∀w,B0 M 75 #[S T n] w fun e w'=>e= A2 (X ⟨(U n.toNat).toArray⟩)/\B1 w.heap.size w w':=fun w=>by
   have:=ad0 n.toNat (by omega) w;rw[show((n.toNat:Nat):Int)=n by omega]at this;exact this
  generalize (⟨(U n.toNat).toArray⟩:ByteArray)=f at b;have h:0<=n:=by omega
  go_in;go_wp2_with (go_at_call 75;refine(b _).mono ?_;rintro e w' ⟨rfl,d⟩);go_ret;exact⟨rfl,d⟩
def quS(s:ByteArray):ByteArray:=if 4000<s.size then tu else ey (cD s)
theorem ad1(s:ByteArray)(f:s.size<=1048576)(w:A9):B0 M 65 #[X s] w fun e w'=>e= A2 (X (quS s))/\B1 w.heap.size w w':=by
 unfold quS;by_cases a:4000<s.size
 ·rw[ab a];go_in;go_wp2;go_ret;exact⟨rfl,ah _ _⟩
 ·rw[aa a];have b:=fun w=>Fx s (by omega) w;generalize ey (cD s)=d at b;go_in;go_wp2_with (go_at_call 38;refine(b _).mono ?_;rintro e w' ⟨rfl,c⟩);go_ret;exact⟨rfl,c⟩
theorem anc:∀k:Fin 30,5<=yB (bp iE k.val)/\yB (bp iE k.val)<=78:=by decide+kernel
theorem J0(kind:Int)(h:kind<5\/78<kind):∀(f k:Nat),k+f<=30->aak kind f k=tu
 |0,k,_=>rfl
 |f+1,k,a=>by
  have:=anc ⟨k,by omega⟩;unfold aak;rw[aa (by simp only at this;omega)];exact J0 kind h f (k+1) (by omega)
theorem J1:∀k:Fin 79,k.val≠7->pJ (k.val:Int)=dB (k.val:Int):=by decide+kernel
theorem Hi(kind:Int)(b:kind≠7):pJ kind=dB kind:=by
 by_cases a:0<=kind/\kind<=78
 ·have:=J1 ⟨kind.toNat,by omega⟩ (by simp only;omega);simp only[show((kind.toNat:Nat):Int)=kind by omega]at this;exact this
 ·unfold pJ dB;rw[aa (by omega),aa (by omega),aa (by omega),aa (by omega),aa (by omega),aa (by omega),aa (by omega)];exact J0 kind (by omega) 30 0 (by omega)
def J2(k n:Int)(x:ByteArray):ByteArray:=if k=1 then(if mG x=Y then x else tu) else if k=2 then xy n else if k=3 then(if fok x=Y then x else tu) else if k=4 then quS x else dB k
theorem Fz(s:ByteArray)(c:s.size<=1100000)(w:A9):B0 M 170 #[X s] w fun e w'=>e= A2 (X s)/\B1 w.heap.size w w':=by
 have b:=fun w=>Tryz.stringslite_Clone s w (by omega);go_in;go_wp2_with (go_at_call 202;refine(b _).mono ?_;rintro e w' ⟨rfl,a⟩);go_ret;exact⟨rfl,a⟩
theorem tk5{k f t n:Int}{x:ByteArray}(a:B1 (w.alloc (.cells #[S T k,S T f,S T t,S T l,S T n,X x] 49)).heap.size (w.alloc (.cells #[S T k,S T f,S T t,S T l,S T n,X x] 49)) w'):w'.cell? ⟨w.heap.size,5,Z⟩=A0 (X x)/\B1 w.heap.size w w':=by
 generalize d:w.alloc _=e at a;obtain⟨c,b,g⟩:=al1 d;exact⟨(au _ _ _ _ _ _ ((a.block _ (by omega)).trans c)).trans rfl,b.trans (a.mono b.size)⟩
theorem aka(k f t l n:Int)(x:ByteArray)(p: -9223372036854775808<=n)(q:n<=9223372036854775807)(s:x.size<=1048576)(w:A9):B0 M 28 #[Ck #[S T k,S T f,S T t,S T l,S T n,X x]] w fun e w'=>e= A2 (X (J2 k n x))/\B1 w.heap.size w w':=by
 by_cases d:k=1
 ·subst d;have a:=fun w=>tA x (by omega) w;rw[show J2 1 n x=if mG x=Y then x else tu from rfl];generalize mG x=m at a;cases m;all_goals
   go_in;go_wp2_with (go_at_call 63;refine cJ (a _) fun w' b=>?_;obtain⟨r,c⟩:=tk5 b;clear b);go_ret;exact⟨rfl,c⟩
 have u:=beq_eq_false_iff_ne.2 d;by_cases g:k=2
 ·subst g;have a:=fun w=>Aj n p q w;rw[show J2 2 n x=xy n from rfl];generalize xy n=o at a;go_in;go_wp2_with (go_at_call 35;refine cJ (a _) fun w' b=>?_;have c:=(tk5 b).2;clear b);go_ret;exact⟨rfl,c⟩
 have v:=beq_eq_false_iff_ne.2 g;by_cases h:k=3
 ·subst h;have a:=fun w=>A7 x (by omega) w;rw[show J2 3 n x=if fok x=Y then x else tu from rfl];generalize fok x=m at a;cases m;all_goals
   go_in;go_wp2_with (go_at_call 64;refine cJ (a _) fun w' b=>?_;obtain⟨r,c⟩:=tk5 b;clear b);go_ret;exact⟨rfl,c⟩
 have y:=beq_eq_false_iff_ne.2 h;by_cases i:k=4
 ·subst i;have a:=fun w=>ad1 x s w;rw[show J2 4 n x=quS x from rfl];generalize quS x=o at a;go_in;go_wp2_with (go_at_call 65;refine cJ (a _) fun w' b=>?_;have c:=(tk5 b).2;clear b);go_ret;exact⟨rfl,c⟩
 have z:=beq_eq_false_iff_ne.2 i;have hS:J2 k n x=dB k:=by unfold J2;rw[aa d,aa g,aa h,aa i]
 rw[hS];by_cases j:k=7
 ·subst j;rw[show dB 7=⟨#[10]⟩ from rfl];go_in;go_wp2;go_ret;exact⟨rfl,(al1 rfl).2.1⟩
 have A:=beq_eq_false_iff_ne.2 j;have a:=fun w=>xo k w;rw[Hi k j]at a;generalize dB k=o at a;clear d g h i j hS;go_in;go_wp2_with (go_at_call 66;refine cJ (a _) fun w' b=>?_;have c:=(tk5 b).2;clear b);go_ret;exact⟨rfl,c⟩
def zH(s:ByteArray)(p:Nat):Int×ByteArray:=match wg eu (s.extract p (mi s (s.size+1) p)) 22 0 with|some k=>(10+(k:Int),⟨#[]⟩)|none=>(1,s.extract p (mi s (s.size+1) p))
theorem ap1(s:ByteArray)(p:Nat):wdT s p= Ck #[S T (zH s p).1,S T p,S T (mi s (s.size+1) p),S T 0,S T 0,X (zH s p).2]:=by
 unfold wdT zH;cases wg eu (s.extract p (mi s (s.size+1) p)) 22 0<;>rfl
theorem acl{b t mb n:Nat}{D:DataW Unit}(h:w.ownsMap M 9 (plainElem (H:=Unit) M 3) mb n D)(g:sJ b t w w')(e:mb≠b)(f:mb≠t):w'.ownsMap M 9 (plainElem (H:=Unit) M 3) mb n D:=by
 obtain⟨d,c,a,i⟩:=h;exact⟨d,c,(g.block mb (ai a) e f).trans a,i⟩
theorem Hj(s:ByteArray)(bs:s.size<=70000)(b t mb:Nat)(w:A9)(p:Nat)(l am:Int)(a2:p<s.size)(x:b≠t)(be:mb≠b)(bf:mb≠t)(hS:gH b w s (.map (A0 mb)) fr p l Ax)(ad:dE t w 0 p 0 am 0 O)(av:w.ownsMap M 9 (plainElem (H:=Unit) M 3) mb 22 (yA 22)):
  B0 M 124 #[.pointer (A0 ⟨b,0,Z⟩),.pointer (A0 ⟨t,0,Z⟩)] w fun e w'=>e= .returned (.tuple #[])/\sJ b t w w'/\gH b w' s (.map (A0 mb)) fr (mi s (s.size+1) p:Int) l Ax/\dE t w' (zH s p).1 p 0 am 0 (zH s p).2:=by
 have br:b<w.heap.size:=ai hS;have bt:t<w.heap.size:=ai ad;have a8:=tw s (s.size+1) p (eE a2);have a5:=fun w=>A4 s (by omega) p (eE a2) w;obtain⟨i,j,k,m,n,o,q,r⟩:=fK hS;obtain⟨A,B,C,E,F,G,I⟩:=aJ ad;unfold zH;generalize mi s (s.size+1) p=a at a5 a8;obtain⟨a7,K⟩:=aA (wg eu (s.extract p a) 22 0);rw[K];have ao:=aw K;clear K;go_in;go_upto_region 0 with fail
 go_cut [16] from 7 (fun bo an=>bo= .int .i64 (a:Int)/\sJ b t w an/\gH b an s (.map (A0 mb)) fr a l Ax/\dE t an 0 p 0 am 0 O)
 case first=>
  go_region_with (first|(go_at_call 169;refine(a5 _).mono ?_;rintro e w' ⟨rfl,bh⟩;obtain rfl:=bh.symm))
  all_goals
   go_wp2_with fail;go_meet
   case rel=>exact⟨rfl,((sJ.refl b t w).setB 3 _).drew,hS.setP _,ad.other (dz x) _⟩
 case rest=>
  obtain⟨rfl,ag,L,af⟩:=hcut;clear i j k m n o q r A B C E F G I;have a0:=acl av ag be bf;obtain⟨i,j,k,m,n,o,q,r⟩:=fK L;obtain⟨A,B,C,E,F,G,I⟩:=aJ af;go_upto_region 1 with fail
  go_quiet (fail)
  have d:=L.drewN nq;have f:=af.drewN nq;have y:=ag.drewN nq;have J:(wc.drewN nq).ownsMap M 9 (plainElem (H:=Unit) M 3) mb 22 (yA 22):=a0;generalize wc.drewN nq=ap at d f y J⊢;clear i j k m n o q r A B C E F G I L af ag a0 av;obtain⟨i,j,k,m,n,o,q,r⟩:=fK d;obtain⟨A,B,C,E,F,G,I⟩:=aJ f;have bk:b<ap.heap.size:=ai d;have bl:t<ap.heap.size:=ai f;have a3:(s.extract p a).size<=70000:=by rw[ik];omega
  have z:keyOf M 9 (.string (s.extract p a))=A0 (.string (s.extract p a).data.toList):=keyOf_string_mk Tryz.underlying9 (by unfold C7;omega);have c:=Jr (H:=Unit) (s.extract p a);have al:=fun w=>Fz (s.extract p a) (by omega) w;unfold tz at c;rw[ao.out]at c;cases a7 with
  |some a4=>
   have a1:=ajt (H:=Unit) (s.extract p a) a4 ao;have h:Maps.has (yA (H:=Unit) 22) (.string (s.extract p a).data.toList)=Y:=c;clear c;generalize s.extract p a=bn at z a1 h al a3⊢;go_wp2_with (at_lookup;refine wpList_lookup_own_ok_int _ rfl _ _ 97 rfl 9 3 .i64 ajo Tryz.underlying97 Tryz.underlying3 (by kernel_rfl) mb 22 _ rfl J _ _ rfl z ?_;intro ar g bj;rw[h];rw[a1]at g;obtain rfl:10+(a4:Int)=ar:=by injection g with g;injection g);refine aI (ip rfl _ _ _) rfl ?_;exact⟨rfl,y.setT 0 _,d.other x _,f.setKind _⟩
  |none=>
   have h:Maps.has (yA (H:=Unit) 22) (.string (s.extract p a).data.toList)=Ax:=c;clear c;obtain⟨bn,ak⟩:=aA (s.extract p a);rw[ak]at z h al a3⊢;have a6:=aw ak;clear ak;go_wp2_with (first|(at_lookup;refine wpList_lookup_own_ok_int _ rfl _ _ 97 rfl 9 3 .i64 ajo Tryz.underlying97 Tryz.underlying3 (by kernel_rfl) mb 22 _ rfl J _ _ rfl z ?_;intro ar g bj;rw[h])|(go_at_call 170;refine(al _).mono ?_;rintro e bw ⟨rfl,v⟩;have a9:=d.below v bk;have u:=f.below v bl;have bb:=y.below (v.mono y.size);have tf3:=(aJ u).2.2.2.2.2.2;have bx:=(aJ u).1;have bA:=(aJ u).2.2.2.2.2.1;clear v));go_end0
   exact⟨rfl,(bb.setT 0 _).setT 5 _,(a9.other x _).other x _,by rw[a6.out];exact(u.setKind _).setText _⟩
theorem fi(s:ByteArray)(a b i:Nat)(d:b<=s.size)(e:a+i<b:=by omega):aq (s.extract a b) i=aq s (a+i):=by
 rw[qd,qd];have c:(s.extract a b).data.toList=(s.data.toList.drop a).take (b-a):=by rw[<-fC,Lib.extract_toList]
 rw[c,mu,ab (by omega),tg]
theorem jp(s:ByteArray)(a b:Nat)(c:b<=s.size):(s.extract a b).size=b-a:=by rw[ik];omega
theorem acm(s:ByteArray)(a b p:Nat)(c:b<=s.size):∀n,a+p+n<=b->tD (s.extract a b) p n=tD s (a+p) n
 |0,_=>rfl
 |n+1,h=>by
  rw[tD,tD,acm s a b p c n (by omega),fi s a b (p+n) c,eG]
theorem acn(s:ByteArray)(a b p:Nat)(c:b<=s.size):∀n,a+p+n<=b->rh (s.extract a b) p n=rh s (a+p) n
 |0,_=>rfl
 |n+1,h=>by
  rw[rh,rh,acn s a b p c n (by omega),fi s a b (p+n) c,eG]
def qz(s:ByteArray)(p:Nat):Int×Int×ByteArray:=
 if aq s p=48/\aq s (p+1)=120 then(2,wrap64 (tD s (p+2) ((cK s p).1-(p+2)):Int),⟨#[]⟩)
 else match (if C3 s p=Y then Z else rh s p ((cK s p).1-p)) with
  |some a=>(2,(a:Int),⟨#[]⟩)
  |none=>(3,0,s.extract p (cK s p).1)
theorem ane(s:ByteArray)(p:Nat)(a:(cK s p).2=Y):BA s p= Ck #[S T (qz s p).1,S T p,S T ((cK s p).1:Int),S T 0,S T (qz s p).2.1,X (qz s p).2.2]/\yF s p= -1:=by
 unfold BA yF qz;by_cases b:aq s p=48/\aq s (p+1)=120
 ·have c:cK s p=mD s (p+2):=by unfold cK;rw[ab b]
  rw[c]at a⊢;simp only[ab b];unfold hxA hxF;rw[ab a,ab a];exact⟨rfl,rfl⟩
 ·have c:cK s p=ot s (nA1 s (nA0 s p)):=by unfold cK;rw[aa b]
  rw[c]at a⊢;simp only[aa b];unfold nmA nmF;rw[ab a,ab a];cases C3 s p with
  |true=>exact⟨rfl,rfl⟩
  |false=>
   simp only[aa (show ¬Ax=Y by simp)];cases rh s p ((ot s (nA1 s (nA0 s p))).1-p)<;>exact⟨rfl,by trivial⟩
theorem J3(s:ByteArray)(p:Nat)(a:(cK s p).2=Ax):yF s p=((cK s p).1:Int):=by
 unfold yF;by_cases b:aq s p=48/\aq s (p+1)=120
 ·have c:cK s p=mD s (p+2):=by unfold cK;rw[ab b]
  rw[c]at a⊢;rw[ab b];unfold hxF;rw[aa (by rw[a];simp)]
 ·have c:cK s p=ot s (nA1 s (nA0 s p)):=by unfold cK;rw[aa b]
  rw[c]at a⊢;rw[aa b];unfold nmF;rw[aa (by rw[a];simp)]
theorem ad2(s:ByteArray)(p:Nat)(j:p<s.size)(g:bc (aq s p)=Y)(o:¬(aq s p=48/\aq s (p+1)=120)):zL (s.extract p (cK s p).1)=Option.map (fun u:Nat=>(u:Int)) (if C3 s p=Y then Z else rh s p ((cK s p).1-p)):=by
 have c:=rj s p j;have q:=jp s p (cK s p).1 c.2;have b:∀a,p+a<(cK s p).1->aq (s.extract p (cK s p).1) a=aq s (p+a):=fun a i=>fi s p _ a c.2 i;have f:bc (aq (s.extract p (cK s p).1) 0)=Y:=by rw[b 0 (by omega)];exact g
 have d:cK s p=ot s (nA1 s (nA0 s p)):=by unfold cK;rw[aa o]
 have k:=Aa s p j;have l:=Ab s _ k.2;have r:=G5 s _ l.2;cases hk:C3 s p with
 |false=>
  obtain⟨m,e⟩:=G6 s p g hk;have t:(cK s p).1=nA0 s p:=by rw[d,m]
  rw[Jy _ (by omega) (fun a i=>by rw[b a (by omega)];exact e _ (by omega) (by omega))];rw[q,acn s p _ 0 c.2 _ (by omega),iz];simp
 |true=>
  simp only[iK,Option.map_none];unfold C3 at hk;rcases aG hk with h|h
  ·have n:nA0 s p<(cK s p).1:=by
    have:nA0 s p<nA1 s (nA0 s p):=by
     unfold nA1;rw[ab h];have:=ou s (nA0 s p+1) (by have:=qc h.2;omega);omega
    rw[d];omega
   exact yE _ f (nA0 s p-p) (by omega) (by rw[b _ (by omega),show p+(nA0 s p-p)=nA0 s p by omega,h.1];decide)
  ·have n:nA1 s (nA0 s p)<(cK s p).1:=by
    have e:=afs s _ h;have v:=ou s _ e.2;rw[d];unfold ot;rw[ab h];simp only;omega
   exact yE _ f (nA1 s (nA0 s p)-p) (by omega) (by rw[b _ (by omega),show p+(nA1 s (nA0 s p)-p)=nA1 s (nA0 s p) by omega,h];decide)
theorem J4(s:ByteArray)(E:s.size<=1100000)(p:Nat)(l:p<s.size)(q:bc (aq s p)=Y)(u:(cK s p).2=Y)(w:A9)(o:oE w):
  B0 M 172 #[X (s.extract p (cK s p).1)] w fun e w'=>(((qz s p).1=2/\e= A2 (C2 #[S T (qz s p).2.1,C5 Y])/\(qz s p).2.2=⟨#[]⟩)\/((qz s p).1=3/\(∃x,e= A2 (C2 #[S T x,C5 Ax]))/\(qz s p).2.1=0/\(qz s p).2.2=s.extract p (cK s p).1))/\B1 w.heap.size w w':=by
 have f:=rj s p l;have y:=jp s p (cK s p).1 f.2;have c:∀b,p+b<(cK s p).1->aq (s.extract p (cK s p).1) b=aq s (p+b):=fun b t=>fi s p _ b f.2 t;by_cases a:aq s p=48/\aq s (p+1)=120
 ·have e:cK s p=mD s (p+2):=by unfold cK;rw[ab a]
  have r:mD s (p+2)=((cK s p).1,Y):=by rw[<-e];exact Prod.ext rfl u
  obtain⟨z,A,B,n⟩:=Jz r;refine(Fl _ (by rw[c 0 (by omega)];exact a.1) (by rw[c 1 (by omega)];exact a.2) (by omega) (by omega) (fun b g d=>by rw[c b (by omega)];exact n _ (by omega) (by omega)) w).mono ?_;rintro m w' ⟨rfl,i⟩;rw[y,acm s p _ 2 f.2 _ (by omega)];have h:qz s p=(2,wrap64 (tD s (p+2) ((cK s p).1-(p+2)):Int),⟨#[]⟩):=by unfold qz;rw[ab a]
  rw[h];exact⟨.inl ⟨rfl,by rw[show(cK s p).1-p-2=(cK s p).1-(p+2) by omega],rfl⟩,i⟩
 ·have v:¬(aq (s.extract p (cK s p).1) 0=48/\aq (s.extract p (cK s p).1) 1=120):=by
   rintro ⟨g,d⟩;have C:=bz d;rw[c 0 (by omega)]at g;rw[c 1 (by omega)]at d;exact a ⟨g,d⟩
  refine(Fp _ (by omega) v w o).mono ?_;rintro m w' ⟨⟨x,rfl,j⟩,i⟩;rw[ad2 s p l q a]at j⊢;refine⟨?_,i⟩;have h:qz s p=match (if C3 s p=Y then Z else rh s p ((cK s p).1-p)) with|some k=>(2,(k:Int),⟨#[]⟩)|none=>(3,0,s.extract p (cK s p).1):=by unfold qz;rw[aa a]
  rw[h];cases hc:(if C3 s p=Y then Z else rh s p ((cK s p).1-p)) with
  |some k=>
   rw[hc]at j;have:=j k rfl;subst this;exact .inl ⟨rfl,rfl,rfl⟩
  |none=>exact .inr ⟨rfl,⟨x,rfl⟩,rfl,rfl⟩
theorem Dg(s:ByteArray)(bx:s.size<=70000)(b t:Nat)(w:A9)(m:B6)(p:Nat)(l av:Int)(ap:p<s.size)(bf:bc (aq s p)=Y)(f:b≠t)(hS:gH b w s m fr p l Ax)(z:dE t w 0 p 0 av 0 O)(u:oE w)(bs:12<=b)(bt:12<=t):
  B0 M 126 #[B7 (A0 ⟨b,0,Z⟩),B7 (A0 ⟨t,0,Z⟩)] w fun e w'=>e= A2 (C2 #[])/\sJ b t w w'/\
   (if(cK s p).2=Y then gH b w' s m fr ((cK s p).1:Int) l Ax/\dE t w' (qz s p).1 p 0 av (qz s p).2.1 (qz s p).2.2 else gH b w' s m fr ((cK s p).1:Int) l Y/\dE t w' 0 p 0 av 0 O):=by
 have bw:b<w.heap.size:=ai hS;have bA:t<w.heap.size:=ai z;have a1:=rj s p ap;have r:=fun w=>xa s (by omega) p ap w;have q:=fun bj w u=>J4 s (by omega) p ap bf bj w u;obtain⟨ad,af,ag,ak,al,am,an,ao⟩:=fK hS;obtain⟨G,i,j,H,I,J,K⟩:=aJ z;generalize qz s p=bb at q;obtain⟨bD,bE,b0⟩:=bb;generalize cK s p=a9 at r a1 q;obtain⟨c,bo⟩:=a9;simp only at r a1 q⊢;cases bo with
 |false=>
  simp only[yq,if_false];go_in;go_upto_region 0 with fail
  go_quiet ((go_at_call 171;exact Br (r _)))
  have g:=(hS.drewN nq).setP (c:Int);have h:=(z.drewN nq).other (a:=⟨b,3,Z⟩) (dz f) (S T (c:Int));have n:=((sJ.refl b t w).drewN nq).setB 3 (S T (c:Int));go_wp2;refine aI (ip rfl _ _ _) rfl ?_;exact⟨rfl,n.setB 5 _,g.setK _,h.other (dz f) _⟩
 |true=>
  simp only[iK];have a7:=q rfl;clear q;go_in;go_upto_region 0 with fail
  go_quiet ((go_at_call 171;exact Br (r _)))
  have g:=(hS.drewN nq).setP (c:Int);have h:=(z.drewN nq).other (a:=⟨b,3,Z⟩) (dz f) (S T (c:Int));have n:=((sJ.refl b t w).drewN nq).setB 3 (S T (c:Int));have v:oE ((w.drewN nq).setCell ⟨b,3,Z⟩ (S T (c:Int))):=by
   obtain⟨⟨i,br,a2⟩,⟨j,p2,a3⟩⟩:=u;refine⟨⟨i,br,?_⟩,⟨j,p2,?_⟩⟩
   ·unfold World.cell? at a2⊢;rw[aC _ _ _ _ (by simp;omega)];exact a2
   ·unfold World.cell? at a3⊢;rw[aC _ _ _ _ (by simp;omega)];exact a3
  go_upto_region 4 with fail
  generalize (w.drewN nq).setCell ⟨b,3,Z⟩ (S T (c:Int))=a0 at g h n v⊢;clear ad af ag ak al am an ao G i j H I J K r;obtain⟨ad,af,ag,ak,al,am,an,ao⟩:=fK g;obtain⟨G,i,j,H,I,J,K⟩:=aJ h;go_quiet (fail)
  have x:=g.drewN nq;have A:=h.drewN nq;have o:=n.drewN nq;have a4:oE (a0.drewN nq):=⟨v.syn,v.rng⟩;generalize a0.drewN nq=L at x A o a4⊢;clear ad af ag ak al am an ao G i j H I J K g h n v u;have a5:b<L.heap.size:=ai x;have a6:t<L.heap.size:=ai A;have bn:(s.extract p c).size<=70000:=by rw[ik];omega
  have ar:=fun w=>Fz (s.extract p c) (by omega) w;have F:=a7 L a4;clear a7;generalize s.extract p c=b1 at ar F bn⊢;go_wp2_with fail;refine F.mono ?_;rintro e a8 ⟨(⟨rfl,rfl,rfl⟩|⟨rfl,⟨b3,rfl⟩,rfl,rfl⟩),d⟩
  ·have y:=x.below d a5;have k:=A.below d a6;have E:=o.below (d.mono o.size);clear d F ar;obtain⟨G,i,j,H,I,J,K⟩:=aJ k;go_wp2;refine aI (ip rfl _ _ _) rfl ?_;exact⟨rfl,(E.setT 0 _).setT 4 _,(y.other f _).other f _,(k.setKind _).setNum _⟩
  ·have y:=x.below d a5;have k:=A.below d a6;have E:=o.below (d.mono o.size);have bk:b<a8.heap.size:=ai y;have bl:t<a8.heap.size:=ai k;clear d F;go_wp2_with (go_at_call 170;refine(ar _).mono ?_;rintro e b2 ⟨rfl,C⟩;have be:=y.below C bk;have B:=k.below C bl;have bh:=E.below (C.mono E.size);have tf4:=(aJ B).2.2.2.2.2.2;have b4:=(aJ B).1;have b5:=(aJ B).2.2.2.2.2.1;clear C);go_end0
   exact⟨rfl,(bh.setT 0 _).setT 5 _,(be.other f _).other f _,(B.setKind _).setText _⟩
theorem art(k:Nat)(a:k<11)(w:A9):(B3 221 (Ck iG) (S T (k:Int))).run M w= .ok (X (bp iG k)) w:=by
 rcases(show k=0\/k=1\/k=2\/k=3\/k=4\/k=5\/k=6\/k=7\/k=8\/k=9\/k=10 by omega) with rfl|rfl|rfl|rfl|rfl|rfl|rfl|rfl|rfl|rfl|rfl;all_goals kernel_rfl
theorem aru(k:Nat)(a:k<18)(w:A9):(B3 222 (Ck lp) (S T (k:Int))).run M w= .ok (X (bp lp k)) w:=by
 rcases(show k=0\/k=1\/k=2\/k=3\/k=4\/k=5\/k=6\/k=7\/k=8\/k=9\/k=10\/k=11\/k=12\/k=13\/k=14\/k=15\/k=16\/k=17 by omega) with rfl|rfl|rfl|rfl|rfl|rfl|rfl|rfl|rfl|rfl|rfl|rfl|rfl|rfl|rfl|rfl|rfl|rfl;all_goals kernel_rfl
theorem osz:∀k:Fin 11,(bp iG k.val).size<=3:=by decide
theorem bsz:∀k:Fin 18,(bp lp k.val).size<=3:=by decide
def xz(V:Array B6)(base:Int)(r:ByteArray):Nat->Nat->Int×Nat->Int×Nat
 |0,_,a=>a
 |f+1,i,a=>xz V base r f (i+1) (if a.2<(bp V i).size/\A5 r.data.toList (bp V i).data.toList=Y then(base+(i:Int),(bp V i).size) else a)
structure EI (V:Array B6) (base:Int) (r:ByteArray) (f i:Nat) (a R:Int×Nat):Prop where
 out:xz V base r f i a=R
def na(r:ByteArray):Int:=if aq r 0=59 then 5 else if aq r 0=10 then 7 else(xz lp 61 r 18 0 (xz iG 40 r 11 0 (0,0))).1
theorem Hk(r:ByteArray)(a6:r.size<=70000)(av:0<r.size)(w:A9)(a0:si w):B0 M 174 #[.string r] w fun e w'=>e= .returned (.int .i64 (na r))/\w'=w:=by
 unfold na;have H:∀w,(B3 9 (.string r) (.int .i64 0)).run M w= .ok (.int .u8 (aq r 0)) w:=fun w=>db av w;by_cases t:aq r 0=59
 ·rw[ab t];rw[t]at H;go_in;go_wp2;go_ret;exact⟨rfl,rfl⟩
 rw[aa t];by_cases q:aq r 0=10
 ·rw[ab q];rw[q]at H;go_in;go_wp2;go_ret;exact⟨rfl,rfl⟩
 rw[aa q];have ar:(aq r 0==59)=Ax:=by rw[bH];exact t
 have ap:(aq r 0==10)=Ax:=by rw[bH];exact q
 generalize aq r 0=a5 at H ar ap;clear t q;obtain⟨-,⟨a1,an,ag⟩,⟨a2,ao,af⟩⟩:=a0;have ak:=fun a u w=>art a u w;have ad:=fun a u w=>aru a u w;obtain⟨z,B⟩:∃z:Array B6,iG=z:=⟨_,rfl⟩;obtain⟨y,A⟩:∃y:Array B6,lp=y:=⟨_,rfl⟩;have am:Cr (∀a:Nat,a<11->∀w,(B3 221 (.agg z) (.int .i64 (a:Int))).run M w= .ok (.string (bp iG a)) w):=by rw[<-B];exact ak
 have al:Cr (∀a:Nat,a<18->∀w,(B3 222 (.agg y) (.int .i64 (a:Int))).run M w= .ok (.string (bp lp a)) w):=by rw[<-A];exact ad
 rw[B]at ag;rw[A]at af;have a3:z.size=11:=by rw[<-B];rfl
 have a4:y.size=18:=by rw[<-A];rfl
 clear ak ad B A;obtain⟨k,E⟩:=aA (xz iG 40 r 11 0 (0,0));rw[E];obtain⟨o,F⟩:=aA (xz lp 61 r 18 0 k);rw[F];have K:EI iG 40 r 11 0 (0,0) k:=⟨E⟩;have L:EI lp 61 r 18 0 k o:=⟨F⟩;clear E F;go_in;go_wp2_with (refine vE rfl 221 _ rfl 2 rfl a1 _ an _ ag Tryz.underlying221 rfl (by rw[a3];kernel_rfl) ?_);go_loop [3,4,16] (fun I J m=>∃(a c:Nat) (d:Int),a<=11/\c<=3/\I= .int .i64 d/\J= .int .i64 c/\m= .int .i64 a/\EI iG 40 r (11-a) a (d,c) k) (fun _ _ m=>11-(B4 m).toNat)
 case atStart=>exact⟨0,0,0,by omega,by omega,rfl,rfl,rfl,K⟩
 case round=>
  obtain⟨a,c,d,u,n,rfl,rfl,rfl,j⟩:=hrel;by_cases v:a<11
  ·have G:=am.out a v;have x:(bp iG a).size<=3:=osz ⟨a,v⟩;have b:=j.out;rw[show 11-a=(11-(a+1))+1 by omega,xz]at b;have i:=fun w=>Tryz.strings_HasPrefix r (bp iG a) w;generalize bp iG a=f at G x b i;by_cases p:c<f.size
   ·have C:(c:Int)<(f.size:Int):=by omega
    by_cases g:A5 r.data.toList f.data.toList=Y
    ·rw[ab ⟨p,g⟩]at b;have h:EI iG 40 r (11-(a+1)) (a+1) (40+(a:Int),f.size) k:=⟨b⟩;rw[g]at i;clear b g;go_wp2_with (go_at_call 80;refine eH (i _) ?_);go_round
     case rel=>exact⟨a+1,f.size,40+(a:Int),by omega,x,by go_num,rfl,by go_num,h⟩
     case measure=>simp[B4];omega
    ·have s:A5 r.data.toList f.data.toList=Ax:=by simpa using g
     rw[aa (fun l=>g l.2)]at b;have h:EI iG 40 r (11-(a+1)) (a+1) (d,c) k:=⟨b⟩;rw[s]at i;clear b g s;go_wp2_with (go_at_call 80;refine eH (i _) ?_);go_round
     case rel=>exact⟨a+1,c,d,by omega,n,rfl,rfl,by go_num,h⟩
     case measure=>simp[B4];omega
   ·have C:¬(c:Int)<(f.size:Int):=by omega
    rw[aa (fun l=>p l.1)]at b;have h:EI iG 40 r (11-(a+1)) (a+1) (d,c) k:=⟨b⟩;clear b;go_wp2;go_round
    case rel=>exact⟨a+1,c,d,by omega,n,rfl,rfl,by go_num,h⟩
    case measure=>simp[B4];omega
  ·obtain rfl:a=11:=by omega
   have b:=j.out;rw[eD,xz]at b;subst b;clear j K;go_wp2_with (refine vE rfl 222 _ rfl 3 rfl a2 _ ao _ af Tryz.underlying222 rfl (by rw[a4];kernel_rfl) ?_);go_loop [3,4,35] (fun I J m=>∃(a c:Nat) (d:Int),a<=18/\c<=3/\I= .int .i64 d/\J= .int .i64 c/\m= .int .i64 a/\EI lp 61 r (18-a) a (d,c) o) (fun _ _ m=>18-(B4 m).toNat)
   case atStart=>exact⟨0,c,d,by omega,n,rfl,rfl,rfl,L⟩
   case round=>
    obtain⟨a,c,d,u,n,rfl,rfl,rfl,j⟩:=hrel;by_cases v:a<18
    ·have G:=al.out a v;have x:(bp lp a).size<=3:=bsz ⟨a,v⟩;have b:=j.out;rw[show 18-a=(18-(a+1))+1 by omega,xz]at b;have i:=fun w=>Tryz.strings_HasPrefix r (bp lp a) w;generalize bp lp a=f at G x b i;by_cases p:c<f.size
     ·have C:(c:Int)<(f.size:Int):=by omega
      by_cases g:A5 r.data.toList f.data.toList=Y
      ·rw[ab ⟨p,g⟩]at b;have h:EI lp 61 r (18-(a+1)) (a+1) (61+(a:Int),f.size) o:=⟨b⟩;rw[g]at i;clear b g;go_wp2_with (go_at_call 80;refine eH (i _) ?_);go_round
       case rel=>exact⟨a+1,f.size,61+(a:Int),by omega,x,by go_num,rfl,by go_num,h⟩
       case measure=>simp[B4];omega
      ·have s:A5 r.data.toList f.data.toList=Ax:=by simpa using g
       rw[aa (fun l=>g l.2)]at b;have h:EI lp 61 r (18-(a+1)) (a+1) (d,c) o:=⟨b⟩;rw[s]at i;clear b g s;go_wp2_with (go_at_call 80;refine eH (i _) ?_);go_round
       case rel=>exact⟨a+1,c,d,by omega,n,rfl,rfl,by go_num,h⟩
       case measure=>simp[B4];omega
     ·have C:¬(c:Int)<(f.size:Int):=by omega
      rw[aa (fun l=>p l.1)]at b;have h:EI lp 61 r (18-(a+1)) (a+1) (d,c) o:=⟨b⟩;clear b;go_wp2;go_round
      case rel=>exact⟨a+1,c,d,by omega,n,rfl,rfl,by go_num,h⟩
      case measure=>simp[B4];omega
    ·obtain rfl:a=18:=by omega
     have b:=j.out;rw[eD,xz]at b;subst b;clear j L;go_wp2;go_ret;exact⟨rfl,rfl⟩
theorem si.setCell(h:si w){a:Addr}(l:12<=a.block)(v:B6):si (w.setCell a v):=by
 obtain⟨⟨i,b,e⟩,⟨j,c,f⟩,⟨k,d,g⟩⟩:=h;exact⟨⟨i,b,(aC w a _ v (by omega)).trans e⟩,⟨j,c,(aC w a _ v (by omega)).trans f⟩,⟨k,d,(aC w a _ v (by omega)).trans g⟩⟩
theorem si.drewN(h:si w)(n:Nat):si (w.drewN n):=⟨h.word,h.mark,h.bin⟩
theorem Hl:∀k:Fin 79,(dB (k.val:Int)).size<=6:=by decide+kernel
theorem af8(k:Int):(dB k).size<=6:=by
 by_cases a:0<=k/\k<=78
 ·have:=Hl ⟨k.toNat,by omega⟩;simp only[show((k.toNat:Nat):Int)=k by omega]at this;exact this
 ·unfold dB;rw[aa (by omega),aa (by omega),aa (by omega),aa (by omega),aa (by omega)];decide
theorem aaz(V:Array B6)(base:Int)(r:ByteArray)(d:0<=base)(N:Int):∀(f i:Nat)(a:Int×Nat),0<=a.1->a.1<=N->base+((i+f:Nat):Int)<=N+1->0<=(xz V base r f i a).1/\(xz V base r f i a).1<=N
 |0,i,a,b,c,_=>⟨b,c⟩
 |f+1,i,a,b,c,e=>by
  unfold xz;refine aaz V base r d N f (i+1) _ ?_ ?_ (by omega)
  ·split
   ·simp only;omega
   ·exact b
  ·split
   ·simp only;omega
   ·exact c
theorem af9(r:ByteArray):0<=na r/\na r<=78:=by
 unfold na;split
 ·omega
 split
 ·omega
 have a:=aaz iG 40 r (by omega) 50 11 0 (0,0) (by simp) (by simp) (by simp);exact aaz lp 61 r (by omega) 78 18 0 _ a.1 (by omega) (by simp)
def aaA(b t:Nat)(a:A9)(s:ByteArray)(m:B6)(fr:Int)(p:Nat)(l c k:Int):Prop:=
 if k=0 then gH b a s m fr p l Y/\dE t a 0 p 0 c 0 O else gH b a s m fr ((p:Int)+((dB k).size:Int)) (if k=7 then l+1 else l) Ax/\dE t a k p 0 c 0 O
theorem Hm(s:ByteArray)(a4:s.size<=70000)(b t:Nat)(w:A9)(m:B6)(p:Nat)(l J:Int)(a5:p<s.size)(a3:0<=l)(a2:l<=100000)(h:b≠t)(hS:gH b w s m fr p l Ax)(n:dE t w 0 p 0 J 0 O)(d:si w)(av:12<=b)(a0:12<=t):
  B0 M 128 #[B7 (A0 ⟨b,0,Z⟩),B7 (A0 ⟨t,0,Z⟩)] w fun e w'=>e= A2 (C2 #[])/\sJ b t w w'/\aaA b t w' s m fr p l J (na (s.extract p s.size)):=by
 have a1:b<w.heap.size:=ai hS;have a7:t<w.heap.size:=ai n;have a6:(s.extract p s.size).size=s.size-p:=jp s p s.size (ae _);have i:=fun w d=>Hk (s.extract p s.size) (by omega) (by omega) w d;have ao:=af9 (s.extract p s.size);generalize na (s.extract p s.size)=c at i ao;obtain⟨u,v,x,y,z,A,B,C⟩:=fK hS;obtain⟨K,L,ad,af,ag,ak,al⟩:=aJ n;unfold aaA;by_cases F:c=0
 ·subst F;simp only[iK];go_in;go_upto_region 0 with fail
  go_quiet ((go_at_call 174;exact Br (i _ (d.drewN _))))
  go_wp2;refine aI (ip rfl _ _ _) rfl ?_;exact⟨rfl,((sJ.refl b t w).drewN _).setB 5 _,(hS.drewN _).setK _,(n.drewN _).other (dz h) _⟩
 have ap:(c==0)=Ax:=by rw[bH];exact F
 have r:=fun w d=>wI c (by omega) (by omega) w d;have am:=af8 c;generalize dB c=E at r am;simp only[aa F];by_cases G:c=7
 ·subst G;simp only[iK];go_in;go_upto_region 0 with fail
  go_quiet ((go_at_call 174;exact Br (i _ (d.drewN _))))
  have g:=((hS.drewN nq).setL (l+1)).other (a:=⟨t,0,Z⟩) h (S T 7);have o:=((n.drewN nq).other (a:=⟨b,4,Z⟩) (dz h) (S T (l+1))).setKind 7;have q:=(((sJ.refl b t w).drewN nq).setB 4 (S T (l+1))).setT 0 (S T 7);have f:=((d.drewN nq).setCell (a:=⟨b,4,Z⟩) (by simp;omega) (S T (l+1))).setCell (a:=⟨t,0,Z⟩) (by simp;omega) (S T 7);go_upto_region 6 with fail
  generalize ((w.drewN nq).setCell ⟨b,4,Z⟩ (S T (l+1))).setCell ⟨t,0,Z⟩ (S T 7)=j at g o q f⊢;clear u v x y z A B C K L ad af ag ak al i;obtain⟨u,v,x,y,z,A,B,C⟩:=fK g;have k:si j.drew:=⟨f.word,f.mark,f.bin⟩;have I:=r j.drew k;have an:IntKind.i64.wrap ((p:Int)+(E.size:Int))=(p:Int)+(E.size:Int):=by rw[di];omega
  clear k f d r;go_region_with (first|(go_at_call 131;refine I.mono ?_;rintro e w' ⟨rfl,H⟩;obtain rfl:=H.symm))
  all_goals
   go_end0
   exact⟨rfl,(q.setB 3 _).drew,g.setP _,o.other (dz h) _⟩
 ·have ar:(c==7)=Ax:=by rw[bH];exact G
  simp only[aa G];go_in;go_upto_region 0 with fail
  go_quiet ((go_at_call 174;exact Br (i _ (d.drewN _))))
  have g:=(hS.drewN nq).other (a:=⟨t,0,Z⟩) h (S T c);have o:=(n.drewN nq).setKind c;have q:=((sJ.refl b t w).drewN nq).setT 0 (S T c);have f:=(d.drewN nq).setCell (a:=⟨t,0,Z⟩) (by simp;omega) (S T c);go_upto_region 6 with fail
  generalize (w.drewN nq).setCell ⟨t,0,Z⟩ (S T c)=j at g o q f⊢;clear u v x y z A B C K L ad af ag ak al i;obtain⟨u,v,x,y,z,A,B,C⟩:=fK g;have k:si j.drew:=⟨f.word,f.mark,f.bin⟩;have I:=r j.drew k;have an:IntKind.i64.wrap ((p:Int)+(E.size:Int))=(p:Int)+(E.size:Int):=by rw[di];omega
  clear k f d r;go_region_with (first|(go_at_call 131;refine I.mono ?_;rintro e w' ⟨rfl,H⟩;obtain rfl:=H.symm))
  all_goals
   go_end0
   exact⟨rfl,(q.setB 3 _).drew,g.setP _,o.other (dz h) _⟩
structure Rd where
 ok:Bool
 a:Nat
 d:Int
 k:Int
 n:Int
 x:ByteArray
def rdI(s:ByteArray)(p:Nat):Rd:=
 if ba (aq s p)=Y then⟨Y,mi s (s.size+1) p,0,(zH s p).1,0,(zH s p).2⟩
 else if bc (aq s p)=Y then(if(cK s p).2=Y then⟨Y,(cK s p).1,0,(qz s p).1,(qz s p).2.1,(qz s p).2.2⟩ else⟨Ax,(cK s p).1,0,0,0,O⟩)
 else if aq s p=34 then(if(dI s (s.size+1) (p+1) []).1=Y then⟨Y,(dI s (s.size+1) (p+1) []).2.1,0,4,0,ey (dI s (s.size+1) (p+1) []).2.2⟩ else⟨Ax,(dI s (s.size+1) (p+1) []).2.1,0,0,0,O⟩)
 else if na (s.extract p s.size)=0 then⟨Ax,p,0,0,0,O⟩ else⟨Y,p+(dB (na (s.extract p s.size))).size,if na (s.extract p s.size)=7 then 1 else 0,na (s.extract p s.size),0,O⟩
def ap2(b t:Nat)(w e:A9)(s:ByteArray)(m:B6)(fr:Int)(p:Nat)(l:Int)(c:Rd):Prop:=sJ b t w e/\gH b e s m fr (c.a:Int) (l+c.d) (!c.ok)/\dE t e c.k p 0 l c.n c.x
theorem Fy.blocks(h:Fy w)(a:∀k,k<12->w'.heap[k]?=w.heap[k]?):Fy w':=by
 obtain⟨⟨⟨p,f,m⟩,⟨q,g,n⟩,⟨r,i,o⟩⟩,⟨⟨s,j,c⟩,⟨t,l,d⟩⟩,b,e⟩:=h;refine⟨⟨⟨p,f,(a _ (by decide)).trans m⟩,⟨q,g,(a _ (by decide)).trans n⟩,⟨r,i,(a _ (by decide)).trans o⟩⟩,⟨⟨s,j,?_⟩,⟨t,l,?_⟩⟩,?_,?_⟩
 ·unfold World.cell? at c⊢;rw[a _ (by decide)];exact c
 ·unfold World.cell? at d⊢;rw[a _ (by decide)];exact d
 ·unfold C6 World.var? at b⊢;rw[show Tryz.prog.globalNamed "internal/strconv.uint64pow10" =A0 9 by kernel_rfl]at b⊢;simp only[Cf]at b⊢;rw[a _ (by decide)];exact b
 ·unfold World.cell? at e⊢;rw[a _ (by decide)];exact e
theorem ng{x y z:A9}{b:Option Nat}(h:x.grownBy y b)(k:y.grownBy z b):x.grownBy z b:=
 ⟨k.os.trans h.os,k.tape.trans h.tape,k.output.trans h.output,bg h.size k.size,fun d a c=>(k.block d (gh a h.size) c).trans (h.block d a c)⟩
theorem ad3(s:ByteArray)(J:s.size<=70000)(b mb:Nat)(w:A9)(p:Nat)(l:Int)(A:p<s.size)(cf:0<=l)(ce:l<=100000)(a2:mb≠b)(ca:12<=b)(hS:gH b w s (.map (A0 mb)) fr p l Ax)(ap:w.ownsMap M 9 (plainElem (H:=Unit) M 3) mb 22 (yA 22))(a8:Fy w):
  B0 M 81 #[B7 (A0 ⟨b,0,Z⟩)] w fun e w'=>e= A2 (Ck #[S T (rdI s p).k,S T p,S T ((rdI s p).a:Int),S T l,S T (rdI s p).n,X (rdI s p).x])/\w.grownBy w' (A0 b)/\gH b w' s (.map (A0 mb)) (p:Int) ((rdI s p).a:Int) (l+(rdI s p).d) (!(rdI s p).ok):=by
 have a0:b<w.heap.size:=ai hS;have bn:mb<w.heap.size:=ap.lt;have cu:=fun w=>db A w;obtain⟨L,ad,af,ag,ak,al,am,an⟩:=fK hS;obtain⟨b1,b7⟩:=GK hS;obtain⟨a4,be⟩:=aA (rdI s p);rw[be];have bt:=aw be;go_in;go_wp2_with fail;have F:=hS.setF (p:Int);have bb:=acl (t:=b) ap ((sJ.refl b b w).setB 2 (S T (p:Int))) a2 a2;have a9:Fy (w.setCell ⟨b,2,Z⟩ (S T (p:Int))):=a8.blocks (fun k I=>aC _ _ _ _ (by simp only;omega));have a1:w.grownBy (w.setCell ⟨b,2,Z⟩ (S T (p:Int))) (A0 b):=⟨rfl,rfl,rfl,by simp[World.setCell],fun k I q=>aC _ _ _ _ (fun e=>q (by rw[e]))⟩;have K:(w.setCell ⟨b,2,Z⟩ (S T (p:Int))).heap.size=w.heap.size:=by simp[World.setCell]
 obtain⟨bx,bA,bD,bE,b0,b4,b5,b6⟩:=fK F;obtain⟨b2,b8⟩:=GK F;rw[<-K];rw[<-K]at a0 bn;generalize w.setCell ⟨b,2,Z⟩ (S T (p:Int))=wN at F bb a9 a1 K a0 bn bx bA bD bE b0 b4 b5 b6 b2 b8⊢;have bs:=aw a1;clear hS ap a8 a1 K L ad af ag ak al am an b1 b7;go_region
 generalize bj:(wN.alloc _).alloc _=f;obtain⟨G,av,ao, -⟩:=GI bj;replace G:dE wN.heap.size f 0 0 0 0 0 O:=G;replace av:dE (wN.heap.size+1) f 0 p 0 l 0 O:=av;have bf:=F.below ao a0;have u:=a9.below ao (ae _);have cb:f.ownsMap M 9 (plainElem (H:=Unit) M 3) mb 22 (yA 22):=by rw[<-bj];exact(bb.alloc _).alloc _
 obtain⟨L,ad,af,ag,ak,al,am,an⟩:=fK bf;have q:b≠wN.heap.size+1:=by omega
 go_wp2_with fail;go_quiet (fail)
 go_upto_block 0 with fail
 have y:gH b (f.drew.drewN nq) s (.map (A0 mb)) p p l Ax:=bf;have z:dE (wN.heap.size+1) (f.drew.drewN nq) 0 p 0 l 0 O:=av;have o:sJ b (wN.heap.size+1) f (f.drew.drewN nq):=((sJ.refl _ _ _).drew).drewN nq;have bd:(f.drew.drewN nq).ownsMap M 9 (plainElem (H:=Unit) M 3) mb 22 (yA 22):=cb;have a6:si (f.drew.drewN nq):=⟨u.tabs.word,u.tabs.mark,u.tabs.bin⟩;have a7:oE (f.drew.drewN nq):=⟨u.errs.syn,u.errs.rng⟩;generalize f.drew.drewN nq=B at y z o bd a6 a7⊢;go_cut [] from 4 (fun cm=>ap2 b (wN.heap.size+1) f cm s (.map (A0 mb)) p p l a4)
 case first=>
  have ch:=Hj s J b (wN.heap.size+1) mb B p l l A q a2 (by omega) y z bd;have ck:=fun cc=>Dg s J b (wN.heap.size+1) B (.map (A0 mb)) p l l A cc q y z a7 (by omega) (by omega);have bo:=CF s J b (wN.heap.size+1) B (.map (A0 mb)) p l p l A q y z;have br:=Hm s J b (wN.heap.size+1) B (.map (A0 mb)) p l l A cf ce q y z a6 ca (by omega);have g:=bt.out;unfold rdI at g;cases hlt:ba (aq s p) with
  |true=>
   rw[hlt,ab rfl]at g;have m:=aw g;have h:=fun w=>mA (aq s p) w;rw[hlt]at h;generalize aq s p=a5 at h⊢;go_wp2_with (first|(go_at_call 123;refine(h _).mono ?_;rintro e w' ⟨rfl,rfl⟩)|(go_at_call 124;refine ch.mono ?_;rintro e a3 ⟨rfl,i,c,C⟩));go_meet
   case rel=>rw[<-m.out];exact⟨o.trans i,by simpa using c,C⟩
  |false=>
   rw[hlt,aa (by simp)]at g;have h:=fun w=>mA (aq s p) w;rw[hlt]at h;cases hdg:bc (aq s p) with
   |true=>
    rw[hdg,ab rfl]at g;have j:=fun w=>je (aq s p) w;rw[hdg]at j;have m:=aw g;have cg:=ck hdg;generalize aq s p=a5 at h j⊢;go_wp2_with (first|(go_at_call 123;refine(h _).mono ?_;rintro e w' ⟨rfl,rfl⟩)|(go_at_call 125;refine(j _).mono ?_;rintro e w' ⟨rfl,rfl⟩)|(go_at_call 126;refine cg.mono ?_;rintro e a3 ⟨rfl,i,c⟩;have r:Cr _:=c));go_meet
    case rel=>
     rw[<-m.out];have c:=r.out;cases hok:(cK s p).2 with
     |true=>rw[hok]at c;simp only[iK]at c⊢;exact⟨o.trans i,by simpa using c.1,c.2⟩
     |false=>rw[hok]at c;simp only[yq,if_false]at c⊢;exact⟨o.trans i,by simpa using c.1,c.2⟩
   |false=>
    rw[hdg,aa (by simp)]at g;have j:=fun w=>je (aq s p) w;rw[hdg]at j;by_cases E:aq s p=34
    ·rw[ab E]at g;have m:=aw g;rw[E]at h j⊢;generalize dI s (s.size+1) (p+1) []=bw at bo m;go_wp2_with (first|(go_at_call 123;refine(h _).mono ?_;rintro e w' ⟨rfl,rfl⟩)|(go_at_call 125;refine(j _).mono ?_;rintro e w' ⟨rfl,rfl⟩)|(go_at_call 127;refine bo.mono ?_;rintro e a3 ⟨rfl,i,c⟩;have r:Cr _:=c));go_meet
     case rel=>
      rw[<-m.out];have c:=r.out;unfold mK at c;obtain⟨cl,cw,cx⟩:=bw;cases cl with
      |true=>simp only[iK]at c⊢;exact⟨o.trans i,by simpa using c.1,c.2⟩
      |false=>simp only[yq,if_false]at c⊢;exact⟨o.trans i,by simpa using c.1,c.2⟩
    ·rw[aa E]at g;have b9:(aq s p==34)=Ax:=by rw[bH];exact E
     generalize na (s.extract p s.size)=k at br g;have m:=aw g;generalize aq s p=a5 at h j b9⊢;go_wp2_with (first|(go_at_call 123;refine(h _).mono ?_;rintro e w' ⟨rfl,rfl⟩)|(go_at_call 125;refine(j _).mono ?_;rintro e w' ⟨rfl,rfl⟩)|(go_at_call 128;refine br.mono ?_;rintro e a3 ⟨rfl,i,c⟩;have r:Cr _:=c));go_meet
     case rel=>
      rw[<-m.out];have c:=r.out;unfold aaA at c;by_cases I:k=0
      ·rw[ab I]at c⊢;exact⟨o.trans i,by simpa using c.1,c.2⟩
      ·rw[aa I]at c⊢;refine⟨o.trans i,?_,c.2⟩;have C:=c.1;have b3:(if k=7 then l+1 else l)=l+(if k=7 then 1 else 0):=by split<;>omega
       rw[b3]at C;simpa using C
 case rest=>
  obtain⟨bl,ar,bh⟩:=hcut;have bk:dE wN.heap.size wc 0 0 0 0 0 O:=(bl.block wN.heap.size (ai G) (by omega) (by omega)).trans G;obtain⟨cv,a,d,k,n,x⟩:=a4;simp only at ar bh⊢;obtain⟨L,ad,af,ag,ak,al,am,an⟩:=fK ar;obtain⟨cy,cz,cB,cI,c5,c6,c7⟩:=aJ bh;obtain⟨z0,cn,cp,cq,cr,cs,c8⟩:=aJ bk;have ct:wN.heap.size<wc.heap.size:=ai bk;go_wp2;refine aI (v:= Ck #[S T k,S T p,S T (a:Int),S T l,S T n,X x]) (by simp[results,Tryz.results81,go_sem,z0,cn,cp,cq,cr,cs]) rfl ⟨rfl,?_,?_⟩
  ·refine ng bs ?_;exact xm (xm (xm (xm (xm (xm (xm (amJ ao bl (by omega)) _ (by simp)) _ (by simp)) _ (by simp)) _ (by simp)) _ (by simp)) _ (by simp)) _ (by simp)
  ·exact((((((ar.other (by simp;omega) _).other (by simp;omega) _).other (by simp;omega) _).other (by simp;omega) _).other (by simp;omega) _).other (by simp;omega) _).other (by simp;omega) _
def xA(b:Nat)(w:A9)(s:ByteArray)(m:B6)(p l:Int)(k:Bool):Prop:=∃fr,gH b w s m fr p l k
theorem xA.cells{b:Nat}{p:Int}(h:xA b w s m p l k):w.cell? ⟨b,0,Z⟩=A0 (X s)/\w.cell? ⟨b,1,Z⟩=A0 m/\w.cell? ⟨b,3,Z⟩=A0 (S T p)/\w.cell? ⟨b,4,Z⟩=A0 (S T l)/\w.cell? ⟨b,5,Z⟩=A0 (C5 k)/\
  w.frozen? ⟨b,3,Z⟩=Ax/\w.frozen? ⟨b,4,Z⟩=Ax/\w.frozen? ⟨b,5,Z⟩=Ax:=by obtain⟨a,h⟩:=h;exact fK h
theorem xA.pos{b:Nat}{p:Nat}(h:xA b w s m p l k):Fh b w=p:=by obtain⟨a,h⟩:=h;exact ux h
theorem xA.setP{b:Nat}{p:Int}(h:xA b w s m p l k)(x:Int):xA b (w.setCell ⟨b,3,Z⟩ (S T x)) s m x l k:=by obtain⟨a,h⟩:=h;exact⟨a,h.setP x⟩
theorem aco(i:Nat)(h:i<11):dB (40+(i:Int))=bp iG i:=by
 unfold dB;rw[aa (by omega),aa (by omega),aa (by omega),ab (by omega)];rw[show(40+(i:Int)-40).toNat=i by omega]
theorem acp(i:Nat)(h:i<18):dB (61+(i:Int))=bp lp i:=by
 unfold dB;rw[aa (by omega),aa (by omega),aa (by omega),aa (by omega),ab (by omega)];rw[show(61+(i:Int)-61).toNat=i by omega]
def Sgn(r:ByteArray)(k:Int)(n:Nat):Prop:=(k=0/\n=0)\/(n=(dB k).size/\1<=n/\A5 r.data.toList (dB k).data.toList=Y/\k≠0)
theorem yL(V:Array B6)(base:Int)(r:ByteArray)(N:Nat)(c:0<base)(b:∀i,i<N->dB (base+(i:Int))=bp V i):∀(f i:Nat)(a:Int×Nat),i+f<=N->Sgn r a.1 a.2->Sgn r (xz V base r f i a).1 (xz V base r f i a).2
 |0,i,a,_,h=>h
 |f+1,i,a,e,h=>by
  unfold xz;refine yL V base r N c b f (i+1) _ (by omega) ?_;split
  ·rename_i d;refine .inr ⟨?_,?_,?_,?_⟩
   ·show(bp V i).size=_;rw[b i (by omega)]
   ·show 1<=(bp V i).size;omega
   ·show A5 _ (dB (base+(i:Int))).data.toList=Y;rw[b i (by omega)];exact d.2
   ·show base+(i:Int)≠0;omega
  ·exact h
theorem akb(r x:ByteArray)(h:A5 r.data.toList x.data.toList=Y):x.size<=r.size:=by
 unfold A5 at h;rw[yl]at h;have:=h.length_le
 rwa [eK,eK]at this
theorem Hn(r:ByteArray)(h:0<r.size)(a:na r≠0):1<=(dB (na r)).size/\(dB (na r)).size<=r.size:=by
 unfold na at a⊢;split
 ·exact⟨by decide,by show 1<=r.size;omega⟩
 split
 ·exact⟨by decide,by show 1<=r.size;omega⟩
 rename_i c d;rw[aa c,aa d]at a;have f:=yL iG 40 r 11 (by omega) aco 11 0 (0,0) (by omega) (.inl ⟨rfl,rfl⟩);have g:=yL lp 61 r 18 (by omega) acp 18 0 _ (by omega) f;rcases g with⟨b,_⟩|⟨b,i,e,_⟩
 ·exact absurd b a
 ·exact⟨by omega,akb r _ e⟩
theorem Cp(s:ByteArray)(p:Nat)(h:ba (aq s p)=Y):p<mi s (s.size+1) p:=by
 have a:p<s.size:=by
  rcases aH p s.size with h1|h1
  ·exact h1
  ·exact absurd (.inl h) (CJ (by omega))
 rw[mi,ab (.inl h)];have:=tw s s.size (p+1) (by omega);omega
theorem iA(s:ByteArray)(p:Nat)(i:p<s.size)(b:(rdI s p).ok=Y):p<(rdI s p).a/\(rdI s p).a<=s.size/\0<=(rdI s p).d/\(rdI s p).d<=1:=by
 unfold rdI at b⊢;split
 ·rename_i h;exact⟨Cp s p h,(tw s _ p (by omega)).2,by simp,by simp⟩
 split
 ·rename_i c e;rw[aa c,ab e]at b;have:=rj s p i;split
  ·exact⟨this.1,this.2,by simp,by simp⟩
  ·rename_i f;rw[aa f]at b;cases b
 split
 ·rename_i c e f;rw[aa c,aa e,ab f]at b;have:=sa s (s.size+1) (p+1) [] (by omega);split
  ·exact⟨by simp only;omega,this.2.1,by simp,by simp⟩
  ·rename_i g;rw[aa g]at b;cases b
 ·rename_i c e f;rw[aa c,aa e,aa f]at b;split
  ·rename_i g;rw[ab g]at b;cases b
  ·rename_i g;have j:=jp s p s.size (ae _);have:=Hn (s.extract p s.size) (by omega) g;refine⟨by simp only;omega,by simp only;omega,?_,?_⟩
   ·simp only;split<;>omega
   ·simp only;split<;>omega
def FA(c:Int):Bool:=decide (c≠10/\c≠ -1)
theorem Ho:FA (-1)=Ax:=by decide
def wC(s:ByteArray)(p:Nat):Nat:=ic FA s (s.size+1) p
def blk(s:ByteArray):Nat->Nat->Nat
 |0,p=>p
 |f+1,p=>if s.size<=p then p else if gG (aq s p)=Y then blk s f (p+1) else if aq s p=45/\aq s (p+1)=45 then blk s f (wC s p) else p
theorem qk(s:ByteArray)(p:Nat)(h:p<=s.size):p<=wC s p/\wC s p<=s.size:=oq FA Ho s _ p h
theorem rp(s:ByteArray)(p:Nat)(h:aq s p=45):p<wC s p:=by
 have a:=bz h;unfold wC;rw[ic,ab (by rw[h];decide)];have:=oq FA Ho s s.size (p+1) (by omega);omega
theorem ss(s:ByteArray):∀(f g p:Nat),p<=s.size->s.size<p+f->s.size<p+g->blk s f p=blk s g p
 |0,g,p,h,a,b=>by omega
 |f+1,0,p,h,a,b=>by omega
 |f+1,g+1,p,h,a,b=>by
  unfold blk;split
  ·rfl
  split
  ·exact ss s f g (p+1) (by omega) (by omega) (by omega)
  split
  ·rename_i d;have e:=rp s p d.1;have c:=qk s p h;exact ss s f g _ c.2 (by omega) (by omega)
  ·rfl
theorem jm(s:ByteArray):∀(f p:Nat),p<=s.size->p<=blk s f p/\blk s f p<=s.size
 |0,p,h=>⟨ae _,h⟩
 |f+1,p,h=>by
  unfold blk;split
  ·exact⟨ae _,h⟩
  split
  ·have:=jm s f (p+1) (by omega);omega
  split
  ·have a:=qk s p h;have:=jm s f (wC s p) a.2;omega
  ·exact⟨ae _,h⟩
def za(s:ByteArray):Nat->Nat->Int->Bool×Nat×List Tk
 |0,_,_=>(Y,0,[])
 |f+1,p,l=>
  if s.size<=blk s (s.size+1) p then(Y,0,[])
  else if(rdI s (blk s (s.size+1) p)).ok=Y then
   ((za s f (rdI s (blk s (s.size+1) p)).a (l+(rdI s (blk s (s.size+1) p)).d)).1,(za s f (rdI s (blk s (s.size+1) p)).a (l+(rdI s (blk s (s.size+1) p)).d)).2.1,
    ⟨(rdI s (blk s (s.size+1) p)).k,(blk s (s.size+1) p:Nat),((rdI s (blk s (s.size+1) p)).a:Nat),l,(rdI s (blk s (s.size+1) p)).n,(rdI s (blk s (s.size+1) p)).x⟩::(za s f (rdI s (blk s (s.size+1) p)).a (l+(rdI s (blk s (s.size+1) p)).d)).2.2)
  else(Ax,(rdI s (blk s (s.size+1) p)).a,[])
structure Rel (s:ByteArray) (E:Bool×Nat×List Tk) (pre:List Tk) (p:Nat) (l:Int) (f:Nat):Prop where
 fu:s.size<p+f
 le:p<=s.size
 l0:0<=l
 l1:l<=(p:Int)+1
 cn:pre.length<=p
 eq:E=((za s f p l).1,(za s f p l).2.1,pre++(za s f p l).2.2)
theorem akc(s:ByteArray)(p q:Nat)(h:blk s (s.size+1) p=blk s (s.size+1) q):∀(f:Nat)(l:Int),za s f p l=za s f q l
 |0,_=>rfl
 |f+1,l=>by rw[za,za,h]
theorem wn(s:ByteArray)(p:Nat)(a:p<s.size)(h:gG (aq s p)=Y):blk s (s.size+1) p=blk s (s.size+1) (p+1):=by
 rw[blk,aa (by omega),ab h];exact ss s _ _ _ (by omega) (by omega) (by omega)
theorem aga(c:Int)(h:c=45):¬gG c=Y:=by subst h;decide
theorem agb(s:ByteArray)(p:Nat)(h:aq s p=45)(a:aq s (p+1)=45):blk s (s.size+1) p=blk s (s.size+1) (wC s p):=by
 have d:=bz h;have c:=rp s p h;have b:=qk s p (by omega);rw[blk,aa (by omega),aa (aga _ h),ab ⟨h,a⟩];exact ss s _ _ _ b.2 (by omega) (by omega)
theorem zb(s:ByteArray)(p:Nat)(a:¬gG (aq s p)=Y)(b:¬(aq s p=45/\aq s (p+1)=45)):blk s (s.size+1) p=p:=by
 rw[blk,aa a,aa b];split<;>rfl
theorem wo(s:ByteArray)(p:Nat)(h:s.size<=p):blk s (s.size+1) p=p:=by rw[blk,ab h]
theorem Rel.atEnd{a:Bool×Nat×List Tk}{pre:List Tk}{p f:Nat}(h:Rel s a pre p l f)(b:s.size<=p):a=(Y,0,pre):=by
 rw[h.eq];cases f with
 |zero=>simp[za]
 |succ f=>rw[za,wo s p b,ab b];simp
theorem Rel.tok{s:ByteArray}{b:Bool×Nat×List Tk}{pre:List Tk}{p f:Nat}{l:Int}(h:Rel s b pre p l f)(j:p<s.size)(g:¬gG (aq s p)=Y)(i:¬(aq s p=45/\aq s (p+1)=45))(c:(rdI s p).ok=Y):
  Rel s b (pre++[⟨(rdI s p).k,(p:Nat),((rdI s p).a:Nat),l,(rdI s p).n,(rdI s p).x⟩]) (rdI s p).a (l+(rdI s p).d) (f-1):=by
 have m:=iA s p j c;have o:=h.fu;obtain⟨f,rfl⟩:∃e,f=e+1:=⟨f-1,by omega⟩;refine⟨by omega,m.2.1,by have:=h.l0;omega,by have:=h.l1;omega,by have:=h.cn;simp;omega,?_⟩;rw[h.eq,za,zb s p g i,aa (by omega),ab c];simp
theorem Rel.bad{b:Bool×Nat×List Tk}{pre:List Tk}{p f:Nat}(h:Rel s b pre p l f)(j:p<s.size)(d:¬gG (aq s p)=Y)(e:¬(aq s p=45/\aq s (p+1)=45))(g:(rdI s p).ok=Ax):
  b=(Ax,(rdI s p).a,pre):=by
 have i:=h.fu;obtain⟨f,rfl⟩:∃c,f=c+1:=⟨f-1,by omega⟩;rw[h.eq,za,zb s p d e,aa (by omega),aa (by rw[g];simp)];simp
theorem aaB{j:Array Oper}{k:List Oper}{o:Oper}{a:Act}{Q:Exit->Act->A9->Prop}(t:o.guard=Z)(s x:Operand)(v:o.op= .call {callee:= .builtin .append,args:=#[s,x],argTypes:=#[86,86]})(base:Nat)(c:Option Addr)(n f:Nat)(l:List ByteArray)(A:a.eval s= .slice c n f)(J:l.length=n)(y:w.ownsRow base 9 1 (.slice c n f) n (l.map Ce))(q:base<=w.heap.size)(b:Nat)(z:ByteArray)(C:a.eval x= .slice (A0 ⟨b,0,Z⟩) 1 1)(p:w.heap[b]?=A0 (.cells #[.string z] 9 (0,0)))(I:n<=50000000)
  (h:∀g d w1,w1.ownsRow base 9 1 (.slice (A0 ⟨g,0,Z⟩) (n+1) d) (n+1) ((l++[z]).map Ce)->w.grownBy w1 (C4 c n f).ownBlock->((C4 c n f).ownBlock=A0 g\/g=w.heap.size)->wpList M j Q k (a.put o.dst (.slice (A0 ⟨g,0,Z⟩) (n+1) d)) w1):wpList M j Q (o::k) a w:=by
 obtain⟨H,u,E,F,G⟩:=dD Df;refine wpList_append_own_at _ t s x 86 v base 9 H _ 1 16 Tryz.underlying86 u E F G rfl (by decide) _ _ _ A y ⟨b,0,Z⟩ 1 1 [.string z] C rfl (World.news_of_block (cs:=#[.string z]) p) (by intro K B;rw[List.mem_singleton.1 B];rfl) (by unfold C7;omega) (by omega) q ?_;intro L w1 i r _ m;obtain⟨g,d,rfl⟩:=ownsRow_succ i;exact h g d w1 (by rw[eB];exact i) r (by rcases m with e|e;exact .inl e.symm;exact .inr (by simpa [Value.ownBlock] using e))
section
variable {E : Pe} {W w w' : World} {i j : Nat} {L L1 L' : List Mb} {B B' : List (Nat × Array Value)}
theorem ad4(w:A9)(x:ByteArray):(w.alloc (.cells #[X x] 9)).ownsRow w.heap.size 9 1 (.slice (A0 ⟨w.heap.size,0,Z⟩) 1 1) 1 [X x]:=by
 have:=lC (base:=w.heap.size) (e:=9) (size:=1) w #[X x] 1 (ae _) (by unfold C7;omega) (by simp);simpa using this
end
section
variable {E : Pe} {i j : Nat}
end
section
variable {E : Pe} {i j : Nat}
end
