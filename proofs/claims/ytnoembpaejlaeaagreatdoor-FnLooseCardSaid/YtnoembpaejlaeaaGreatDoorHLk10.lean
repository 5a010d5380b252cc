import Derived.Test.YtnoembpaejlaeaaGreatDoorHLk09
import Derived.Test.YtnoembpaejlaeaaGreatDoorHLk06
import Derived.Sort.LoopGhostIn
set_option linter.all false
set_option maxRecDepth 100000
set_option maxHeartbeats 12800000
open ByteArray renaming empty->O
open Go.Proofs.Tryz renaming prog->U
open Go.Value renaming int->Y,string->A5,pointer->B5,slice->B7,tuple->Ck,agg->Fs,bool->F0
open Go.IntKind renaming i64->Z
open Option renaming some->Ax,none->A0
open Go.Lib renaming decDigits->A2,hasPrefix->B3,repeatL->C2,TabIs->F1
open Go renaming World->A3,Value->B2,Calls->B4,TypeId->E2
open Go.Ending renaming returned->A9
open Bool renaming true->Br,false->B0
open Go.RowKit renaming Below->B1,intOf->Ex,Hid->E1
open Go.Calls renaming quiet_of_same->B6
open Go.Instr renaming index->Ce
namespace Go.Proofs.YtnoembpaejlaeaaGreatDoor
open Go.RowKit Go.Maps Go.WideMaps
variable{N:Nd}{T s:ByteArray}{W w w' w0:World}{fr l t:Int}{k:Bool}{m vk vn vt:Value}{ns:List Nd}
def hxd(u:Nat)(j:Nat):Int:=qJ ((u / 16 ^ j%16:Nat):Int)
def hxO(u:Nat):Nat->ByteArray
 |0=>⟨#[48,120]⟩
 |r+1=>hxO u r++fy [hxd u (15-r)]
def Nat.pow_mul_two16(k:Nat):(2:Int) ^ (4*k)=(16:Int) ^ k:=by rw[Int.pow_mul];rfl
def rG(u:Nat):∀r,(hxO u r).size=r+2
 |0=>rfl
 |r+1=>by show(hxO u r++fy [hxd u (15-r)]).size=_;rw[ay,rG u r];rfl
def afL(d:Int)(b:0<=d)(c:d<16)(w:A3):(Ce 9 (A5 ⟨#[48,49,50,51,52,53,54,55,56,57,97,98,99,100,101,102]⟩) (Y .u64 d)).run U w= .ok (Y .u8 (qJ d)) w:=by
 have a:d.toNat<DG.size:=by simp only[DG];show d.toNat<16;omega
 have e:=ak0 d b c a;go_simp;exact e
def ao8(c:Int)(a:0<=c)(b:c<18446744073709551616):bits .and .u64 c 15=c%16:=by
 have:=bits_mask .u64 64 (by decide) (λf d e=>by rw[IntKind.wrap_u64];omega) 4 (by decide) c a b;simpa using this
def ad5(n:Int)(z: -9223372036854775808<=n)(A:n<0)(w:A3):B4 U 215 #[Y Z n] w λe w'=>e= A9 (A5 (hxO (n+18446744073709551616).toNat 16))/\B1 w.heap.size w w':=by
 obtain⟨c,x⟩:∃c:Nat,(c:Int)=n+18446744073709551616:=⟨(n+18446744073709551616).toNat,by omega⟩;rw[show(n+18446744073709551616).toNat=c by omega];obtain⟨d,p⟩:∃d:Int,d=(c:Int):=⟨_,rfl⟩;have ad:IntKind.u64.wrap n=d:=by rw[IntKind.wrap_u64];omega
 have K:0<=d:=by omega
 have L:d<18446744073709551616:=by omega
 have l:=aq p;have G:¬0<=n:=by omega
 clear p x;go_in;go_wp2_with fail;go_loopw [4,5] (λy j wr=>∃b:Nat,b<=16/\j= Y Z (60-4*(b:Int))/\y= A5 (hxO c b)/\B1 w.heap.size w wr) (λ_ j _=>(Ex j+4).toNat)
 case atStart=>exact⟨0,by omega,rfl,rfl,ai _ _⟩
 case round=>
  obtain⟨b,H,rfl,rfl,h⟩:=hrel;by_cases B:b<16
  .obtain⟨f,i⟩:∃f:Int,60-4*(b:Int)=f:=⟨_,rfl⟩;have E:0<=f:=by omega
   have F:f<=60:=by omega
   obtain⟨a,r⟩:∃a:Int,d / 2 ^ f.toNat=a:=⟨_,rfl⟩;have g:a=((c / 16 ^ (15-b):Nat):Int):=by
    rw[<-r,l.out,show f.toNat=4*(15-b) by omega,Nat.pow_mul_two16,Int.natCast_ediv];rfl
   have s:0<=a:=by rw[g];exact Int.natCast_nonneg _
   have t:a<18446744073709551616:=by
    rw[g];have:=Nat.div_le_self c (16 ^ (15-b));have:=l.out;omega
   have m:0<=a%16:=by omega
   have o:a%16<16:=by omega
   have u:bits .and .u64 a 15=a%16:=ao8 a s t;have v:=λw=>afL (a%16) m o w;have k:E1 (fy [qJ (a%16)]=fy [hxd c (15-b)]):=by
    show _=_;unfold hxd;rw[g];rfl
   generalize a%16=D at m o u v k;have C:=λw=>oh (zj w (qJ D));have I:=rG c b;have J:(fy [qJ D]).size=1:=rfl;have q:=aq i;rw[i];clear g i;go_wp2;go_roundw
   case rel=>exact⟨b+1,by omega,by have:=q.out;congr 1;omega,by rw[k.out];rfl,h.alloc h.size _⟩
   case measure=>simp[Ex];omega
  .obtain rfl:b=16:=by omega
   go_wp2;go_ret;exact⟨rfl,h⟩
def p2(w:A3):B4 U 284 #[Y Z 16] w λe w'=>e= A9 (F0 Br)/\w'=w:=by
 have a:bits .and .i64 16 15=0:=(by decide +kernel);go_in;go_wp2;go_ret;exact⟨rfl,rfl⟩
def JK(a b:List Int):fy (a++b)=fy a++fy b:=by
 have h:∀(d:List Int)(c:ByteArray),d.foldl (λe f=>e.push (UInt8.ofNat f.toNat)) c=c++d.foldl (λe f=>e.push (UInt8.ofNat f.toNat)) O:=by
  intro d
  induction d with
  |nil=>intro c;simp
  |cons a e g=>
   intro c;rw[kF,kF,g (c.push _),g (ByteArray.empty.push _)];apply jD;simp[ByteArray.push,kC]
 unfold fy;rw[List.foldl_append];exact h b _
def xj(d:List UInt8):List Int:=d.map λa=>(a.toNat:Int)
def zC(d:List UInt8):fy (xj d)=⟨d.toArray⟩:=by
 have g:∀(d:List UInt8)(a:ByteArray),(xj d).foldl (λc h=>c.push (UInt8.ofNat h.toNat)) a=⟨a.data++d.toArray⟩:=by
  intro d
  induction d with
  |nil=>intro a;simp[xj]
  |cons b c f=>
   intro a;show(xj c).foldl _ (a.push (UInt8.ofNat ((b.toNat:Int)).toNat))=_;rw[f];have e:UInt8.ofNat ((b.toNat:Int)).toNat=b:=by simp
   rw[e];simp[ByteArray.push]
 have:=g d O;unfold fy;rw[this];simp
def pre(c:Nat):List Int:=if c=0 then [] else xj (A2 c)
def af0(c:Nat)(h:c≠0):pre c=pre (c / 10)++[48+((c%10:Nat):Int)]:=by
 have d:∀b,b<10->(((UInt8.ofNat (48+b)).toNat:Nat):Int)=48+(b:Int):=λb e=>by
  rw[UInt8.toNat_ofNat',Nat.mod_eq_of_lt (by omega)];omega
 unfold pre;rw[aa h];by_cases a:c<10
 .rw[ab (by omega),A2,mK a,Nat.mod_eq_of_lt a];show [(((UInt8.ofNat (48+c)).toNat:Nat):Int)]=_;rw[d c a];rfl
 .rw[aa (by omega),A2,dif_neg a];show List.map _ (_++_)=_;rw[dK];show xj (A2 (c / 10))++[(((UInt8.ofNat (48+c%10)).toNat:Nat):Int)]=_;rw[d _ (by omega)]
def EH(N:Nat)(a1:N≠0)(br:N<=9223372036854775807)(w:A3):B4 U 240 #[Y Z (N:Int)] w λe w'=>e= A9 (A5 ⟨(A2 N).toArray⟩)/\B1 w.heap.size w w':=by
 obtain⟨g,A⟩:∃g:Int,(N:Int)=g:=⟨_,rfl⟩;rw[A];have b1:0<g:=by omega
 have bf:g<=9223372036854775807:=by omega
 have b3:(g==0)=B0:=by rw[dv];omega
 have b2:¬g<0:=by omega
 have ao:=aq A;clear A;go_in;go_wp2_with fail;go_loopw [0,4,5] (λE bk b4 wr=>∃(c:Int) (a:List Int),E= Y Z c/\0<=c/\c<=9223372036854775807/\E1 (c.toNat<10 ^ (19-a.length)/\a.length<=19/\xj (A2 N)=pre c.toNat++a.reverse)/\wr.ownsRow w.heap.size 5 1 bk a.length (B8 a)/\B1 w.heap.size w wr) (λE _ _ _=>(Ex E).toNat)
 case atStart=>
  refine⟨g,[],rfl,by omega,bf,⟨?_,by simp,?_⟩,eI _ _ _ _,ai _ _⟩
  .have:(10:Nat) ^ (19-([]:List Int).length)=10000000000000000000:=by decide
   rw[this];omega
  .rw[show g.toNat=N by have:=ao.out;omega];unfold pre;rw[aa a1];simp
 case round=>
  obtain⟨c,a,rfl,bl,bn,l,q,o⟩:=hrel;by_cases u:c=0
  .subst u;obtain⟨_,L,K⟩:=l.out;have x:xj (A2 N)=a.reverse:=K;have z:0<a.length:=by
    have e:=congrArg List.length x;rw[Gr]at e;have:0<(xj (A2 N)).length:=by
     rw[A2];split<;>simp[xj]
    omega
   have F:E1 (fy a.reverse=⟨(A2 N).toArray⟩):=by show _=_;rw[<-x,zC]
   rcases q.2 with⟨h,bb⟩|⟨t,ar,bo,al,bA,y,_,a8,m,ak⟩
   .have:a=[]:=by
     have bs:(B8 a).length=a.length:=ae0 a;have:=q.1;simp at bb;omega
    rw[this]at z;simp at z
   .have v:∀k,k<a.length->wr.cell? ⟨t,k,A0⟩=Ax (Y .u8 (a.getD k 0)):=λk a7=>by
     rw[am _ _ _ _ _ _ y];have f:(B8 a)[k]?=Ax (Y .u8 (a.getD k 0)):=by simp[B8,a7,List.getD]
     rw[<-ak,mJ]at f;split at f
     .simpa using f
     .cases f
    have a5:t<wr.heap.size:=aj y;obtain⟨d,n⟩:=aF a.length;rw[n]at z L v al;subst al;clear l K x q y ak m a8;have ad:∀b,b<d->a.reverse.take (b+1)=a.reverse.take b++[a.getD (d-1-b) 0]:=λb B=>by
     have e:a.reverse[b]?=Ax (a.getD (d-1-b) 0):=by
      rw[List.getElem?_reverse (by omega),List.getD,n,aA (by omega)];rfl
     rw[ie,e];rfl
    have m:∀b,b<=d->(fy (a.reverse.take b)).size=b:=λb B=>by
     have:∀j:List Int,(fy j).size=j.length:=by
      intro j
      induction j with
      |nil=>rfl
      |cons I J bd=>rw[show I::J=[I]++J from rfl,JK,ay,bd,aJ];rfl
     rw[this,gC,Gr];omega
    have H:=aq ad;have an:=aq n;clear ad n;go_wp2_with fail;go_loopw [6,7] (λbj C wq=>∃b:Nat,b<=d/\C= Y Z ((d:Int)-1-(b:Int))/\bj= A5 (fy (a.reverse.take b))/\B1 wr.heap.size wr wq) (λ_ C _=>(Ex C+1).toNat)
    case atStart=>exact⟨0,by omega,by first|rfl|(congr 1;omega),rfl,ai _ _⟩
    case round=>
     obtain⟨b,B,rfl,rfl,p⟩:=hrel;have af:=m b B;by_cases ba:b<d
     .obtain⟨i,a2⟩:∃i:Nat,d-1-b=i:=⟨_,rfl⟩;have a4:=(sC p a5).trans (v i (by omega));have s:=H.out b ba;rw[a2]at s;have r:E1 (fy (a.reverse.take b)++fy [a.getD i 0]=fy (a.reverse.take (b+1))):=by show _=_;rw[s,JK]
      generalize a.getD i 0=j at a4 r;have bw:=λw=>oh (zj w j);have b0:(fy [j]).size=1:=rfl;have a6:(d:Int)-1-(b:Int)=(i:Int):=by omega
      have bt:i<d:=by omega
      generalize fy (a.reverse.take b)=bh at af r⊢;rw[a6];clear m s v;go_wp2;go_roundw
      case rel=>exact⟨b+1,by omega,by first|rfl|(congr 1;omega),by rw[r.out],p.alloc p.size _⟩
      case measure=>simp[Ex]
     .obtain rfl:b=d:=by omega
      have bE:¬(0:Int)<=(b:Int)-1-(b:Int):=by omega
      rw[db (by rw[Gr,an.out];exact ag _)];have G:=F.out;generalize fy a.reverse=bh at G⊢;subst G;clear af m F H;go_wp2;go_ret;exact⟨rfl,o.trans (p.mono o.size)⟩
  .have bx:(c==0)=B0:=by rw[dv];exact u
   have bv:(c !=0)=Br:=by rw[BB];exact u
   have bD:¬c%10<0:=by omega
   have L:a.length<=18:=by
    obtain⟨f,au,_⟩:=l.out;rcases bC a.length 19 with h|h
    .omega
    .rw[show 19-a.length=0 by omega]at f;simp at f;omega
   have ap:E1 ((c / 10).toNat<10 ^ (19-(a++[48+c%10]).length)/\(a++[48+c%10]).length<=19/\xj (A2 N)=pre (c / 10).toNat++(a++[48+c%10]).reverse):=by
    obtain⟨f,au,av⟩:=l.out;have a0:(a++[48+c%10]).length=a.length+1:=by simp
    refine⟨?_,by omega,?_⟩
    .rw[a0];have ax:10 ^ (19-a.length)=10 ^ (19-(a.length+1))*10:=by rw[<-Nat.pow_succ];congr 1;omega
     rw[ax]at f;have:(c / 10).toNat=c.toNat / 10:=by omega
     rw[this];omega
    .rw[av,af0 c.toNat (by omega),show(c / 10).toNat=c.toNat / 10 by omega,show((c.toNat%10:Nat):Int)=c%10 by omega];simp
   clear l;go_wp2_with (at_builtin;refine mL rfl (.tmp 20) (.tmp 24) rfl w.heap.size u4 a.length a rfl q o.size (by omega) [48+c%10] 1 rfl (by decide) (by decide) _ rfl rfl ?_;intro t ar w1 a9 a3);go_roundw
   case rel=>exact⟨c / 10,a++[48+c%10],by first|rfl|(congr 1;omega),by omega,by omega,ap,by rw[aJ];exact a9,o.trans (a3.mono (by omega))⟩
   case measure=>simp[Ex];omega
structure Lay (w:A3):Prop where
 tabs:wd w
 errs:ou w
 pow:F1 U w "internal/strconv.uint64pow10" .u64 Lib.pow10Tab
 brj:w.cell? ⟨11,15,A0⟩=Ax (.int .u8 4)
def zD{P:Program}{b:Nat}{n:String}{cs:Array B2}(h:w.var? P n=Ax cs)(d:B1 b w w')(c:w.heap.size<=b):w'.var? P n=Ax cs:=by
 unfold World.var? at h⊢;cases hg:P.globalNamed n with
 |none=>simp[hg]at h
 |some a=>
  simp only[hg,Bv]at h⊢;have e:a<w.heap.size:=by
   rcases bC a w.heap.size with h'|h'
   .exact h'
   .simp[xB h']at h
  rw[d.block a (ip e c)];exact h
def Lay.below{c:Nat}(h:Lay w)(b:B1 c w w')(a:w.heap.size<=c):Lay w':=
 ⟨h.tabs.below b a,h.errs.below b a,zD h.pow b a,(sC b (ip (Bp w _ h.brj) a)).trans h.brj⟩
def yr(n:Int):ByteArray:=if n<0 then hxO (n+18446744073709551616).toNat 16 else⟨(A2 n.toNat).toArray⟩
def ad6(N:Nat)(b:N<=9223372036854775807)(w:A3):B4 U 240 #[Y Z (N:Int)] w λe w'=>e= A9 (A5 ⟨(A2 N).toArray⟩)/\B1 w.heap.size w w':=by
 by_cases a:N=0
 .subst a;have e:(⟨(A2 0).toArray⟩:ByteArray)=⟨#[48]⟩:=by rw[A2,mK (by omega)];rfl
  rw[e];show B4 U 240 #[Y Z 0] w _;go_in;go_wp2;go_ret;exact⟨rfl,ai _ _⟩
 .exact EH N a b w
def ad7(n:Int)(c: -9223372036854775808<=n)(g:n<=9223372036854775807)(w:A3):B4 U 215 #[Y Z n] w λe w'=>e= A9 (A5 (yr n))/\B1 w.heap.size w w':=by
 unfold yr;by_cases a:n<0
 .rw[ab a];exact ad5 n c a w
 .rw[aa a];have b:∀w,B4 U 240 #[Y Z n] w λe w'=>e= A9 (A5 ⟨(A2 n.toNat).toArray⟩)/\B1 w.heap.size w w':=λw=>by
   have:=ad6 n.toNat (by omega) w;rw[show((n.toNat:Nat):Int)=n by omega]at this;exact this
  generalize (⟨(A2 n.toNat).toArray⟩:ByteArray)=f at b;have h:0<=n:=by omega
  go_in;go_wp2_with (go_at_call 240;refine(b _).mono ?_;rintro e w' ⟨rfl,d⟩);go_ret;exact⟨rfl,d⟩
def FD(s:ByteArray)(c:s.size<=1100000)(w:A3):B4 U 177 #[A5 s] w λe w'=>e= A9 (A5 s)/\B1 w.heap.size w w':=by
 have b:=λw=>Tryz.stringslite_Clone s w (by omega);go_in;go_wp2_with (go_at_call 217;refine(b _).mono ?_;rintro e w' ⟨rfl,a⟩);go_ret;exact⟨rfl,a⟩
def BH(s:ByteArray)(p:Nat):Int×ByteArray:=match vz fp (s.extract p (qr s (s.size+1) p)) 22 0 with|some k=>(10+(k:Int),⟨#[]⟩)|none=>(1,s.extract p (qr s (s.size+1) p))
def ao9(s:ByteArray)(p:Nat):wdT s p= Fs #[Y Z (BH s p).1,Y Z p,Y Z (qr s (s.size+1) p),Y Z 0,Y Z 0,A5 (BH s p).2]:=by
 unfold wdT BH;cases vz fp (s.extract p (qr s (s.size+1) p)) 22 0<;>rfl
def ab3{b t mb n:Nat}{D:DataW Unit}(h:w.ownsMap U 9 (plainElem (H:=Unit) U 3) mb n D)(g:se b t w w')(e:mb≠b)(f:mb≠t):w'.ownsMap U 9 (plainElem (H:=Unit) U 3) mb n D:=by
 obtain⟨d,c,a,i⟩:=h;exact⟨d,c,(g.block mb (aj a) e f).trans a,i⟩
def Hh(s:ByteArray)(bs:s.size<=70000)(b t mb:Nat)(w:A3)(p:Nat)(l ao:Int)(a2:p<s.size)(x:b≠t)(bb:mb≠b)(bf:mb≠t)(hS:ix b w s (.map (Ax mb)) fr p l B0)(ad:fe t w 0 p 0 ao 0 O)(ax:w.ownsMap U 9 (plainElem (H:=Unit) U 3) mb 22 (zi 22)):
  B4 U 104 #[.pointer (Ax ⟨b,0,A0⟩),.pointer (Ax ⟨t,0,A0⟩)] w λe w'=>e= .returned (.tuple #[])/\se b t w w'/\ix b w' s (.map (Ax mb)) fr (qr s (s.size+1) p:Int) l B0/\fe t w' (BH s p).1 p 0 ao 0 (BH s p).2:=by
 have br:b<w.heap.size:=aj hS;have bt:t<w.heap.size:=aj ad;have a8:=wL s (s.size+1) p (fx a2);have a5:=λw=>Aq s (by omega) p (fx a2) w;obtain⟨i,j,k,m,n,o,q,r⟩:=gI hS;obtain⟨A,B,C,E,F,G,I⟩:=bz ad;unfold BH;generalize qr s (s.size+1) p=a at a5 a8;obtain⟨a7,K⟩:=aF (vz fp (s.extract p a) 22 0);rw[K];have ar:=aq K;clear K;go_in;go_upto_region 0 with fail
 go_cut [16] from 7 (λbo ap=>bo= .int .i64 (a:Int)/\se b t w ap/\ix b ap s (.map (Ax mb)) fr a l B0/\fe t ap 0 p 0 ao 0 O)
 case first=>
  go_region_with (first|(go_at_call 176;refine(a5 _).mono ?_;rintro e w' ⟨rfl,bh⟩;obtain rfl:=bh.symm))
  all_goals
   go_wp2_with fail;go_meet
   case rel=>exact⟨rfl,((se.refl b t w).setB 3 _).drew,hS.setP _,ad.other (dA x) _⟩
 case rest=>
  obtain⟨rfl,ak,L,af⟩:=hcut;clear i j k m n o q r A B C E F G I;have a0:=ab3 ax ak bb bf;obtain⟨i,j,k,m,n,o,q,r⟩:=gI L;obtain⟨A,B,C,E,F,G,I⟩:=bz af;go_upto_region 1 with fail
  go_quiet (fail)
  have d:=L.drewN nq;have f:=af.drewN nq;have y:=ak.drewN nq;have J:(wc.drewN nq).ownsMap U 9 (plainElem (H:=Unit) U 3) mb 22 (zi 22):=a0;generalize wc.drewN nq=au at d f y J⊢;clear i j k m n o q r A B C E F G I L af ak a0 ax;obtain⟨i,j,k,m,n,o,q,r⟩:=gI d;obtain⟨A,B,C,E,F,G,I⟩:=bz f;have bk:b<au.heap.size:=aj d;have bl:t<au.heap.size:=aj f;have a3:(s.extract p a).size<=70000:=by rw[qu];omega
  have z:keyOf U 9 (.string (s.extract p a))=Ax (.string (s.extract p a).data.toList):=keyOf_string_mk Tryz.underlying9 (by unfold maxLen;omega);have c:=Jc (H:=Unit) (s.extract p a);have an:=λw=>FD (s.extract p a) (by omega) w;unfold sr at c;rw[ar.out]at c;cases a7 with
  |some a4=>
   have a1:=aiE (H:=Unit) (s.extract p a) a4 ar;have h:Maps.has (zi (H:=Unit) 22) (.string (s.extract p a).data.toList)=Br:=c;clear c;generalize s.extract p a=bn at z a1 h an a3⊢;go_wp2_with (at_lookup;refine wpList_lookup_own_ok_int _ rfl _ _ 78 rfl 9 3 .i64 aiz Tryz.underlying78 Tryz.underlying3 (by kernel_rfl) mb 22 _ rfl J _ _ rfl z ?_;intro av g bj;rw[h];rw[a1]at g;obtain rfl:10+(a4:Int)=av:=by injection g with g;injection g);refine aH (jd rfl _ _ _) rfl ?_;exact⟨rfl,y.setT 0 _,d.other x _,f.setKind _⟩
  |none=>
   have h:Maps.has (zi (H:=Unit) 22) (.string (s.extract p a).data.toList)=B0:=c;clear c;obtain⟨bn,al⟩:=aF (s.extract p a);rw[al]at z h an a3⊢;have a6:=aq al;clear al;go_wp2_with (first|(at_lookup;refine wpList_lookup_own_ok_int _ rfl _ _ 78 rfl 9 3 .i64 aiz Tryz.underlying78 Tryz.underlying3 (by kernel_rfl) mb 22 _ rfl J _ _ rfl z ?_;intro av g bj;rw[h])|(go_at_call 177;refine(an _).mono ?_;rintro e bv ⟨rfl,v⟩;have a9:=d.below v bk;have u:=f.below v bl;have ba:=y.below (v.mono y.size);have tf3:=(bz u).2.2.2.2.2.2;have bw:=(bz u).1;have bx:=(bz u).2.2.2.2.2.1;clear v));go_end0
   exact⟨rfl,(ba.setT 0 _).setT 5 _,(a9.other x _).other x _,by rw[a6.out];exact(u.setKind _).setText _⟩
def ju(s:ByteArray)(a b i:Nat)(d:b<=s.size)(e:a+i<b:=by omega):aw (s.extract a b) i=aw s (a+i):=by
 rw[sD,sD];have c:(s.extract a b).data.toList=(s.data.toList.drop a).take (b-a):=by rw[<-gy,Lib.extract_toList]
 rw[c,mJ,ab (by omega),sj]
def oz(s:ByteArray)(a b:Nat)(c:b<=s.size):(s.extract a b).size=b-a:=by rw[qu];omega
def ab4(s:ByteArray)(a b p:Nat)(c:b<=s.size):∀n,a+p+n<=b->sA (s.extract a b) p n=sA s (a+p) n
 |0,_=>rfl
 |n+1,h=>by
  rw[sA,sA,ab4 s a b p c n (by omega),ju s a b (p+n) c,fj]
def ab5(s:ByteArray)(a b p:Nat)(c:b<=s.size):∀n,a+p+n<=b->qA (s.extract a b) p n=qA s (a+p) n
 |0,_=>rfl
 |n+1,h=>by
  rw[qA,qA,ab5 s a b p c n (by omega),ju s a b (p+n) c,fj]
def tB(s:ByteArray)(p:Nat):Int×Int×ByteArray:=
 if aw s p=48/\aw s (p+1)=120 then(2,wrap64 (sA s (p+2) ((dJ s p).1-(p+2)):Int),⟨#[]⟩)
 else match (if Df s p=Br then A0 else qA s p ((dJ s p).1-p)) with
  |some a=>(2,(a:Int),⟨#[]⟩)
  |none=>(3,0,s.extract p (dJ s p).1)
def amo(s:ByteArray)(p:Nat)(a:(dJ s p).2=Br):EG s p= Fs #[Y Z (tB s p).1,Y Z p,Y Z ((dJ s p).1:Int),Y Z 0,Y Z (tB s p).2.1,A5 (tB s p).2.2]/\yq s p= -1:=by
 unfold EG yq tB;by_cases b:aw s p=48/\aw s (p+1)=120
 .have c:dJ s p=nA s (p+2):=by unfold dJ;rw[ab b]
  rw[c]at a⊢;simp only[ab b];unfold hxA hxF;rw[ab a,ab a];exact⟨rfl,rfl⟩
 .have c:dJ s p=oq s (nA1 s (nA0 s p)):=by unfold dJ;rw[aa b]
  rw[c]at a⊢;simp only[aa b];unfold nmA nmF;rw[ab a,ab a];cases Df s p with
  |true=>exact⟨rfl,rfl⟩
  |false=>
   simp only[aa (show ¬B0=Br by simp)];cases qA s p ((oq s (nA1 s (nA0 s p))).1-p)<;>exact⟨rfl,by trivial⟩
def af1(s:ByteArray)(p:Nat)(a:(dJ s p).2=B0):yq s p=((dJ s p).1:Int):=by
 unfold yq;by_cases b:aw s p=48/\aw s (p+1)=120
 .have c:dJ s p=nA s (p+2):=by unfold dJ;rw[ab b]
  rw[c]at a⊢;rw[ab b];unfold hxF;rw[aa (by rw[a];simp)]
 .have c:dJ s p=oq s (nA1 s (nA0 s p)):=by unfold dJ;rw[aa b]
  rw[c]at a⊢;rw[aa b];unfold nmF;rw[aa (by rw[a];simp)]
def ad8(s:ByteArray)(p:Nat)(j:p<s.size)(g:cD (aw s p)=Br)(o:¬(aw s p=48/\aw s (p+1)=120)):zu (s.extract p (dJ s p).1)=Option.map (λu:Nat=>(u:Int)) (if Df s p=Br then A0 else qA s p ((dJ s p).1-p)):=by
 have c:=vD s p j;have q:=oz s p (dJ s p).1 c.2;have b:∀a,p+a<(dJ s p).1->aw (s.extract p (dJ s p).1) a=aw s (p+a):=λa i=>ju s p _ a c.2 i;have f:cD (aw (s.extract p (dJ s p).1) 0)=Br:=by rw[b 0 (by omega)];exact g
 have d:dJ s p=oq s (nA1 s (nA0 s p)):=by unfold dJ;rw[aa o]
 have k:=C5 s p j;have l:=C6 s _ k.2;have r:=aam s _ l.2;cases hk:Df s p with
 |false=>
  obtain⟨m,e⟩:=Hc s p g hk;have t:(dJ s p).1=nA0 s p:=by rw[d,m]
  rw[Jw _ (by omega) (λa i=>by rw[b a (by omega)];exact e _ (by omega) (by omega))];rw[q,ab5 s p _ 0 c.2 _ (by omega),gD];simp
 |true=>
  simp only[jE,Option.map_none];unfold Df at hk;rcases aE hk with h|h
  .have n:nA0 s p<(dJ s p).1:=by
    have:nA0 s p<nA1 s (nA0 s p):=by
     unfold nA1;rw[ab h];have:=sy s (nA0 s p+1) (by have:=re h.2;omega);omega
    rw[d];omega
   exact yo _ f (nA0 s p-p) (by omega) (by rw[b _ (by omega),show p+(nA0 s p-p)=nA0 s p by omega,h.1];decide)
  .have n:nA1 s (nA0 s p)<(dJ s p).1:=by
    have e:=afH s _ h;have v:=sy s _ e.2;rw[d];unfold oq;rw[ab h];simp only;omega
   exact yo _ f (nA1 s (nA0 s p)-p) (by omega) (by rw[b _ (by omega),show p+(nA1 s (nA0 s p)-p)=nA1 s (nA0 s p) by omega,h];decide)
def JL(s:ByteArray)(E:s.size<=1100000)(p:Nat)(l:p<s.size)(q:cD (aw s p)=Br)(u:(dJ s p).2=Br)(w:A3)(o:ou w):
  B4 U 179 #[A5 (s.extract p (dJ s p).1)] w λe w'=>(((tB s p).1=2/\e= A9 (Ck #[Y Z (tB s p).2.1,F0 Br])/\(tB s p).2.2=⟨#[]⟩)\/((tB s p).1=3/\(∃x,e= A9 (Ck #[Y Z x,F0 B0]))/\(tB s p).2.1=0/\(tB s p).2.2=s.extract p (dJ s p).1))/\B1 w.heap.size w w':=by
 have f:=vD s p l;have y:=oz s p (dJ s p).1 f.2;have c:∀b,p+b<(dJ s p).1->aw (s.extract p (dJ s p).1) b=aw s (p+b):=λb t=>ju s p _ b f.2 t;by_cases a:aw s p=48/\aw s (p+1)=120
 .have e:dJ s p=nA s (p+2):=by unfold dJ;rw[ab a]
  have r:nA s (p+2)=((dJ s p).1,Br):=by rw[<-e];exact Prod.ext rfl u
  obtain⟨z,A,B,n⟩:=Jy r;refine(Fv _ (by rw[c 0 (by omega)];exact a.1) (by rw[c 1 (by omega)];exact a.2) (by omega) (by omega) (λb g d=>by rw[c b (by omega)];exact n _ (by omega) (by omega)) w).mono ?_;rintro m w' ⟨rfl,i⟩;rw[y,ab4 s p _ 2 f.2 _ (by omega)];have h:tB s p=(2,wrap64 (sA s (p+2) ((dJ s p).1-(p+2)):Int),⟨#[]⟩):=by unfold tB;rw[ab a]
  rw[h];exact⟨.inl ⟨rfl,by rw[show(dJ s p).1-p-2=(dJ s p).1-(p+2) by omega],rfl⟩,i⟩
 .have v:¬(aw (s.extract p (dJ s p).1) 0=48/\aw (s.extract p (dJ s p).1) 1=120):=by
   rintro ⟨g,d⟩;have C:=bq d;rw[c 0 (by omega)]at g;rw[c 1 (by omega)]at d;exact a ⟨g,d⟩
  refine(Fw _ (by omega) v w o).mono ?_;rintro m w' ⟨⟨x,rfl,j⟩,i⟩;rw[ad8 s p l q a]at j⊢;refine⟨?_,i⟩;have h:tB s p=match (if Df s p=Br then A0 else qA s p ((dJ s p).1-p)) with|some k=>(2,(k:Int),⟨#[]⟩)|none=>(3,0,s.extract p (dJ s p).1):=by unfold tB;rw[aa a]
  rw[h];cases hc:(if Df s p=Br then A0 else qA s p ((dJ s p).1-p)) with
  |some k=>
   rw[hc]at j;have:=j k rfl;subst this;exact .inl ⟨rfl,rfl,rfl⟩
  |none=>exact .inr ⟨rfl,⟨x,rfl⟩,rfl,rfl⟩
def Di(s:ByteArray)(bw:s.size<=70000)(b t:Nat)(w:A3)(m:B2)(p:Nat)(l ax:Int)(au:p<s.size)(bf:cD (aw s p)=Br)(f:b≠t)(hS:ix b w s m fr p l B0)(z:fe t w 0 p 0 ax 0 O)(u:ou w)(bs:12<=b)(bt:12<=t):
  B4 U 106 #[B5 (Ax ⟨b,0,A0⟩),B5 (Ax ⟨t,0,A0⟩)] w λe w'=>e= A9 (Ck #[])/\se b t w w'/\
   (if(dJ s p).2=Br then ix b w' s m fr ((dJ s p).1:Int) l B0/\fe t w' (tB s p).1 p 0 ax (tB s p).2.1 (tB s p).2.2 else ix b w' s m fr ((dJ s p).1:Int) l Br/\fe t w' 0 p 0 ax 0 O):=by
 have bv:b<w.heap.size:=aj hS;have bx:t<w.heap.size:=aj z;have a1:=vD s p au;have r:=λw=>wv s (by omega) p au w;have q:=λbj w u=>JL s (by omega) p au bf bj w u;obtain⟨ad,af,ak,al,an,ao,ap,ar⟩:=gI hS;obtain⟨G,i,j,H,I,J,K⟩:=bz z;generalize tB s p=ba at q;obtain⟨bA,bD,bE⟩:=ba;generalize dJ s p=a9 at r a1 q;obtain⟨c,bo⟩:=a9;simp only at r a1 q⊢;cases bo with
 |false=>
  simp only[Bn,if_false];go_in;go_upto_region 0 with fail
  go_quiet ((go_at_call 178;exact B6 (r _)))
  have g:=(hS.drewN nq).setP (c:Int);have h:=(z.drewN nq).other (a:=⟨b,3,A0⟩) (dA f) (Y Z (c:Int));have n:=((se.refl b t w).drewN nq).setB 3 (Y Z (c:Int));go_wp2;refine aH (jd rfl _ _ _) rfl ?_;exact⟨rfl,n.setB 5 _,g.setK _,h.other (dA f) _⟩
 |true=>
  simp only[jE];have a7:=q rfl;clear q;go_in;go_upto_region 0 with fail
  go_quiet ((go_at_call 178;exact B6 (r _)))
  have g:=(hS.drewN nq).setP (c:Int);have h:=(z.drewN nq).other (a:=⟨b,3,A0⟩) (dA f) (Y Z (c:Int));have n:=((se.refl b t w).drewN nq).setB 3 (Y Z (c:Int));have v:ou ((w.drewN nq).setCell ⟨b,3,A0⟩ (Y Z (c:Int))):=by
   obtain⟨⟨i,br,a2⟩,⟨j,p2,a3⟩⟩:=u;refine⟨⟨i,br,?_⟩,⟨j,p2,?_⟩⟩
   .unfold World.cell? at a2⊢;rw[aC _ _ _ _ (by simp;omega)];exact a2
   .unfold World.cell? at a3⊢;rw[aC _ _ _ _ (by simp;omega)];exact a3
  go_upto_region 4 with fail
  generalize (w.drewN nq).setCell ⟨b,3,A0⟩ (Y Z (c:Int))=a0 at g h n v⊢;clear ad af ak al an ao ap ar G i j H I J K r;obtain⟨ad,af,ak,al,an,ao,ap,ar⟩:=gI g;obtain⟨G,i,j,H,I,J,K⟩:=bz h;go_quiet (fail)
  have x:=g.drewN nq;have A:=h.drewN nq;have o:=n.drewN nq;have a4:ou (a0.drewN nq):=⟨v.syn,v.rng⟩;generalize a0.drewN nq=L at x A o a4⊢;clear ad af ak al an ao ap ar G i j H I J K g h n v u;have a5:b<L.heap.size:=aj x;have a6:t<L.heap.size:=aj A;have bn:(s.extract p c).size<=70000:=by rw[qu];omega
  have av:=λw=>FD (s.extract p c) (by omega) w;have F:=a7 L a4;clear a7;generalize s.extract p c=b0 at av F bn⊢;go_wp2_with fail;refine F.mono ?_;rintro e a8 ⟨(⟨rfl,rfl,rfl⟩|⟨rfl,⟨b2,rfl⟩,rfl,rfl⟩),d⟩
  .have y:=x.below d a5;have k:=A.below d a6;have E:=o.below (d.mono o.size);clear d F av;obtain⟨G,i,j,H,I,J,K⟩:=bz k;go_wp2;refine aH (jd rfl _ _ _) rfl ?_;exact⟨rfl,(E.setT 0 _).setT 4 _,(y.other f _).other f _,(k.setKind _).setNum _⟩
  .have y:=x.below d a5;have k:=A.below d a6;have E:=o.below (d.mono o.size);have bk:b<a8.heap.size:=aj y;have bl:t<a8.heap.size:=aj k;clear d F;go_wp2_with (go_at_call 177;refine(av _).mono ?_;rintro e b1 ⟨rfl,C⟩;have bb:=y.below C bk;have B:=k.below C bl;have bh:=E.below (C.mono E.size);have tf4:=(bz B).2.2.2.2.2.2;have b3:=(bz B).1;have b4:=(bz B).2.2.2.2.2.1;clear C);go_end0
   exact⟨rfl,(bh.setT 0 _).setT 5 _,(bb.other f _).other f _,(B.setKind _).setText _⟩
def aqH(k:Nat)(a:k<11)(w:A3):(Ce 226 (Fs je) (Y Z (k:Int))).run U w= .ok (A5 (ci je k)) w:=by
 rcases(show k=0\/k=1\/k=2\/k=3\/k=4\/k=5\/k=6\/k=7\/k=8\/k=9\/k=10 by omega) with rfl|rfl|rfl|rfl|rfl|rfl|rfl|rfl|rfl|rfl|rfl;all_goals kernel_rfl
def aqI(k:Nat)(a:k<18)(w:A3):(Ce 227 (Fs lB) (Y Z (k:Int))).run U w= .ok (A5 (ci lB k)) w:=by
 rcases(show k=0\/k=1\/k=2\/k=3\/k=4\/k=5\/k=6\/k=7\/k=8\/k=9\/k=10\/k=11\/k=12\/k=13\/k=14\/k=15\/k=16\/k=17 by omega) with rfl|rfl|rfl|rfl|rfl|rfl|rfl|rfl|rfl|rfl|rfl|rfl|rfl|rfl|rfl|rfl|rfl|rfl;all_goals kernel_rfl
def osz:∀k:Fin 11,(ci je k.val).size<=3:=by decide
def bsz:∀k:Fin 18,(ci lB k.val).size<=3:=by decide
def xk(V:Array B2)(base:Int)(r:ByteArray):Nat->Nat->Int×Nat->Int×Nat
 |0,_,a=>a
 |f+1,i,a=>xk V base r f (i+1) (if a.2<(ci V i).size/\B3 r.data.toList (ci V i).data.toList=Br then(base+(i:Int),(ci V i).size) else a)
structure EI (V:Array B2) (base:Int) (r:ByteArray) (f i:Nat) (a R:Int×Nat):Prop where
 out:xk V base r f i a=R
def oH(r:ByteArray):Int:=if aw r 0=59 then 5 else if aw r 0=10 then 7 else(xk lB 61 r 18 0 (xk je 40 r 11 0 (0,0))).1
def Hi(r:ByteArray)(a6:r.size<=70000)(ax:0<r.size)(w:A3)(a0:wd w):B4 U 181 #[.string r] w λe w'=>e= .returned (.int .i64 (oH r))/\w'=w:=by
 unfold oH;have H:∀w,(Ce 9 (.string r) (.int .i64 0)).run U w= .ok (.int .u8 (aw r 0)) w:=λw=>dL ax w;by_cases t:aw r 0=59
 .rw[ab t];rw[t]at H;go_in;go_wp2;go_ret;exact⟨rfl,rfl⟩
 rw[aa t];by_cases q:aw r 0=10
 .rw[ab q];rw[q]at H;go_in;go_wp2;go_ret;exact⟨rfl,rfl⟩
 rw[aa q];have av:(aw r 0==59)=B0:=by rw[dv];exact t
 have au:(aw r 0==10)=B0:=by rw[dv];exact q
 generalize aw r 0=a5 at H av au;clear t q;obtain⟨-,⟨a1,ap,ak⟩,⟨a2,ar,af⟩⟩:=a0;have al:=λa u w=>aqH a u w;have ad:=λa u w=>aqI a u w;obtain⟨z,B⟩:∃z:Array B2,je=z:=⟨_,rfl⟩;obtain⟨y,A⟩:∃y:Array B2,lB=y:=⟨_,rfl⟩;have ao:E1 (∀a:Nat,a<11->∀w,(Ce 226 (.agg z) (.int .i64 (a:Int))).run U w= .ok (.string (ci je a)) w):=by rw[<-B];exact al
 have an:E1 (∀a:Nat,a<18->∀w,(Ce 227 (.agg y) (.int .i64 (a:Int))).run U w= .ok (.string (ci lB a)) w):=by rw[<-A];exact ad
 rw[B]at ak;rw[A]at af;have a3:z.size=11:=by rw[<-B];rfl
 have a4:y.size=18:=by rw[<-A];rfl
 clear al ad B A;obtain⟨k,E⟩:=aF (xk je 40 r 11 0 (0,0));rw[E];obtain⟨o,F⟩:=aF (xk lB 61 r 18 0 k);rw[F];have K:EI je 40 r 11 0 (0,0) k:=⟨E⟩;have L:EI lB 61 r 18 0 k o:=⟨F⟩;clear E F;go_in;go_wp2_with (refine uJ rfl 226 _ rfl 2 rfl a1 _ ap _ ak Tryz.underlying226 rfl (by rw[a3];kernel_rfl) ?_);go_loop [3,4,16] (λI J m=>∃(a c:Nat) (d:Int),a<=11/\c<=3/\I= .int .i64 d/\J= .int .i64 c/\m= .int .i64 a/\EI je 40 r (11-a) a (d,c) k) (λ_ _ m=>11-(Ex m).toNat)
 case atStart=>exact⟨0,0,0,by omega,by omega,rfl,rfl,rfl,K⟩
 case round=>
  obtain⟨a,c,d,u,n,rfl,rfl,rfl,j⟩:=hrel;by_cases v:a<11
  .have G:=ao.out a v;have x:(ci je a).size<=3:=osz ⟨a,v⟩;have b:=j.out;rw[show 11-a=(11-(a+1))+1 by omega,xk]at b;have i:=λw=>Tryz.strings_HasPrefix r (ci je a) w;generalize ci je a=f at G x b i;by_cases p:c<f.size
   .have C:(c:Int)<(f.size:Int):=by omega
    by_cases g:B3 r.data.toList f.data.toList=Br
    .rw[ab ⟨p,g⟩]at b;have h:EI je 40 r (11-(a+1)) (a+1) (40+(a:Int),f.size) k:=⟨b⟩;rw[g]at i;clear b g;go_wp2_with (go_at_call 55;refine ft (i _) ?_);go_round
     case rel=>exact⟨a+1,f.size,40+(a:Int),by omega,x,by go_num,rfl,by go_num,h⟩
     case measure=>simp[Ex];omega
    .have s:B3 r.data.toList f.data.toList=B0:=by simpa using g
     rw[aa (λl=>g l.2)]at b;have h:EI je 40 r (11-(a+1)) (a+1) (d,c) k:=⟨b⟩;rw[s]at i;clear b g s;go_wp2_with (go_at_call 55;refine ft (i _) ?_);go_round
     case rel=>exact⟨a+1,c,d,by omega,n,rfl,rfl,by go_num,h⟩
     case measure=>simp[Ex];omega
   .have C:¬(c:Int)<(f.size:Int):=by omega
    rw[aa (λl=>p l.1)]at b;have h:EI je 40 r (11-(a+1)) (a+1) (d,c) k:=⟨b⟩;clear b;go_wp2;go_round
    case rel=>exact⟨a+1,c,d,by omega,n,rfl,rfl,by go_num,h⟩
    case measure=>simp[Ex];omega
  .obtain rfl:a=11:=by omega
   have b:=j.out;rw[fG,xk]at b;subst b;clear j K;go_wp2_with (refine uJ rfl 227 _ rfl 3 rfl a2 _ ar _ af Tryz.underlying227 rfl (by rw[a4];kernel_rfl) ?_);go_loop [3,4,35] (λI J m=>∃(a c:Nat) (d:Int),a<=18/\c<=3/\I= .int .i64 d/\J= .int .i64 c/\m= .int .i64 a/\EI lB 61 r (18-a) a (d,c) o) (λ_ _ m=>18-(Ex m).toNat)
   case atStart=>exact⟨0,c,d,by omega,n,rfl,rfl,rfl,L⟩
   case round=>
    obtain⟨a,c,d,u,n,rfl,rfl,rfl,j⟩:=hrel;by_cases v:a<18
    .have G:=an.out a v;have x:(ci lB a).size<=3:=bsz ⟨a,v⟩;have b:=j.out;rw[show 18-a=(18-(a+1))+1 by omega,xk]at b;have i:=λw=>Tryz.strings_HasPrefix r (ci lB a) w;generalize ci lB a=f at G x b i;by_cases p:c<f.size
     .have C:(c:Int)<(f.size:Int):=by omega
      by_cases g:B3 r.data.toList f.data.toList=Br
      .rw[ab ⟨p,g⟩]at b;have h:EI lB 61 r (18-(a+1)) (a+1) (61+(a:Int),f.size) o:=⟨b⟩;rw[g]at i;clear b g;go_wp2_with (go_at_call 55;refine ft (i _) ?_);go_round
       case rel=>exact⟨a+1,f.size,61+(a:Int),by omega,x,by go_num,rfl,by go_num,h⟩
       case measure=>simp[Ex];omega
      .have s:B3 r.data.toList f.data.toList=B0:=by simpa using g
       rw[aa (λl=>g l.2)]at b;have h:EI lB 61 r (18-(a+1)) (a+1) (d,c) o:=⟨b⟩;rw[s]at i;clear b g s;go_wp2_with (go_at_call 55;refine ft (i _) ?_);go_round
       case rel=>exact⟨a+1,c,d,by omega,n,rfl,rfl,by go_num,h⟩
       case measure=>simp[Ex];omega
     .have C:¬(c:Int)<(f.size:Int):=by omega
      rw[aa (λl=>p l.1)]at b;have h:EI lB 61 r (18-(a+1)) (a+1) (d,c) o:=⟨b⟩;clear b;go_wp2;go_round
      case rel=>exact⟨a+1,c,d,by omega,n,rfl,rfl,by go_num,h⟩
      case measure=>simp[Ex];omega
    .obtain rfl:a=18:=by omega
     have b:=j.out;rw[fG,xk]at b;subst b;clear j L;go_wp2;go_ret;exact⟨rfl,rfl⟩
def wd.setCell(h:wd w){a:Addr}(l:12<=a.block)(v:B2):wd (w.setCell a v):=by
 obtain⟨⟨i,b,e⟩,⟨j,c,f⟩,⟨k,d,g⟩⟩:=h;exact⟨⟨i,b,(aC w a _ v (by omega)).trans e⟩,⟨j,c,(aC w a _ v (by omega)).trans f⟩,⟨k,d,(aC w a _ v (by omega)).trans g⟩⟩
def wd.drewN(h:wd w)(n:Nat):wd (w.drewN n):=⟨h.word,h.mark,h.bin⟩
def Hj:∀k:Fin 79,(eC (k.val:Int)).size<=6:=by decide+kernel
def af2(k:Int):(eC k).size<=6:=by
 by_cases a:0<=k/\k<=78
 .have:=Hj ⟨k.toNat,by omega⟩;simp only[show((k.toNat:Nat):Int)=k by omega]at this;exact this
 .unfold eC;rw[aa (by omega),aa (by omega),aa (by omega),aa (by omega),aa (by omega)];decide
def aau(V:Array B2)(base:Int)(r:ByteArray)(d:0<=base)(N:Int):∀(f i:Nat)(a:Int×Nat),0<=a.1->a.1<=N->base+((i+f:Nat):Int)<=N+1->0<=(xk V base r f i a).1/\(xk V base r f i a).1<=N
 |0,i,a,b,c,_=>⟨b,c⟩
 |f+1,i,a,b,c,e=>by
  unfold xk;refine aau V base r d N f (i+1) _ ?_ ?_ (by omega)
  .split
   .simp only;omega
   .exact b
  .split
   .simp only;omega
   .exact c
def af3(r:ByteArray):0<=oH r/\oH r<=78:=by
 unfold oH;split
 .omega
 split
 .omega
 have a:=aau je 40 r (by omega) 50 11 0 (0,0) (by simp) (by simp) (by simp);exact aau lB 61 r (by omega) 78 18 0 _ a.1 (by omega) (by simp)
def aav(b t:Nat)(a:A3)(s:ByteArray)(m:B2)(fr:Int)(p:Nat)(l c k:Int):Prop:=
 if k=0 then ix b a s m fr p l Br/\fe t a 0 p 0 c 0 O else ix b a s m fr ((p:Int)+((eC k).size:Int)) (if k=7 then l+1 else l) B0/\fe t a k p 0 c 0 O
def Hk(s:ByteArray)(a4:s.size<=70000)(b t:Nat)(w:A3)(m:B2)(p:Nat)(l J:Int)(a5:p<s.size)(a3:0<=l)(a2:l<=100000)(h:b≠t)(hS:ix b w s m fr p l B0)(n:fe t w 0 p 0 J 0 O)(d:wd w)(ax:12<=b)(a0:12<=t):
  B4 U 108 #[B5 (Ax ⟨b,0,A0⟩),B5 (Ax ⟨t,0,A0⟩)] w λe w'=>e= A9 (Ck #[])/\se b t w w'/\aav b t w' s m fr p l J (oH (s.extract p s.size)):=by
 have a1:b<w.heap.size:=aj hS;have a7:t<w.heap.size:=aj n;have a6:(s.extract p s.size).size=s.size-p:=oz s p s.size (ag _);have i:=λw d=>Hi (s.extract p s.size) (by omega) (by omega) w d;have ar:=af3 (s.extract p s.size);generalize oH (s.extract p s.size)=c at i ar;obtain⟨u,v,x,y,z,A,B,C⟩:=gI hS;obtain⟨K,L,ad,af,ak,al,an⟩:=bz n;unfold aav;by_cases F:c=0
 .subst F;simp only[jE];go_in;go_upto_region 0 with fail
  go_quiet ((go_at_call 181;exact B6 (i _ (d.drewN _))))
  go_wp2;refine aH (jd rfl _ _ _) rfl ?_;exact⟨rfl,((se.refl b t w).drewN _).setB 5 _,(hS.drewN _).setK _,(n.drewN _).other (dA h) _⟩
 have au:(c==0)=B0:=by rw[dv];exact F
 have r:=λw d=>EA c (by omega) (by omega) w d;have ao:=af2 c;generalize eC c=E at r ao;simp only[aa F];by_cases G:c=7
 .subst G;simp only[jE];go_in;go_upto_region 0 with fail
  go_quiet ((go_at_call 181;exact B6 (i _ (d.drewN _))))
  have g:=((hS.drewN nq).setL (l+1)).other (a:=⟨t,0,A0⟩) h (Y Z 7);have o:=((n.drewN nq).other (a:=⟨b,4,A0⟩) (dA h) (Y Z (l+1))).setKind 7;have q:=(((se.refl b t w).drewN nq).setB 4 (Y Z (l+1))).setT 0 (Y Z 7);have f:=((d.drewN nq).setCell (a:=⟨b,4,A0⟩) (by simp;omega) (Y Z (l+1))).setCell (a:=⟨t,0,A0⟩) (by simp;omega) (Y Z 7);go_upto_region 6 with fail
  generalize ((w.drewN nq).setCell ⟨b,4,A0⟩ (Y Z (l+1))).setCell ⟨t,0,A0⟩ (Y Z 7)=j at g o q f⊢;clear u v x y z A B C K L ad af ak al an i;obtain⟨u,v,x,y,z,A,B,C⟩:=gI g;have k:wd j.drew:=⟨f.word,f.mark,f.bin⟩;have I:=r j.drew k;have ap:IntKind.i64.wrap ((p:Int)+(E.size:Int))=(p:Int)+(E.size:Int):=by rw[dt];omega
  clear k f d r;go_region_with (first|(go_at_call 111;refine I.mono ?_;rintro e w' ⟨rfl,H⟩;obtain rfl:=H.symm))
  all_goals
   go_end0
   exact⟨rfl,(q.setB 3 _).drew,g.setP _,o.other (dA h) _⟩
 .have av:(c==7)=B0:=by rw[dv];exact G
  simp only[aa G];go_in;go_upto_region 0 with fail
  go_quiet ((go_at_call 181;exact B6 (i _ (d.drewN _))))
  have g:=(hS.drewN nq).other (a:=⟨t,0,A0⟩) h (Y Z c);have o:=(n.drewN nq).setKind c;have q:=((se.refl b t w).drewN nq).setT 0 (Y Z c);have f:=(d.drewN nq).setCell (a:=⟨t,0,A0⟩) (by simp;omega) (Y Z c);go_upto_region 6 with fail
  generalize (w.drewN nq).setCell ⟨t,0,A0⟩ (Y Z c)=j at g o q f⊢;clear u v x y z A B C K L ad af ak al an i;obtain⟨u,v,x,y,z,A,B,C⟩:=gI g;have k:wd j.drew:=⟨f.word,f.mark,f.bin⟩;have I:=r j.drew k;have ap:IntKind.i64.wrap ((p:Int)+(E.size:Int))=(p:Int)+(E.size:Int):=by rw[dt];omega
  clear k f d r;go_region_with (first|(go_at_call 111;refine I.mono ?_;rintro e w' ⟨rfl,H⟩;obtain rfl:=H.symm))
  all_goals
   go_end0
   exact⟨rfl,(q.setB 3 _).drew,g.setP _,o.other (dA h) _⟩
structure Rd where
 ok:Bool
 a:Nat
 d:Int
 k:Int
 n:Int
 x:ByteArray
def dl(s:ByteArray)(p:Nat):Rd:=
 if bK (aw s p)=Br then⟨Br,qr s (s.size+1) p,0,(BH s p).1,0,(BH s p).2⟩
 else if cD (aw s p)=Br then(if(dJ s p).2=Br then⟨Br,(dJ s p).1,0,(tB s p).1,(tB s p).2.1,(tB s p).2.2⟩ else⟨B0,(dJ s p).1,0,0,0,O⟩)
 else if aw s p=34 then(if(gi s (s.size+1) (p+1) []).1=Br then⟨Br,(gi s (s.size+1) (p+1) []).2.1,0,4,0,fy (gi s (s.size+1) (p+1) []).2.2⟩ else⟨B0,(gi s (s.size+1) (p+1) []).2.1,0,0,0,O⟩)
 else if oH (s.extract p s.size)=0 then⟨B0,p,0,0,0,O⟩ else⟨Br,p+(eC (oH (s.extract p s.size))).size,if oH (s.extract p s.size)=7 then 1 else 0,oH (s.extract p s.size),0,O⟩
def apa(b t:Nat)(w c:A3)(s:ByteArray)(m:B2)(fr:Int)(p:Nat)(l:Int)(R:Rd):Prop:=se b t w c/\ix b c s m fr (R.a:Int) (l+R.d) (!R.ok)/\fe t c R.k p 0 l R.n R.x
def Lay.blocks(h:Lay w)(a:∀k,k<12->w'.heap[k]?=w.heap[k]?):Lay w':=by
 obtain⟨⟨⟨p,f,m⟩,⟨q,g,n⟩,⟨r,i,o⟩⟩,⟨⟨s,j,c⟩,⟨t,l,d⟩⟩,b,e⟩:=h;refine⟨⟨⟨p,f,(a _ (by decide)).trans m⟩,⟨q,g,(a _ (by decide)).trans n⟩,⟨r,i,(a _ (by decide)).trans o⟩⟩,⟨⟨s,j,?_⟩,⟨t,l,?_⟩⟩,?_,?_⟩
 .unfold World.cell? at c⊢;rw[a _ (by decide)];exact c
 .unfold World.cell? at d⊢;rw[a _ (by decide)];exact d
 .unfold F1 World.var? at b⊢;rw[show Tryz.prog.globalNamed "internal/strconv.uint64pow10" =Ax 9 by kernel_rfl]at b⊢;simp only[Bv]at b⊢;rw[a _ (by decide)];exact b
 .unfold World.cell? at e⊢;rw[a _ (by decide)];exact e
def nI{x e z:A3}{b:Option Nat}(h:x.grownBy e b)(k:e.grownBy z b):x.grownBy z b:=
 ⟨k.os.trans h.os,k.tape.trans h.tape,k.output.trans h.output,bG h.size k.size,λd a c=>(k.block d (ip a h.size) c).trans (h.block d a c)⟩
def ad9(s:ByteArray)(J:s.size<=70000)(b mb:Nat)(w:A3)(p:Nat)(l:Int)(A:p<s.size)(cd:0<=l)(cc:l<=100000)(a2:mb≠b)(b9:12<=b)(hS:ix b w s (.map (Ax mb)) fr p l B0)(au:w.ownsMap U 9 (plainElem (H:=Unit) U 3) mb 22 (zi 22))(a8:Lay w):
  B4 U 56 #[B5 (Ax ⟨b,0,A0⟩)] w λe w'=>e= A9 (Fs #[Y Z (dl s p).k,Y Z p,Y Z ((dl s p).a:Int),Y Z l,Y Z (dl s p).n,A5 (dl s p).x])/\w.grownBy w' (Ax b)/\ix b w' s (.map (Ax mb)) (p:Int) ((dl s p).a:Int) (l+(dl s p).d) (!(dl s p).ok):=by
 have a0:b<w.heap.size:=aj hS;have bn:mb<w.heap.size:=au.lt;have cv:=λw=>dL A w;obtain⟨L,ad,af,ak,al,an,ao,ap⟩:=gI hS;obtain⟨b0,b6⟩:=abC hS;obtain⟨a4,bd⟩:=aF (dl s p);rw[bd];have bt:=aq bd;go_in;go_wp2_with fail;have F:=hS.setF (p:Int);have ba:=ab3 (t:=b) au ((se.refl b b w).setB 2 (Y Z (p:Int))) a2 a2;have a9:Lay (w.setCell ⟨b,2,A0⟩ (Y Z (p:Int))):=a8.blocks (λk I=>aC _ _ _ _ (by simp only;omega));have a1:w.grownBy (w.setCell ⟨b,2,A0⟩ (Y Z (p:Int))) (Ax b):=⟨rfl,rfl,rfl,by simp[World.setCell],λk I q=>aC _ _ _ _ (λe=>q (by rw[e]))⟩;have K:(w.setCell ⟨b,2,A0⟩ (Y Z (p:Int))).heap.size=w.heap.size:=by simp[World.setCell]
 obtain⟨bw,bx,bA,bD,bE,b3,b4,b5⟩:=gI F;obtain⟨b1,b7⟩:=abC F;rw[<-K];rw[<-K]at a0 bn;generalize w.setCell ⟨b,2,A0⟩ (Y Z (p:Int))=wN at F ba a9 a1 K a0 bn bw bx bA bD bE b3 b4 b5 b1 b7⊢;have bs:=aq a1;clear hS au a8 a1 K L ad af ak al an ao ap b0 b6;go_region
 generalize bj:(wN.alloc _).alloc _=f;obtain⟨G,ax,ar, -⟩:=Co bj;replace G:fe wN.heap.size f 0 0 0 0 0 O:=G;replace ax:fe (wN.heap.size+1) f 0 p 0 l 0 O:=ax;have bf:=F.below ar a0;have u:=a9.below ar (ag _);have ca:f.ownsMap U 9 (plainElem (H:=Unit) U 3) mb 22 (zi 22):=by rw[<-bj];exact(ba.alloc _).alloc _
 obtain⟨L,ad,af,ak,al,an,ao,ap⟩:=gI bf;have q:b≠wN.heap.size+1:=by omega
 go_wp2_with fail;go_quiet (fail)
 go_upto_block 0 with fail
 have y:ix b (f.drew.drewN nq) s (.map (Ax mb)) p p l B0:=bf;have z:fe (wN.heap.size+1) (f.drew.drewN nq) 0 p 0 l 0 O:=ax;have o:se b (wN.heap.size+1) f (f.drew.drewN nq):=((se.refl _ _ _).drew).drewN nq;have bb:(f.drew.drewN nq).ownsMap U 9 (plainElem (H:=Unit) U 3) mb 22 (zi 22):=ca;have a6:wd (f.drew.drewN nq):=⟨u.tabs.word,u.tabs.mark,u.tabs.bin⟩;have a7:ou (f.drew.drewN nq):=⟨u.errs.syn,u.errs.rng⟩;generalize f.drew.drewN nq=B at y z o bb a6 a7⊢;go_cut [] from 4 (λcn=>apa b (wN.heap.size+1) f cn s (.map (Ax mb)) p p l a4)
 case first=>
  have cf:=Hh s J b (wN.heap.size+1) mb B p l l A q a2 (by omega) y z bb;have ck:=λcb=>Di s J b (wN.heap.size+1) B (.map (Ax mb)) p l l A cb q y z a7 (by omega) (by omega);have bo:=Ct s J b (wN.heap.size+1) B (.map (Ax mb)) p l p l A q y z;have br:=Hk s J b (wN.heap.size+1) B (.map (Ax mb)) p l l A cd cc q y z a6 b9 (by omega);have g:=bt.out;unfold dl at g;cases hlt:bK (aw s p) with
  |true=>
   rw[hlt,ab rfl]at g;have m:=aq g;have h:=λw=>pj (aw s p) w;rw[hlt]at h;generalize aw s p=a5 at h⊢;go_wp2_with (first|(go_at_call 103;refine(h _).mono ?_;rintro e w' ⟨rfl,rfl⟩)|(go_at_call 104;refine cf.mono ?_;rintro e a3 ⟨rfl,i,c,C⟩));go_meet
   case rel=>rw[<-m.out];exact⟨o.trans i,by simpa using c,C⟩
  |false=>
   rw[hlt,aa (by simp)]at g;have h:=λw=>pj (aw s p) w;rw[hlt]at h;cases hdg:cD (aw s p) with
   |true=>
    rw[hdg,ab rfl]at g;have j:=λw=>lg (aw s p) w;rw[hdg]at j;have m:=aq g;have ce:=ck hdg;generalize aw s p=a5 at h j⊢;go_wp2_with (first|(go_at_call 103;refine(h _).mono ?_;rintro e w' ⟨rfl,rfl⟩)|(go_at_call 105;refine(j _).mono ?_;rintro e w' ⟨rfl,rfl⟩)|(go_at_call 106;refine ce.mono ?_;rintro e a3 ⟨rfl,i,c⟩;have r:E1 _:=c));go_meet
    case rel=>
     rw[<-m.out];have c:=r.out;cases hok:(dJ s p).2 with
     |true=>rw[hok]at c;simp only[jE]at c⊢;exact⟨o.trans i,by simpa using c.1,c.2⟩
     |false=>rw[hok]at c;simp only[Bn,if_false]at c⊢;exact⟨o.trans i,by simpa using c.1,c.2⟩
   |false=>
    rw[hdg,aa (by simp)]at g;have j:=λw=>lg (aw s p) w;rw[hdg]at j;by_cases E:aw s p=34
    .rw[ab E]at g;have m:=aq g;rw[E]at h j⊢;generalize gi s (s.size+1) (p+1) []=bv at bo m;go_wp2_with (first|(go_at_call 103;refine(h _).mono ?_;rintro e w' ⟨rfl,rfl⟩)|(go_at_call 105;refine(j _).mono ?_;rintro e w' ⟨rfl,rfl⟩)|(go_at_call 107;refine bo.mono ?_;rintro e a3 ⟨rfl,i,c⟩;have r:E1 _:=c));go_meet
     case rel=>
      rw[<-m.out];have c:=r.out;unfold nE at c;obtain⟨cl,cx,cy⟩:=bv;cases cl with
      |true=>simp only[jE]at c⊢;exact⟨o.trans i,by simpa using c.1,c.2⟩
      |false=>simp only[Bn,if_false]at c⊢;exact⟨o.trans i,by simpa using c.1,c.2⟩
    .rw[aa E]at g;have b8:(aw s p==34)=B0:=by rw[dv];exact E
     generalize oH (s.extract p s.size)=k at br g;have m:=aq g;generalize aw s p=a5 at h j b8⊢;go_wp2_with (first|(go_at_call 103;refine(h _).mono ?_;rintro e w' ⟨rfl,rfl⟩)|(go_at_call 105;refine(j _).mono ?_;rintro e w' ⟨rfl,rfl⟩)|(go_at_call 108;refine br.mono ?_;rintro e a3 ⟨rfl,i,c⟩;have r:E1 _:=c));go_meet
     case rel=>
      rw[<-m.out];have c:=r.out;unfold aav at c;by_cases I:k=0
      .rw[ab I]at c⊢;exact⟨o.trans i,by simpa using c.1,c.2⟩
      .rw[aa I]at c⊢;refine⟨o.trans i,?_,c.2⟩;have C:=c.1;have b2:(if k=7 then l+1 else l)=l+(if k=7 then 1 else 0):=by split<;>omega
       rw[b2]at C;simpa using C
 case rest=>
  obtain⟨bl,av,bh⟩:=hcut;have bk:fe wN.heap.size wc 0 0 0 0 0 O:=(bl.block wN.heap.size (aj G) (by omega) (by omega)).trans G;obtain⟨cw,a,d,k,n,x⟩:=a4;simp only at av bh⊢;obtain⟨L,ad,af,ak,al,an,ao,ap⟩:=gI av;obtain⟨cz,cB,cI,c6,c7,c8,c9⟩:=bz bh;obtain⟨z0,cp,cq,cr,cs,ct,da⟩:=bz bk;have cu:wN.heap.size<wc.heap.size:=aj bk;go_wp2;refine aH (v:= Fs #[Y Z k,Y Z p,Y Z (a:Int),Y Z l,Y Z n,A5 x]) (by simp[results,Tryz.results56,go_sem,z0,cp,cq,cr,cs,ct]) rfl ⟨rfl,?_,?_⟩
  .refine nI bs ?_;exact wI (wI (wI (wI (wI (wI (wI (alI ar bl (by omega)) _ (by simp)) _ (by simp)) _ (by simp)) _ (by simp)) _ (by simp)) _ (by simp)) _ (by simp)
  .exact((((((av.other (by simp;omega) _).other (by simp;omega) _).other (by simp;omega) _).other (by simp;omega) _).other (by simp;omega) _).other (by simp;omega) _).other (by simp;omega) _
def BI(b:Nat)(w:A3)(s:ByteArray)(m:B2)(p l:Int)(k:Bool):Prop:=∃fr,ix b w s m fr p l k
def BI.cells{b:Nat}{p:Int}(h:BI b w s m p l k):w.cell? ⟨b,0,A0⟩=Ax (A5 s)/\w.cell? ⟨b,1,A0⟩=Ax m/\w.cell? ⟨b,3,A0⟩=Ax (Y Z p)/\w.cell? ⟨b,4,A0⟩=Ax (Y Z l)/\w.cell? ⟨b,5,A0⟩=Ax (F0 k)/\
  w.frozen? ⟨b,3,A0⟩=B0/\w.frozen? ⟨b,4,A0⟩=B0/\w.frozen? ⟨b,5,A0⟩=B0:=by obtain⟨a,h⟩:=h;exact gI h
def BI.pos{b:Nat}{p:Nat}(h:BI b w s m p l k):Fg b w=p:=by obtain⟨a,h⟩:=h;exact uc h
def BI.setP{b:Nat}{p:Int}(h:BI b w s m p l k)(x:Int):BI b (w.setCell ⟨b,3,A0⟩ (Y Z x)) s m x l k:=by obtain⟨a,h⟩:=h;exact⟨a,h.setP x⟩
def ab6(i:Nat)(h:i<11):eC (40+(i:Int))=ci je i:=by
 unfold eC;rw[aa (by omega),aa (by omega),aa (by omega),ab (by omega)];rw[show(40+(i:Int)-40).toNat=i by omega]
def ab7(i:Nat)(h:i<18):eC (61+(i:Int))=ci lB i:=by
 unfold eC;rw[aa (by omega),aa (by omega),aa (by omega),aa (by omega),ab (by omega)];rw[show(61+(i:Int)-61).toNat=i by omega]
def Sgn(r:ByteArray)(k:Int)(n:Nat):Prop:=(k=0/\n=0)\/(n=(eC k).size/\1<=n/\B3 r.data.toList (eC k).data.toList=Br/\k≠0)
def yu(V:Array B2)(base:Int)(r:ByteArray)(N:Nat)(c:0<base)(b:∀i,i<N->eC (base+(i:Int))=ci V i):∀(f i:Nat)(a:Int×Nat),i+f<=N->Sgn r a.1 a.2->Sgn r (xk V base r f i a).1 (xk V base r f i a).2
 |0,i,a,_,h=>h
 |f+1,i,a,e,h=>by
  unfold xk;refine yu V base r N c b f (i+1) _ (by omega) ?_;split
  .rename_i d;refine .inr ⟨?_,?_,?_,?_⟩
   .show(ci V i).size=_;rw[b i (by omega)]
   .show 1<=(ci V i).size;omega
   .show B3 _ (eC (base+(i:Int))).data.toList=Br;rw[b i (by omega)];exact d.2
   .show base+(i:Int)≠0;omega
  .exact h
def aje(r x:ByteArray)(h:B3 r.data.toList x.data.toList=Br):x.size<=r.size:=by
 unfold B3 at h;rw[xC]at h;have:=h.length_le
 rwa [fD,fD]at this
def ajf(r:ByteArray)(h:0<r.size)(a:oH r≠0):1<=(eC (oH r)).size/\(eC (oH r)).size<=r.size:=by
 unfold oH at a⊢;split
 .exact⟨by decide,by show 1<=r.size;omega⟩
 split
 .exact⟨by decide,by show 1<=r.size;omega⟩
 rename_i c d;rw[aa c,aa d]at a;have f:=yu je 40 r 11 (by omega) ab6 11 0 (0,0) (by omega) (.inl ⟨rfl,rfl⟩);have g:=yu lB 61 r 18 (by omega) ab7 18 0 _ (by omega) f;rcases g with⟨b,_⟩|⟨b,i,e,_⟩
 .exact absurd b a
 .exact⟨by omega,aje r _ e⟩
def ajg(s:ByteArray)(p:Nat)(h:bK (aw s p)=Br):p<qr s (s.size+1) p:=by
 have a:p<s.size:=by
  rcases bC p s.size with h1|h1
  .exact h1
  .exact absurd (.inl h) (GC (by omega))
 rw[qr,ab (.inl h)];have:=wL s s.size (p+1) (by omega);omega
def od(s:ByteArray)(p:Nat)(i:p<s.size)(b:(dl s p).ok=Br):p<(dl s p).a/\(dl s p).a<=s.size/\0<=(dl s p).d/\(dl s p).d<=1:=by
 unfold dl at b⊢;split
 .rename_i h;exact⟨ajg s p h,(wL s _ p (by omega)).2,by simp,by simp⟩
 split
 .rename_i c e;rw[aa c,ab e]at b;have:=vD s p i;split
  .exact⟨this.1,this.2,by simp,by simp⟩
  .rename_i f;rw[aa f]at b;cases b
 split
 .rename_i c e f;rw[aa c,aa e,ab f]at b;have:=ya s (s.size+1) (p+1) [] (by omega);split
  .exact⟨by simp only;omega,this.2.1,by simp,by simp⟩
  .rename_i g;rw[aa g]at b;cases b
 .rename_i c e f;rw[aa c,aa e,aa f]at b;split
  .rename_i g;rw[ab g]at b;cases b
  .rename_i g;have j:=oz s p s.size (ag _);have:=ajf (s.extract p s.size) (by omega) g;refine⟨by simp only;omega,by simp only;omega,?_,?_⟩
   .simp only;split<;>omega
   .simp only;split<;>omega
def nnB(c:Int):Bool:=decide (c≠10/\c≠ -1)
def af4:nnB (-1)=B0:=by decide
def Ly(s:ByteArray)(p:Nat):Nat:=iI nnB s (s.size+1) p
def blk(s:ByteArray):Nat->Nat->Nat
 |0,p=>p
 |f+1,p=>if s.size<=p then p else if iK (aw s p)=Br then blk s f (p+1) else if aw s p=45/\aw s (p+1)=45 then blk s f (Ly s p) else p
def Hl(s:ByteArray)(p:Nat)(h:p<=s.size):p<=Ly s p/\Ly s p<=s.size:=pq nnB af4 s _ p h
def vF(s:ByteArray)(p:Nat)(h:aw s p=45):p<Ly s p:=by
 have a:=bq h;unfold Ly;rw[iI,ab (by rw[h];decide)];have:=pq nnB af4 s s.size (p+1) (by omega);omega
def yv(s:ByteArray):∀(f g p:Nat),p<=s.size->s.size<p+f->s.size<p+g->blk s f p=blk s g p
 |0,g,p,h,a,b=>by omega
 |f+1,0,p,h,a,b=>by omega
 |f+1,g+1,p,h,a,b=>by
  unfold blk;split
  .rfl
  split
  .exact yv s f g (p+1) (by omega) (by omega) (by omega)
  split
  .rename_i d;have e:=vF s p d.1;have c:=Hl s p h;exact yv s f g _ c.2 (by omega) (by omega)
  .rfl
def qg(s:ByteArray):∀(f p:Nat),p<=s.size->p<=blk s f p/\blk s f p<=s.size
 |0,p,h=>⟨ag _,h⟩
 |f+1,p,h=>by
  unfold blk;split
  .exact⟨ag _,h⟩
  split
  .have:=qg s f (p+1) (by omega);omega
  split
  .have a:=Hl s p h;have:=qg s f (Ly s p) a.2;omega
  .exact⟨ag _,h⟩
def zE(s:ByteArray)(p:Nat)(a:p<s.size)(h:iK (aw s p)=Br):blk s (s.size+1) p=blk s (s.size+1) (p+1):=by
 rw[blk,aa (by omega),ab h];exact yv s _ _ _ (by omega) (by omega) (by omega)
def af5(c:Int)(h:c=45):¬iK c=Br:=by subst h;decide
def Dj(s:ByteArray)(p:Nat)(h:aw s p=45)(a:aw s (p+1)=45):blk s (s.size+1) p=blk s (s.size+1) (Ly s p):=by
 have d:=bq h;have c:=vF s p h;have b:=Hl s p (by omega);rw[blk,aa (by omega),aa (af5 _ h),ab ⟨h,a⟩];exact yv s _ _ _ b.2 (by omega) (by omega)
def Hm(s:ByteArray)(p:Nat)(a:¬iK (aw s p)=Br)(b:¬(aw s p=45/\aw s (p+1)=45)):blk s (s.size+1) p=p:=by
 rw[blk,aa a,aa b];split<;>rfl
def ab8(s:ByteArray)(p:Nat)(h:s.size<=p):blk s (s.size+1) p=p:=by rw[blk,ab h]
def ndD:Nd:=⟨0,0,0,0,0,0,O,[],[]⟩
def ae(ns:List Nd)(i:Int):Nd:=ns.getD i.toNat ndD
def dC(N:Nd)(j:Nat):Int:=N.ks.getD j 0
def jh(l:List ByteArray):ByteArray:=l.foldl (· ++·) O
def zF(x:ByteArray):ByteArray:=⟨#[40]⟩++x++⟨#[41]⟩
def jH(ns:List Nd)(E:Int->ByteArray)(k least:Int):ByteArray:=if im (ae ns k).k (ae ns k).op<least then zF (E k) else E k
def yw(N:Nd)(a:Int):Int:=if tF N.k N.op=a then a+1 else a
def EJ(ns:List Nd)(E:Int->ByteArray)(N:Nd)(sign:ByteArray)(a:Int):ByteArray:=jH ns E (dC N 0) (yw N a)++sign++jH ns E (dC N 1) (tF N.k N.op)
def Dk(N:Nd):Bool:=N.k==30&&N.op==19
def unS(ns:List Nd)(N:Nd):ByteArray:=if N.op=21 then⟨#[110,111,116,32]⟩ else if N.op=22 then⟨#[35]⟩ else if N.op=20 then⟨#[126]⟩ else if Dk (ae ns (dC N 0))=Br then⟨#[45]⟩++⟨#[32]⟩ else⟨#[45]⟩
def unB(ns:List Nd)(E:Int->ByteArray)(N:Nd):ByteArray:=unS ns N++jH ns E (dC N 0) 11
def IL(ns:List Nd)(E:Int->ByteArray)(k:Int):ByteArray:=if qc (ae ns k).k=Br then E k else zF (E k)
def BJ(N:Nd):ByteArray:=
 if N.k=20 then⟨#[110,105,108]⟩ else if N.k=21 then⟨#[116,114,117,101]⟩ else if N.k=22 then⟨#[102,97,108,115,101]⟩ else if N.k=23 then yr N.n
 else if N.k=24\/N.k=26 then N.x else if N.k=25 then fy (eE N.x) else if N.k=27 then⟨#[46,46,46]⟩ else O
def we(ns:List Nd)(E:Int->ByteArray)(X:Nd):ByteArray:=
 if X.k=41 then⟨#[91]⟩++E (dC X 0)++⟨#[93,32,61,32]⟩++E (dC X 1) else if X.k=42 then(⟨#[46]⟩++X.x++⟨#[32,61,32]⟩)++E (dC X 0) else E (dC X 0)
def af6(ns:List Nd)(E:Int->ByteArray)(N:Nd):ByteArray:=⟨#[123]⟩++fc (N.ks.map λk=>we ns E (ae ns k))++⟨#[125]⟩
def Az(S:Int->Nat->ByteArray)(ks:List Int)(tab:Nat):ByteArray:=
 if ks=[] then⟨#[123,125]⟩ else⟨#[123]⟩++jh (ks.map λk=>iB (tab+1)++S k (tab+1))++iB tab++⟨#[125]⟩
def EK(N:Nd):ByteArray:=⟨#[40]⟩++fc N.nm++(if N.op=1 then(if N.nm=[] then⟨#[46,46,46]⟩ else iz++⟨#[46,46,46]⟩) else O)++⟨#[41,32]⟩
def E0(ns:List Nd)(S:Int->Nat->ByteArray)(N:Nd)(tab:Nat):ByteArray:=EK N++Az S (ae ns (dC N 0)).ks tab
def prE(ns:List Nd)(E:Int->ByteArray)(S:Int->Nat->ByteArray)(N:Nd)(tab:Nat):ByteArray:=
 if N.k=28 then EJ ns E N ⟨#[32,97,110,100,32]⟩ (im N.k N.op)
 else if N.k=29 then EJ ns E N ⟨#[32,111,114,32]⟩ (im N.k N.op)
 else if N.k=31 then EJ ns E N (⟨#[32]⟩++Cx (60+N.op)++⟨#[32]⟩) (im N.k N.op)
 else if N.k=30 then unB ns E N
 else if N.k=32 then IL ns E (dC N 0)++⟨#[91]⟩++E (dC N 1)++⟨#[93]⟩
 else if N.k=33 then IL ns E (dC N 0)++(⟨#[46]⟩++N.x)
 else if N.k=34 then IL ns E (dC N 0)++⟨#[40]⟩++fc ((N.ks.drop 1).map E)++⟨#[41]⟩
 else if N.k=35 then af6 ns E N
 else if N.k=36 then⟨#[102,110]⟩++E0 ns S N tab
 else if N.k=37 then zF (E (dC N 0))
 else BJ N
def Dl(ns:List Nd)(E:Int->ByteArray)(S:Int->Nat->ByteArray)(a:Int->ByteArray->ByteArray)(N:Nd)(b:ByteArray)(tab:Nat):ByteArray:=
 b++E (dC N 0)++⟨#[32]⟩++Az S (ae ns (dC N 1)).ks tab++
  (if N.ks.length<3 then O else if(ae ns (dC N 2)).k=7 then a (dC N 2) ⟨#[32,101,108,105,102,32]⟩ else⟨#[32,101,108,115,101,32]⟩++Az S (ae ns (dC N 2)).ks tab)
def nm0(N:Nd):ByteArray:=N.nm.getD 0 O
def prS(ns:List Nd)(E:Int->ByteArray)(S:Int->Nat->ByteArray)(a:Int->ByteArray->ByteArray)(N:Nd)(tab:Nat):ByteArray:=
 if N.k=1 then Az S N.ks tab
 else if N.k=2 then⟨#[108,101,116,32]⟩++fc N.nm++(if N.ks=[] then O else⟨#[32,61,32]⟩++fc (N.ks.map E))
 else if N.k=3 then(⟨#[99,111,110,115,116,32]⟩++nm0 N++⟨#[32,61,32]⟩)++E (dC N 0)
 else if N.k=4 then(⟨#[102,110,32]⟩++nm0 N)++E0 ns S (ae ns (dC N 0)) tab
 else if N.k=5 then fc ((N.ks.take N.n.toNat).map E)++⟨#[32,61,32]⟩++fc ((N.ks.drop N.n.toNat).map E)
 else if N.k=6 then E (dC N 0)
 else if N.k=7 then a (-1) ⟨#[105,102,32]⟩
 else if N.k=8 then⟨#[119,104,105,108,101,32]⟩++E (dC N 0)++⟨#[32]⟩++Az S (ae ns (dC N 1)).ks tab
 else if N.k=9\/N.k=10 then⟨#[102,111,114,32]⟩++fc N.nm++(if N.k=9 then⟨#[32,61,32]⟩ else⟨#[32,105,110,32]⟩)++fc ((N.ks.take (N.ks.length-1)).map E)++⟨#[32]⟩++Az S (ae ns (dC N (N.ks.length-1))).ks tab
 else if N.k=11 then⟨#[98,114,101,97,107]⟩
 else if N.k=12 then⟨#[110,101,120,116]⟩
 else if N.k=13 then⟨#[114,101,116,117,114,110]⟩++(if N.ks=[] then O else⟨#[32]⟩++fc (N.ks.map E))
 else if N.k=14 then⟨#[116,114,121,32]⟩++Az S (ae ns (dC N 0)).ks tab++⟨#[32,99,97,116,99,104,32]⟩++fc N.nm++⟨#[32]⟩++Az S (ae ns (dC N 1)).ks tab
 else if N.k=15 then⟨#[116,104,114,111,119,32]⟩++E (dC N 0)
 else if N.k=16 then⟨#[100,101,102,101,114,32]⟩++E (dC N 0)
 else O
mutual
def AB(ns:List Nd):Nat->Int->Nat->ByteArray
 |0,_,_=>O
 |f+1,i,tab=>prE ns (λk=>AB ns f k tab) (λk t=>tK ns f k t) (ae ns i) tab
def tK(ns:List Nd):Nat->Int->Nat->ByteArray
 |0,_,_=>O
 |f+1,i,tab=>prS ns (λk=>AB ns f k tab) (λk t=>tK ns f k t) (λ_ w=>Dl ns (λk=>AB ns f k tab) (λk t=>tK ns f k t) (λk w=>zG ns f k w tab) (ae ns i) w tab) (ae ns i) tab
def zG(ns:List Nd):Nat->Int->ByteArray->Nat->ByteArray
 |0,_,_,_=>O
 |f+1,i,w,tab=>Dl ns (λk=>AB ns f k tab) (λk t=>tK ns f k t) (λk w=>zG ns f k w tab) (ae ns i) w tab
end
def mC(ns:List Nd):ByteArray:=jh ((ae ns ((ns.length:Int)-1)).ks.map λk=>tK ns ns.length k 0++⟨#[10]⟩)
def Hn(ns:List Nd):ByteArray:=if 65536<(mC ns).size then O else mC ns
def zH{b:Nat}(o:Obj)(h:Kq b (w.alloc o) w'):Kq b w w':=(Kq.of_below ((ai _ w).alloc (ag _) o)).trans h
def aea(g:A3)(j vn vk:B2)(N:Nd)(T:ByteArray)(t:Int)(w:A3)(h:Pr g j T t w)(v:20<=N.k/\N.k<=27)(ak: -9223372036854775808<=N.n)(al:N.n<=9223372036854775807)(u:N.k=25->N.x.size<=4000)(s:T.size+(BJ N).size<=140737488355328):
  B4 U 175 #[B5 (Ax ⟨g.heap.size,0,A0⟩),jl N vn vk] w λe w'=>e= A9 (Ck #[])/\Pr g j (T++BJ N) t w'/\Kq g.heap.size w w':=by
 have F:B1 w.heap.size w (w.alloc (.cells #[Y Z N.k,Y Z N.f,Y Z N.t,Y Z N.l,Y Z N.op,Y Z N.n,A5 N.x,vn,vk] 62)):=(ai _ w).alloc (ag _) _;have i:E1 (Pr g j T t (w.alloc (.cells #[Y Z N.k,Y Z N.f,Y Z N.t,Y Z N.l,Y Z N.op,Y Z N.n,A5 N.x,vn,vk] 62))/\B1 w.heap.size w (w.alloc (.cells #[Y Z N.k,Y Z N.f,Y Z N.t,Y Z N.l,Y Z N.op,Y Z N.n,A5 N.x,vn,vk] 62))):=⟨h.below F,F⟩;have q:=ad7 N.n ak al;obtain⟨an,a⟩:=aF (BJ N);rw[a]at s⊢;unfold BJ at a;clear h F;unfold jl;have c:∀z:Int,N.k=z->(N.k==z)=Br:=λz e=>by simpa using e
 have b:∀z:Int,N.k≠z->(N.k==z)=B0:=λz e=>by simpa using e
 by_cases m:N.k=20
 .have I:=c _ m;rw[ab m]at a;subst a;clear m c b v u q;go_in;go_wp2_with (go_at_call 50;refine(gl g j _ _ _ _ i.1 s).mono ?_;rintro e B ⟨rfl,p2,d⟩);go_end0
  exact⟨rfl,p2,zH _ d⟩
 have I:=b _ m;rw[aa m]at a;by_cases o:N.k=21
 .have J:=c _ o;rw[ab o]at a;subst a;clear m o c b v u q;go_in;go_wp2_with (go_at_call 50;refine(gl g j _ _ _ _ i.1 s).mono ?_;rintro e B ⟨rfl,p2,d⟩);go_end0
  exact⟨rfl,p2,zH _ d⟩
 have J:=b _ o;rw[aa o]at a;by_cases p:N.k=22
 .have K:=c _ p;rw[ab p]at a;subst a;clear m o p c b v u q;go_in;go_wp2_with (go_at_call 50;refine(gl g j _ _ _ _ i.1 s).mono ?_;rintro e B ⟨rfl,p2,d⟩);go_end0
  exact⟨rfl,p2,zH _ d⟩
 have K:=b _ p;rw[aa p]at a;by_cases r:N.k=23
 .have L:=c _ r;rw[ab r]at a;rw[a]at q;clear m o p r c b v u a;go_in;go_wp2_with fail;refine du (q _) λw1 y=>?_;have C:E1 (Pr g j T t w1/\B1 w.heap.size w w1):=⟨i.1.below y,i.2.trans (y.mono i.2.size)⟩;clear y q;go_wp2_with fail;refine(gl g j _ _ _ _ C.1 s).mono ?_;rintro e B ⟨rfl,p2,d⟩;go_wp2_with fail;go_end0
  exact⟨rfl,p2,(Kq.of_below C.2).trans d⟩
 have L:=b _ r;rw[aa r]at a;by_cases e4:N.k=24\/N.k=26
 .rw[ab e4]at a;rcases e4 with e4|e4
  .have H:=c _ e4;rw[a]at i⊢;clear m o p r e4 c b v u q a;go_in;go_wp2_with (go_at_call 50;refine(gl g j _ _ _ _ i.1 s).mono ?_;rintro e B ⟨rfl,p2,d⟩);go_end0
   exact⟨rfl,p2,zH _ d⟩
  .have H:(N.k==24)=B0:=b _ (by omega);have ad:=c _ e4;rw[a]at i⊢;clear m o p r e4 c b v u q a;go_in;go_wp2_with (go_at_call 50;refine(gl g j _ _ _ _ i.1 s).mono ?_;rintro e B ⟨rfl,p2,d⟩);go_end0
   exact⟨rfl,p2,zH _ d⟩
 rw[aa e4]at a;have H:(N.k==24)=B0:=b _ (by omega);have ad:(N.k==26)=B0:=b _ (by omega);by_cases A:N.k=25
 .have af:=c _ A;rw[ab A]at a;have G:=adI N.x (u A);rw[a]at G;clear m o p r e4 A c b v u a q;go_in;go_wp2_with fail;refine du (G _) λw1 y=>?_;have C:E1 (Pr g j T t w1/\B1 w.heap.size w w1):=⟨i.1.below y,i.2.trans (y.mono i.2.size)⟩;clear y G;go_wp2_with fail;refine(gl g j _ _ _ _ C.1 s).mono ?_;rintro e B ⟨rfl,p2,d⟩;go_wp2_with fail;go_end0
  exact⟨rfl,p2,(Kq.of_below C.2).trans d⟩
 have af:=b _ A;rw[aa A]at a;have E:N.k=27:=by omega
 have ao:=c _ E;rw[ab E]at a;subst a;clear m o p r e4 A E c b v u q;go_in;go_wp2_with (go_at_call 50;refine(gl g j _ _ _ _ i.1 s).mono ?_;rintro e B ⟨rfl,p2,d⟩);go_end0
 exact⟨rfl,p2,zH _ d⟩
def ajh(op:Int):3<=(zr op).1/\(zr op).1<=10:=by
 unfold zr
 repeat' split
 all_goals exact⟨by decide,by decide⟩
def Dm(k op:Int):0<im k op/\im k op<=12:=by
 have:=ajh op;unfold im
 repeat' split
 all_goals omega
def ak7(ns:List Nd)(E:Int->ByteArray)(k:Int):jH ns E k 0=E k:=by
 unfold jH;rw[aa];have:=Dm (ae ns k).k (ae ns k).op;omega
def vG(x:ByteArray):(zF x).size=x.size+2:=by unfold zF;rw[ay,ay];show 1+x.size+1=_;omega
def Ho{k:Nat}(h:k<ns.length):ns[k]?=Ax (ae ns (k:Int)):=by
 unfold ae;rw[lA,List.getD,aA h];rfl
def OkE(b:A3)(c:B2)(ns:List Nd)(E:Int->ByteArray)(t:Int)(d:Nat):Prop:=
 ∀(k:Nat)(a:Int)(T:ByteArray)(W:A3),k<d->gw (ae ns k).k=Br->0<=a->a<=100->Pr b c T t W->T.size+(jH ns E k a).size<=140737488355328->
  B4 U 98 #[B5 (Ax ⟨b.heap.size,0,A0⟩),Y Z (k:Int),Y Z a] W λe w'=>e= A9 (Ck #[])/\Pr b c (T++jH ns E k a) t w'/\Kq b.heap.size W w'
def OkE.zero{E:Int->ByteArray}{a:Nat}(h:OkE w0 vt ns E t a)(k:Nat)(T:ByteArray)(W:A3)(c:k<a)(b:gw (ae ns k).k=Br)(f:Pr w0 vt T t W)(d:T.size+(E k).size<=140737488355328):
  B4 U 98 #[B5 (Ax ⟨w0.heap.size,0,A0⟩),Y Z (k:Int),Y Z 0] W λe w'=>e= A9 (Ck #[])/\Pr w0 vt (T++E k) t w'/\Kq w0.heap.size W w':=by
 have:=h k 0 T W c b (by omega) (by omega) f (by rw[ak7];exact d);rw[ak7]at this;exact this
def af7(a:A3)(g:B2)(ns:List Nd)(E:Int->ByteArray)(t:Int)(o:Nat)(v:OkE a g ns E t o)(j:eK a g ns)(ad:ns.length<=1048576)(k:Nat)(y:k<o)(z:k<ns.length)(x:gw (ae ns k).k=Br)
  (T:ByteArray) (w:A3) (h:Pr a g T t w) (l:T.size+(IL ns E k).size<=140737488355328):
  B4 U 173 #[B5 (Ax ⟨a.heap.size,0,A0⟩),Y Z (k:Int)] w λe w'=>e= A9 (Ck #[])/\Pr a g (T++IL ns E k) t w'/\Kq a.heap.size w w':=by
 have A:=Ho z;obtain⟨ak,s,rfl⟩:=j.form;obtain⟨F,rfl,ap,ao,u⟩:=(j.below h.bel).get A;obtain⟨z0,ar,au⟩:=h.cells;have L:=u.c0;have d:=aae (ae ns k).k;have c:=kJ h x v;clear h j u A x v;obtain⟨m,i⟩:=aF ns.length;rw[i]at z0 c ad z;have an:(k:Int)<(m:Int):=by omega
 have al:(0:Int)<=(k:Int):=by omega
 obtain⟨af,b⟩:=aF (IL ns E k);rw[b]at l⊢;rw[i];unfold IL at b;clear i;generalize (ae ns k).k=K at L d b;cases hb:qc K with
 |true=>
  rw[hb]at d b;rw[ab rfl]at b;subst b;clear hb;go_in;go_wp2_with (go_at_call 214;refine ft (d _) ?_);refine(c.2.2.zero k T w y c.2.1 c.1 l).mono ?_;rintro e I ⟨rfl,p2,f⟩;go_wp2_with fail;exact aH (jd rfl _ _ _) rfl ⟨rfl,p2,f⟩
 |false=>
  rw[hb]at d b;rw[aa (by simp)]at b;subst b;rw[vG]at l;clear hb;go_in;go_wp2_with (go_at_call 214;refine ft (d _) ?_);refine(gl a _ T _ t w c.1 (by show T.size+1<=_;omega)).mono ?_;rintro e I ⟨rfl,p2,f⟩;have p:=gE p2 f;clear p2 f;go_wp2_with fail;refine(c.2.2.zero k _ I y c.2.1 p.1 (by rw[ay];show T.size+1+_<=_;omega)).mono ?_;rintro e n ⟨rfl,G,B⟩;have q:E1 (Pr a (B7 (Ax F) m s) (T++⟨#[40]⟩++E k) t n/\Kq a.heap.size w n):=⟨G,p.2.trans B⟩;clear G B;go_wp2_with fail;refine(gl a _ _ _ t n q.1 (by rw[ay,ay];show T.size+1+_+1<=_;omega)).mono ?_;rintro e J ⟨rfl,H,C⟩;have r:E1 (Pr a (B7 (Ax F) m s) (T++zF (E k)) t J/\Kq a.heap.size w J):=⟨by unfold zF;rw[<-dh,<-dh];exact H,q.2.trans C⟩;clear H C;go_wp2_with fail;go_end0
  exact⟨rfl,r.1,r.2⟩
def Kq.box{b k:Nat}(h:Kq b w w')(a:mD k w 62 N vn vk)(d:k≠b):mD k w' 62 N vn vk:=by
 refine(h.block k (aj a) d ?_).trans a;intro e f c;unfold mD at a;rw[a]at c;cases c
def af8{p:Addr}{i:Nat}{v:B2}(h:W.cell? (p.add i)=Ax v)(a:i≠0):W.cell? ⟨p.block,p.off+i,A0⟩=Ax v:=by
 unfold Addr.add at h;rw[aa a]at h;exact h
def Wr(c:A3)(e:B2)(t:Int)(f:FuncId)(args:Array B2)(d:ByteArray):Prop:=
 ∀(a:ByteArray)(b:A3),Pr c e a t b->a.size+d.size<=140737488355328->B4 U f args b λg w'=>g= A9 (Ck #[])/\Pr c e (a++d) t w'/\Kq c.heap.size b w'
def Dn(a:ByteArray):Wr w0 vt t 50 #[B5 (Ax ⟨w0.heap.size,0,A0⟩),A5 a] a:=λb c e d=>gl w0 _ b a _ c e d
abbrev pW(a:A3):B2:= B5 (Ax ⟨a.heap.size,0,A0⟩)
abbrev apb(N:Nd)(vn vk:B2):Obj:= .cells #[Y Z N.k,Y Z N.f,Y Z N.t,Y Z N.l,Y Z N.op,Y Z N.n,A5 N.x,vn,vk] 62
structure NdR (w0:A3) (p1:Addr) (i:Nat) (N:Nd) (an:Option Addr) (M cn:Nat) (ak:Option Addr) (L ck:Nat):Prop where
 nm:dk w0 (.slice an M cn) N.nm
 ks:dB w0 (.slice ak L ck) N.ks
 hM:N.nm.length=M
 hL:N.ks.length=L
 cap:L<=ck
 rd:∀W,B1 w0.heap.size w0 W->ado W (p1.add (i*9)) N (.slice an M cn) (.slice ak L ck)
def Do(e:A3)(c:Addr)(ns:List Nd):Prop:=
 ∀a N d b,ns[a]?=Ax N->e.cell? ⟨(c.add (a*9)).block,(c.add (a*9)).off+8,A0⟩=Ax (B7 d N.ks.length b)->N.ks.length<=b
def yx{e:Addr}{n h:Nat}(k:eK w0 (B7 (Ax e) n h) ns)(m:Do w0 e ns){i:Nat}(o:i<ns.length):∃c g d b L ck,NdR w0 e i (ae ns i) c g d b L ck:=by
 have f:=Ho o;obtain⟨q,j,s,r,a⟩:=k.get f;cases j;obtain⟨c,d,rfl⟩:=a.hn.form;obtain⟨b,ck,rfl⟩:=a.hk.form;exact⟨c,_,d,b,_,ck,a.hn,a.hk,rfl,rfl,m i _ b ck f a.c8,λp l=>a.below l⟩
abbrev NdC(W:A3)(a:Addr)(N:Nd)(vn vk:B2):Prop:=W.cell? a=Ax (Y Z N.k)/\W.cell? ⟨a.block,a.off+1,A0⟩=Ax (Y Z N.f)/\W.cell? ⟨a.block,a.off+2,A0⟩=Ax (Y Z N.t)/\W.cell? ⟨a.block,a.off+3,A0⟩=Ax (Y Z N.l)/\W.cell? ⟨a.block,a.off+4,A0⟩=Ax (Y Z N.op)/\W.cell? ⟨a.block,a.off+5,A0⟩=Ax (Y Z N.n)/\W.cell? ⟨a.block,a.off+6,A0⟩=Ax (A5 N.x)/\W.cell? ⟨a.block,a.off+7,A0⟩=Ax vn/\W.cell? ⟨a.block,a.off+8,A0⟩=Ax vk
structure Bx (w0:A3) (vt:B2) (t:Int) (w:A3) (N:Nd) (vn vk:B2) (T:ByteArray) (W:A3):Prop where
 pr:Pr w0 vt T t W
 kq:Kq w0.heap.size w W
 bx:mD w.heap.size W 62 N vn vk
def Bx.new(h:Pr w0 vt T t w)(N:Nd)(vn vk:B2):Bx w0 vt t w N vn vk T (w.alloc (apb N vn vk)):=by
 have a:B1 w.heap.size w (w.alloc (apb N vn vk)):=(ai _ w).alloc (ag _) _;exact⟨h.below a,Kq.of_below a,aB w _⟩
def Bx.next{b:ByteArray}{a:A3}(h:Bx w0 vt t w N vn vk T W)(c:w0.heap.size<w.heap.size)(p:Pr w0 vt b t a)(k:Kq w0.heap.size W a):Bx w0 vt t w N vn vk b a:=
 ⟨p,h.kq.trans k,k.box h.bx (by omega)⟩
def Bx.below{a:A3}(h:Bx w0 vt t w N vn vk T W)(b:B1 W.heap.size W a):Bx w0 vt t w N vn vk T a:=
 ⟨h.pr.below b,h.kq.trans (Kq.of_below b),h.bx.below b⟩
def Bx.cells(h:Bx w0 vt t w N vn vk T W):W.cell? ⟨w.heap.size,0,A0⟩=Ax (Y Z N.k)/\W.cell? ⟨w.heap.size,1,A0⟩=Ax (Y Z N.f)/\W.cell? ⟨w.heap.size,2,A0⟩=Ax (Y Z N.t)/\W.cell? ⟨w.heap.size,3,A0⟩=Ax (Y Z N.l)/\W.cell? ⟨w.heap.size,4,A0⟩=Ax (Y Z N.op)/\W.cell? ⟨w.heap.size,5,A0⟩=Ax (Y Z N.n)/\W.cell? ⟨w.heap.size,6,A0⟩=Ax (A5 N.x)/\W.cell? ⟨w.heap.size,7,A0⟩=Ax vn/\W.cell? ⟨w.heap.size,8,A0⟩=Ax vk:=by
 obtain⟨a,b,c,d,e,g,i,j,m,o⟩:=be h.bx;exact⟨a,b,c,d,e,g,i,j,m⟩
def Bx.kid0{a:Addr}{L ck:Nat}(h:Bx w0 vt t w N vn (B7 (Ax a) L ck) T W)(c:dB w0 (B7 (Ax a) L ck) N.ks){q:Int}(d:N.ks[0]?=Ax q):W.cell? a=Ax (Y Z q):=by
 obtain⟨f,b,e⟩:=(c.below h.pr.bel).get d;cases b;simpa [Addr.add] using e
def Bx.kid{a:Addr}{L ck:Nat}(h:Bx w0 vt t w N vn (B7 (Ax a) L ck) T W)(d:dB w0 (B7 (Ax a) L ck) N.ks){j:Nat}{q:Int}(e:N.ks[j]?=Ax q)(c:j≠0):W.cell? ⟨a.block,a.off+j,A0⟩=Ax (Y Z q):=by
 obtain⟨g,b,f⟩:=(d.below h.pr.bel).get e;cases b;exact af8 f c
def Bx.name0{a:Addr}{b c:Nat}(h:Bx w0 vt t w N (B7 (Ax a) b c) vk T W)(e:dk w0 (B7 (Ax a) b c) N.nm)(f:N.nm[0]?=Ax s):W.cell? a=Ax (A5 s):=by
 obtain⟨i,d,g⟩:=(e.below h.pr.bel).get f;cases d;simpa [Addr.add] using g
def dB.ptr{a:Option Addr}{L ck:Nat}{l:List Int}(h:dB W (B7 a L ck) l)(c:0<l.length:=by omega):∃e,a=Ax e:=by
 obtain⟨d,b,_⟩:=h.get (aA c);exact⟨d,b⟩
def dk.ptr{a:Option Addr}{L ck:Nat}{l:List ByteArray}(h:dk W (B7 a L ck) l)(c:0<l.length:=by omega):∃e,a=Ax e:=by
 obtain⟨d,b,_⟩:=h.get (aA c);exact⟨d,b⟩
def Bx.stp{a:ByteArray}{f:FuncId}{args:Array B2}{Q:Ending->A3->Prop}{V:A3}(c:E1 (Bx w0 vt t w N vn vk T V))(e:B1 V.heap.size V W)(S:E1 (Wr w0 vt t f args a))(h:w0.heap.size<w.heap.size)(g:T.size+a.size<=140737488355328)(k:∀d,Bx w0 vt t w N vn vk (T++a) d->Q (A9 (Ck #[])) d):B4 U f args W Q:=
 (S _ _ (c.below e).pr g).mono λj i b=>b.1 ▸ k i ((c.below e).next h b.2.1 b.2.2)
def Bx.fin{b:ByteArray}(a:E1 (Bx w0 vt t w N vn vk b W))(e:b=T):Ending.returned (Ck #[])= A9 (Ck #[])/\Pr w0 vt T t W/\Kq w0.heap.size w W:=⟨rfl,e ▸ a.pr,a.kq⟩
section
variable (w0 : World) (vt : Value) (t : Nat)
abbrev WE(q:Nat)(a:ByteArray):Prop:=Wr w0 vt t 98 #[pW w0,Y Z (q:Int),Y Z 0] a
abbrev WB(q:Nat)(a:ByteArray):Prop:=Wr w0 vt t 95 #[pW w0,Y Z (q:Int)] a
abbrev WD(q:Nat)(a:ByteArray):Prop:=Wr w0 vt t 99 #[pW w0,Y Z (q:Int)] a
abbrev WX(l:List Int)(b:ByteArray):Prop:=∀a,dB w0 a l->Wr w0 vt t 97 #[pW w0,a] b
abbrev WA(q:Nat)(a:ByteArray):Prop:=Wr w0 vt t 173 #[pW w0,Y Z (q:Int)] a
end
def add_add(a:Addr)(i j:Nat):(a.add i).add j=a.add (i+j):=by
 unfold Addr.add;by_cases b:i=0
 .subst b;simp
 .by_cases c:j=0
  .subst c;simp[b]
  .simp[b,c];omega
def dB.take{a:Option Addr}{n c:Nat}{l:List Int}(h:dB W (B7 a n c) l)(k:Nat)(f:k<=l.length):dB W (B7 a k c) (l.take k):=by
 rcases h with⟨rfl,d,g,e⟩|⟨d,g,e,j⟩
 .have:k=0:=by simpa using f
  subst this;exact .inl ⟨rfl,a,c,rfl⟩
 .cases e;by_cases i:k=0
  .subst i;exact .inl ⟨by simp,_,_,rfl⟩
  .refine .inr ⟨d,c,by rw[gC,vv f],λm o b=>j m o ?_⟩;rw[mJ]at b;split at b
   .exact b
   .cases b
def dB.drop{a:Addr}{n c b:Nat}{l:List Int}(h:dB W (B7 (Ax a) n c) l)(k m:Nat)(q:k<=l.length)(j:m=l.length-k):dB W (B7 (Ax (a.add k)) m b) (l.drop k):=by
 subst j;rcases h with⟨rfl,f,g,d⟩|⟨f,g,d,i⟩
 .exact .inl ⟨by simp,Ax (a.add k),b,by simp⟩
 .cases d;refine .inr ⟨a.add k,b,by rw[ig],λo p e=>?_⟩;rw[sj]at e;rw[add_add];exact i (k+o) p e
def amp(k:Int):fC k=0\/fC k=1\/fC k=2\/fC k=3\/fC k=4\/fC k=5\/fC k=6:=by
 unfold fC
 repeat' split
 all_goals simp
def FE(w:A3)(b:Nat)(N:Nd)(vn x:B2)(y:Int)(s:∃a n c,vn= .slice a n c)(h:gJ w b N vn y x):
  B4 U 33 #[gg N.k b] w λe w'=>e= .returned (jl (oy N (fC N.k)) (tJ vn (fC N.k)) (.slice A0 0 0))/\B1 w.heap.size w w':=by
 obtain⟨z,H,A,rfl⟩:=s;unfold gJ at h;unfold gg;have G:=λw=>ak5 b w;have B:=λw=>asT b w;have C:=λw=>asF b w;have v:=λw=>fJ b w;have E:=aj h;have F:b<w.heap.size+1:=by omega
 have r:∀d g,B1 w.heap.size w ((w.alloc d).alloc g).drew:=λd g=>bH (((ai _ w).alloc (ag _) d).alloc (by simp) g);have c:=λu=>am w b u _ _ _ h;have i:=c 0;have j:=c 1;have m:=c 2;have o:=c 3;have p:=c 6;have q:=c 7;clear c h;unfold jl;rcases amp N.k with hc|hc|hc|hc|hc|hc|hc;all_goals
  simp only[hc,exT,po,oy,tJ,ez,eu]at i j m o p q⊢;simp at i j m o p q;go_in;go_wp2_with (go_at_call 303;refine ft (v _) ?_);all_goals
   go_region_held3 (λw'=>w'.cell? ⟨b,0,A0⟩=Ax (.int .i64 N.k)/\w'.cell? ⟨b,1,A0⟩=Ax (.int .i64 N.f)/\w'.cell? ⟨b,2,A0⟩=Ax (.int .i64 N.t)/\w'.cell? ⟨b,3,A0⟩=Ax (.int .i64 N.l)) (go_keep) (fail)
   go_wp2_with fail;all_goals exact aH (gA rfl _ _ w.heap.size _ _ _ _ rfl ((dG _ _ _ (by simp)).trans (aB w _)) Tryz.underlying62 rfl (by kernel_rfl)) rfl ⟨by simp[*],r _ _⟩
def apc:ByteArray:=⟨#[116,97,114,103,101,116,32]⟩
def um(q:Nat):ByteArray:=⟨(C2 [116,97,114,103,101,116,32] q).toArray⟩
def vH(q:Nat):(um q).size=7*q:=by
 have a:(um q).size=(C2 [116,97,114,103,101,116,32] q).length:=by simp[um,ByteArray.size]
 rw[a,Lib.repeatL_length];simp;omega
def J0(a b:Nat):um (a+b)=um a++um b:=by
 apply jD;rw[kC];show(C2 _ (a+b)).toArray=(C2 _ a).toArray++(C2 _ b).toArray;rw[Lib.repeatL_add];simp
def aeb(q d:Nat)(h:d<=q):(um q).extract 0 (7*d)=um d:=by
 obtain⟨b,rfl⟩:=Nat.exists_eq_add_of_le h;rw[J0];apply jD;rw[ByteArray.data_extract,kC];have a:(um d).data.size=7*d:=vH d;rw[<-a];apply Array.ext';simp;apply db;rw[fD];exact ag _
def aqJ(ts:Array E2)(t:E2)(x a z c:Int)(W:A3)(h:(if z<(if a<x then a else x) then z else(if a<x then a else x))=c):
  (Builtin.min_ ts t #[Y Z x,Y Z a,Y Z z]).run U W= .ok (Y Z c) W:=by
 rw[<-h];simp[Builtin.min_,Builtin.min2]
def J1(m:Nat)(w:A3)(a8:m+2<=200):
  B4 U 197 #[A5 ⟨#[116,97,114,103,101,116,32]⟩,Y Z ((m+2:Nat):Int)] w λe w'=>e= A9 (A5 (um (m+2)))/\B1 w.heap.size w w':=by
 have l:=Tryz.bits_Mul 7 (m+2) (by omega) (by omega) w;rw[Nat.div_eq_of_lt (by omega:7*(m+2)<18446744073709551616),Nat.mod_eq_of_lt (by omega:7*(m+2)<18446744073709551616)]at l;obtain⟨d,y⟩:=aF (7*(m+2));rw[y]at l;have p:=aq y;have bb:(d:Int)<=1400:=by omega
 have bd:14<=d:=by omega
 clear y;go_in;go_wp2_with (go_at_call 229;refine l.mono ?_;rintro e w' ⟨rfl,rfl⟩);obtain⟨a,rfl⟩:∃a,a=w':=⟨_,rfl⟩;have ak:=afG a.heap.size a.heap.size d (a.alloc (.cells #[B5 A0,B7 A0 0 0] 259)) (ag _) (aB a _) (by simp) (by omega) (by omega);refine ak.mono ?_;rintro e al ⟨rfl,J,K⟩;have af:B1 a.heap.size a (a.alloc (.cells #[B5 A0,B7 A0 0 0] 259)):=(ai _ a).alloc (ag _) _;have t:=af.trans K;have F:Bu a.heap.size a.heap.size ⟨#[]⟩ al:= .inr J;have A:=FA a.heap.size a.heap.size ⟨#[]⟩ apc al F (by decide) t.size;rw[show(⟨#[]⟩:ByteArray)++apc=um 1 from rfl]at A;have av:=aq t;clear ak J K af F t l;go_wp21
 refine A.mono ?_;rintro e an ⟨rfl,G,L⟩;have ar:E1 (Bu a.heap.size a.heap.size (um 1) an/\B1 a.heap.size a an):=⟨G,av.out.trans L⟩;clear A G L;go_wp21
 go_loopg [] (m+1) (λI ap=>∃b:Nat,1<=b/\b+I=m+2/\E1 (Bu a.heap.size a.heap.size (um b) ap/\B1 a.heap.size a ap))
 case atStart=>exact⟨1,ag _,by omega,ar⟩
 case round=>
  obtain⟨b,a9,ba,g⟩:=hrel;have k:=Tryz.Builder_Len_f a.heap.size a.heap.size _ wr g.1;rw[Lib.strCells_length,vH]at k;have v:=aas a.heap.size a.heap.size _ wr g.1 g.2.size;obtain⟨f,n⟩:=aF (7*b);have i:=aq n;rw[n]at k;obtain⟨r,hS⟩:=aF (um b);have q:=aq hS;have a0:r.size=f:=by rw[<-hS,vH,n]
  rw[hS]at v;clear n hS;cases gk with
  |zero=>
   obtain rfl:b=m+2:=by omega
   have ax:¬((f:Int)<(d:Int)):=by have:=p.out;have:=i.out;omega
   go_wp2_with (first|(go_at_call 232;refine k.mono ?_;rintro e a3 ⟨rfl,z⟩;rw[z])|(go_at_call 233;refine v.mono ?_;rintro e w5 ⟨rfl,s,o⟩));go_ret;exact⟨by rw[q.out];rfl,g.2.trans o⟩
  |succ I=>
   obtain⟨c,a1⟩:=aF (min (m+2-b) b);have a5:1<=c:=by omega
   have a2:c<=b:=by omega
   have a6:b+c<=m+2:=by omega
   obtain⟨h,x⟩:=aF (7*c);have ax:(f:Int)<(d:Int):=by have:=p.out;have:=i.out;omega
   have a4:h<=f:=by have:=i.out;omega
   have a7:∀(C:Array E2)(B:E2)(j:A3),(Builtin.min_ C B #[Y Z ((d:Int)-(f:Int)),Y Z (f:Int),Y Z (d:Int)]).run U j= .ok (Y Z (h:Int)) j:=λC B j=>aqJ C B _ _ _ _ j (by
    have:=p.out;have:=i.out;split<;>split<;>omega)
   have E:E1 (7*c=h/\r.extract 0 h=um c):=⟨x,by rw[<-x,<-q.out];exact aeb b c a2⟩;clear a1 x;go_wp2_with (first|(go_at_call 232;refine k.mono ?_;rintro e a3 ⟨rfl,z⟩;rw[z])|(go_at_call 233;refine v.mono ?_;rintro e w5 ⟨rfl,s,o⟩));rw[E.out.2];have u:=g.2.trans o;refine(FA a.heap.size a.heap.size r (um c) w5 s (by rw[a0,vH,E.out.1];omega) u.size).mono ?_;rintro e ao ⟨rfl,H,ad⟩;have au:E1 (Bu a.heap.size a.heap.size (um (b+c)) ao/\B1 a.heap.size a ao):=⟨by rw[J0,q.out];exact H,u.trans ad⟩;clear s o H ad u;go_wp21
   go_roundg (m+2-(b+c))
   case measure=>omega
   case rel=>exact⟨b+c,by omega,by omega,au⟩
def aaw(n:Nat)(w:A3)(a:n<=200):
  B4 U 197 #[A5 ⟨#[116,97,114,103,101,116,32]⟩,Y Z (n:Int)] w λe w'=>e= A9 (A5 ⟨(C2 [116,97,114,103,101,116,32] n).toArray⟩)/\B1 w.heap.size w w':=by
 match n,a with
 |0,_=>
  go_in;go_wp2_with fail;go_ret;exact⟨rfl,ai _ _⟩
 |1,_=>
  go_in;go_wp2_with fail;go_ret;exact⟨rfl,ai _ _⟩
 |m+2,a=>exact J1 m w a
