import Derived.Test.YtbkolnpplhbdmaaGreatDoorHPl07
import Derived.Test.YtbkolnpplhbdmaaGreatDoorHPl06
import Derived.Test.YtbkolnpplhbdmaaGreatDoorHPl13
set_option linter.all false
set_option maxRecDepth 100000
set_option maxHeartbeats 6400000
open Go.Proofs.Tryz
open ByteArray renaming empty->O
open Go.Value renaming int->U,string->A0,slice->Br,pointer->B0,tuple->B2,agg->B6,bool->B7
open Go.IntKind renaming i64->Y
open Go.Proofs.Tryz renaming prog->Z
open Option renaming some->Ad,none->Ax
open Go.Lib renaming decDigits->Ak,hasPrefix->A5,TabIs->Ce
open Bool renaming true->A1,false->A3
open Go renaming World->A2,Value->A9,Calls->Bn
open Go.Ending renaming returned->Bc
open Go.Calls renaming quiet_of_same->Bk
open Go.Instr renaming index->B1
open Go.RowKit renaming intOf->B3,Hid->B4
namespace Go.Proofs.YtbkolnpplhbdmaaGreatDoor
open Go.RowKit Go.Maps Go.WideMaps
variable{N:Nd}{T s:ByteArray}{W w w' w0:World}{fr l t:Int}{k:Bool}{m vk vn vt:Value}{ns:List Nd}
def hxd(u:Nat)(j:Nat):Int:=ry ((u / 16 ^ j%16:Nat):Int)
def hxO(u:Nat):Nat->ByteArray
 |0=>⟨#[48,120]⟩
 |r+1=>hxO u r++fH [hxd u (15-r)]
def Nat.pow_mul_two16(k:Nat):(2:Int) ^ (4*k)=(16:Int) ^ k:=by rw[Int.pow_mul];rfl
def ss(u:Nat):∀r,(hxO u r).size=r+2
 |0=>rfl
 |r+1=>by show(hxO u r++fH [hxd u (15-r)]).size=_;rw[au,ss u r];rfl
def agL(d:Int)(b:0<=d)(c:d<16)(w:A2):(B1 9 (A0 ⟨#[48,49,50,51,52,53,54,55,56,57,97,98,99,100,101,102]⟩) (U .u64 d)).run Z w= .ok (U .u8 (ry d)) w:=by
 have a:d.toNat<DG.size:=by simp only[DG];show d.toNat<16;omega
 have e:=amf d b c a;go_simp;exact e
def aqE(c:Int)(a:0<=c)(b:c<18446744073709551616):bits .and .u64 c 15=c%16:=by
 have:=bits_mask .u64 64 (by decide) (λf d e=>by rw[IntKind.wrap_u64];omega) 4 (by decide) c a b;simpa using this
def ae1(n:Int)(y: -9223372036854775808<=n)(z:n<0)(w:A2):Bn Z 211 #[U Y n] w (jf w (A0 (hxO (n+18446744073709551616).toNat 16))):=by
 obtain⟨c,v⟩:∃c:Nat,(c:Int)=n+18446744073709551616:=⟨(n+18446744073709551616).toNat,by omega⟩;rw[show(n+18446744073709551616).toNat=c by omega];obtain⟨d,o⟩:∃d:Int,d=(c:Int):=⟨_,rfl⟩;have L:IntKind.u64.wrap n=d:=by rw[IntKind.wrap_u64];omega
 have J:0<=d:=by omega
 have K:d<18446744073709551616:=by omega
 have k:=am o;have F:¬0<=n:=by omega
 clear o v;go_in;go_wp2_with fail;go_loopw [4,5] (λx i wr=>∃b:Nat,b<=16/\i= U Y (60-4*(b:Int))/\x= A0 (hxO c b)/\cg w wr) (λ_ i _=>(B3 i+4).toNat)
 case atStart=>exact⟨0,by omega,rfl,rfl,ah _ _⟩
 case round=>
  obtain⟨b,G,rfl,rfl,g⟩:=hrel;by_cases A:b<16
  .obtain⟨e,h⟩:∃e:Int,60-4*(b:Int)=e:=⟨_,rfl⟩;have C:0<=e:=by omega
   have E:e<=60:=by omega
   obtain⟨a,q⟩:∃a:Int,d / 2 ^ e.toNat=a:=⟨_,rfl⟩;have f:a=((c / 16 ^ (15-b):Nat):Int):=by
    rw[<-q,k.out,show e.toNat=4*(15-b) by omega,Nat.pow_mul_two16,Int.natCast_ediv];rfl
   have r:0<=a:=by rw[f];exact Int.natCast_nonneg _
   have s:a<18446744073709551616:=by
    rw[f];have:=Nat.div_le_self c (16 ^ (15-b));have:=k.out;omega
   have l:0<=a%16:=by omega
   have m:a%16<16:=by omega
   have t:bits .and .u64 a 15=a%16:=aqE a r s;have u:=λw=>agL (a%16) l m w;have j:B4 (fH [ry (a%16)]=fH [hxd c (15-b)]):=by
    show _=_;unfold hxd;rw[f];rfl
   generalize a%16=D at l m t u j;have B:=λw=>oD (zJ w (ry D));have H:=ss c b;have I:(fH [ry D]).size=1:=rfl;have p:=am h;rw[h];clear f h;go_wp2;go_roundw
   case rel=>exact⟨b+1,by omega,by have:=p.out;congr 1;omega,by rw[j.out];rfl,g.alloc g.size _⟩
   case measure=>simp[B3];omega
  .obtain rfl:b=16:=by omega
   go_wp2;go_ret;exact⟨rfl,g⟩
def p2(w:A2):Bn Z 280 #[U Y 16] w (jt w (B7 A1)):=by
 have a:bits .and Y 16 15=0:=by decide+kernel
 go_in;go_wp2;go_ret;exact⟨rfl,rfl⟩
def KI(a b:List Int):fH (a++b)=fH a++fH b:=by
 have h:∀(d:List Int)(c:ByteArray),d.foldl (λe f=>e.push (UInt8.ofNat f.toNat)) c=c++d.foldl (λe f=>e.push (UInt8.ofNat f.toNat)) O:=by
  intro d
  induction d with
  |nil=>intro c;simp
  |cons a e g=>
   intro c;rw[kG,kG,g (c.push _),g (ByteArray.empty.push _)];apply kD;simp[ByteArray.push,lg]
 unfold fH;rw[List.foldl_append];exact h b _
def xz(d:List UInt8):List Int:=d.map λa=>(a.toNat:Int)
def Av(d:List UInt8):fH (xz d)=⟨d.toArray⟩:=by
 have g:∀(d:List UInt8)(a:ByteArray),(xz d).foldl (λc h=>c.push (UInt8.ofNat h.toNat)) a=⟨a.data++d.toArray⟩:=by
  intro d
  induction d with
  |nil=>intro a;simp[xz]
  |cons b c f=>
   intro a;show(xz c).foldl _ (a.push (UInt8.ofNat ((b.toNat:Int)).toNat))=_;rw[f];have e:UInt8.ofNat ((b.toNat:Int)).toNat=b:=by simp
   rw[e];simp[ByteArray.push]
 have:=g d O;unfold fH;rw[this];simp
def pre(c:Nat):List Int:=if c=0 then [] else xz (Ak c)
def ag0(c:Nat)(h:c≠0):pre c=pre (c / 10)++[48+((c%10:Nat):Int)]:=by
 have d:∀b,b<10->(((UInt8.ofNat (48+b)).toNat:Nat):Int)=48+(b:Int):=λb e=>by
  rw[UInt8.toNat_ofNat',Nat.mod_eq_of_lt (by omega)];omega
 unfold pre;rw[aa h];by_cases a:c<10
 .rw[ab (by omega),Ak,ni a,Nat.mod_eq_of_lt a];show [(((UInt8.ofNat (48+c)).toNat:Nat):Int)]=_;rw[d c a];rfl
 .rw[aa (by omega),Ak,dif_neg a];show List.map _ (_++_)=_;rw[eJ];show xz (Ak (c / 10))++[(((UInt8.ofNat (48+c%10)).toNat:Nat):Int)]=_;rw[d _ (by omega)]
def FI(N:Nat)(av:N≠0)(br:N<=9223372036854775807)(w:A2):Bn Z 236 #[U Y (N:Int)] w (jf w (A0 ⟨(Ak N).toArray⟩)):=by
 obtain⟨f,H⟩:∃f:Int,(N:Int)=f:=⟨_,rfl⟩;rw[H];have b2:0<f:=by omega
 have bf:f<=9223372036854775807:=by omega
 have b4:(f==0)=A3:=by rw[du];omega
 have b3:¬f<0:=by omega
 have ad:=am H;go_in;go_wp2;go_loopw [0,4,5] (λx bk b5 wr=>∃(c:Int) (a:List Int),x= U Y c/\0<=c/\c<=9223372036854775807/\B4 (c.toNat<10 ^ (19-a.length)/\a.length<=19/\xz (Ak N)=pre c.toNat++a.reverse)/\wr.ownsRow w.heap.size 5 1 bk a.length (B8 a)/\cg w wr) (λx _ _ _=>(B3 x).toNat)
 case atStart=>
  refine⟨f,[],rfl,by omega,bf,⟨?_,by simp,?_⟩,fs _ _ _ _,ah _ _⟩
  .have:(10:Nat) ^ (19-([]:List Int).length)=10000000000000000000:=by decide
   rw[this];omega
  .rw[show f.toNat=N by have:=ad.out;omega];unfold pre;rw[aa av];simp
 case round=>
  obtain⟨c,a,rfl,bl,bn,m,t,k⟩:=hrel;by_cases r:c=0
  .subst r;have⟨_,G,a2⟩:=m.out;have E:xz (Ak N)=a.reverse:=a2;have s:0<a.length:=by
    have o:=congrArg List.length E;rw[Hl]at o;have:0<(xz (Ak N)).length:=by
     rw[Ak];split<;>simp[xz]
    omega
   have K:B4 (fH a.reverse=⟨(Ak N).toArray⟩):=by show _=_;rw[<-E,Av]
   rcases t.2 with⟨h,bb⟩|⟨p,al,bo,J,bA,F,_,bE,I,a9⟩
   .have:a=[]:=by
     have bs:(B8 a).length=a.length:=afE a;have:=t.1;simp at bb;omega
    rw[this]at s;simp at s
   .have C:∀j,j<a.length->wr.cell? ⟨p,j,Ax⟩=Ad (U .u8 (a.getD j 0)):=λj a5=>by
     rw[aj _ _ _ _ _ _ F];have e:(B8 a)[j]?=Ad (U .u8 (a.getD j 0)):=by simp[B8,a5,List.getD]
     rw[<-a9,nh]at e;split at e
     .simpa using e
     .cases e
    have a3:p<wr.heap.size:=ai F;have⟨d,q⟩:=aC a.length;rw[q]at s G C J;subst J;have a7:∀b,b<d->a.reverse.take (b+1)=a.reverse.take b++[a.getD (d-1-b) 0]:=λb u=>by
     have o:a.reverse[b]?=Ad (a.getD (d-1-b) 0):=by
      rw[List.getElem?_reverse (by omega),List.getD,q,aw (by omega)];rfl
     rw[iC,o];rfl
    have I:∀b,b<=d->(fH (a.reverse.take b)).size=b:=λb u=>by
     have:∀i:List Int,(fH i).size=i.length:=by
      intro i
      induction i with
      |nil=>rfl
      |cons A B bd=>rw[show A::B=[A]++B from rfl,KI,au,bd,aG];rfl
     rw[this,gJ,Hl];omega
    have ak:=am a7;have L:=am q;go_wp2;go_loopw [6,7] (λbj v wq=>∃b:Nat,b<=d/\v= U Y ((d:Int)-1-(b:Int))/\bj= A0 (fH (a.reverse.take b))/\cg wr wq) (λ_ v _=>(B3 v+1).toNat)
    case atStart=>exact⟨0,by omega,by first|rfl|(congr 1;omega),rfl,ah _ _⟩
    case round=>
     obtain⟨b,u,rfl,rfl,l⟩:=hrel;have a8:=I b u;by_cases ba:b<d
     .obtain⟨g,aK⟩:∃g:Nat,d-1-b=g:=⟨_,rfl⟩;have a1:=(th l a3).trans (C g (by omega));have z:=ak.out b ba;rw[aK]at z;have n:B4 (fH (a.reverse.take b)++fH [a.getD g 0]=fH (a.reverse.take (b+1))):=by show _=_;rw[z,KI]
      generalize a.getD g 0=i at a1 n;have bw:=λw=>oD (zJ w i);have b1:(fH [i]).size=1:=rfl;have a4:(d:Int)-1-(b:Int)=(g:Int):=by omega
      have bt:g<d:=by omega
      generalize fH (a.reverse.take b)=bh at a8 n⊢;rw[a4];go_wp2;go_roundw
      case rel=>exact⟨b+1,by omega,by first|rfl|(congr 1;omega),by rw[n.out],l.alloc l.size _⟩
      case measure=>simp[B3]
     .obtain rfl:b=d:=by omega
      have b0:¬(0:Int)<=(b:Int)-1-(b:Int):=by omega
      rw[dl (by rw[Hl,L.out];exact ag _)];have y:=K.out;generalize fH a.reverse=bh at y⊢;subst y;go_wp2;go_ret;exact⟨rfl,k.trans (l.mono k.size)⟩
  .have bx:(c==0)=A3:=by rw[du];exact r
   have bv:(c !=0)=A1:=by rw[yl];exact r
   have bD:¬c%10<0:=by omega
   have G:a.length<=18:=by
    have⟨e,an,_⟩:=m.out;rcases bg a.length 19 with h|h
    .omega
    .rw[show 19-a.length=0 by omega]at e;simp at e;omega
   have af:B4 ((c / 10).toNat<10 ^ (19-(a++[48+c%10]).length)/\(a++[48+c%10]).length<=19/\xz (Ak N)=pre (c / 10).toNat++(a++[48+c%10]).reverse):=by
    have⟨e,an,ao⟩:=m.out;have ar:(a++[48+c%10]).length=a.length+1:=by simp
    refine⟨?_,by omega,?_⟩
    .rw[ar];have ap:10 ^ (19-a.length)=10 ^ (19-(a.length+1))*10:=by rw[<-Nat.pow_succ];congr 1;omega
     rw[ap]at e;have:(c / 10).toNat=c.toNat / 10:=by omega
     rw[this];omega
    .rw[ao,ag0 c.toNat (by omega),show(c / 10).toNat=c.toNat / 10 by omega,show((c.toNat%10:Nat):Int)=c%10 by omega];simp
   go_wp2_with (at_builtin;refine ny rfl (.tmp 20) (.tmp 24) rfl w.heap.size u4 a.length a rfl t k.size (by omega) [48+c%10] 1 rfl (by decide) (by decide) _ rfl rfl ?_;intro p al w1 a6 a0);go_roundw
   case rel=>exact⟨c / 10,a++[48+c%10],by first|rfl|(congr 1;omega),by omega,by omega,af,by rw[aG];exact a6,k.trans (a0.mono (by omega))⟩
   case measure=>simp[B3];omega
structure Lay (w:A2):Prop where
 tabs:ww w
 errs:pf w
 pow:Ce Z w "internal/strconv.uint64pow10" .u64 Lib.pow10Tab
 brj:w.cell? ⟨11,15,Ax⟩=Ad (.int .u8 4)
def Aw{P:Program}{B:Nat}{n:String}{cs:Array A9}(h:w.var? P n=Ad cs)(c:Below B w w')(b:w.heap.size<=B):w'.var? P n=Ad cs:=by
 unfold World.var? at h⊢;cases hg:P.globalNamed n with
 |none=>simp[hg]at h
 |some a=>
  simp only[hg,Cv]at h⊢;have d:a<w.heap.size:=by
   rcases bg a w.heap.size with h'|h'
   .exact h'
   .simp[yc h']at h
  rw[c.block a (iB d b)];exact h
def Lay.below{B:Nat}(h:Lay w)(b:Below B w w')(a:w.heap.size<=B):Lay w':=
 ⟨h.tabs.below b a,h.errs.below b a,Aw h.pow b a,(th b (iB (Cp w _ h.brj) a)).trans h.brj⟩
def ze(n:Int):ByteArray:=if n<0 then hxO (n+18446744073709551616).toNat 16 else⟨(Ak n.toNat).toArray⟩
def ae2(N:Nat)(c:N<=9223372036854775807)(w:A2):Bn Z 236 #[U Y (N:Int)] w (jf w (A0 ⟨(Ak N).toArray⟩)):=by
 by_cases a:N=0
 .subst a;have b:(⟨(Ak 0).toArray⟩:ByteArray)=⟨#[48]⟩:=by rw[Ak,ni (by omega)];rfl
  rw[b];show Bn Z 236 #[U Y 0] w _;go_in;go_wp2;go_ret;exact⟨rfl,ah _ _⟩
 .exact FI N a c w
def ae3(n:Int)(c: -9223372036854775808<=n)(g:n<=9223372036854775807)(w:A2):Bn Z 211 #[U Y n] w (jf w (A0 (ze n))):=by
 unfold ze;by_cases a:n<0
 .rw[ab a];exact ae1 n c a w
 .rw[aa a];have b:∀w,Bn Z 236 #[U Y n] w (jf w (A0 ⟨(Ak n.toNat).toArray⟩)):=λw=>by
   have:=ae2 n.toNat (by omega) w;rw[show((n.toNat:Nat):Int)=n by omega]at this;exact this
  generalize (⟨(Ak n.toNat).toArray⟩:ByteArray)=e at b;have h:0<=n:=by omega
  go_in;go_wp2_with (go_at_call 236;refine(b _).mono ?_;rintro f i ⟨rfl,d⟩);go_ret;exact⟨rfl,d⟩
def Gz(s:ByteArray)(d:s.size<=1100000)(w:A2):Bn Z 173 #[A0 s] w (jf w (A0 s)):=by
 have b:=λw=>Tryz.stringslite_Clone s w (by omega);go_in;go_wp2_with (go_at_call 213;refine(b _).mono ?_;rintro c e ⟨rfl,a⟩);go_ret;exact⟨rfl,a⟩
def bgC(c k:Int):Bool:=decide ((k=1/\bI c=A1)\/((k=2\/k=3)/\cm c=A1)\/(k=4/\c=34))
def bgT(x:ByteArray)(k:Int):Bool:=decide (x.size<=(Dk k).size)&&(((Dk k).extract 0 x.size).toList==x.toList)
def bgL(x:ByteArray):List Int->Bool
 |[]=>A3
 |k::r=>if bgC (aq x 0) k=A1 then A1 else if bgT x k=A1 then A1 else bgL x r
def an0(ks:List Int)(x:ByteArray):Bool:=if x.size=1/\aq x 0=45 then A1 else bgL x ks
def an1(s:ByteArray)(p n:Nat):Bool:=bI (aq s p)&&(!(bI (lk s (p+n)))&&!(cm (lk s (p+n))))
def wrL(s:ByteArray)(p:Nat)(ks:List Int):Nat->Nat->Nat
 |0,n=>n
 |f+1,n=>if p+n<s.size/\an0 ks (s.extract p (p+n+1))=A1 then(if an1 s p (n+1)=A1 then n+1 else wrL s p ks f (n+1)) else n
def an2(s:ByteArray)(p:Nat)(ks:List Int):Nat:=p+wrL s p ks (s.size+1) 0
def C0(s:ByteArray)(p:Nat):Int×ByteArray:=match vK fD (s.extract p (qC s (s.size+1) p)) 22 0 with|some k=>(10+(k:Int),⟨#[]⟩)|none=>(1,s.extract p (qC s (s.size+1) p))
def aqF(s:ByteArray)(p:Nat):wdT s p= B6 #[U Y (C0 s p).1,U Y p,U Y (qC s (s.size+1) p),U Y 0,U Y 0,A0 (C0 s p).2]:=by
 unfold wdT C0;cases vK fD (s.extract p (qC s (s.size+1) p)) 22 0<;>rfl
def acI{b t mb n:Nat}{D:DataW Unit}(h:w.ownsMap Z 9 (plainElem (H:=Unit) Z 3) mb n D)(g:sC b t w w')(e:mb≠b)(f:mb≠t):w'.ownsMap Z 9 (plainElem (H:=Unit) Z 3) mb n D:=by
 obtain⟨d,c,a,i⟩:=h;exact⟨d,c,(g.block mb (ai a) e f).trans a,i⟩
def Iu(s:ByteArray)(bt:s.size<=70000)(b t mb:Nat)(w:A2)(p:Nat)(l v:Int)(an:p<s.size)(j:b≠t)(bf:mb≠b)(bh:mb≠t)(hS:iH b w s (.map (Ad mb)) fr p l A3)(q:fa t w 0 p 0 v 0 O)(a8:w.ownsMap Z 9 (plainElem (H:=Unit) Z 3) mb 22 (zI 22)):
  Bn Z 100 #[.pointer (Ad ⟨b,0,Ax⟩),.pointer (Ad ⟨t,0,Ax⟩)] w λe w'=>e= .returned (.tuple #[])/\sC b t w w'/\iH b w' s (.map (Ad mb)) fr (qC s (s.size+1) p:Int) l A3/\fa t w' (C0 s p).1 p 0 v 0 (C0 s p).2:=by
 have bs:b<w.heap.size:=ai hS;have bv:t<w.heap.size:=ai q;have a7:=xm s (s.size+1) p (fG an);have ar:=λw=>Be s (by omega) p (fG an) w;have⟨A,B,C,F,G,I,J,K⟩:=ij hS;have⟨av,aK,a0,a1,a2,a3,a4⟩:=bm q;unfold C0;generalize qC s (s.size+1) p=a at ar a7;have⟨a6,L⟩:=aC (vK fD (s.extract p a) 22 0);rw[L];have y:=am L;go_in;go_upto_region 0 with fail
 go_cut [16] from 7 (λbr x=>br= .int .i64 (a:Int)/\sC b t w x/\iH b x s (.map (Ad mb)) fr a l A3/\fa t x 0 p 0 v 0 O)
 case first=>
  go_region_with (first|(go_at_call 172;refine(ar _).mono ?_;rintro e w' ⟨rfl,bj⟩;obtain rfl:=bj.symm))
  all_goals
   go_wp2_with fail;go_meet
   case rel=>exact⟨rfl,((sC.refl b t w).setB 3 _).drew,hS.setP _,q.other (dB j) _⟩
 case rest=>
  obtain⟨rfl,al,ad,af⟩:=hcut;have a9:=acI a8 al bf bh;have⟨A,B,C,F,G,I,J,K⟩:=ij ad;have⟨av,aK,a0,a1,a2,a3,a4⟩:=bm af;go_upto_region 1 with fail
  go_quiet (fail)
  have c:=ad.drewN nq;have d:=af.drewN nq;have k:=al.drewN nq;have o:(wc.drewN nq).ownsMap Z 9 (plainElem (H:=Unit) Z 3) mb 22 (zI 22):=a9;generalize wc.drewN nq=z at c d k o⊢;have⟨A,B,C,F,G,I,J,K⟩:=ij c;have⟨av,aK,a0,a1,a2,a3,a4⟩:=bm d;have bl:b<z.heap.size:=ai c;have bn:t<z.heap.size:=ai d;have ao:(s.extract p a).size<=70000:=by rw[qE];omega
  have n:keyOf Z 9 (.string (s.extract p a))=Ad (.string (s.extract p a).data.toList):=keyOf_string_mk underlying9 (by unfold maxLen;omega);have m:=J3 (H:=Unit) (s.extract p a);have u:=λw=>Gz (s.extract p a) (by omega) w;unfold sL at m;rw[y.out]at m;cases a6 with
  |some ap=>
   have ak:=ajH (H:=Unit) (s.extract p a) ap y;have g:Maps.has (zI (H:=Unit) 22) (.string (s.extract p a).data.toList)=A1:=m;generalize s.extract p a=bo at n ak g u ao⊢;go_wp2_with (at_lookup;refine wpList_lookup_own_ok_int _ rfl _ _ 76 rfl 9 3 .i64 ajC underlying76 underlying3 (by kernel_rfl) mb 22 _ rfl o _ _ rfl n ?_;intro E f bk;rw[g];rw[ak]at f;obtain rfl:10+(ap:Int)=E:=by injection f with f;injection f);refine aL (jp rfl _ _ _) rfl ?_;exact⟨rfl,k.setT 0 _,c.other j _,d.setKind _⟩
  |none=>
   have g:Maps.has (zI (H:=Unit) 22) (.string (s.extract p a).data.toList)=A3:=m;obtain⟨bo,r⟩:=aC (s.extract p a);rw[r]at n g u ao⊢;have a5:=am r;clear r;go_wp2_with (first|(at_lookup;refine wpList_lookup_own_ok_int _ rfl _ _ 76 rfl 9 3 .i64 ajC underlying76 underlying3 (by kernel_rfl) mb 22 _ rfl o _ _ rfl n ?_;intro E f bk;rw[g])|(go_at_call 173;refine(u _).mono ?_;rintro e bw ⟨rfl,i⟩;have ba:=c.below i bl;have h:=d.below i bn;have bb:=k.below (i.mono k.size);have tf3:=(bm h).2.2.2.2.2.2;have bx:=(bm h).1;have bA:=(bm h).2.2.2.2.2.1;clear i));go_end0
   exact⟨rfl,(bb.setT 0 _).setT 5 _,(ba.other j _).other j _,by rw[a5.out];exact(h.setKind _).setText _⟩
def ga(s:ByteArray)(a b i:Nat)(d:b<=s.size)(e:a+i<b:=by omega):aq (s.extract a b) i=aq s (a+i):=by
 rw[ti,ti];have c:(s.extract a b).data.toList=(s.data.toList.drop a).take (b-a):=by rw[<-gH,Lib.extract_toList]
 rw[c,nh,ab (by omega),pE]
def jd(s:ByteArray)(a b:Nat)(c:b<=s.size):(s.extract a b).size=b-a:=by rw[qE];omega
def acJ(s:ByteArray)(a b p:Nat)(c:b<=s.size):∀n,a+p+n<=b->tg (s.extract a b) p n=tg s (a+p) n
 |0,_=>rfl
 |n+1,h=>by
  rw[tg,tg,acJ s a b p c n (by omega),ga s a b (p+n) c,fi]
def acK(s:ByteArray)(a b p:Nat)(c:b<=s.size):∀n,a+p+n<=b->qL (s.extract a b) p n=qL s (a+p) n
 |0,_=>rfl
 |n+1,h=>by
  rw[qL,qL,acK s a b p c n (by omega),ga s a b (p+n) c,fi]
def ue(s:ByteArray)(p:Nat):Int×Int×ByteArray:=
 if aq s p=48/\aq s (p+1)=120 then(2,wrap64 (tg s (p+2) ((dF s p).1-(p+2)):Int),⟨#[]⟩)
 else match (if DC s p=A1 then Ax else qL s p ((dF s p).1-p)) with
  |some a=>(2,(a:Int),⟨#[]⟩)
  |none=>(3,0,s.extract p (dF s p).1)
def an4(s:ByteArray)(p:Nat)(a:(dF s p).2=A1):FD s p= B6 #[U Y (ue s p).1,U Y p,U Y ((dF s p).1:Int),U Y 0,U Y (ue s p).2.1,A0 (ue s p).2.2]/\yF s p= -1:=by
 unfold FD yF ue;by_cases b:aq s p=48/\aq s (p+1)=120
 .have c:dF s p=nB s (p+2):=by unfold dF;rw[ab b]
  rw[c]at a⊢;simp only[ab b];unfold hxA hxF;rw[ab a,ab a];exact⟨rfl,rfl⟩
 .have c:dF s p=oe s (nA1 s (nA0 s p)):=by unfold dF;rw[aa b]
  rw[c]at a⊢;simp only[aa b];unfold nmA nmF;rw[ab a,ab a];cases DC s p with
  |true=>exact⟨rfl,rfl⟩
  |false=>
   simp only[aa (show ¬A3=A1 by simp)];cases qL s p ((oe s (nA1 s (nA0 s p))).1-p)<;>exact⟨rfl,by trivial⟩
def ag1(s:ByteArray)(p:Nat)(a:(dF s p).2=A3):yF s p=((dF s p).1:Int):=by
 unfold yF;by_cases b:aq s p=48/\aq s (p+1)=120
 .have c:dF s p=nB s (p+2):=by unfold dF;rw[ab b]
  rw[c]at a⊢;rw[ab b];unfold hxF;rw[aa (by rw[a];simp)]
 .have c:dF s p=oe s (nA1 s (nA0 s p)):=by unfold dF;rw[aa b]
  rw[c]at a⊢;rw[aa b];unfold nmF;rw[aa (by rw[a];simp)]
def ae4(s:ByteArray)(p:Nat)(j:p<s.size)(g:cm (aq s p)=A1)(o:¬(aq s p=48/\aq s (p+1)=120)):Aa (s.extract p (dF s p).1)=Option.map (λu:Nat=>(u:Int)) (if DC s p=A1 then Ax else qL s p ((dF s p).1-p)):=by
 have c:=wd s p j;have q:=jd s p (dF s p).1 c.2;have b:∀a,p+a<(dF s p).1->aq (s.extract p (dF s p).1) a=aq s (p+a):=λa i=>ga s p _ a c.2 i;have f:cm (aq (s.extract p (dF s p).1) 0)=A1:=by rw[b 0 (by omega)];exact g
 have d:dF s p=oe s (nA1 s (nA0 s p)):=by unfold dF;rw[aa o]
 have k:=Ds s p j;have l:=Dt s _ k.2;have r:=aaD s _ l.2;cases hk:DC s p with
 |false=>
  have⟨m,e⟩:=Ia s p g hk;have t:(dF s p).1=nA0 s p:=by rw[d,m]
  rw[Kd _ (by omega) (λa i=>by rw[b a (by omega)];exact e _ (by omega) (by omega))];rw[q,acK s p _ 0 c.2 _ (by omega),fL];simp
 |true=>
  simp only[kF,Option.map_none];unfold DC at hk;rcases aB hk with h|h
  .have n:nA0 s p<(dF s p).1:=by
    have:nA0 s p<nA1 s (nA0 s p):=by
     unfold nA1;rw[ab h];have:=td s (nA0 s p+1) (by have:=rA h.2;omega);omega
    rw[d];omega
   exact yD _ f (nA0 s p-p) (by omega) (by rw[b _ (by omega),show p+(nA0 s p-p)=nA0 s p by omega,h.1];decide)
  .have n:nA1 s (nA0 s p)<(dF s p).1:=by
    have e:=agk s _ h;have v:=td s _ e.2;rw[d];unfold oe;rw[ab h];simp only;omega
   exact yD _ f (nA1 s (nA0 s p)-p) (by omega) (by rw[b _ (by omega),show p+(nA1 s (nA0 s p)-p)=nA1 s (nA0 s p) by omega,h];decide)
def KJ(s:ByteArray)(E:s.size<=1100000)(p:Nat)(l:p<s.size)(q:cm (aq s p)=A1)(u:(dF s p).2=A1)(w:A2)(o:pf w):
  Bn Z 175 #[A0 (s.extract p (dF s p).1)] w λe w'=>(((ue s p).1=2/\e= Bc (B2 #[U Y (ue s p).2.1,B7 A1])/\(ue s p).2.2=⟨#[]⟩)\/((ue s p).1=3/\(∃x,e= Bc (B2 #[U Y x,B7 A3]))/\(ue s p).2.1=0/\(ue s p).2.2=s.extract p (dF s p).1))/\cg w w':=by
 have f:=wd s p l;have y:=jd s p (dF s p).1 f.2;have c:∀b,p+b<(dF s p).1->aq (s.extract p (dF s p).1) b=aq s (p+b):=λb t=>ga s p _ b f.2 t;by_cases a:aq s p=48/\aq s (p+1)=120
 .have e:dF s p=nB s (p+2):=by unfold dF;rw[ab a]
  have r:nB s (p+2)=((dF s p).1,A1):=by rw[<-e];exact Prod.ext rfl u
  have⟨z,A,B,n⟩:=Ke r;refine(Gq _ (by rw[c 0 (by omega)];exact a.1) (by rw[c 1 (by omega)];exact a.2) (by omega) (by omega) (λb g d=>by rw[c b (by omega)];exact n _ (by omega) (by omega)) w).mono ?_;rintro m w' ⟨rfl,i⟩;rw[y,acJ s p _ 2 f.2 _ (by omega)];have h:ue s p=(2,wrap64 (tg s (p+2) ((dF s p).1-(p+2)):Int),⟨#[]⟩):=by unfold ue;rw[ab a]
  rw[h];exact⟨.inl ⟨rfl,by rw[show(dF s p).1-p-2=(dF s p).1-(p+2) by omega],rfl⟩,i⟩
 .have v:¬(aq (s.extract p (dF s p).1) 0=48/\aq (s.extract p (dF s p).1) 1=120):=by
   rintro ⟨g,d⟩;have C:=aH d;rw[c 0 (by omega)]at g;rw[c 1 (by omega)]at d;exact a ⟨g,d⟩
  refine(Gr _ (by omega) v w o).mono ?_;rintro m w' ⟨⟨x,rfl,j⟩,i⟩;rw[ae4 s p l q a]at j⊢;refine⟨?_,i⟩;have h:ue s p=match (if DC s p=A1 then Ax else qL s p ((dF s p).1-p)) with|some k=>(2,(k:Int),⟨#[]⟩)|none=>(3,0,s.extract p (dF s p).1):=by unfold ue;rw[aa a]
  rw[h];cases hc:(if DC s p=A1 then Ax else qL s p ((dF s p).1-p)) with
  |some k=>
   rw[hc]at j;have:=j k rfl;subst this;exact .inl ⟨rfl,rfl,rfl⟩
  |none=>exact .inr ⟨rfl,⟨x,rfl⟩,rfl,rfl⟩
def D7(s:ByteArray)(bx:s.size<=70000)(b t:Nat)(w:A2)(m:A9)(p:Nat)(l H:Int)(G:p<s.size)(bf:cm (aq s p)=A1)(d:b≠t)(hS:iH b w s m fr p l A3)(o:fa t w 0 p 0 H 0 O)(E:pf w)(bt:12<=b)(bv:12<=t):
  Bn Z 102 #[B0 (Ad ⟨b,0,Ax⟩),B0 (Ad ⟨t,0,Ax⟩)] w λe w'=>e= Bc (B2 #[])/\sC b t w w'/\
   (if(dF s p).2=A1 then iH b w' s m fr ((dF s p).1:Int) l A3/\fa t w' (ue s p).1 p 0 H (ue s p).2.1 (ue s p).2.2 else iH b w' s m fr ((dF s p).1:Int) l A1/\fa t w' 0 p 0 H 0 O):=by
 have bw:b<w.heap.size:=ai hS;have bA:t<w.heap.size:=ai o;have J:=wd s p G;have z:=λw=>wJ s (by omega) p G w;have y:=λbj w E=>KJ s (by omega) p G bf bj w E;have⟨a3,a4,a5,a6,a7,a8,a9,ba⟩:=ij hS;have⟨ao,A,B,ap,ar,av,aK⟩:=bm o;generalize ue s p=a2 at y;obtain⟨bD,bE,b0⟩:=a2;generalize dF s p=a1 at z J y;obtain⟨c,br⟩:=a1;simp only at z J y⊢;cases br with
 |false=>
  simp only[Cn,if_false];go_in;go_upto_region 0 with fail
  go_quiet ((go_at_call 174;exact Bk (z _)))
  have g:=(hS.drewN nq).setP (c:Int);have h:=(o.drewN nq).other (a:=⟨b,3,Ax⟩) (dB d) (U Y (c:Int));have v:=((sC.refl b t w).drewN nq).setB 3 (U Y (c:Int));go_wp2;refine aL (jp rfl _ _ _) rfl ?_;exact⟨rfl,v.setB 5 _,g.setK _,h.other (dB d) _⟩
 |true=>
  simp only[kF];have bo:=y rfl;go_in;go_upto_region 0 with fail
  go_quiet ((go_at_call 174;exact Bk (z _)))
  have g:=(hS.drewN nq).setP (c:Int);have h:=(o.drewN nq).other (a:=⟨b,3,Ax⟩) (dB d) (U Y (c:Int));have v:=((sC.refl b t w).drewN nq).setB 3 (U Y (c:Int));have F:pf ((w.drewN nq).setCell ⟨b,3,Ax⟩ (U Y (c:Int))):=by
   obtain⟨⟨A,bs,K⟩,⟨B,p2,L⟩⟩:=E;refine⟨⟨A,bs,?_⟩,⟨B,p2,?_⟩⟩
   .unfold World.cell? at K⊢;rw[ay _ _ _ _ (by simp;omega)];exact K
   .unfold World.cell? at L⊢;rw[ay _ _ _ _ (by simp;omega)];exact L
  go_upto_region 4 with fail
  generalize (w.drewN nq).setCell ⟨b,3,Ax⟩ (U Y (c:Int))=I at g h v F⊢;have⟨a3,a4,a5,a6,a7,a8,a9,ba⟩:=ij g;have⟨ao,A,B,ap,ar,av,aK⟩:=bm h;go_quiet (fail)
  have k:=g.drewN nq;have q:=h.drewN nq;have j:=v.drewN nq;have ad:pf (I.drewN nq):=⟨F.syn,F.rng⟩;generalize I.drewN nq=C at k q j ad⊢;have af:b<C.heap.size:=ai k;have ak:t<C.heap.size:=ai q;have bn:(s.extract p c).size<=70000:=by rw[qE];omega
  have al:=λw=>Gz (s.extract p c) (by omega) w;have an:=bo C ad;generalize s.extract p c=b1 at al an bn⊢;go_wp2_with fail;refine an.mono ?_;rintro e a0 ⟨(⟨rfl,rfl,rfl⟩|⟨rfl,⟨b3,rfl⟩,rfl,rfl⟩),f⟩
  .have n:=k.below f af;have i:=q.below f ak;have x:=j.below (f.mono j.size);have⟨ao,A,B,ap,ar,av,aK⟩:=bm i;go_wp2;refine aL (jp rfl _ _ _) rfl ?_;exact⟨rfl,(x.setT 0 _).setT 4 _,(n.other d _).other d _,(i.setKind _).setNum _⟩
  .have n:=k.below f af;have i:=q.below f ak;have x:=j.below (f.mono j.size);have bk:b<a0.heap.size:=ai n;have bl:t<a0.heap.size:=ai i;go_wp2_with (go_at_call 173;refine(al _).mono ?_;rintro e b2 ⟨rfl,u⟩;have bb:=n.below u bk;have r:=i.below u bl;have bh:=x.below (u.mono x.size);have tf4:=(bm r).2.2.2.2.2.2;have b4:=(bm r).1;have b5:=(bm r).2.2.2.2.2.1;clear u);go_end0
   exact⟨rfl,(bh.setT 0 _).setT 5 _,(bb.other d _).other d _,(r.setKind _).setText _⟩
def asq(k:Nat)(a:k<11)(w:A2):(B1 223 (B6 jr) (U Y (k:Int))).run Z w= .ok (A0 (ch jr k)) w:=by
 iterate 11 (obtain _|k:=k;· kernel_rfl)
 omega
def asr(k:Nat)(a:k<18)(w:A2):(B1 224 (B6 lH) (U Y (k:Int))).run Z w= .ok (A0 (ch lH k)) w:=by
 iterate 18 (obtain _|k:=k;· kernel_rfl)
 omega
def osz:∀k:Fin 11,(ch jr k.val).size<=3:=by decide
def bsz:∀k:Fin 18,(ch lH k.val).size<=3:=by decide
def xA(V:Array A9)(base:Int)(r:ByteArray):Nat->Nat->Int×Nat->Int×Nat
 |0,_,a=>a
 |f+1,i,a=>xA V base r f (i+1) (if a.2<(ch V i).size/\A5 r.data.toList (ch V i).data.toList=A1 then(base+(i:Int),(ch V i).size) else a)
structure FJ (V:Array A9) (base:Int) (r:ByteArray) (f i:Nat) (a R:Int×Nat):Prop where
 out:xA V base r f i a=R
def pc(r:ByteArray):Int:=if aq r 0=59 then 5 else if aq r 0=10 then 7 else(xA lH 61 r 18 0 (xA jr 40 r 11 0 (0,0))).1
def Iv(r:ByteArray)(a6:r.size<=70000)(aK:0<r.size)(w:A2)(a0:ww w):Bn Z 177 #[A0 r] w (jt w (U Y (pc r))):=by
 unfold pc;have G:∀w,(B1 9 (A0 r) (U Y 0)).run Z w= .ok (U .u8 (aq r 0)) w:=λw=>dG aK w;by_cases s:aq r 0=59
 .rw[ab s];rw[s]at G;go_in;go_wp2;go_ret;exact⟨rfl,rfl⟩
 rw[aa s];by_cases p:aq r 0=10
 .rw[ab p];rw[p]at G;go_in;go_wp2;go_ret;exact⟨rfl,rfl⟩
 rw[aa p];have av:(aq r 0==59)=A3:=by rw[du];exact s
 have ar:(aq r 0==10)=A3:=by rw[du];exact p
 generalize aq r 0=a5 at G av ar;clear s p;obtain⟨-,⟨a1,ao,af⟩,⟨a2,ap,ad⟩⟩:=a0;have ak:=λa t w=>asq a t w;have L:=λa t w=>asr a t w;obtain⟨y,A⟩:∃y:Array A9,jr=y:=⟨_,rfl⟩;obtain⟨x,z⟩:∃x:Array A9,lH=x:=⟨_,rfl⟩;have an:B4 (∀a:Nat,a<11->∀w,(B1 223 (B6 y) (U Y (a:Int))).run Z w= .ok (A0 (ch jr a)) w):=by rw[<-A];exact ak
 have al:B4 (∀a:Nat,a<18->∀w,(B1 224 (B6 x) (U Y (a:Int))).run Z w= .ok (A0 (ch lH a)) w):=by rw[<-z];exact L
 rw[A]at af;rw[z]at ad;have a3:y.size=11:=by rw[<-A];rfl
 have a4:x.size=18:=by rw[<-z];rfl
 clear ak L A z;obtain⟨j,C⟩:=aC (xA jr 40 r 11 0 (0,0));rw[C];obtain⟨n,E⟩:=aC (xA lH 61 r 18 0 j);rw[E];have J:FJ jr 40 r 11 0 (0,0) j:=⟨C⟩;have K:FJ lH 61 r 18 0 j n:=⟨E⟩;clear C E;go_in;go_wp2_with (refine vB rfl 223 _ rfl 2 rfl a1 _ ao _ af underlying223 rfl (by rw[a3];kernel_rfl) ?_);go_loop [3,4,16] (λH I l=>∃(a c:Nat) (d:Int),a<=11/\c<=3/\H= U Y d/\I= U Y c/\l= U Y a/\FJ jr 40 r (11-a) a (d,c) j) (λ_ _ l=>11-(B3 l).toNat)
 case atStart=>exact⟨0,0,0,by omega,by omega,rfl,rfl,rfl,J⟩
 case round=>
  obtain⟨a,c,d,t,m,rfl,rfl,rfl,i⟩:=hrel;by_cases u:a<11
  .have F:=an.out a u;have v:(ch jr a).size<=3:=osz ⟨a,u⟩;have b:=i.out;rw[show 11-a=(11-(a+1))+1 by omega,xA]at b;have h:=λw=>Tryz.strings_HasPrefix r (ch jr a) w;generalize ch jr a=e at F v b h;by_cases o:c<e.size
   .have B:(c:Int)<(e.size:Int):=by omega
    by_cases f:A5 r.data.toList e.data.toList=A1
    .rw[ab ⟨o,f⟩]at b;have g:FJ jr 40 r (11-(a+1)) (a+1) (40+(a:Int),e.size) j:=⟨b⟩;rw[f]at h;clear b f;go_wp2_with (go_at_call 51;refine fC (h _) ?_);go_round
     case rel=>exact⟨a+1,e.size,40+(a:Int),by omega,v,by go_num,rfl,by go_num,g⟩
     case measure=>simp[B3];omega
    .have q:A5 r.data.toList e.data.toList=A3:=by simpa using f
     rw[aa (λk=>f k.2)]at b;have g:FJ jr 40 r (11-(a+1)) (a+1) (d,c) j:=⟨b⟩;rw[q]at h;clear b f q;go_wp2_with (go_at_call 51;refine fC (h _) ?_);go_round
     case rel=>exact⟨a+1,c,d,by omega,m,rfl,rfl,by go_num,g⟩
     case measure=>simp[B3];omega
   .have B:¬(c:Int)<(e.size:Int):=by omega
    rw[aa (λk=>o k.1)]at b;have g:FJ jr 40 r (11-(a+1)) (a+1) (d,c) j:=⟨b⟩;clear b;go_wp2;go_round
    case rel=>exact⟨a+1,c,d,by omega,m,rfl,rfl,by go_num,g⟩
    case measure=>simp[B3];omega
  .obtain rfl:a=11:=by omega
   have b:=i.out;rw[fx,xA]at b;subst b;clear i J;go_wp2_with (refine vB rfl 224 _ rfl 3 rfl a2 _ ap _ ad underlying224 rfl (by rw[a4];kernel_rfl) ?_);go_loop [3,4,35] (λH I l=>∃(a c:Nat) (d:Int),a<=18/\c<=3/\H= U Y d/\I= U Y c/\l= U Y a/\FJ lH 61 r (18-a) a (d,c) n) (λ_ _ l=>18-(B3 l).toNat)
   case atStart=>exact⟨0,c,d,by omega,m,rfl,rfl,rfl,K⟩
   case round=>
    obtain⟨a,c,d,t,m,rfl,rfl,rfl,i⟩:=hrel;by_cases u:a<18
    .have F:=al.out a u;have v:(ch lH a).size<=3:=bsz ⟨a,u⟩;have b:=i.out;rw[show 18-a=(18-(a+1))+1 by omega,xA]at b;have h:=λw=>Tryz.strings_HasPrefix r (ch lH a) w;generalize ch lH a=e at F v b h;by_cases o:c<e.size
     .have B:(c:Int)<(e.size:Int):=by omega
      by_cases f:A5 r.data.toList e.data.toList=A1
      .rw[ab ⟨o,f⟩]at b;have g:FJ lH 61 r (18-(a+1)) (a+1) (61+(a:Int),e.size) n:=⟨b⟩;rw[f]at h;clear b f;go_wp2_with (go_at_call 51;refine fC (h _) ?_);go_round
       case rel=>exact⟨a+1,e.size,61+(a:Int),by omega,v,by go_num,rfl,by go_num,g⟩
       case measure=>simp[B3];omega
      .have q:A5 r.data.toList e.data.toList=A3:=by simpa using f
       rw[aa (λk=>f k.2)]at b;have g:FJ lH 61 r (18-(a+1)) (a+1) (d,c) n:=⟨b⟩;rw[q]at h;clear b f q;go_wp2_with (go_at_call 51;refine fC (h _) ?_);go_round
       case rel=>exact⟨a+1,c,d,by omega,m,rfl,rfl,by go_num,g⟩
       case measure=>simp[B3];omega
     .have B:¬(c:Int)<(e.size:Int):=by omega
      rw[aa (λk=>o k.1)]at b;have g:FJ lH 61 r (18-(a+1)) (a+1) (d,c) n:=⟨b⟩;clear b;go_wp2;go_round
      case rel=>exact⟨a+1,c,d,by omega,m,rfl,rfl,by go_num,g⟩
      case measure=>simp[B3];omega
    .obtain rfl:a=18:=by omega
     have b:=i.out;rw[fx,xA]at b;subst b;clear i K;go_wp2;go_ret;exact⟨rfl,rfl⟩
def ww.setCell(h:ww w){a:Addr}(l:12<=a.block)(v:A9):ww (w.setCell a v):=by
 obtain⟨⟨i,b,e⟩,⟨j,c,f⟩,⟨k,d,g⟩⟩:=h;exact⟨⟨i,b,(ay w a _ v (by omega)).trans e⟩,⟨j,c,(ay w a _ v (by omega)).trans f⟩,⟨k,d,(ay w a _ v (by omega)).trans g⟩⟩
def ww.drewN(h:ww w)(n:Nat):ww (w.drewN n):=⟨h.word,h.mark,h.bin⟩
def Ix:∀k:Fin 79,(dK (k.val:Int)).size<=6:=by decide+kernel
def ag2(k:Int):(dK k).size<=6:=by
 by_cases a:0<=k/\k<=78
 .have:=Ix ⟨k.toNat,by omega⟩;simp only[show((k.toNat:Nat):Int)=k by omega]at this;exact this
 .unfold dK;rw[aa (by omega),aa (by omega),aa (by omega),aa (by omega),aa (by omega)];decide
def aba(V:Array A9)(base:Int)(r:ByteArray)(d:0<=base)(N:Int):∀(f i:Nat)(a:Int×Nat),0<=a.1->a.1<=N->base+((i+f:Nat):Int)<=N+1->0<=(xA V base r f i a).1/\(xA V base r f i a).1<=N
 |0,i,a,b,c,_=>⟨b,c⟩
 |f+1,i,a,b,c,e=>by
  unfold xA;refine aba V base r d N f (i+1) _ ?_ ?_ (by omega)
  .split
   .simp only;omega
   .exact b
  .split
   .simp only;omega
   .exact c
def ag3(r:ByteArray):0<=pc r/\pc r<=78:=by
 unfold pc;split
 .omega
 split
 .omega
 have a:=aba jr 40 r (by omega) 50 11 0 (0,0) (by simp) (by simp) (by simp);exact aba lH 61 r (by omega) 78 18 0 _ a.1 (by omega) (by simp)
def abb(b t:Nat)(a:A2)(s:ByteArray)(m:A9)(fr:Int)(p:Nat)(l c k:Int):Prop:=
 if k=0 then iH b a s m fr p l A1/\fa t a 0 p 0 c 0 O else iH b a s m fr ((p:Int)+((dK k).size:Int)) (if k=7 then l+1 else l) A3/\fa t a k p 0 c 0 O
def Iy(s:ByteArray)(av:s.size<=70000)(b t:Nat)(w:A2)(m:A9)(p:Nat)(l J:Int)(aK:p<s.size)(ar:0<=l)(ap:l<=100000)(h:b≠t)(hS:iH b w s m fr p l A3)(j:fa t w 0 p 0 J 0 O)(d:ww w)(al:12<=b)(an:12<=t):
  Bn Z 104 #[B0 (Ad ⟨b,0,Ax⟩),B0 (Ad ⟨t,0,Ax⟩)] w λe w'=>e= Bc (B2 #[])/\sC b t w w'/\abb b t w' s m fr p l J (pc (s.extract p s.size)):=by
 have ao:b<w.heap.size:=ai hS;have a1:t<w.heap.size:=ai j;have a0:(s.extract p s.size).size=s.size-p:=jd s p s.size (ag _);have o:=λw d=>Iv (s.extract p s.size) (by omega) (by omega) w d;have ad:=ag3 (s.extract p s.size);generalize pc (s.extract p s.size)=c at o ad;have⟨A,B,C,E,F,G,H,I⟩:=ij hS;have⟨a2,a3,a4,a5,a6,a7,a8⟩:=bm j;unfold abb;by_cases u:c=0
 .subst u;simp only[kF];go_in;go_upto_region 0 with fail
  go_quiet ((go_at_call 177;exact Bk (o _ (d.drewN _))))
  go_wp2;refine aL (jp rfl _ _ _) rfl ?_;exact⟨rfl,((sC.refl b t w).drewN _).setB 5 _,(hS.drewN _).setK _,(j.drewN _).other (dB h) _⟩
 have af:(c==0)=A3:=by rw[du];exact u
 have y:=λw d=>Fv c (by omega) (by omega) w d;have K:=ag2 c;generalize dK c=q at y K;simp only[aa u];by_cases v:c=7
 .subst v;simp only[kF];go_in;go_upto_region 0 with fail
  go_quiet ((go_at_call 177;exact Bk (o _ (d.drewN _))))
  have g:=((hS.drewN nq).setL (l+1)).other (a:=⟨t,0,Ax⟩) h (U Y 7);have k:=((j.drewN nq).other (a:=⟨b,4,Ax⟩) (dB h) (U Y (l+1))).setKind 7;have n:=(((sC.refl b t w).drewN nq).setB 4 (U Y (l+1))).setT 0 (U Y 7);have f:=((d.drewN nq).setCell (a:=⟨b,4,Ax⟩) (by simp;omega) (U Y (l+1))).setCell (a:=⟨t,0,Ax⟩) (by simp;omega) (U Y 7);go_upto_region 6 with fail
  generalize ((w.drewN nq).setCell ⟨b,4,Ax⟩ (U Y (l+1))).setCell ⟨t,0,Ax⟩ (U Y 7)=i at g k n f⊢;have⟨A,B,C,E,F,G,H,I⟩:=ij g;have r:ww i.drew:=⟨f.word,f.mark,f.bin⟩;have z:=y i.drew r;have L:IntKind.i64.wrap ((p:Int)+(q.size:Int))=(p:Int)+(q.size:Int):=by rw[dr];omega
  go_region_with (first|(go_at_call 107;refine z.mono ?_;rintro e w' ⟨rfl,x⟩;obtain rfl:=x.symm))
  all_goals
   go_end0
   exact⟨rfl,(n.setB 3 _).drew,g.setP _,k.other (dB h) _⟩
 .have ak:(c==7)=A3:=by rw[du];exact v
  simp only[aa v];go_in;go_upto_region 0 with fail
  go_quiet ((go_at_call 177;exact Bk (o _ (d.drewN _))))
  have g:=(hS.drewN nq).other (a:=⟨t,0,Ax⟩) h (U Y c);have k:=(j.drewN nq).setKind c;have n:=((sC.refl b t w).drewN nq).setT 0 (U Y c);have f:=(d.drewN nq).setCell (a:=⟨t,0,Ax⟩) (by simp;omega) (U Y c);go_upto_region 6 with fail
  generalize (w.drewN nq).setCell ⟨t,0,Ax⟩ (U Y c)=i at g k n f⊢;have⟨A,B,C,E,F,G,H,I⟩:=ij g;have r:ww i.drew:=⟨f.word,f.mark,f.bin⟩;have z:=y i.drew r;have L:IntKind.i64.wrap ((p:Int)+(q.size:Int))=(p:Int)+(q.size:Int):=by rw[dr];omega
  go_region_with (first|(go_at_call 107;refine z.mono ?_;rintro e w' ⟨rfl,x⟩;obtain rfl:=x.symm))
  all_goals
   go_end0
   exact⟨rfl,(n.setB 3 _).drew,g.setP _,k.other (dB h) _⟩
structure Rd where
 ok:Bool
 a:Nat
 d:Int
 k:Int
 n:Int
 x:ByteArray
def db(s:ByteArray)(p:Nat):Rd:=
 if bI (aq s p)=A1 then⟨A1,qC s (s.size+1) p,0,(C0 s p).1,0,(C0 s p).2⟩
 else if cm (aq s p)=A1 then(if(dF s p).2=A1 then⟨A1,(dF s p).1,0,(ue s p).1,(ue s p).2.1,(ue s p).2.2⟩ else⟨A3,(dF s p).1,0,0,0,O⟩)
 else if aq s p=34 then(if(gc s (s.size+1) (p+1) []).1=A1 then⟨A1,(gc s (s.size+1) (p+1) []).2.1,0,4,0,fH (gc s (s.size+1) (p+1) []).2.2⟩ else⟨A3,(gc s (s.size+1) (p+1) []).2.1,0,0,0,O⟩)
 else if pc (s.extract p s.size)=0 then⟨A3,p,0,0,0,O⟩ else⟨A1,p+(dK (pc (s.extract p s.size))).size,if pc (s.extract p s.size)=7 then 1 else 0,pc (s.extract p s.size),0,O⟩
def aqG(b t:Nat)(w c:A2)(s:ByteArray)(m:A9)(fr:Int)(p:Nat)(l:Int)(R:Rd):Prop:=sC b t w c/\iH b c s m fr (R.a:Int) (l+R.d) (!R.ok)/\fa t c R.k p 0 l R.n R.x
def Lay.blocks(h:Lay w)(a:∀k,k<12->w'.heap[k]?=w.heap[k]?):Lay w':=by
 obtain⟨⟨⟨p,f,m⟩,⟨q,g,n⟩,⟨r,i,o⟩⟩,⟨⟨s,j,c⟩,⟨t,l,d⟩⟩,b,e⟩:=h;refine⟨⟨⟨p,f,(a _ (by decide)).trans m⟩,⟨q,g,(a _ (by decide)).trans n⟩,⟨r,i,(a _ (by decide)).trans o⟩⟩,⟨⟨s,j,?_⟩,⟨t,l,?_⟩⟩,?_,?_⟩
 .unfold World.cell? at c⊢;rw[a _ (by decide)];exact c
 .unfold World.cell? at d⊢;rw[a _ (by decide)];exact d
 .unfold Ce World.var? at b⊢;rw[show Tryz.prog.globalNamed "internal/strconv.uint64pow10" =Ad 9 by kernel_rfl]at b⊢;simp only[Cv]at b⊢;rw[a _ (by decide)];exact b
 .unfold World.cell? at e⊢;rw[a _ (by decide)];exact e
def oq{x e z:A2}{b:Option Nat}(h:x.grownBy e b)(k:e.grownBy z b):x.grownBy z b:=
 ⟨k.os.trans h.os,k.tape.trans h.tape,k.output.trans h.output,bG h.size k.size,λd a c=>(k.block d (iB a h.size) c).trans (h.block d a c)⟩
def ae5(s:ByteArray)(J:s.size<=70000)(b mb:Nat)(w:A2)(p:Nat)(l:Int)(A:p<s.size)(ce:0<=l)(cd:l<=100000)(a3:mb≠b)(ca:12<=b)(hS:iH b w s (.map (Ad mb)) fr p l A3)(av:w.ownsMap Z 9 (plainElem (H:=Unit) Z 3) mb 22 (zI 22))(a9:Lay w):
  Bn Z 52 #[B0 (Ad ⟨b,0,Ax⟩)] w λe w'=>e= Bc (B6 #[U Y (db s p).k,U Y p,U Y ((db s p).a:Int),U Y l,U Y (db s p).n,A0 (db s p).x])/\w.grownBy w' (Ad b)/\iH b w' s (.map (Ad mb)) (p:Int) ((db s p).a:Int) (l+(db s p).d) (!(db s p).ok):=by
 have a1:b<w.heap.size:=ai hS;have bo:mb<w.heap.size:=av.lt;have cw:=λw=>dG A w;have⟨L,ad,af,ak,al,an,ao,ap⟩:=ij hS;have⟨b1,b7⟩:=acn hS;have⟨a5,bf⟩:=aC (db s p);rw[bf];have bv:=am bf;go_in;go_wp2_with fail;have F:=hS.setF (p:Int);have bb:=acI (t:=b) av ((sC.refl b b w).setB 2 (U Y (p:Int))) a3 a3;have ba:Lay (w.setCell ⟨b,2,Ax⟩ (U Y (p:Int))):=a9.blocks (λk I=>ay _ _ _ _ (by simp only;omega));have a2:w.grownBy (w.setCell ⟨b,2,Ax⟩ (U Y (p:Int))) (Ad b):=⟨rfl,rfl,rfl,by simp[World.setCell],λk I q=>ay _ _ _ _ (λe=>q (by rw[e]))⟩;have K:(w.setCell ⟨b,2,Ax⟩ (U Y (p:Int))).heap.size=w.heap.size:=by simp[World.setCell]
 have⟨bx,bA,bD,bE,b0,b4,b5,b6⟩:=ij F;obtain⟨b2,b8⟩:=acn F;rw[<-K];rw[<-K]at a1 bo;generalize w.setCell ⟨b,2,Ax⟩ (U Y (p:Int))=wN at F bb ba a2 K a1 bo bx bA bD bE b0 b4 b5 b6 b2 b8⊢;have bt:=am a2;clear hS av a9 a2 K L ad af ak al an ao ap b1 b7;go_region
 generalize bk:(wN.alloc _).alloc _=f;obtain⟨G,a0,ar, -⟩:=CD bk;replace G:fa wN.heap.size f 0 0 0 0 0 O:=G;replace a0:fa (wN.heap.size+1) f 0 p 0 l 0 O:=a0;have bh:=F.below ar a1;have u:=ba.below ar (ag _);have cb:f.ownsMap Z 9 (plainElem (H:=Unit) Z 3) mb 22 (zI 22):=by rw[<-bk];exact(bb.alloc _).alloc _
 have⟨L,ad,af,ak,al,an,ao,ap⟩:=ij bh;have q:b≠wN.heap.size+1:=by omega
 go_wp2_with fail;go_quiet (fail)
 go_upto_block 0 with fail
 have y:iH b (f.drew.drewN nq) s (.map (Ad mb)) p p l A3:=bh;have z:fa (wN.heap.size+1) (f.drew.drewN nq) 0 p 0 l 0 O:=a0;have o:sC b (wN.heap.size+1) f (f.drew.drewN nq):=((sC.refl _ _ _).drew).drewN nq;have bd:(f.drew.drewN nq).ownsMap Z 9 (plainElem (H:=Unit) Z 3) mb 22 (zI 22):=cb;have a7:ww (f.drew.drewN nq):=⟨u.tabs.word,u.tabs.mark,u.tabs.bin⟩;have a8:pf (f.drew.drewN nq):=⟨u.errs.syn,u.errs.rng⟩;generalize f.drew.drewN nq=B at y z o bd a7 a8⊢;go_cut [] from 4 (λcp=>aqG b (wN.heap.size+1) f cp s (.map (Ad mb)) p p l a5)
 case first=>
  have ck:=Iu s J b (wN.heap.size+1) mb B p l l A q a3 (by omega) y z bd;have cl:=λcc=>D7 s J b (wN.heap.size+1) B (.map (Ad mb)) p l l A cc q y z a8 (by omega) (by omega);have br:=Di s J b (wN.heap.size+1) B (.map (Ad mb)) p l p l A q y z;have bs:=Iy s J b (wN.heap.size+1) B (.map (Ad mb)) p l l A ce cd q y z a7 ca (by omega);have g:=bv.out;unfold db at g;cases hlt:bI (aq s p) with
  |true=>
   rw[hlt,ab rfl]at g;have m:=am g;have h:=λw=>pF (aq s p) w;rw[hlt]at h;generalize aq s p=a6 at h⊢;go_wp2_with (first|(go_at_call 99;refine(h _).mono ?_;rintro e w' ⟨rfl,rfl⟩)|(go_at_call 100;refine ck.mono ?_;rintro e a4 ⟨rfl,i,c,C⟩));go_meet
   case rel=>rw[<-m.out];exact⟨o.trans i,by simpa using c,C⟩
  |false=>
   rw[hlt,aa (by simp)]at g;have h:=λw=>pF (aq s p) w;rw[hlt]at h;cases hdg:cm (aq s p) with
   |true=>
    rw[hdg,ab rfl]at g;have j:=λw=>lp (aq s p) w;rw[hdg]at j;have m:=am g;have cf:=cl hdg;generalize aq s p=a6 at h j⊢;go_wp2_with (first|(go_at_call 99;refine(h _).mono ?_;rintro e w' ⟨rfl,rfl⟩)|(go_at_call 101;refine(j _).mono ?_;rintro e w' ⟨rfl,rfl⟩)|(go_at_call 102;refine cf.mono ?_;rintro e a4 ⟨rfl,i,c⟩;have r:B4 _:=c));go_meet
    case rel=>
     rw[<-m.out];have c:=r.out;cases hok:(dF s p).2 with
     |true=>rw[hok]at c;simp only[kF]at c⊢;exact⟨o.trans i,by simpa using c.1,c.2⟩
     |false=>rw[hok]at c;simp only[Cn,if_false]at c⊢;exact⟨o.trans i,by simpa using c.1,c.2⟩
   |false=>
    rw[hdg,aa (by simp)]at g;have j:=λw=>lp (aq s p) w;rw[hdg]at j;by_cases E:aq s p=34
    .rw[ab E]at g;have m:=am g;rw[E]at h j⊢;generalize gc s (s.size+1) (p+1) []=bw at br m;go_wp2_with (first|(go_at_call 99;refine(h _).mono ?_;rintro e w' ⟨rfl,rfl⟩)|(go_at_call 101;refine(j _).mono ?_;rintro e w' ⟨rfl,rfl⟩)|(go_at_call 103;refine br.mono ?_;rintro e a4 ⟨rfl,i,c⟩;have r:B4 _:=c));go_meet
     case rel=>
      rw[<-m.out];have c:=r.out;unfold oa at c;obtain⟨cn,cy,cz⟩:=bw;cases cn with
      |true=>simp only[kF]at c⊢;exact⟨o.trans i,by simpa using c.1,c.2⟩
      |false=>simp only[Cn,if_false]at c⊢;exact⟨o.trans i,by simpa using c.1,c.2⟩
    .rw[aa E]at g;have b9:(aq s p==34)=A3:=by rw[du];exact E
     generalize pc (s.extract p s.size)=k at bs g;have m:=am g;generalize aq s p=a6 at h j b9⊢;go_wp2_with (first|(go_at_call 99;refine(h _).mono ?_;rintro e w' ⟨rfl,rfl⟩)|(go_at_call 101;refine(j _).mono ?_;rintro e w' ⟨rfl,rfl⟩)|(go_at_call 104;refine bs.mono ?_;rintro e a4 ⟨rfl,i,c⟩;have r:B4 _:=c));go_meet
     case rel=>
      rw[<-m.out];have c:=r.out;unfold abb at c;by_cases I:k=0
      .rw[ab I]at c⊢;exact⟨o.trans i,by simpa using c.1,c.2⟩
      .rw[aa I]at c⊢;refine⟨o.trans i,?_,c.2⟩;have C:=c.1;have b3:(if k=7 then l+1 else l)=l+(if k=7 then 1 else 0):=by split<;>omega
       rw[b3]at C;simpa using C
 case rest=>
  obtain⟨bn,aK,bj⟩:=hcut;have bl:fa wN.heap.size wc 0 0 0 0 0 O:=(bn.block wN.heap.size (ai G) (by omega) (by omega)).trans G;obtain⟨cx,a,d,k,n,x⟩:=a5;simp only at aK bj⊢;have⟨L,ad,af,ak,al,an,ao,ap⟩:=ij aK;have⟨cB,cI,c6,c7,c8,c9,da⟩:=bm bj;have⟨z0,cq,cr,cs,ct,cu,dc⟩:=bm bl;have cv:wN.heap.size<wc.heap.size:=ai bl;go_wp2;refine aL (v:= B6 #[U Y k,U Y p,U Y (a:Int),U Y l,U Y n,A0 x]) (by simp[results,results52,go_sem,z0,cq,cr,cs,ct,cu]) rfl ⟨rfl,?_,?_⟩
  .refine oq bt ?_;exact xj (xj (xj (xj (xj (xj (xj (am9 ar bn (by omega)) _ (by simp)) _ (by simp)) _ (by simp)) _ (by simp)) _ (by simp)) _ (by simp)) _ (by simp)
  .exact((((((aK.other (by simp;omega) _).other (by simp;omega) _).other (by simp;omega) _).other (by simp;omega) _).other (by simp;omega) _).other (by simp;omega) _).other (by simp;omega) _
def C1(b:Nat)(w:A2)(s:ByteArray)(m:A9)(p l:Int)(k:Bool):Prop:=∃fr,iH b w s m fr p l k
def C1.cells{b:Nat}{p:Int}(h:C1 b w s m p l k):w.cell? ⟨b,0,Ax⟩=Ad (A0 s)/\w.cell? ⟨b,1,Ax⟩=Ad m/\w.cell? ⟨b,3,Ax⟩=Ad (U Y p)/\w.cell? ⟨b,4,Ax⟩=Ad (U Y l)/\w.cell? ⟨b,5,Ax⟩=Ad (B7 k)/\
  w.frozen? ⟨b,3,Ax⟩=A3/\w.frozen? ⟨b,4,Ax⟩=A3/\w.frozen? ⟨b,5,Ax⟩=A3:=by obtain⟨a,h⟩:=h;exact ij h
def C1.pos{b:Nat}{p:Nat}(h:C1 b w s m p l k):Gi b w=p:=by obtain⟨a,h⟩:=h;exact ut h
def C1.setP{b:Nat}{p:Int}(h:C1 b w s m p l k)(x:Int):C1 b (w.setCell ⟨b,3,Ax⟩ (U Y x)) s m x l k:=by obtain⟨a,h⟩:=h;exact⟨a,h.setP x⟩
def acL(i:Nat)(h:i<11):dK (40+(i:Int))=ch jr i:=by
 unfold dK;rw[aa (by omega),aa (by omega),aa (by omega),ab (by omega)];rw[show(40+(i:Int)-40).toNat=i by omega]
def ac0(i:Nat)(h:i<18):dK (61+(i:Int))=ch lH i:=by
 unfold dK;rw[aa (by omega),aa (by omega),aa (by omega),aa (by omega),ab (by omega)];rw[show(61+(i:Int)-61).toNat=i by omega]
def Sgn(r:ByteArray)(k:Int)(n:Nat):Prop:=(k=0/\n=0)\/(n=(dK k).size/\1<=n/\A5 r.data.toList (dK k).data.toList=A1/\k≠0)
def zg(V:Array A9)(base:Int)(r:ByteArray)(N:Nat)(c:0<base)(b:∀i,i<N->dK (base+(i:Int))=ch V i):∀(f i:Nat)(a:Int×Nat),i+f<=N->Sgn r a.1 a.2->Sgn r (xA V base r f i a).1 (xA V base r f i a).2
 |0,i,a,_,h=>h
 |f+1,i,a,e,h=>by
  unfold xA;refine zg V base r N c b f (i+1) _ (by omega) ?_;split
  .rename_i d;refine .inr ⟨?_,?_,?_,?_⟩
   .show(ch V i).size=_;rw[b i (by omega)]
   .show 1<=(ch V i).size;omega
   .show A5 _ (dK (base+(i:Int))).data.toList=A1;rw[b i (by omega)];exact d.2
   .show base+(i:Int)≠0;omega
  .exact h
def akl(r x:ByteArray)(h:A5 r.data.toList x.data.toList=A1):x.size<=r.size:=by
 unfold A5 at h;rw[yd]at h;have:=h.length_le
 rwa [fK,fK]at this
def akm(r:ByteArray)(h:0<r.size)(a:pc r≠0):1<=(dK (pc r)).size/\(dK (pc r)).size<=r.size:=by
 unfold pc at a⊢;split
 .exact⟨by decide,by show 1<=r.size;omega⟩
 split
 .exact⟨by decide,by show 1<=r.size;omega⟩
 rename_i c d;rw[aa c,aa d]at a;have f:=zg jr 40 r 11 (by omega) acL 11 0 (0,0) (by omega) (.inl ⟨rfl,rfl⟩);have g:=zg lH 61 r 18 (by omega) ac0 18 0 _ (by omega) f;rcases g with⟨b,_⟩|⟨b,i,e,_⟩
 .exact absurd b a
 .exact⟨by omega,akl r _ e⟩
def akn(s:ByteArray)(p:Nat)(h:bI (aq s p)=A1):p<qC s (s.size+1) p:=by
 have a:p<s.size:=by
  rcases bg p s.size with h1|h1
  .exact h1
  .exact absurd (.inl h) (Ht (by omega))
 rw[qC,ab (.inl h)];have:=xm s s.size (p+1) (by omega);omega
def nC(s:ByteArray)(p:Nat)(i:p<s.size)(b:(db s p).ok=A1):p<(db s p).a/\(db s p).a<=s.size/\0<=(db s p).d/\(db s p).d<=1:=by
 unfold db at b⊢;split
 .rename_i h;exact⟨akn s p h,(xm s _ p (by omega)).2,by simp,by simp⟩
 split
 .rename_i c e;rw[aa c,ab e]at b;have:=wd s p i;split
  .exact⟨this.1,this.2,by simp,by simp⟩
  .rename_i f;rw[aa f]at b;cases b
 split
 .rename_i c e f;rw[aa c,aa e,ab f]at b;have:=yu s (s.size+1) (p+1) [] (by omega);split
  .exact⟨by simp only;omega,this.2.1,by simp,by simp⟩
  .rename_i g;rw[aa g]at b;cases b
 .rename_i c e f;rw[aa c,aa e,aa f]at b;split
  .rename_i g;rw[ab g]at b;cases b
  .rename_i g;have j:=jd s p s.size (ag _);have:=akm (s.extract p s.size) (by omega) g;refine⟨by simp only;omega,by simp only;omega,?_,?_⟩
   .simp only;split<;>omega
   .simp only;split<;>omega
def JB(c:Int):Bool:=decide (c≠10/\c≠ -1)
def ag4:JB (-1)=A3:=by decide
def xL(s:ByteArray)(p:Nat):Nat:=ix JB s (s.size+1) p
def blk(s:ByteArray):Nat->Nat->Nat
 |0,p=>p
 |f+1,p=>if s.size<=p then p else if ja (aq s p)=A1 then blk s f (p+1) else if aq s p=45/\aq s (p+1)=45 then blk s f (xL s p) else p
def xB(s:ByteArray)(p:Nat)(h:p<=s.size):p<=xL s p/\xL s p<=s.size:=pH JB ag4 s _ p h
def rh(s:ByteArray)(p:Nat)(h:aq s p=45):p<xL s p:=by
 have a:=aH h;unfold xL;rw[ix,ab (by rw[h];decide)];have:=pH JB ag4 s s.size (p+1) (by omega);omega
def zh(s:ByteArray):∀(f g p:Nat),p<=s.size->s.size<p+f->s.size<p+g->blk s f p=blk s g p
 |0,g,p,h,a,b=>by omega
 |f+1,0,p,h,a,b=>by omega
 |f+1,g+1,p,h,a,b=>by
  unfold blk;split
  .rfl
  split
  .exact zh s f g (p+1) (by omega) (by omega) (by omega)
  split
  .rename_i d;have e:=rh s p d.1;have c:=xB s p h;exact zh s f g _ c.2 (by omega) (by omega)
  .rfl
def ou(s:ByteArray):∀(f p:Nat),p<=s.size->p<=blk s f p/\blk s f p<=s.size
 |0,p,h=>⟨ag _,h⟩
 |f+1,p,h=>by
  unfold blk;split
  .exact⟨ag _,h⟩
  split
  .have:=ou s f (p+1) (by omega);omega
  split
  .have a:=xB s p h;have:=ou s f (xL s p) a.2;omega
  .exact⟨ag _,h⟩
def Ay(s:ByteArray)(p:Nat)(a:p<s.size)(h:ja (aq s p)=A1):blk s (s.size+1) p=blk s (s.size+1) (p+1):=by
 rw[blk,aa (by omega),ab h];exact zh s _ _ _ (by omega) (by omega) (by omega)
def ag5(c:Int)(h:c=45):¬ja c=A1:=by subst h;decide
def D8(s:ByteArray)(p:Nat)(h:aq s p=45)(a:aq s (p+1)=45):blk s (s.size+1) p=blk s (s.size+1) (xL s p):=by
 have d:=aH h;have c:=rh s p h;have b:=xB s p (by omega);rw[blk,aa (by omega),aa (ag5 _ h),ab ⟨h,a⟩];exact zh s _ _ _ b.2 (by omega) (by omega)
def Iz(s:ByteArray)(p:Nat)(a:¬ja (aq s p)=A1)(b:¬(aq s p=45/\aq s (p+1)=45)):blk s (s.size+1) p=p:=by
 rw[blk,aa a,aa b];split<;>rfl
def ac1(s:ByteArray)(p:Nat)(h:s.size<=p):blk s (s.size+1) p=p:=by rw[blk,ab h]
def dD(N:Nd)(j:Nat):Int:=N.ks.getD j 0
def ju(l:List ByteArray):ByteArray:=l.foldl (· ++·) O
def Az(x:ByteArray):ByteArray:=⟨#[40]⟩++x++⟨#[41]⟩
def kI(ns:List Nd)(E:Int->ByteArray)(k least:Int):ByteArray:=if iA (ae ns k).k (ae ns k).op<least then Az (E k) else E k
def zi(N:Nd)(a:Int):Int:=if ui N.k N.op=a then a+1 else a
def FK(ns:List Nd)(E:Int->ByteArray)(N:Nd)(sign:ByteArray)(a:Int):ByteArray:=kI ns E (dD N 0) (zi N a)++sign++kI ns E (dD N 1) (ui N.k N.op)
def D9(N:Nd):Bool:=N.k==30&&N.op==19
def unS(ns:List Nd)(N:Nd):ByteArray:=if N.op=21 then⟨#[110,111,116,32]⟩ else if N.op=22 then⟨#[35]⟩ else if N.op=20 then⟨#[126]⟩ else if D9 (ae ns (dD N 0))=A1 then⟨#[45]⟩++⟨#[32]⟩ else⟨#[45]⟩
def unB(ns:List Nd)(E:Int->ByteArray)(N:Nd):ByteArray:=unS ns N++kI ns E (dD N 0) 11
def JC(ns:List Nd)(E:Int->ByteArray)(k:Int):ByteArray:=if qo (ae ns k).k=A1 then E k else Az (E k)
def C3(N:Nd):ByteArray:=
 if N.k=20 then⟨#[110,105,108]⟩ else if N.k=21 then⟨#[116,114,117,101]⟩ else if N.k=22 then⟨#[102,97,108,115,101]⟩ else if N.k=23 then ze N.n
 else if N.k=24\/N.k=26 then N.x else if N.k=25 then fH (ej N.x) else if N.k=27 then⟨#[46,46,46]⟩ else O
def wC(ns:List Nd)(E:Int->ByteArray)(X:Nd):ByteArray:=
 if X.k=41 then⟨#[91]⟩++E (dD X 0)++⟨#[93,32,61,32]⟩++E (dD X 1) else if X.k=42 then(⟨#[46]⟩++X.x++⟨#[32,61,32]⟩)++E (dD X 0) else E (dD X 0)
def ag6(ns:List Nd)(E:Int->ByteArray)(N:Nd):ByteArray:=⟨#[123]⟩++eK (N.ks.map λk=>wC ns E (ae ns k))++⟨#[125]⟩
def Bo(S:Int->Nat->ByteArray)(ks:List Int)(tab:Nat):ByteArray:=
 if ks=[] then⟨#[123,125]⟩ else⟨#[123]⟩++ju (ks.map λk=>jc (tab+1)++S k (tab+1))++jc tab++⟨#[125]⟩
def FL(N:Nd):ByteArray:=⟨#[40]⟩++eK N.nm++(if N.op=1 then(if N.nm=[] then⟨#[46,46,46]⟩ else iI++⟨#[46,46,46]⟩) else O)++⟨#[41,32]⟩
def F3(ns:List Nd)(S:Int->Nat->ByteArray)(N:Nd)(tab:Nat):ByteArray:=FL N++Bo S (ae ns (dD N 0)).ks tab
def prE(ns:List Nd)(E:Int->ByteArray)(S:Int->Nat->ByteArray)(N:Nd)(tab:Nat):ByteArray:=
 if N.k=28 then FK ns E N ⟨#[32,97,110,100,32]⟩ (iA N.k N.op)
 else if N.k=29 then FK ns E N ⟨#[32,111,114,32]⟩ (iA N.k N.op)
 else if N.k=31 then FK ns E N (⟨#[32]⟩++Dk (60+N.op)++⟨#[32]⟩) (iA N.k N.op)
 else if N.k=30 then unB ns E N
 else if N.k=32 then JC ns E (dD N 0)++⟨#[91]⟩++E (dD N 1)++⟨#[93]⟩
 else if N.k=33 then JC ns E (dD N 0)++(⟨#[46]⟩++N.x)
 else if N.k=34 then JC ns E (dD N 0)++⟨#[40]⟩++eK ((N.ks.drop 1).map E)++⟨#[41]⟩
 else if N.k=35 then ag6 ns E N
 else if N.k=36 then⟨#[102,110]⟩++F3 ns S N tab
 else if N.k=37 then Az (E (dD N 0))
 else C3 N
def Ea(ns:List Nd)(E:Int->ByteArray)(S:Int->Nat->ByteArray)(a:Int->ByteArray->ByteArray)(N:Nd)(b:ByteArray)(tab:Nat):ByteArray:=
 b++E (dD N 0)++⟨#[32]⟩++Bo S (ae ns (dD N 1)).ks tab++
  (if N.ks.length<3 then O else if(ae ns (dD N 2)).k=7 then a (dD N 2) ⟨#[32,101,108,105,102,32]⟩ else⟨#[32,101,108,115,101,32]⟩++Bo S (ae ns (dD N 2)).ks tab)
def nm0(N:Nd):ByteArray:=N.nm.getD 0 O
def prS(ns:List Nd)(E:Int->ByteArray)(S:Int->Nat->ByteArray)(a:Int->ByteArray->ByteArray)(N:Nd)(tab:Nat):ByteArray:=
 if N.k=1 then Bo S N.ks tab
 else if N.k=2 then⟨#[108,101,116,32]⟩++eK N.nm++(if N.ks=[] then O else⟨#[32,61,32]⟩++eK (N.ks.map E))
 else if N.k=3 then(⟨#[99,111,110,115,116,32]⟩++nm0 N++⟨#[32,61,32]⟩)++E (dD N 0)
 else if N.k=4 then(⟨#[102,110,32]⟩++nm0 N)++F3 ns S (ae ns (dD N 0)) tab
 else if N.k=5 then eK ((N.ks.take N.n.toNat).map E)++⟨#[32,61,32]⟩++eK ((N.ks.drop N.n.toNat).map E)
 else if N.k=6 then E (dD N 0)
 else if N.k=7 then a (-1) ⟨#[105,102,32]⟩
 else if N.k=8 then⟨#[119,104,105,108,101,32]⟩++E (dD N 0)++⟨#[32]⟩++Bo S (ae ns (dD N 1)).ks tab
 else if N.k=9\/N.k=10 then⟨#[102,111,114,32]⟩++eK N.nm++(if N.k=9 then⟨#[32,61,32]⟩ else⟨#[32,105,110,32]⟩)++eK ((N.ks.take (N.ks.length-1)).map E)++⟨#[32]⟩++Bo S (ae ns (dD N (N.ks.length-1))).ks tab
 else if N.k=11 then⟨#[98,114,101,97,107]⟩
 else if N.k=12 then⟨#[110,101,120,116]⟩
 else if N.k=13 then⟨#[114,101,116,117,114,110]⟩++(if N.ks=[] then O else⟨#[32]⟩++eK (N.ks.map E))
 else if N.k=14 then⟨#[116,114,121,32]⟩++Bo S (ae ns (dD N 0)).ks tab++⟨#[32,99,97,116,99,104,32]⟩++eK N.nm++⟨#[32]⟩++Bo S (ae ns (dD N 1)).ks tab
 else if N.k=15 then⟨#[116,104,114,111,119,32]⟩++E (dD N 0)
 else if N.k=16 then⟨#[100,101,102,101,114,32]⟩++E (dD N 0)
 else O
mutual
def Bp(ns:List Nd):Nat->Int->Nat->ByteArray
 |0,_,_=>O
 |f+1,i,tab=>prE ns (λk=>Bp ns f k tab) (λk t=>ul ns f k t) (ae ns i) tab
def ul(ns:List Nd):Nat->Int->Nat->ByteArray
 |0,_,_=>O
 |f+1,i,tab=>prS ns (λk=>Bp ns f k tab) (λk t=>ul ns f k t) (λ_ w=>Ea ns (λk=>Bp ns f k tab) (λk t=>ul ns f k t) (λk w=>AB ns f k w tab) (ae ns i) w tab) (ae ns i) tab
def AB(ns:List Nd):Nat->Int->ByteArray->Nat->ByteArray
 |0,_,_,_=>O
 |f+1,i,w,tab=>Ea ns (λk=>Bp ns f k tab) (λk t=>ul ns f k t) (λk w=>AB ns f k w tab) (ae ns i) w tab
end
def mI(ns:List Nd):ByteArray:=ju ((ae ns ((ns.length:Int)-1)).ks.map λk=>ul ns ns.length k 0++⟨#[10]⟩)
def IA(ns:List Nd):ByteArray:=if 65536<(mI ns).size then O else mI ns
def AC{b:Nat}(o:Obj)(h:Kq b (w.alloc o) w'):Kq b w w':=(Kq.of_below ((ah _ w).alloc (ag _) o)).trans h
def ae6(g:A2)(j vn vk:A9)(N:Nd)(T:ByteArray)(t:Int)(w:A2)(h:Pr g j T t w)(v:20<=N.k/\N.k<=27)(ak: -9223372036854775808<=N.n)(al:N.n<=9223372036854775807)(u:N.k=25->N.x.size<=4000)(s:T.size+(C3 N).size<=140737488355328):
  Bn Z 171 #[B0 (Ad ⟨g.heap.size,0,Ax⟩),jI N vn vk] w λe w'=>e= Bc (B2 #[])/\Pr g j (T++C3 N) t w'/\Kq g.heap.size w w':=by
 have F:cg w (w.alloc (.cells #[U Y N.k,U Y N.f,U Y N.t,U Y N.l,U Y N.op,U Y N.n,A0 N.x,vn,vk] 34)):=(ah _ w).alloc (ag _) _;have i:B4 (Pr g j T t (w.alloc (.cells #[U Y N.k,U Y N.f,U Y N.t,U Y N.l,U Y N.op,U Y N.n,A0 N.x,vn,vk] 34))/\cg w (w.alloc (.cells #[U Y N.k,U Y N.f,U Y N.t,U Y N.l,U Y N.op,U Y N.n,A0 N.x,vn,vk] 34))):=⟨h.below F,F⟩;have q:=ae3 N.n ak al;obtain⟨an,a⟩:=aC (C3 N);rw[a]at s⊢;unfold C3 at a;clear h F;unfold jI;have c:∀z:Int,N.k=z->(N.k==z)=A1:=λz e=>by simpa using e
 have b:∀z:Int,N.k≠z->(N.k==z)=A3:=λz e=>by simpa using e
 by_cases m:N.k=20
 .have I:=c _ m;rw[ab m]at a;subst a;clear m c b v u q;go_in;go_wp2_with (go_at_call 46;refine(gA g j _ _ _ _ i.1 s).mono ?_;rintro e B ⟨rfl,p2,d⟩);go_end0
  exact⟨rfl,p2,AC _ d⟩
 have I:=b _ m;rw[aa m]at a;by_cases o:N.k=21
 .have J:=c _ o;rw[ab o]at a;subst a;clear m o c b v u q;go_in;go_wp2_with (go_at_call 46;refine(gA g j _ _ _ _ i.1 s).mono ?_;rintro e B ⟨rfl,p2,d⟩);go_end0
  exact⟨rfl,p2,AC _ d⟩
 have J:=b _ o;rw[aa o]at a;by_cases p:N.k=22
 .have K:=c _ p;rw[ab p]at a;subst a;clear m o p c b v u q;go_in;go_wp2_with (go_at_call 46;refine(gA g j _ _ _ _ i.1 s).mono ?_;rintro e B ⟨rfl,p2,d⟩);go_end0
  exact⟨rfl,p2,AC _ d⟩
 have K:=b _ p;rw[aa p]at a;by_cases r:N.k=23
 .have L:=c _ r;rw[ab r]at a;rw[a]at q;clear m o p r c b v u a;go_in;go_wp2_with fail;refine dt (q _) λw1 y=>?_;have C:B4 (Pr g j T t w1/\cg w w1):=⟨i.1.below y,i.2.trans (y.mono i.2.size)⟩;clear y q;go_wp2_with fail;refine(gA g j _ _ _ _ C.1 s).mono ?_;rintro e B ⟨rfl,p2,d⟩;go_wp2_with fail;go_end0
  exact⟨rfl,p2,(Kq.of_below C.2).trans d⟩
 have L:=b _ r;rw[aa r]at a;by_cases e4:N.k=24\/N.k=26
 .rw[ab e4]at a;rcases e4 with e4|e4
  .have H:=c _ e4;rw[a]at i⊢;clear m o p r e4 c b v u q a;go_in;go_wp2_with (go_at_call 46;refine(gA g j _ _ _ _ i.1 s).mono ?_;rintro e B ⟨rfl,p2,d⟩);go_end0
   exact⟨rfl,p2,AC _ d⟩
  .have H:(N.k==24)=A3:=b _ (by omega);have ad:=c _ e4;rw[a]at i⊢;clear m o p r e4 c b v u q a;go_in;go_wp2_with (go_at_call 46;refine(gA g j _ _ _ _ i.1 s).mono ?_;rintro e B ⟨rfl,p2,d⟩);go_end0
   exact⟨rfl,p2,AC _ d⟩
 rw[aa e4]at a;have H:(N.k==24)=A3:=b _ (by omega);have ad:(N.k==26)=A3:=b _ (by omega);by_cases A:N.k=25
 .have af:=c _ A;rw[ab A]at a;have G:=aeA N.x (u A);rw[a]at G;clear m o p r e4 A c b v u a q;go_in;go_wp2_with fail;refine dt (G _) λw1 y=>?_;have C:B4 (Pr g j T t w1/\cg w w1):=⟨i.1.below y,i.2.trans (y.mono i.2.size)⟩;clear y G;go_wp2_with fail;refine(gA g j _ _ _ _ C.1 s).mono ?_;rintro e B ⟨rfl,p2,d⟩;go_wp2_with fail;go_end0
  exact⟨rfl,p2,(Kq.of_below C.2).trans d⟩
 have af:=b _ A;rw[aa A]at a;have E:N.k=27:=by omega
 have ao:=c _ E;rw[ab E]at a;subst a;clear m o p r e4 A E c b v u q;go_in;go_wp2_with (go_at_call 46;refine(gA g j _ _ _ _ i.1 s).mono ?_;rintro e B ⟨rfl,p2,d⟩);go_end0
 exact⟨rfl,p2,AC _ d⟩
def ako(op:Int):3<=(Af op).1/\(Af op).1<=10:=by
 unfold Af
 repeat' split
 all_goals exact⟨by decide,by decide⟩
def Eb(k op:Int):0<iA k op/\iA k op<=12:=by
 have:=ako op;unfold iA
 repeat' split
 all_goals omega
def amn(ns:List Nd)(E:Int->ByteArray)(k:Int):kI ns E k 0=E k:=by
 unfold kI;rw[aa];have:=Eb (ae ns k).k (ae ns k).op;omega
def wn(x:ByteArray):(Az x).size=x.size+2:=by unfold Az;rw[au,au];show 1+x.size+1=_;omega
def IB{k:Nat}(h:k<ns.length):ns[k]?=Ad (ae ns (k:Int)):=by
 unfold ae;rw[iF,List.getD,aw h];rfl
def OkE(b:A2)(c:A9)(ns:List Nd)(E:Int->ByteArray)(t:Int)(B:Nat):Prop:=
 ∀(k:Nat)(a:Int)(T:ByteArray)(W:A2),k<B->gE (ae ns k).k=A1->0<=a->a<=100->Pr b c T t W->T.size+(kI ns E k a).size<=140737488355328->
  Bn Z 94 #[B0 (Ad ⟨b.heap.size,0,Ax⟩),U Y (k:Int),U Y a] W λd w'=>d= Bc (B2 #[])/\Pr b c (T++kI ns E k a) t w'/\Kq b.heap.size W w'
def OkE.zero{E:Int->ByteArray}{B:Nat}(h:OkE w0 vt ns E t B)(k:Nat)(T:ByteArray)(W:A2)(b:k<B)(a:gE (ae ns k).k=A1)(d:Pr w0 vt T t W)(c:T.size+(E k).size<=140737488355328):
  Bn Z 94 #[B0 (Ad ⟨w0.heap.size,0,Ax⟩),U Y (k:Int),U Y 0] W λe w'=>e= Bc (B2 #[])/\Pr w0 vt (T++E k) t w'/\Kq w0.heap.size W w':=by
 have:=h k 0 T W b a (by omega) (by omega) d (by rw[amn];exact c);rw[amn]at this;exact this
def ag7(a:A2)(f:A9)(ns:List Nd)(E:Int->ByteArray)(t:Int)(B:Nat)(F:OkE a f ns E t B)(r:gg a f ns)(H:ns.length<=1048576)(k:Nat)(s:k<B)(u:k<ns.length)(G:gE (ae ns k).k=A1)
  (T:ByteArray) (w:A2) (h:Pr a f T t w) (g:T.size+(JC ns E k).size<=140737488355328):
  Bn Z 169 #[B0 (Ad ⟨a.heap.size,0,Ax⟩),U Y (k:Int)] w λe w'=>e= Bc (B2 #[])/\Pr a f (T++JC ns E k) t w'/\Kq a.heap.size w w':=by
 have I:=IB u;obtain⟨ak,p,rfl⟩:=r.form;obtain⟨v,rfl,ap,ao,C⟩:=(r.below h.bel).get I;have⟨z0,ar,av⟩:=h.cells;have A:=C.c0;have d:=aaK (ae ns k).k;have c:=kK h G F;have⟨j,q⟩:=aC ns.length;rw[q]at z0 c H u;have an:(k:Int)<(j:Int):=by omega
 have al:(0:Int)<=(k:Int):=by omega
 have⟨af,b⟩:=aC (JC ns E k);rw[b]at g⊢;rw[q];unfold JC at b;generalize (ae ns k).k=z at A d b;cases hb:qo z with
 |true=>
  rw[hb]at d b;rw[ab rfl]at b;subst b;go_in;go_wp2_with (go_at_call 210;refine fC (d _) ?_);refine(c.2.2.zero k T w s c.2.1 c.1 g).mono ?_;rintro e x ⟨rfl,p2,i⟩;go_wp2;exact aL (jp rfl _ _ _) rfl ⟨rfl,p2,i⟩
 |false=>
  rw[hb]at d b;rw[aa (by simp)]at b;subst b;rw[wn]at g;go_in;go_wp2_with (go_at_call 210;refine fC (d _) ?_);refine(gA a _ T _ t w c.1 (by show T.size+1<=_;omega)).mono ?_;rintro e x ⟨rfl,p2,i⟩;have m:=gF p2 i;go_wp2_with fail;refine(c.2.2.zero k _ x s c.2.1 m.1 (by rw[au];show T.size+1+_<=_;omega)).mono ?_;rintro e l ⟨rfl,L,J⟩;have n:B4 (Pr a (Br (Ad v) j p) (T++⟨#[40]⟩++E k) t l/\Kq a.heap.size w l):=⟨L,m.2.trans J⟩;go_wp2_with fail;refine(gA a _ _ _ t l n.1 (by rw[au,au];show T.size+1+_+1<=_;omega)).mono ?_;rintro e y ⟨rfl,ad,K⟩;have o:B4 (Pr a (Br (Ad v) j p) (T++Az (E k)) t y/\Kq a.heap.size w y):=⟨by unfold Az;rw[<-de,<-de];exact ad,n.2.trans K⟩;go_wp2_with fail;go_end0
  exact⟨rfl,o.1,o.2⟩
def Kq.box{b k:Nat}(h:Kq b w w')(a:qK k w 34 N vn vk)(d:k≠b):qK k w' 34 N vn vk:=by
 refine(h.block k (ai a) d ?_).trans a;intro e f c;unfold qK at a;rw[a]at c;cases c
def ag8{p:Addr}{i:Nat}{v:A9}(h:W.cell? (p.add i)=Ad v)(a:i≠0):W.cell? ⟨p.block,p.off+i,Ax⟩=Ad v:=by
 unfold Addr.add at h;rw[aa a]at h;exact h
def Wr(c:A2)(e:A9)(t:Int)(f:FuncId)(args:Array A9)(d:ByteArray):Prop:=
 ∀(a:ByteArray)(b:A2),Pr c e a t b->a.size+d.size<=140737488355328->Bn Z f args b λg w'=>g= Bc (B2 #[])/\Pr c e (a++d) t w'/\Kq c.heap.size b w'
def Ec(a:ByteArray):Wr w0 vt t 46 #[B0 (Ad ⟨w0.heap.size,0,Ax⟩),A0 a] a:=λb c e d=>gA w0 _ b a _ c e d
abbrev pW(a:A2):A9:= B0 (Ad ⟨a.heap.size,0,Ax⟩)
abbrev aqH(N:Nd)(vn vk:A9):Obj:= .cells #[U Y N.k,U Y N.f,U Y N.t,U Y N.l,U Y N.op,U Y N.n,A0 N.x,vn,vk] 34
structure NdR (w0:A2) (p1:Addr) (i:Nat) (N:Nd) (an:Option Addr) (M cn:Nat) (ak:Option Addr) (L ck:Nat):Prop where
 nm:dz w0 (.slice an M cn) N.nm
 ks:dH w0 (.slice ak L ck) N.ks
 hM:N.nm.length=M
 hL:N.ks.length=L
 cap:L<=ck
 rd:∀W,cg w0 W->aed W (p1.add (i*9)) N (.slice an M cn) (.slice ak L ck)
def Ed(e:A2)(c:Addr)(ns:List Nd):Prop:=
 ∀a N d b,ns[a]?=Ad N->e.cell? ⟨(c.add (a*9)).block,(c.add (a*9)).off+8,Ax⟩=Ad (Br d N.ks.length b)->N.ks.length<=b
def zj{e:Addr}{n g:Nat}(j:gg w0 (Br (Ad e) n g) ns)(l:Ed w0 e ns){i:Nat}(m:i<ns.length):∃c M d b L ck,NdR w0 e i (ae ns i) c M d b L ck:=by
 have f:=IB m;have⟨p,h,r,q,a⟩:=j.get f;cases h;obtain⟨c,d,rfl⟩:=a.hn.form;obtain⟨b,ck,rfl⟩:=a.hk.form;exact⟨c,_,d,b,_,ck,a.hn,a.hk,rfl,rfl,l i _ b ck f a.c8,λo k=>a.below k⟩
abbrev NdC(W:A2)(a:Addr)(N:Nd)(vn vk:A9):Prop:=W.cell? a=Ad (U Y N.k)/\W.cell? ⟨a.block,a.off+1,Ax⟩=Ad (U Y N.f)/\W.cell? ⟨a.block,a.off+2,Ax⟩=Ad (U Y N.t)/\W.cell? ⟨a.block,a.off+3,Ax⟩=Ad (U Y N.l)/\W.cell? ⟨a.block,a.off+4,Ax⟩=Ad (U Y N.op)/\W.cell? ⟨a.block,a.off+5,Ax⟩=Ad (U Y N.n)/\W.cell? ⟨a.block,a.off+6,Ax⟩=Ad (A0 N.x)/\W.cell? ⟨a.block,a.off+7,Ax⟩=Ad vn/\W.cell? ⟨a.block,a.off+8,Ax⟩=Ad vk
structure Bx (w0:A2) (vt:A9) (t:Int) (w:A2) (N:Nd) (vn vk:A9) (T:ByteArray) (W:A2):Prop where
 pr:Pr w0 vt T t W
 kq:Kq w0.heap.size w W
 bx:qK w.heap.size W 34 N vn vk
def Bx.new(h:Pr w0 vt T t w)(N:Nd)(vn vk:A9):Bx w0 vt t w N vn vk T (w.alloc (aqH N vn vk)):=by
 have a:cg w (w.alloc (aqH N vn vk)):=(ah _ w).alloc (ag _) _;exact⟨h.below a,Kq.of_below a,aA w _⟩
def Bx.next{b:ByteArray}{a:A2}(h:Bx w0 vt t w N vn vk T W)(c:w0.heap.size<w.heap.size)(p:Pr w0 vt b t a)(k:Kq w0.heap.size W a):Bx w0 vt t w N vn vk b a:=
 ⟨p,h.kq.trans k,k.box h.bx (by omega)⟩
def Bx.below{a:A2}(h:Bx w0 vt t w N vn vk T W)(b:cg W a):Bx w0 vt t w N vn vk T a:=
 ⟨h.pr.below b,h.kq.trans (Kq.of_below b),h.bx.below b⟩
def Bx.cells(h:Bx w0 vt t w N vn vk T W):W.cell? ⟨w.heap.size,0,Ax⟩=Ad (U Y N.k)/\W.cell? ⟨w.heap.size,1,Ax⟩=Ad (U Y N.f)/\W.cell? ⟨w.heap.size,2,Ax⟩=Ad (U Y N.t)/\W.cell? ⟨w.heap.size,3,Ax⟩=Ad (U Y N.l)/\W.cell? ⟨w.heap.size,4,Ax⟩=Ad (U Y N.op)/\W.cell? ⟨w.heap.size,5,Ax⟩=Ad (U Y N.n)/\W.cell? ⟨w.heap.size,6,Ax⟩=Ad (A0 N.x)/\W.cell? ⟨w.heap.size,7,Ax⟩=Ad vn/\W.cell? ⟨w.heap.size,8,Ax⟩=Ad vk:=by
 have⟨a,b,c,d,e,g,i,j,m,o⟩:=bK h.bx;exact⟨a,b,c,d,e,g,i,j,m⟩
def Bx.kid0{a:Addr}{L ck:Nat}(h:Bx w0 vt t w N vn (Br (Ad a) L ck) T W)(c:dH w0 (Br (Ad a) L ck) N.ks){q:Int}(d:N.ks[0]?=Ad q):W.cell? a=Ad (U Y q):=by
 have⟨f,b,e⟩:=(c.below h.pr.bel).get d;cases b;simpa [Addr.add] using e
def Bx.kid{a:Addr}{L ck:Nat}(h:Bx w0 vt t w N vn (Br (Ad a) L ck) T W)(d:dH w0 (Br (Ad a) L ck) N.ks){j:Nat}{q:Int}(e:N.ks[j]?=Ad q)(c:j≠0):W.cell? ⟨a.block,a.off+j,Ax⟩=Ad (U Y q):=by
 have⟨g,b,f⟩:=(d.below h.pr.bel).get e;cases b;exact ag8 f c
def Bx.name0{a:Addr}{M b:Nat}(h:Bx w0 vt t w N (Br (Ad a) M b) vk T W)(d:dz w0 (Br (Ad a) M b) N.nm)(e:N.nm[0]?=Ad s):W.cell? a=Ad (A0 s):=by
 have⟨g,c,f⟩:=(d.below h.pr.bel).get e;cases c;simpa [Addr.add] using f
def dH.ptr{a:Option Addr}{L ck:Nat}{l:List Int}(h:dH W (Br a L ck) l)(c:0<l.length:=by omega):∃e,a=Ad e:=by
 obtain⟨d,b,_⟩:=h.get (aw c);exact⟨d,b⟩
def dz.ptr{a:Option Addr}{L ck:Nat}{l:List ByteArray}(h:dz W (Br a L ck) l)(c:0<l.length:=by omega):∃e,a=Ad e:=by
 obtain⟨d,b,_⟩:=h.get (aw c);exact⟨d,b⟩
def Bx.stp{a:ByteArray}{f:FuncId}{args:Array A9}{Q:Ending->A2->Prop}{V:A2}(B:B4 (Bx w0 vt t w N vn vk T V))(d:cg V W)(S:B4 (Wr w0 vt t f args a))(g:w0.heap.size<w.heap.size)(e:T.size+a.size<=140737488355328)(k:∀c,Bx w0 vt t w N vn vk (T++a) c->Q (Bc (B2 #[])) c):Bn Z f args W Q:=
 (S _ _ (B.below d).pr e).mono λi h b=>b.1 ▸ k h ((B.below d).next g b.2.1 b.2.2)
def Bx.fin{a:ByteArray}(B:B4 (Bx w0 vt t w N vn vk a W))(e:a=T):Ending.returned (B2 #[])= Bc (B2 #[])/\Pr w0 vt T t W/\Kq w0.heap.size w W:=⟨rfl,e ▸ B.pr,B.kq⟩
section
variable (w0 : World) (vt : Value) (t : Nat)
abbrev WE(q:Nat)(a:ByteArray):Prop:=Wr w0 vt t 94 #[pW w0,U Y (q:Int),U Y 0] a
abbrev WB(q:Nat)(a:ByteArray):Prop:=Wr w0 vt t 91 #[pW w0,U Y (q:Int)] a
abbrev WD(q:Nat)(a:ByteArray):Prop:=Wr w0 vt t 95 #[pW w0,U Y (q:Int)] a
abbrev WX(l:List Int)(b:ByteArray):Prop:=∀a,dH w0 a l->Wr w0 vt t 93 #[pW w0,a] b
abbrev WA(q:Nat)(a:ByteArray):Prop:=Wr w0 vt t 169 #[pW w0,U Y (q:Int)] a
end
def add_add(a:Addr)(i j:Nat):(a.add i).add j=a.add (i+j):=by
 unfold Addr.add;by_cases b:i=0
 .subst b;simp
 .by_cases c:j=0
  .subst c;simp[b]
  .simp[b,c];omega
def dH.take{a:Option Addr}{n c:Nat}{l:List Int}(h:dH W (Br a n c) l)(k:Nat)(f:k<=l.length):dH W (Br a k c) (l.take k):=by
 rcases h with⟨rfl,d,g,e⟩|⟨d,g,e,j⟩
 .have:k=0:=by simpa using f
  subst this;exact .inl ⟨rfl,a,c,rfl⟩
 .cases e;by_cases i:k=0
  .subst i;exact .inl ⟨by simp,_,_,rfl⟩
  .refine .inr ⟨d,c,by rw[gJ,vH f],λm o b=>j m o ?_⟩;rw[nh]at b;split at b
   .exact b
   .cases b
def dH.drop{a:Addr}{n c b:Nat}{l:List Int}(h:dH W (Br (Ad a) n c) l)(k m:Nat)(q:k<=l.length)(j:m=l.length-k):dH W (Br (Ad (a.add k)) m b) (l.drop k):=by
 subst j;rcases h with⟨rfl,f,g,d⟩|⟨f,g,d,i⟩
 .exact .inl ⟨by simp,Ad (a.add k),b,by simp⟩
 .cases d;refine .inr ⟨a.add k,b,by rw[ir],λo p e=>?_⟩;rw[pE]at e;rw[add_add];exact i (k+o) p e
