import Derived.Test.YtbkolnpplhbdmaaGreatDoorHPl04
import Derived.Test.YtbkolnpplhbdmaaGreatDoorHPl05
set_option linter.all false
set_option maxRecDepth 100000
set_option maxHeartbeats 3200000
open Go.Proofs.Tryz
open Go.Value renaming int->M,string->S,agg->Y,bool->Ad,tuple->Ax
open Go.IntKind renaming i64->O
open Go.Proofs.Tryz renaming prog->T
open Bool renaming true->U,false->V
open Go renaming Calls->X,World->A0,Value->A1
open Option renaming none->Z,some->A2
open Go.Ending renaming returned->Ak
namespace Go.Proofs.YtbkolnpplhbdmaaGreatDoor
open Go.RowKit Go.Maps Go.WideMaps
variable{N:Nd}{ns:List Nd}{vk vn vt:Value}{w:World}
def uB(s:ByteArray)(i:Nat)(c:Int)(d:0<c:=by omega):(lk s i==c)=decide (aq s i=c):=by
 unfold lk;split
 .by_cases a:aq s i=c<;>simp[a]
 .rename_i a;rw[dy a];have b:((0:Int)==c)=V:=by rw[du];omega
  rw[b];symm;rw[qG];omega
def DC(s:ByteArray)(p:Nat):Bool:=decide ((aq s (nA0 s p)=46/\cm (aq s (nA0 s p+1))=U)\/aq s (nA1 s (nA0 s p))=101)
def ajL(s:ByteArray)(p E:Nat)(R:Option Nat):A1:=match R with
 |some a=> Y #[M O 2,M O p,M O (E:Int),M O 0,M O (a:Int),S ⟨#[]⟩]
 |none=> Y #[M O 3,M O p,M O (E:Int),M O 0,M O 0,S (s.extract p E)]
def nmA(s:ByteArray)(p:Nat):A1:=
 if(oe s (nA1 s (nA0 s p))).2=U then
  (if DC s p=U then Y #[M O 3,M O p,M O ((oe s (nA1 s (nA0 s p))).1:Int),M O 0,M O 0,S (s.extract p (oe s (nA1 s (nA0 s p))).1)]
  else ajL s p (oe s (nA1 s (nA0 s p))).1 (qL s p ((oe s (nA1 s (nA0 s p))).1-p)))
 else Y #[M O 3,M O p,M O 0,M O 0,M O 0,S ⟨#[]⟩]
def nmF(s:ByteArray)(p:Nat):Int:=if(oe s (nA1 s (nA0 s p))).2=U then -1 else((oe s (nA1 s (nA0 s p))).1:Int)
def Kr(s:ByteArray)(p j:Nat)(h:qL s p j=Z):∀n,j<=n->qL s p n=Z
 |0,a=>by
  obtain rfl:j=0:=by omega
  exact h
 |n+1,a=>by
  rcases ie a with rfl|h2
  .exact h
  .rw[qL,Kr s p j h n (by omega)]
def Ia(s:ByteArray)(p:Nat)(f:cm (aq s p)=U)(a:DC s p=V):(oe s (nA1 s (nA0 s p)))=(nA0 s p,U)/\∀i,p<=i->i<nA0 s p->cm (aq s i)=U:=by
 unfold DC at a;rw[qG]at a;have d:nA1 s (nA0 s p)=nA0 s p:=by unfold nA1;rw[aa (λb=>a (.inl b))]
 rw[d]at a⊢;have e:oe s (nA0 s p)=(nA0 s p,U):=by unfold oe;rw[aa (λb=>a (.inr b))]
 refine⟨e,λi g c=>?_⟩;rcases ie g with rfl|h3
 .exact f
 .unfold nA0 at c;split at c
  .omega
  .exact ql cm s _ (p+1) i h3 c
def anl(s:ByteArray)(a:Nat)(h:aq s a=101)(c:cm (aq s (nA2 s a))=V):oe s a=(nA2 s a,V):=by
 have b:rL s (nA2 s a)=nA2 s a:=by unfold rL ix;rw[aa (by rw[c];simp)]
 unfold oe;rw[ab h,b];simp
def aj0(s:ByteArray)(a:Nat)(e:a<s.size)(h:aq s a=101)(b:cm (aq s (nA2 s a))=U):oe s a=(rL s (nA2 s a),U):=by
 have f:=rA b;have d:=pH cm yz s s.size (nA2 s a+1) (by omega);have c:rL s (nA2 s a)=ix cm s s.size (nA2 s a+1):=by
  show ix cm s (s.size+1) (nA2 s a)=_;rw[ix,ab b]
 unfold oe;rw[ab h,c];simp;omega
def agk(s:ByteArray)(a:Nat)(h:aq s a=101):a<nA2 s a/\nA2 s a<=s.size:=by
 have b:=aH h;unfold nA2;split
 .rename_i hs;rcases hs with hs|hs
  .have:=aH hs;omega
  .have:=aH hs;omega
 .omega
def qp(s:ByteArray)(k:Nat):cm (aq s k)=U\/cm (aq s k)=V:=by cases cm (aq s k)<;>simp
def Ib(s:ByteArray)(G:s.size<=1100000)(p:Nat)(ef:p<s.size)(cz:cm (aq s p)=U)(z:¬(aq s p=48/\aq s (p+1)=120))(w:A0):X T 131 #[S s,Y #[M O 0,M O p,M O 0,M O 0,M O 0,S ⟨#[]⟩]] w (jf w (Ax #[nmA s p,M O (nmF s p)])):=by
 have⟨el,cr⟩:=aC (nmA s p);have⟨e2,ct⟩:=aC (nmF s p);rw[cr,ct];have j:=am cr;have n:=am ct;clear cr ct;have cF:=λw=>dG ef w;go_in;go_upto_region 3 with fail
 generalize dx:(w.alloc _).alloc _=b5;obtain⟨a,c4,cs, -⟩:=CD dx;have cc:fa w.heap.size b5 2 p 0 0 0 ⟨#[]⟩:=a;have cd:fa (w.heap.size+1) b5 0 0 0 0 0 ⟨#[]⟩:=c4;clear dx a c4;have ey:w.heap.size+1<b5.heap.size:=ai cd;have⟨J,K,L,ad,af,ak,al⟩:=bm cc;go_cut [22] from 9 (λeL o=>eL= Ad V/\o=b5)
 case first=>
  by_cases x:aq s p=48
  .rw[x]at cF;have eb:¬aq s (p+1)=120:=λh=>z ⟨x,h⟩;have ep:(lk s (p+1)==120)=V:=by rw[uB _ _ _];simpa using eb
   have e:∀w,X T 127 #[S s,M O ((p:Int)+1)] w (jt w (M .u8 (lk s (p+1)))):=λw=>jb s G _ (p+1) (by omega) w;generalize lk s (p+1)=m at e ep;clear x eb z cz j n;go_wp2_with (go_at_call 127;refine fC (e _) ?_);go_meet
   case rel=>exact⟨rfl,rfl⟩
  .have b9:(aq s p==48)=V:=by rw[du];exact x
   generalize aq s p=m at cF b9;clear x z j n;go_wp2_with fail;go_meet
   case rel=>exact⟨rfl,rfl⟩
 case rest=>
  obtain⟨rfl,rfl⟩:=hcut;go_upto_if 34 with fail
  go_cut [6] from 9 (λa7 o=>a7= M O (nA0 s p:Int)/\o=wc)
  case first=>
   by_cases x:aq s p=48
   .have eq:Hid (nA0 s p=p+1):=by show _=_;unfold nA0;rw[ab x]
    rw[x];clear x z j n;go_wp2_with fail;go_meet
    case rel=>exact⟨by rw[eq.out];go_num,rfl⟩
   .have B:Hid (ix cm s (s.size+1) (p+1)=nA0 s p):=by show _=_;unfold nA0;rw[aa x];rfl
    have b9:(aq s p !=48)=U:=by rw[yl];exact x
    rw[b9];have⟨f,r⟩:=aC (nA0 s p);rw[r]at B;have y:=am r;clear x z j n b9 r;go_wp2;go_loop [6] (λi=>∃(b k:Nat),b<=s.size/\s.size<b+k/\i= M O b/\Hid (ix cm s k b=f)) (λi=>s.size-(intOf i).toNat)
    case atStart=>exact⟨p+1,s.size+1,by omega,by omega,by first|rfl|(congr 1;omega),B⟩
    case round=>
     obtain⟨b,k,d7,d5,rfl,bn⟩:=hrel;obtain⟨k,rfl⟩:∃br,k=br+1:=⟨k-1,by omega⟩;have d:=bn.out;unfold ix at d;have e:=λw=>jb s G (b:Int) b rfl w;rcases qp s b with h1|h1
     .have ea:b<s.size:=rA h1;have c:=λw=>gh ((qj s b).trans h1) w;rw[ab h1]at d;have l:=am d;generalize lk s b=m at e c;clear d h1;go_wp2_with (first|(go_at_call 127;refine fC (e _) ?_)|(go_at_call 130;refine fC (c _) ?_));go_round
      case rel=>exact⟨b+1,k,by omega,by omega,by go_num,l⟩
      case measure=>simp[intOf];omega
     .have c:=λw=>gh ((qj s b).trans h1) w;rw[aa (by rw[h1];simp)]at d;have l:=am d;generalize lk s b=m at e c;clear d h1;go_wp2_with (first|(go_at_call 127;refine fC (e _) ?_)|(go_at_call 130;refine fC (c _) ?_));go_meet
      case rel=>exact⟨by rw[y.out,<-l.out],rfl⟩
  case rest=>
   obtain⟨rfl,rfl⟩:=hcut;have cq:=Ds s p ef;go_upto_region 9 with fail
   obtain⟨D,dg⟩:∃D:Bool,decide (aq s (nA0 s p)=46/\cm (aq s (nA0 s p+1))=U)=D:=⟨_,rfl⟩;have t:=am dg;clear dg;go_cut [51] from 9 (λe0 o=>e0= Ad D/\o=wc)
   case first=>
    have e:=λw=>jb s G (nA0 s p:Int) (nA0 s p) rfl w;have A:∀w,X T 127 #[S s,M O ((nA0 s p:Int)+1)] w (jt w (M .u8 (lk s (nA0 s p+1)))):=λw=>jb s G _ (nA0 s p+1) (by omega) w;have bs:=uB s (nA0 s p) 46;by_cases a3:aq s (nA0 s p)=46
    .rw[be a3]at bs;have a4:=t.out;rcases qp s (nA0 s p+1) with h1|h1
     .have c:=λw=>gh ((qj s (nA0 s p+1)).trans h1) w;rw[be ⟨a3,h1⟩]at a4;subst a4;generalize lk s (nA0 s p+1)=en at A c;generalize lk s (nA0 s p)=m at e bs;clear a3 h1 t j n;go_wp2_with (first|(go_at_call 127;first|(with_reducible refine fC (e _) ?_)|(with_reducible refine fC (A _) ?_))|(go_at_call 130;refine fC (c _) ?_));go_meet
      case rel=>exact⟨rfl,rfl⟩
     .have c:=λw=>gh ((qj s (nA0 s p+1)).trans h1) w;rw[az (λh=>by rw[h.2]at h1;cases h1)]at a4;subst a4;generalize lk s (nA0 s p+1)=en at A c;generalize lk s (nA0 s p)=m at e bs;clear a3 h1 t j n;go_wp2_with (first|(go_at_call 127;first|(with_reducible refine fC (e _) ?_)|(with_reducible refine fC (A _) ?_))|(go_at_call 130;refine fC (c _) ?_));go_meet
      case rel=>exact⟨rfl,rfl⟩
    .rw[az a3]at bs;have a4:=t.out;rw[az (λh=>a3 h.1)]at a4;subst a4;generalize lk s (nA0 s p)=m at e bs;clear a3 t j n;go_wp2_with (first|(go_at_call 127;refine fC (e _) ?_));go_meet
     case rel=>exact⟨rfl,rfl⟩
   case rest=>
    obtain⟨rfl,rfl⟩:=hcut;go_upto_if 51 with fail
    go_cut [6] from 9 (λa7 o=>a7= M O (nA1 s (nA0 s p):Int)/\fa w.heap.size o (if D=U then 3 else 2) p 0 0 0 ⟨#[]⟩/\fa (w.heap.size+1) o 0 0 0 0 0 ⟨#[]⟩/\cg w o)
    case first=>
     cases D with
     |true=>
      have bj:=aB t.out;have B:Hid (ix cm s (s.size+1) (nA0 s p+1)=nA1 s (nA0 s p)):=by show _=_;unfold nA1;rw[ab bj];rfl
      have ev:=rA bj.2;have⟨f,r⟩:=aC (nA1 s (nA0 s p));rw[r]at B;have y:=am r;generalize nA0 s p=ei at B ev cq⊢;clear bj t j n z r;have C:=cc.setKind 3;have E:=cd.other (a:=⟨w.heap.size,0,Z⟩) (by simp) (M O 3);have H:cg w (wc.setCell ⟨w.heap.size,0,Z⟩ (M O 3)):=cs.setCell (by simp) _;go_wp2;go_loop [6] (λi=>∃(b k:Nat),b<=s.size/\s.size<b+k/\i= M O b/\Hid (ix cm s k b=f)) (λi=>s.size-(intOf i).toNat)
      case atStart=>exact⟨ei+1,s.size+1,by omega,by omega,by first|rfl|(congr 1;omega),B⟩
      case round=>
       obtain⟨b,k,d7,d5,rfl,bn⟩:=hrel;obtain⟨k,rfl⟩:∃br,k=br+1:=⟨k-1,by omega⟩;have d:=bn.out;unfold ix at d;have e:=λw=>jb s G (b:Int) b rfl w;rcases qp s b with h1|h1
       .have ea:b<s.size:=rA h1;have c:=λw=>gh ((qj s b).trans h1) w;rw[ab h1]at d;have l:=am d;generalize lk s b=m at e c;clear d h1;go_wp2_with (first|(go_at_call 127;refine fC (e _) ?_)|(go_at_call 130;refine fC (c _) ?_));go_round
        case rel=>exact⟨b+1,k,by omega,by omega,by go_num,l⟩
        case measure=>simp[intOf];omega
       .have c:=λw=>gh ((qj s b).trans h1) w;rw[aa (by rw[h1];simp)]at d;have l:=am d;generalize lk s b=m at e c;clear d h1;go_wp2_with (first|(go_at_call 127;refine fC (e _) ?_)|(go_at_call 130;refine fC (c _) ?_));go_meet
        case rel=>exact⟨by rw[y.out,<-l.out],C,E,H⟩
     |false=>
      have bj:=mA t.out;have r:nA1 s (nA0 s p)=nA0 s p:=by unfold nA1;rw[aa bj]
      have y:=am r;clear bj t j n z r;go_wp2_with fail;go_meet
      case rel=>exact⟨by rw[y.out],cc,cd,cs⟩
    case rest=>
     obtain⟨rfl,a5,bh,ca⟩:=hcut;clear cc cd cs J K L ad af ak al ey;have c7:=Dt s _ cq.2;have e:=λw=>jb s G (nA1 s (nA0 s p):Int) (nA1 s (nA0 s p)) rfl w;have c9:=uB s (nA1 s (nA0 s p)) 101;obtain⟨a2,cx⟩:∃a2:Bool,decide (aq s (nA1 s (nA0 s p))=101)=a2:=⟨_,rfl⟩;have a8:=am cx;rw[cx]at c9;clear cx;have⟨J,K,L,ad,af,ak,al⟩:=bm a5;have⟨z0,an,ao,ap,ar,av,cl⟩:=bm bh;have bk:w.heap.size<wc.heap.size:=ai a5;have ck:w.heap.size+1<wc.heap.size:=ai bh;go_upto_if 64 with(go_at_call 127;refine(e _).mono ?_;rintro ba bl ⟨rfl,u⟩;obtain rfl:=u.symm)
     clear e c9;go_cut [6] from 9 (λa7 o=>a7= M O ((oe s (nA1 s (nA0 s p))).1:Int)/\(oe s (nA1 s (nA0 s p))).2=U/\fa w.heap.size o (if(D||a2)=U then 3 else 2) p 0 0 0 ⟨#[]⟩/\fa (w.heap.size+1) o 0 0 0 0 0 ⟨#[]⟩/\cg w o)
     case first=>
      cases a2 with
      |false=>
       have I:=mA a8.out;have y:Hid (oe s (nA1 s (nA0 s p))=(nA1 s (nA0 s p),U)):=by show _=_;unfold oe;rw[aa I]
       rw[<-Hi D]at a5;clear I a8 j n t z;go_wp2_with fail;go_meet
       case rel=>exact⟨by rw[y.out],by rw[y.out],a5,bh,ca⟩
      |true=>
       have I:=aB a8.out;have bw:=anl s (nA1 s (nA0 s p)) I;have bA:=aj0 s (nA1 s (nA0 s p)) (aH I) I;have c6:=agk s (nA1 s (nA0 s p)) I;have A:∀w,X T 127 #[S s,M O ((nA1 s (nA0 s p):Int)+1)] w (jt w (M .u8 (lk s (nA1 s (nA0 s p)+1)))):=λw=>jb s G _ (nA1 s (nA0 s p)+1) (by omega) w;have b7:=uB s (nA1 s (nA0 s p)+1) 43;have b8:=uB s (nA1 s (nA0 s p)+1) 45;have bb:Hid (nA2 s (nA1 s (nA0 s p))=if decide (aq s (nA1 s (nA0 s p)+1)=43)=U\/decide (aq s (nA1 s (nA0 s p)+1)=45)=U then nA1 s (nA0 s p)+1+1 else nA1 s (nA0 s p)+1):=by show _=_;unfold nA2;simp
       generalize decide (aq s (nA1 s (nA0 s p)+1)=43)=cp at b7 bb;generalize decide (aq s (nA1 s (nA0 s p)+1)=45)=b3 at b8 bb;have C:=a5.setKind 3;have E:=bh.other (a:=⟨w.heap.size,0,Z⟩) (by simp) (M O 3);have H:cg w (wc.setCell ⟨w.heap.size,0,Z⟩ (M O 3)):=ca.setCell (by simp) _;have⟨b6,cw⟩:=aC (wc.setCell ⟨w.heap.size,0,Z⟩ (M O 3));rw[cw]at C E H;have c3:=am cw;clear I a8 t z cw;go_upto_region 17 with fail
       rw[c3.out];clear c3 a5 bh ca J K L ad af ak al z0 an ao ap ar av cl bk ck;have⟨J,K,L,ad,af,ak,al⟩:=bm C;have⟨z0,an,ao,ap,ar,av,cl⟩:=bm E;have bk:w.heap.size<b6.heap.size:=ai C;have ck:w.heap.size+1<b6.heap.size:=ai E;go_cut [77] from 9 (λe1 o=>e1= Ad (b3||cp)/\o=b6)
       case first=>
        generalize lk s (nA1 s (nA0 s p)+1)=m at A b7 b8;clear j n bw bA bb;cases b3 with
        |true=>
         go_wp2_with (first|(go_at_call 127;refine(A _).mono ?_;rintro ba bl ⟨rfl,u⟩;obtain rfl:=u.symm));go_meet
         case rel=>exact⟨rfl,rfl⟩
        |false=>
         go_wp2_with (first|(go_at_call 127;refine(A _).mono ?_;rintro ba bl ⟨rfl,u⟩;obtain rfl:=u.symm));go_meet
         case rel=>exact⟨rfl,rfl⟩
       case rest=>
        obtain⟨rfl,bD⟩:=hcut;obtain rfl:=bD.symm;clear bD;go_upto_if 77 with fail
        go_cut [6] from 9 (λa7 o=>a7= M O (nA2 s (nA1 s (nA0 s p)):Int)/\o=b6)
        case first=>
         clear j n bw bA b7 b8 A;obtain⟨b4,cu⟩:∃b4:Bool,(b3||cp)=b4:=⟨_,rfl⟩;have dc:Hid (nA2 s (nA1 s (nA0 s p))=if b4=U then nA1 s (nA0 s p)+1+1 else nA1 s (nA0 s p)+1):=by show _=_;rw[bb.out,<-cu];cases b3<;>cases cp<;>simp
         rw[cu];clear cu bb;cases b4 with
         |true=>
          go_wp2_with fail;go_meet
          case rel=>exact⟨by rw[dc.out];simp only[kF];go_num,rfl⟩
         |false=>
          go_wp2_with fail;go_meet
          case rel=>exact⟨by rw[dc.out];simp,rfl⟩
        case rest=>
         obtain⟨rfl,bD⟩:=hcut;obtain rfl:=bD.symm;clear bD bb b7 b8 A;have a6:=λw=>jb s G (nA2 s (nA1 s (nA0 s p)):Int) (nA2 s (nA1 s (nA0 s p))) rfl w;rcases qp s (nA2 s (nA1 s (nA0 s p))) with h1|h1
         .have c:=λw=>gh ((qj s (nA2 s (nA1 s (nA0 s p)))).trans h1) w;have cI:Hid (oe s (nA1 s (nA0 s p))=(rL s (nA2 s (nA1 s (nA0 s p))),U)):=bA h1;have⟨f,r⟩:=aC (rL s (nA2 s (nA1 s (nA0 s p))));have B:=am r;have y:=am r;generalize lk s (nA2 s (nA1 s (nA0 s p)))=eo at a6 c;generalize nA2 s (nA1 s (nA0 s p))=ek at B c6 a6⊢;clear bw bA r h1 j n;go_wp2_with (first|(go_at_call 127;refine(a6 _).mono ?_;rintro ba bl ⟨rfl,u⟩;obtain rfl:=u.symm)|(go_at_call 130;refine(c _).mono ?_;rintro ba bl ⟨rfl,u⟩;obtain rfl:=u.symm));clear a6 c;go_loop [6] (λi=>∃(b k:Nat),b<=s.size/\s.size<b+k/\i= M O b/\Hid (ix cm s k b=f)) (λi=>s.size-(intOf i).toNat)
          case atStart=>exact⟨ek,s.size+1,by omega,by omega,by first|rfl|(congr 1;omega),B⟩
          case round=>
           obtain⟨b,k,d7,d5,rfl,bn⟩:=hrel;obtain⟨k,rfl⟩:∃br,k=br+1:=⟨k-1,by omega⟩;have d:=bn.out;unfold ix at d;have e:=λw=>jb s G (b:Int) b rfl w;rcases qp s b with h1|h1
           .have ea:b<s.size:=rA h1;have c:=λw=>gh ((qj s b).trans h1) w;rw[ab h1]at d;have l:=am d;generalize lk s b=m at e c;clear d h1;go_wp2_with (first|(go_at_call 127;refine fC (e _) ?_)|(go_at_call 130;refine fC (c _) ?_));go_round
            case rel=>exact⟨b+1,k,by omega,by omega,by go_num,l⟩
            case measure=>simp[intOf];omega
           .have c:=λw=>gh ((qj s b).trans h1) w;rw[aa (by rw[h1];simp)]at d;have l:=am d;generalize lk s b=m at e c;clear d h1;go_wp2_with (first|(go_at_call 127;refine fC (e _) ?_)|(go_at_call 130;refine fC (c _) ?_));go_meet
            case rel=>exact⟨by rw[cI.out,y.out,<-l.out],by rw[cI.out],by simpa using C,E,H⟩
         .have c:=λw=>gh ((qj s (nA2 s (nA1 s (nA0 s p)))).trans h1) w;have d3:=bw h1;have g:=j.out;have F:=n.out;unfold nmA at g;unfold nmF at F;rw[d3]at g F;simp only[aa (show ¬V=U by simp)]at g F;subst g;obtain⟨cn,dn⟩:∃cn:Int,(nA2 s (nA1 s (nA0 s p)):Int)=cn:=⟨_,rfl⟩;rw[dn]at F a6⊢;subst F;generalize lk s (nA2 s (nA1 s (nA0 s p)))=eo at a6 c;clear d3 h1 bw bA j n c6 dn;go_wp2_with (first|(go_at_call 127;refine(a6 _).mono ?_;rintro ba bl ⟨rfl,u⟩;obtain rfl:=u.symm)|(go_at_call 130;refine(c _).mono ?_;rintro ba bl ⟨rfl,u⟩;obtain rfl:=u.symm));refine aL (v:= Ax #[Y #[M O 3,M O p,M O 0,M O 0,M O 0,S ⟨#[]⟩],M O cn]) (by simp[results,results131,go_sem,z0,an,ao,ap,ar,av]) rfl ⟨rfl,?_⟩
          iterate 6 refine gx ?_ (by simp) _
          exact H
     case rest=>
      obtain⟨rfl,ed,bf,d0,dd⟩:=hcut;have c8:=aaD s _ c7.2;have dq:DC s p=(D||a2):=by unfold DC;rw[<-t.out,<-a8.out];simp
      have cy:=Ia s p cz;have g:=j.out;have F:=n.out;unfold nmA at g;unfold nmF at F;rw[ab ed]at g F;subst F;rw[dq]at g cy;have ew:p<(oe s (nA1 s (nA0 s p))).1:=by omega
      have et:(oe s (nA1 s (nA0 s p))).1<=s.size:=c8.2;have ce:(D||a2)=V->∀i,p<=i->i<(oe s (nA1 s (nA0 s p))).1->cm (aq s i)=U:=λh i h1 da=>by
       have d6:=cy h;exact d6.2 i h1 (by rw[d6.1]at da;exact da)
      clear cy dq t a8 j n ed c8 c7 cq z cF cz;generalize (D||a2)=a0 at bf g ce;generalize (oe s (nA1 s (nA0 s p))).1=f at ew et g ce⊢;clear a5 bh ca J K L ad af ak al z0 an ao ap ar av cl bk ck;have⟨a9,cv⟩:=aC (qL s p (f-p));rw[cv]at g;have bo:=am cv;have j:=am g;have b1:=am ce;clear g ce cv;obtain⟨b0,cf⟩:∃b0:Int,(if a0=U then(3:Int) else 2)=b0:=⟨_,rfl⟩;rw[cf]at bf;have c0:Hid ((b0=2/\a0=V/\(0:Int)<=0/\qL s p (p-p)=A2 (0:Int).toNat)\/(b0=3/\(a0=U\/a9=Z))):=by
       cases a0 with
       |true=>exact .inr ⟨cf.symm,.inl rfl⟩
       |false=>exact .inl ⟨cf.symm,rfl,by omega,by rw[fx];rfl⟩
      clear cf;have⟨J,K,L,ad,af,ak,al⟩:=bm bf;have bk:w.heap.size<wc.heap.size:=ai bf;have C:=bf.setTo (f:Int);have E:=d0.other (a:=⟨w.heap.size,2,Z⟩) (by simp) (M O (f:Int));have H:cg w (wc.setCell ⟨w.heap.size,2,Z⟩ (M O (f:Int))):=dd.setCell (by simp) _;go_wp2;go_loopw [7,8] (λeA i wr=>∃(b:Nat) (c a:Int),p<=b/\b<=f/\i= M O b/\eA= M .u64 a/\fa w.heap.size wr c p (f:Int) 0 0 ⟨#[]⟩/\fa (w.heap.size+1) wr 0 0 0 0 0 ⟨#[]⟩/\cg w wr/\Hid ((c=2/\a0=V/\0<=a/\qL s p (b-p)=A2 a.toNat)\/(c=3/\(a0=U\/a9=Z)))) (λ_ i _=>f-(intOf i).toNat)
      case atStart=>exact⟨p,b0,0,ag _,by omega,rfl,rfl,C,E,H,c0⟩
      case round=>
       obtain⟨b,c,a,ex,e4,rfl,rfl,bt,bv,bd,d⟩:=hrel;clear C E H bf d0 dd J K L ad af ak al bk c0;have⟨J,K,L,ad,af,ak,al⟩:=bm bt;have⟨z0,an,ao,ap,ar,av,cl⟩:=bm bv;have bk:w.heap.size<wr.heap.size:=ai bt;have ck:w.heap.size+1<wr.heap.size:=ai bv;rcases d.out with⟨rfl,cb,e3,bx⟩|⟨rfl,ee⟩
       .have d2:=ane s p _ _ bx;by_cases d8:b<f
        .have d4:=b1.out cb b ex d8;have es:=jG d4;have ez:=λw=>dG (s:=s) (i:=b) (by omega) w;have cB:qL s p (b+1-p)=if a.toNat*10+(aq s b-48).toNat<=9223372036854775807 then A2 (a.toNat*10+(aq s b-48).toNat) else Z:=by
          rw[show b+1-p=(b-p)+1 by omega,qL,bx,show p+(b-p)=b by omega]
         have em:a<=9223372036854775807:=by omega
         have ec:qL s p (b+1-p)=Z->a9=Z:=λh=>by rw[<-bo.out];exact Kr s p _ h _ (by omega)
         have l:Hid ((¬a*10+(aq s b-48)<=9223372036854775807->a9=Z)/\(a*10+(aq s b-48)<=9223372036854775807->qL s p (b+1-p)=A2 (a*10+(aq s b-48)).toNat)):=by
          refine⟨λh=>ec (by rw[cB,aa (by omega)]),λh=>?_⟩;rw[cB,ab (by omega)]
          congr 1
          omega
         generalize aq s b=m at ez es l;clear d4 cB ec bx d b1 bo j d2;have ds:=bt.setKind 3;have d1:=bv.other (a:=⟨w.heap.size,0,Z⟩) (by simp) (M O 3);have df:cg w (wr.setCell ⟨w.heap.size,0,Z⟩ (M O 3)):=bd.setCell (by simp) _;have d9:(b:Int)<(f:Int):=by omega
         rcases(show 922337203685477580<a\/(a=922337203685477580/\55<m)\/(a=922337203685477580/\¬55<m)\/a<922337203685477580 by omega) with q|⟨q,eB⟩|⟨q,eB⟩|q
         .have aK:Hid (a9=Z):=l.1 (by omega);clear l;go_wp2;go_roundw
          case rel=>exact⟨b+1,3,_,by omega,by omega,by go_num,rfl,ds,d1,df,.inr ⟨rfl,.inr aK⟩⟩
          case measure=>simp[intOf];omega
         .have aK:Hid (a9=Z):=l.1 (by omega);have eh:(a==922337203685477580)=U:=by rw[jD];exact q
          have eg:¬922337203685477580<a:=by omega
          clear l q;go_wp2;go_roundw
          case rel=>exact⟨b+1,3,_,by omega,by omega,by go_num,rfl,ds,d1,df,.inr ⟨rfl,.inr aK⟩⟩
          case measure=>simp[intOf];omega
         .have aK:Hid (qL s p (b+1-p)=A2 (a*10+(m-48)).toNat):=l.2 (by omega);have eh:(a==922337203685477580)=U:=by rw[jD];exact q
          have eg:¬922337203685477580<a:=by omega
          have eF:a*10+(m-48)<=9223372036854775807:=by omega
          clear l q;go_wp2;go_roundw
          case rel=>exact⟨b+1,2,a*10+(m-48),by omega,by omega,by go_num,by first|rfl|(congr 1;omega),bt,bv,bd,.inl ⟨rfl,cb,by omega,aK⟩⟩
          case measure=>simp[intOf];omega
         .have aK:Hid (qL s p (b+1-p)=A2 (a*10+(m-48)).toNat):=l.2 (by omega);have eh:(a==922337203685477580)=V:=by rw[du];omega
          have eg:¬922337203685477580<a:=by omega
          have eF:a*10+(m-48)<=9223372036854775807:=by omega
          clear l;go_wp2;go_roundw
          case rel=>exact⟨b+1,2,a*10+(m-48),by omega,by omega,by go_num,by first|rfl|(congr 1;omega),bt,bv,bd,.inl ⟨rfl,cb,by omega,aK⟩⟩
          case measure=>simp[intOf];omega
        .obtain rfl:b=f:=by omega
         have g:=j.out;rw[cb,<-bo.out,bx]at g;simp only[aa (show ¬V=U by simp),ajL]at g;rw[show((a.toNat:Nat):Int)=a by omega]at g;subst g;have e5:wrap64 a=a:=by unfold wrap64;omega
         have em:a<=9223372036854775807:=by omega
         clear j bo b1 d bx d2;go_wp2;refine aL (v:= Ax #[Y #[M O 2,M O p,M O (b:Int),M O 0,M O a,S ⟨#[]⟩],M O (-1)]) (by simp[results,results131,go_sem,z0,an,ao,ap,ar,av]) rfl ⟨rfl,?_⟩
         iterate 7 refine gx ?_ (by simp) _
         exact bd
       .have g:=j.out;have er:Value.agg #[M O 3,M O p,M O (f:Int),M O 0,M O 0,S (s.extract p f)]=el:=by
         rcases ee with h|h
         .rw[h]at g;exact g
         .rw[h]at g;cases a0<;>exact g
        subst er;clear g j bo b1 d ee;by_cases d8:b<f
        .have d9:(b:Int)<(f:Int):=by omega
         go_wp2;refine aL (v:= Ax #[Y #[M O 3,M O p,M O (f:Int),M O 0,M O 0,S (s.extract p f)],M O (-1)]) (by simp[results,results131,go_sem,z0,an,ao,ap,ar,av]) rfl ⟨rfl,?_⟩
         iterate 7 refine gx ?_ (by simp) _
         exact bd
        .have d9:¬(b:Int)<(f:Int):=by omega
         go_wp2;refine aL (v:= Ax #[Y #[M O 3,M O p,M O (f:Int),M O 0,M O 0,S (s.extract p f)],M O (-1)]) (by simp[results,results131,go_sem,z0,an,ao,ap,ar,av]) rfl ⟨rfl,?_⟩
         iterate 7 refine gx ?_ (by simp) _
         exact bd
def agl(s:ByteArray)(p:Nat):∃(t n:Int),hxA s p= Y #[M O 2,M O p,M O t,M O 0,M O n,S ⟨#[]⟩]:=by
 unfold hxA;split<;>exact⟨_,_,rfl⟩
def FD(s:ByteArray)(p:Nat):A1:=if aq s p=48/\aq s (p+1)=120 then hxA s p else nmA s p
def yF(s:ByteArray)(p:Nat):Int:=if aq s p=48/\aq s (p+1)=120 then hxF s p else nmF s p
def anm(s:ByteArray)(p:Nat):∃(k t n:Int) (x:ByteArray),nmA s p= Y #[M O k,M O p,M O t,M O 0,M O n,S x]:=by
 unfold nmA ajL;split
 .split
  .exact⟨_,_,_,_,rfl⟩
  .split<;>exact⟨_,_,_,_,rfl⟩
 .exact⟨_,_,_,_,rfl⟩
def acw(s:ByteArray)(p:Nat):∃(k t n:Int) (x:ByteArray),FD s p= Y #[M O k,M O p,M O t,M O 0,M O n,S x]:=by
 unfold FD;split
 .have⟨t,n,a⟩:=agl s p;exact⟨_,_,_,_,a⟩
 .exact anm s p
def Ic(s:ByteArray)(e:s.size<=1100000)(p:Nat)(j:aq s p=48)(b:aq s (p+1)=120)(w:A0):X T 131 #[S s,Y #[M O 0,M O p,M O 0,M O 0,M O 0,S ⟨#[]⟩]] w (jf w (Ax #[hxA s p,M O (hxF s p)])):=by
 have q:=aH b;have r:=λw=>dG (s:=s) (i:=p) (by omega) w;rw[j]at r;have t:∀w,X T 127 #[S s,M O ((p:Int)+1)] w (jt w (M .u8 120)):=λw=>by
  have:=jb s e ((p:Int)+1) (p+1) (by omega) w;rw[tq q,b]at this;exact this
 have a:=λw=>Kh s e p (by omega) w;have⟨x,u,k⟩:=agl s p;rw[k]at a⊢;generalize hxF s p=f at a;go_in;go_wp2_with (go_at_call 127;refine fC (t _) ?_);generalize n:(w.alloc _).alloc _=g;obtain⟨-,h,l,F⟩:=CD n;have o:fa (w.heap.size+1) g 0 0 0 0 0 ⟨#[]⟩:=h;refine dt (a _) λy d=>?_;have c:=o.below d (by omega);have m:=l.trans (d.mono (by omega));have⟨z0,z,A,B,C,E,H⟩:=bm c;have G:w.heap.size+1<y.heap.size:=ai c;go_wp2;refine aL (v:= Ax #[Y #[M O 2,M O p,M O x,M O 0,M O u,S ⟨#[]⟩],M O f]) (by simp[results,results131,go_sem,z0,z,A,B,C,E]) rfl ⟨rfl,?_⟩
 iterate 6 refine gx ?_ (by simp) _
 exact m
def Id(s:ByteArray)(b:s.size<=1100000)(p:Nat)(d:p<s.size)(c:cm (aq s p)=U)(w:A0):X T 131 #[S s,Y #[M O 0,M O p,M O 0,M O 0,M O 0,S ⟨#[]⟩]] w (jf w (Ax #[FD s p,M O (yF s p)])):=by
 unfold FD yF;split
 .rename_i a;exact Ic s b p a.1 a.2 w
 .rename_i a;exact Ib s b p d c a w
def xu{c:Int}{b:Bool}(h:bI c=b)(w:A0):X T 128 #[M .u8 c] w (jt w (Ad b)):=(pG c w).mono λd e a=>⟨by rw[a.1,h],a.2.symm⟩
def DF(s:ByteArray)(t:s.size<=1100000)(p:Nat)(e:p<s.size)(a:cm (aq s p)=U)(w:A0):X T 69 #[S s,M O p] w (jf w (Ax #[FD s p,M O (yF s p)])):=by
 have x:=λw=>dG e w;have u:=jG a;have r:bI (aq s p)=V:=by simp[bI];omega
 have g:=λw=>xu r w;have f:=λw=>gh a w;have b:=λw=>Id s t p e a w;have⟨y,A,z,C,n⟩:=acw s p;rw[n]at b⊢;generalize yF s p=h at b;generalize aq s p=k at x g f u;have J:(k==10)=V:=by rw[du];omega
 go_in;go_wp2_with (first|(go_at_call 128;refine fC (g _) ?_)|(go_at_call 130;refine fC (f _) ?_));generalize o:(w.alloc _).alloc _=i;obtain⟨j, -,l,K⟩:=CD o;have q:fa w.heap.size i 0 0 0 0 0 ⟨#[]⟩:=j;refine dt (b _) λB d=>?_;have c:=q.below d (by omega);have m:=l.trans (d.mono (by omega));have⟨z0,E,F,G,H,I,ad⟩:=bm c;have L:w.heap.size<B.heap.size:=ai c;go_wp2;refine aL (v:= Ax #[Y #[M O y,M O p,M O A,M O 0,M O z,S C],M O h]) (by simp[results,results69,go_sem,z0,E,F,G,H,I]) rfl ⟨rfl,?_⟩
 iterate 6 refine gx ?_ (by simp) _
 exact m
def agm(s:ByteArray)(p:Nat):(yF s p<0↔(dF s p).2=U)/\∃(k t n:Int) (x:ByteArray),FD s p= Y #[M O k,M O p,M O t,M O 0,M O n,S x]/\((dF s p).2=U->t=((dF s p).1:Int)/\((k==3)=decide (¬(aq s p=48/\aq s (p+1)=120)/\(DC s p=U\/qL s p ((dF s p).1-p)=Z)))):=by
 unfold yF FD dF;by_cases b:aq s p=48/\aq s (p+1)=120
 .simp only[ab b];unfold hxF hxA;cases hh:(nB s (p+2)).2 with
  |true=>
   simp only[kF];refine⟨⟨λ_=>trivial,λ_=>by omega⟩,2,_,_,_,rfl,λ_=>⟨rfl,?_⟩⟩;simp[b]
  |false=>
   simp only[aa (show ¬V=U by simp)];refine⟨⟨λa=>by omega,λa=>by cases a⟩,2,_,_,_,rfl,λa=>by cases a⟩
 .simp only[aa b];unfold nmF nmA ajL;cases hh:(oe s (nA1 s (nA0 s p))).2 with
  |true=>
   simp only[kF];refine⟨⟨λ_=>trivial,λ_=>by omega⟩,?_⟩;cases hk:DC s p with
   |true=>
    simp only[kF];exact⟨3,_,_,_,rfl,λ_=>⟨rfl,by simp[b]⟩⟩
   |false=>
    simp only[aa (show ¬V=U by simp)];cases hc:qL s p ((oe s (nA1 s (nA0 s p))).1-p) with
    |none=>exact⟨3,_,_,_,rfl,λ_=>⟨rfl,by simp[b]⟩⟩
    |some c=>exact⟨2,_,_,_,rfl,λ_=>⟨rfl,by simp⟩⟩
  |false=>
   simp only[aa (show ¬V=U by simp)];refine⟨⟨λa=>by omega,λa=>by cases a⟩,3,_,_,_,rfl,λa=>by cases a⟩
def Ie(q:ByteArray)(a:cm (aq q 0)=U)(d:oe q (nA1 q (nA0 q 0))=(q.size,U)):Aa q=Z↔(DC q 0=U\/qL q 0 q.size=Z):=by
 cases hk:DC q 0 with
 |false=>
  have⟨b,c⟩:=Ia q 0 a hk;have f:nA0 q 0=q.size:=by rw[d]at b;exact(yk b).1.symm
  rw[Kd q (rA a) (λe g=>c e (by omega) (by omega))];simp
 |true=>
  simp only[true_or,iff_true];unfold DC at hk;rcases aB hk with h|h
  .exact yD q a _ (aH h.1) (by rw[h.1];decide)
  .exact yD q a _ (aH h) (by rw[h];decide)
def fok(q:ByteArray):Bool:=decide (q.size<=40)&&qm q
def Ks(s:ByteArray)(y:s.size<=1100000)(w:A0):X T 158 #[S s] w (jf w (Ad (fok s))):=by
 unfold fok;by_cases i:0<s.size
 .have C:((s.size:Int)==0)=V:=by rw[du];omega
  by_cases p:s.size<=40
  .have E:¬(40:Int)<(s.size:Int):=by omega
   have r:∀w,(Instr.index 9 (S s) (M O 0)).run T w= .ok (M .u8 (aq s 0)) w:=λw=>dG i w;by_cases c:cm (aq s 0)=U
   .have b:=λw=>gh c w;have e:∀w,X T 69 #[S s,M O 0] w (jf w (Ax #[FD s 0,M O (yF s 0)])):=λw=>DF s y 0 i c w;have⟨hF,m,F,G,H,v,z⟩:=agm s 0;rw[v]at e;have A:(decide (s.size<=40)&&qm s)=(decide (yF s 0<0)&&((m==3)&&(F==(s.size:Int)))):=by
     rw[be p,gI];unfold qm;cases h2:(dF s 0).2 with
     |false=>
      rw[az (show ¬yF s 0<0 by rw[hF,h2];simp),fE,qG];rintro ⟨_,h,_⟩;rw[h]at h2;cases h2
     |true=>
      have⟨B,f⟩:=z h2;rw[be (hF.2 h2),gI,f,B];by_cases k:(dF s 0).1=s.size
      .have j:dF s 0=(s.size,U):=Prod.ext k h2;rw[j];simp only[vG,beq_self_eq_true,Bool.and_true];rw[Hn];constructor
       .rintro ⟨_,_,d,g⟩;have l:oe s (nA1 s (nA0 s 0))=(s.size,U):=by rw[<-j];unfold dF;rw[aa d]
        exact⟨d,(Ie s c l).1 g⟩
       .rintro ⟨d,g⟩;have l:oe s (nA1 s (nA0 s 0))=(s.size,U):=by rw[<-j];unfold dF;rw[aa d]
        exact⟨c,trivial,d,(Ie s c l).2 g⟩
      .rw[show((((dF s 0).1:Nat):Int)==(s.size:Int))=V by rw[du];omega,pA,qG];rintro ⟨_,h,_⟩;rw[h]at k;exact k rfl
    rw[A];generalize yF s 0=n at e;generalize aq s 0=u at r b;by_cases hF:n<0
    .by_cases f:m=3
     .subst f;go_in;go_wp2_with (first|(go_at_call 130;refine fC (b _) ?_)|(go_at_call 69;refine(e _).mono ?_;rintro o t ⟨rfl,a⟩));go_ret;exact⟨by simp[hF],a.alloc a.size _⟩
     .have x:(m==3)=V:=by simp[f]
      go_in;go_wp2_with (first|(go_at_call 130;refine fC (b _) ?_)|(go_at_call 69;refine(e _).mono ?_;rintro o t ⟨rfl,a⟩));go_ret;exact⟨by simp[x],a.alloc a.size _⟩
    .go_in;go_wp2_with (first|(go_at_call 130;refine fC (b _) ?_)|(go_at_call 69;refine(e _).mono ?_;rintro o t ⟨rfl,a⟩));go_ret;exact⟨by rw[az (show ¬n<0 by omega)];simp,a.alloc a.size _⟩
   .have q:cm (aq s 0)=V:=by simpa using c
    have b:=λw=>gh q w;rw[show qm s=V by unfold qm;simp[q],pA];generalize aq s 0=u at r b;go_in;go_wp2_with (first|(go_at_call 130;refine fC (b _) ?_));go_ret;exact⟨rfl,ah _ _⟩
  .have E:(40:Int)<(s.size:Int):=by omega
   rw[az p,fE];go_in;go_wp2;go_ret;exact⟨rfl,ah _ _⟩
 .have C:((s.size:Int)==0)=U:=by rw[jD];omega
  rw[show qm s=V by unfold qm;rw[dy i];simp[yz],pA];go_in;go_wp2;go_ret;exact⟨rfl,ah _ _⟩
structure NArg (W:A0) (vt:A1) (ns:List Nd) (N:Nd) (vn vk:A1):Prop where
 t:gg W vt ns
 n:dz W vn N.nm
 k:dH W vk N.ks
 ok:Ae ns N
 ln:ns.length<=1048576
 l1:N.nm.length<=1048576
 l2:N.ks.length<=1048576
 lx:N.x.size<=1048576
 ls:∀s∈N.nm,s.size<=1048576
def NArg.below{W b:A0}(h:NArg W vt ns N vn vk)(a:cg W b):NArg b vt ns N vn vk:=
 ⟨h.t.below a,h.n.below a,h.k.below a,h.ok,h.ln,h.l1,h.l2,h.lx,h.ls⟩
structure St (w:A0) (vt:A1) (ns:List Nd) (N:Nd) (vn vk:A1) (W:A0):Prop where
 a:NArg W vt ns N vn vk
 bt:W.cell? ⟨w.heap.size,0,Z⟩=A2 vt
 bn:qK (w.heap.size+1) W 34 N vn vk
 bel:cg w W
def St.below{W c:A0}(h:St w vt ns N vn vk W)(b:cg W c):St w vt ns N vn vk c:=
 ⟨h.a.below b,cell_kept b h.bt,h.bn.below b,h.bel.trans (b.mono h.bel.size)⟩
def St.start(h:NArg w vt ns N vn vk):St w vt ns N vn vk ((w.alloc (.cells #[vt] 26)).alloc (.cells #[M O N.k,M O N.f,M O N.t,M O N.l,M O N.op,M O N.n,S N.x,vn,vk] 34)):=by
 have a:cg w ((w.alloc (.cells #[vt] 26)).alloc (.cells #[M O N.k,M O N.f,M O N.t,M O N.l,M O N.op,M O N.n,S N.x,vn,vk] 34)):=((ah _ w).alloc (ag _) _).alloc (by simp) _;refine⟨h.below a,?_,?_,a⟩
 .rw[aj _ _ _ _ _ _ ((eI _ _ _ (by simp)).trans (aA w _))];rfl
 .have:=aA (w.alloc (.cells #[vt] 26)) (.cells #[M O N.k,M O N.f,M O N.t,M O N.l,M O N.op,M O N.n,S N.x,vn,vk] 34);rw[fe]at this;exact this
def rf(A:NArg w vt ns N vn vk)(i:Nat)(e:i<N.ks.length):
  X T 153 #[Y #[vt],jI N vn vk,M O i] w (jf w (M O (fl ns N i))):=by
 have⟨f,a,b,c,d,g⟩:=A.ok.get e;rw[d];exact aen w vt ns N a vn vk i f A.t A.n A.k b c A.ln A.l2
abbrev aN(N:Nd)(vn vk:A1):A1:= Y #[M O N.k,M O N.f,M O N.t,M O N.l,M O N.op,M O N.n,S N.x,vn,vk]
section
variable {w W : World} {vt vn vk : Value} {ns : List Nd} {N : Nd} {Q : Ending → World → Prop} (s : St w vt ns N vn vk W)
include s
def St.bare{a b c d:Bool}(k:∀e,St w vt ns N vn vk e->Q (Ak (Ad (bu N a b c d))) e):X T 154 #[aN N vn vk,Ad a,Ad b,Ad c,Ad d] W Q:=dt (aaG _ N _ _ s.a.n s.a.k s.a.l1 _ _ _ _) λg f=>k g (s.below f)
def St.named{a b:Int}(k:∀c,St w vt ns N vn vk c->Q (Ak (Ad (fy N a b))) c):X T 155 #[aN N vn vk,M O a,M O b] W Q:=dt (Kk _ N _ _ a b s.a.n s.a.k s.a.l1 s.a.ls) λe d=>k e (s.below d)
def St.ex1(d:1<=N.ks.length)(k:∀b,St w vt ns N vn vk b->Q (Ak (Ad (lj ns N 1 0))) b):X T 156 #[Y #[vt],aN N vn vk,M O 0,M O 1] W Q:=dt (mK _ _ ns N _ _ 0 1 s.a.t s.a.n s.a.k s.a.ok d s.a.ln s.a.l2) λe c=>k e (s.below c)
def St.ex2(d:2<=N.ks.length)(k:∀b,St w vt ns N vn vk b->Q (Ak (Ad (lj ns N 2 0))) b):X T 156 #[Y #[vt],aN N vn vk,M O 0,M O 2] W Q:=dt (mK _ _ ns N _ _ 0 2 s.a.t s.a.n s.a.k s.a.ok d s.a.ln s.a.l2) λe c=>k e (s.below c)
def St.exL(k:∀b,St w vt ns N vn vk b->Q (Ak (Ad (lj ns N N.ks.length 0))) b):X T 156 #[Y #[vt],aN N vn vk,M O 0,M O (N.ks.length:Int)] W Q:=dt (mK _ _ ns N _ _ 0 _ s.a.t s.a.n s.a.k s.a.ok (ag _) s.a.ln s.a.l2) λd c=>k d (s.below c)
def St.kid0(d:0<N.ks.length)(k:∀b,St w vt ns N vn vk b->Q (Ak (M O (fl ns N 0))) b):X T 153 #[Y #[vt],aN N vn vk,M O 0] W Q:=dt (rf s.a 0 d) λe c=>k e (s.below c)
def St.kid1(d:1<N.ks.length)(k:∀b,St w vt ns N vn vk b->Q (Ak (M O (fl ns N 1))) b):X T 153 #[Y #[vt],aN N vn vk,M O 1] W Q:=dt (rf s.a 1 d) λe c=>k e (s.below c)
end
def agn(A:NArg w vt ns N vn vk)(a:1<N.ks.length):
  X T 153 #[Y #[vt],Y #[M O N.k,M O N.f,M O N.t,M O N.l,M O N.op,M O N.n,S N.x,vn,vk],M O 1] w (jf w (M O (fl ns N 1))):=rf A 1 a
