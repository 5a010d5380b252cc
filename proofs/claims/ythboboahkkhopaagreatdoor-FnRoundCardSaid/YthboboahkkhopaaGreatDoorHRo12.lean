import Derived.Test.YthboboahkkhopaaGreatDoorHRo11
import Derived.Test.YthboboahkkhopaaGreatDoorHRo08
set_option linter.all false
set_option maxRecDepth 100000
set_option maxHeartbeats 3200000
open Go.Proofs.Tryz
open Go.Value renaming int->M,string->S,agg->Y,bool->Ax,tuple->A2
open Go.IntKind renaming i64->O
open Go.Proofs.Tryz renaming prog->T
open Bool renaming true->U,false->V
open Go renaming Calls->X,World->A5,Value->A9
open Option renaming none->Z,some->Br
open Go.Ending renaming returned->A0
namespace Go.Proofs.YthboboahkkhopaaGreatDoor
open Go.RowKit Go.Maps Go.WideMaps
variable{N:Nd}{ns:List Nd}{vk vn vt:Value}{w:World}
def L9(s:ByteArray)(i:Nat)(c:Int)(d:0<c:=by omega):(lk s i==c)=decide (aA s i=c):=by
 unfold lk;split
 .by_cases a:aA s i=c<;>simp[a]
 .rename_i a;rw[dJ a];have b:((0:Int)==c)=V:=by rw[eJ];omega
  rw[b];symm;rw[ub];omega
def Fz(s:ByteArray)(p:Nat):Bool:=decide ((aA s (nA0 s p)=46/\cJ (aA s (nA0 s p+1))=U)\/aA s (nA1 s (nA0 s p))=101)
def ako(s:ByteArray)(p E:Nat)(R:Option Nat):A9:=match R with
 |some a=> Y #[M O 2,M O p,M O (E:Int),M O 0,M O (a:Int),S ⟨#[]⟩]
 |none=> Y #[M O 3,M O p,M O (E:Int),M O 0,M O 0,S (s.extract p E)]
def nmA(s:ByteArray)(p:Nat):A9:=
 if(qa s (nA1 s (nA0 s p))).2=U then
  (if Fz s p=U then Y #[M O 3,M O p,M O ((qa s (nA1 s (nA0 s p))).1:Int),M O 0,M O 0,S (s.extract p (qa s (nA1 s (nA0 s p))).1)]
  else ako s p (qa s (nA1 s (nA0 s p))).1 (si s p ((qa s (nA1 s (nA0 s p))).1-p)))
 else Y #[M O 3,M O p,M O 0,M O 0,M O 0,S ⟨#[]⟩]
def nmF(s:ByteArray)(p:Nat):Int:=if(qa s (nA1 s (nA0 s p))).2=U then -1 else((qa s (nA1 s (nA0 s p))).1:Int)
def aaa(s:ByteArray)(p j:Nat)(h:si s p j=Z):∀n,j<=n->si s p n=Z
 |0,a=>by
  obtain rfl:j=0:=by omega
  exact h
 |n+1,a=>by
  rcases jz a with rfl|h2
  .exact h
  .rw[si,aaa s p j h n (by omega)]
def I0(s:ByteArray)(p:Nat)(f:cJ (aA s p)=U)(a:Fz s p=V):(qa s (nA1 s (nA0 s p)))=(nA0 s p,U)/\∀i,p<=i->i<nA0 s p->cJ (aA s i)=U:=by
 unfold Fz at a;rw[ub]at a;have d:nA1 s (nA0 s p)=nA0 s p:=by unfold nA1;rw[aa (λb=>a (.inl b))]
 rw[d]at a⊢;have e:qa s (nA0 s p)=(nA0 s p,U):=by unfold qa;rw[aa (λb=>a (.inr b))]
 refine⟨e,λi g c=>?_⟩;rcases jz g with rfl|h3
 .exact f
 .unfold nA0 at c;split at c
  .omega
  .exact we cJ s _ (p+1) i h3 c
def anG(s:ByteArray)(a:Nat)(h:aA s a=101)(c:cJ (aA s (nA2 s a))=V):qa s a=(nA2 s a,V):=by
 have b:uo s (nA2 s a)=nA2 s a:=by unfold uo jD;rw[aa (by rw[c];simp)]
 unfold qa;rw[ae h,b];simp
def akp(s:ByteArray)(a:Nat)(e:a<s.size)(h:aA s a=101)(b:cJ (aA s (nA2 s a))=U):qa s a=(uo s (nA2 s a),U):=by
 have f:=sf b;have d:=qi cJ zi s s.size (nA2 s a+1) (by omega);have c:uo s (nA2 s a)=jD cJ s s.size (nA2 s a+1):=by
  show jD cJ s (s.size+1) (nA2 s a)=_;rw[jD,ae b]
 unfold qa;rw[ae h,c];simp;omega
def ag9(s:ByteArray)(a:Nat)(h:aA s a=101):a<nA2 s a/\nA2 s a<=s.size:=by
 have b:=co h;unfold nA2;split
 .rename_i hs;rcases hs with hs|hs
  .have:=co hs;omega
  .have:=co hs;omega
 .omega
def qE(s:ByteArray)(k:Nat):cJ (aA s k)=U\/cJ (aA s k)=V:=by cases cJ (aA s k)<;>simp
def I1(s:ByteArray)(G:s.size<=1100000)(p:Nat)(eb:p<s.size)(cv:cJ (aA s p)=U)(z:¬(aA s p=48/\aA s (p+1)=120))(w:A5):X T 233 #[S s,Y #[M O 0,M O p,M O 0,M O 0,M O 0,S ⟨#[]⟩]] w (gy w (A2 #[nmA s p,M O (nmF s p)])):=by
 have⟨eh,cm⟩:=aJ (nmA s p);have⟨e1,cp⟩:=aJ (nmF s p);rw[cm,cp];have j:=am cm;have n:=am cp;clear cm cp;have cx:=λw=>fL eb w;go_in;go_upto_region 3 with fail
 generalize dg:(w.alloc _).alloc _=b1;obtain⟨a,cF,cn, -⟩:=If dg;have b9:gg w.heap.size b1 2 p 0 0 0 ⟨#[]⟩:=a;have ca:gg (w.heap.size+1) b1 0 0 0 0 0 ⟨#[]⟩:=cF;clear dg a cF;have et:w.heap.size+1<b1.heap.size:=ai ca;have⟨J,K,L,ad,ak,al,an⟩:=db b9;go_cut [22] from 9 (λeF o=>eF= Ax V/\o=b1)
 case first=>
  by_cases x:aA s p=48
  .rw[x]at cx;have d7:¬aA s (p+1)=120:=λh=>z ⟨x,h⟩;have el:(lk s (p+1)==120)=V:=by rw[L9 _ _ _];simpa using d7
   have e:∀w,X T 266 #[S s,M O ((p:Int)+1)] w (kL w (M .u8 (lk s (p+1)))):=λw=>lI s G _ (p+1) (by omega) w;generalize lk s (p+1)=m at e el;clear x d7 z cv j n;go_wp2_with (go_at_call 266;refine iI (e _) ?_);go_meet
   case rel=>exact⟨rfl,rfl⟩
  .have b6:(aA s p==48)=V:=by rw[eJ];exact x
   generalize aA s p=m at cx b6;clear x z j n;go_wp2_with fail;go_meet
   case rel=>exact⟨rfl,rfl⟩
 case rest=>
  obtain⟨rfl,rfl⟩:=hcut;go_upto_if 34 with fail
  go_cut [6] from 9 (λa7 o=>a7= M O (nA0 s p:Int)/\o=wc)
  case first=>
   by_cases x:aA s p=48
   .have em:Hid (nA0 s p=p+1):=by show _=_;unfold nA0;rw[ae x]
    rw[x];clear x z j n;go_wp2_with fail;go_meet
    case rel=>exact⟨by rw[em.out];go_num,rfl⟩
   .have B:Hid (jD cJ s (s.size+1) (p+1)=nA0 s p):=by show _=_;unfold nA0;rw[aa x];rfl
    have b6:(aA s p !=48)=U:=by rw[CK];exact x
    rw[b6];have⟨f,r⟩:=aJ (nA0 s p);rw[r]at B;have y:=am r;clear x z j n b6 r;go_wp2;go_loop [6] (λi=>∃(b k:Nat),b<=s.size/\s.size<b+k/\i= M O b/\Hid (jD cJ s k b=f)) (λi=>s.size-(intOf i).toNat)
    case atStart=>exact⟨p+1,s.size+1,by omega,by omega,by first|rfl|(congr 1;omega),B⟩
    case round=>
     obtain⟨b,k,d3,d1,rfl,bl⟩:=hrel;obtain⟨k,rfl⟩:∃bo,k=bo+1:=⟨k-1,by omega⟩;have d:=bl.out;unfold jD at d;have e:=λw=>lI s G (b:Int) b rfl w;rcases qE s b with h1|h1
     .have d6:b<s.size:=sf h1;have c:=λw=>iq ((qy s b).trans h1) w;rw[ae h1]at d;have l:=am d;generalize lk s b=m at e c;clear d h1;go_wp2_with (first|(go_at_call 266;refine iI (e _) ?_)|(go_at_call 189;refine iI (c _) ?_));go_round
      case rel=>exact⟨b+1,k,by omega,by omega,by go_num,l⟩
      case measure=>simp[intOf];omega
     .have c:=λw=>iq ((qy s b).trans h1) w;rw[aa (by rw[h1];simp)]at d;have l:=am d;generalize lk s b=m at e c;clear d h1;go_wp2_with (first|(go_at_call 266;refine iI (e _) ?_)|(go_at_call 189;refine iI (c _) ?_));go_meet
      case rel=>exact⟨by rw[y.out,<-l.out],rfl⟩
  case rest=>
   obtain⟨rfl,rfl⟩:=hcut;have cl:=Eb s p eb;go_upto_region 9 with fail
   obtain⟨D,da⟩:∃D:Bool,decide (aA s (nA0 s p)=46/\cJ (aA s (nA0 s p+1))=U)=D:=⟨_,rfl⟩;have t:=am da;clear da;go_cut [51] from 9 (λeL o=>eL= Ax D/\o=wc)
   case first=>
    have e:=λw=>lI s G (nA0 s p:Int) (nA0 s p) rfl w;have A:∀w,X T 266 #[S s,M O ((nA0 s p:Int)+1)] w (kL w (M .u8 (lk s (nA0 s p+1)))):=λw=>lI s G _ (nA0 s p+1) (by omega) w;have bp:=L9 s (nA0 s p) 46;by_cases a3:aA s (nA0 s p)=46
    .rw[aI a3]at bp;have a4:=t.out;rcases qE s (nA0 s p+1) with h1|h1
     .have c:=λw=>iq ((qy s (nA0 s p+1)).trans h1) w;rw[aI ⟨a3,h1⟩]at a4;subst a4;generalize lk s (nA0 s p+1)=ej at A c;generalize lk s (nA0 s p)=m at e bp;clear a3 h1 t j n;go_wp2_with (first|(go_at_call 266;first|(with_reducible refine iI (e _) ?_)|(with_reducible refine iI (A _) ?_))|(go_at_call 189;refine iI (c _) ?_));go_meet
      case rel=>exact⟨rfl,rfl⟩
     .have c:=λw=>iq ((qy s (nA0 s p+1)).trans h1) w;rw[aE (λh=>by rw[h.2]at h1;cases h1)]at a4;subst a4;generalize lk s (nA0 s p+1)=ej at A c;generalize lk s (nA0 s p)=m at e bp;clear a3 h1 t j n;go_wp2_with (first|(go_at_call 266;first|(with_reducible refine iI (e _) ?_)|(with_reducible refine iI (A _) ?_))|(go_at_call 189;refine iI (c _) ?_));go_meet
      case rel=>exact⟨rfl,rfl⟩
    .rw[aE a3]at bp;have a4:=t.out;rw[aE (λh=>a3 h.1)]at a4;subst a4;generalize lk s (nA0 s p)=m at e bp;clear a3 t j n;go_wp2_with (first|(go_at_call 266;refine iI (e _) ?_));go_meet
     case rel=>exact⟨rfl,rfl⟩
   case rest=>
    obtain⟨rfl,rfl⟩:=hcut;go_upto_if 51 with fail
    go_cut [6] from 9 (λa7 o=>a7= M O (nA1 s (nA0 s p):Int)/\gg w.heap.size o (if D=U then 3 else 2) p 0 0 0 ⟨#[]⟩/\gg (w.heap.size+1) o 0 0 0 0 0 ⟨#[]⟩/\be w o)
    case first=>
     cases D with
     |true=>
      have bh:=aG t.out;have B:Hid (jD cJ s (s.size+1) (nA0 s p+1)=nA1 s (nA0 s p)):=by show _=_;unfold nA1;rw[ae bh];rfl
      have eq:=sf bh.2;have⟨f,r⟩:=aJ (nA1 s (nA0 s p));rw[r]at B;have y:=am r;generalize nA0 s p=ef at B eq cl⊢;clear bh t j n z r;have C:=b9.setKind 3;have E:=ca.other (a:=⟨w.heap.size,0,Z⟩) (by simp) (M O 3);have H:be w (wc.setCell ⟨w.heap.size,0,Z⟩ (M O 3)):=cn.setCell (by simp) _;go_wp2;go_loop [6] (λi=>∃(b k:Nat),b<=s.size/\s.size<b+k/\i= M O b/\Hid (jD cJ s k b=f)) (λi=>s.size-(intOf i).toNat)
      case atStart=>exact⟨ef+1,s.size+1,by omega,by omega,by first|rfl|(congr 1;omega),B⟩
      case round=>
       obtain⟨b,k,d3,d1,rfl,bl⟩:=hrel;obtain⟨k,rfl⟩:∃bo,k=bo+1:=⟨k-1,by omega⟩;have d:=bl.out;unfold jD at d;have e:=λw=>lI s G (b:Int) b rfl w;rcases qE s b with h1|h1
       .have d6:b<s.size:=sf h1;have c:=λw=>iq ((qy s b).trans h1) w;rw[ae h1]at d;have l:=am d;generalize lk s b=m at e c;clear d h1;go_wp2_with (first|(go_at_call 266;refine iI (e _) ?_)|(go_at_call 189;refine iI (c _) ?_));go_round
        case rel=>exact⟨b+1,k,by omega,by omega,by go_num,l⟩
        case measure=>simp[intOf];omega
       .have c:=λw=>iq ((qy s b).trans h1) w;rw[aa (by rw[h1];simp)]at d;have l:=am d;generalize lk s b=m at e c;clear d h1;go_wp2_with (first|(go_at_call 266;refine iI (e _) ?_)|(go_at_call 189;refine iI (c _) ?_));go_meet
        case rel=>exact⟨by rw[y.out,<-l.out],C,E,H⟩
     |false=>
      have bh:=mh t.out;have r:nA1 s (nA0 s p)=nA0 s p:=by unfold nA1;rw[aa bh]
      have y:=am r;clear bh t j n z r;go_wp2_with fail;go_meet
      case rel=>exact⟨by rw[y.out],b9,ca,cn⟩
    case rest=>
     obtain⟨rfl,a5,bf,b7⟩:=hcut;clear b9 ca cn J K L ad ak al an et;have c0:=Ec s _ cl.2;have e:=λw=>lI s G (nA1 s (nA0 s p):Int) (nA1 s (nA0 s p)) rfl w;have c4:=L9 s (nA1 s (nA0 s p)) 101;obtain⟨a2,ct⟩:∃a2:Bool,decide (aA s (nA1 s (nA0 s p))=101)=a2:=⟨_,rfl⟩;have a8:=am ct;rw[ct]at c4;clear ct;have⟨J,K,L,ad,ak,al,an⟩:=db a5;have⟨z0,ao,ap,ar,au,av,ce⟩:=db bf;have bj:w.heap.size<wc.heap.size:=ai a5;have cd:w.heap.size+1<wc.heap.size:=ai bf;go_upto_if 64 with(go_at_call 266;refine(e _).mono ?_;rintro ba bk ⟨rfl,u⟩;obtain rfl:=u.symm)
     clear e c4;go_cut [6] from 9 (λa7 o=>a7= M O ((qa s (nA1 s (nA0 s p))).1:Int)/\(qa s (nA1 s (nA0 s p))).2=U/\gg w.heap.size o (if(D||a2)=U then 3 else 2) p 0 0 0 ⟨#[]⟩/\gg (w.heap.size+1) o 0 0 0 0 0 ⟨#[]⟩/\be w o)
     case first=>
      cases a2 with
      |false=>
       have I:=mh a8.out;have y:Hid (qa s (nA1 s (nA0 s p))=(nA1 s (nA0 s p),U)):=by show _=_;unfold qa;rw[aa I]
       rw[<-Hw D]at a5;clear I a8 j n t z;go_wp2_with fail;go_meet
       case rel=>exact⟨by rw[y.out],by rw[y.out],a5,bf,b7⟩
      |true=>
       have I:=aG a8.out;have bt:=anG s (nA1 s (nA0 s p)) I;have bw:=akp s (nA1 s (nA0 s p)) (co I) I;have cI:=ag9 s (nA1 s (nA0 s p)) I;have A:∀w,X T 266 #[S s,M O ((nA1 s (nA0 s p):Int)+1)] w (kL w (M .u8 (lk s (nA1 s (nA0 s p)+1)))):=λw=>lI s G _ (nA1 s (nA0 s p)+1) (by omega) w;have b4:=L9 s (nA1 s (nA0 s p)+1) 43;have b5:=L9 s (nA1 s (nA0 s p)+1) 45;have bb:Hid (nA2 s (nA1 s (nA0 s p))=if decide (aA s (nA1 s (nA0 s p)+1)=43)=U\/decide (aA s (nA1 s (nA0 s p)+1)=45)=U then nA1 s (nA0 s p)+1+1 else nA1 s (nA0 s p)+1):=by show _=_;unfold nA2;simp
       generalize decide (aA s (nA1 s (nA0 s p)+1)=43)=ck at b4 bb;generalize decide (aA s (nA1 s (nA0 s p)+1)=45)=bF at b5 bb;have C:=a5.setKind 3;have E:=bf.other (a:=⟨w.heap.size,0,Z⟩) (by simp) (M O 3);have H:be w (wc.setCell ⟨w.heap.size,0,Z⟩ (M O 3)):=b7.setCell (by simp) _;have⟨b3,cs⟩:=aJ (wc.setCell ⟨w.heap.size,0,Z⟩ (M O 3));rw[cs]at C E H;have cB:=am cs;clear I a8 t z cs;go_upto_region 17 with fail
       rw[cB.out];clear cB a5 bf b7 J K L ad ak al an z0 ao ap ar au av ce bj cd;have⟨J,K,L,ad,ak,al,an⟩:=db C;have⟨z0,ao,ap,ar,au,av,ce⟩:=db E;have bj:w.heap.size<b3.heap.size:=ai C;have cd:w.heap.size+1<b3.heap.size:=ai E;go_cut [77] from 9 (λe0 o=>e0= Ax (bF||ck)/\o=b3)
       case first=>
        generalize lk s (nA1 s (nA0 s p)+1)=m at A b4 b5;clear j n bt bw bb;cases bF with
        |true=>
         go_wp2_with (first|(go_at_call 266;refine(A _).mono ?_;rintro ba bk ⟨rfl,u⟩;obtain rfl:=u.symm));go_meet
         case rel=>exact⟨rfl,rfl⟩
        |false=>
         go_wp2_with (first|(go_at_call 266;refine(A _).mono ?_;rintro ba bk ⟨rfl,u⟩;obtain rfl:=u.symm));go_meet
         case rel=>exact⟨rfl,rfl⟩
       case rest=>
        obtain⟨rfl,bx⟩:=hcut;obtain rfl:=bx.symm;clear bx;go_upto_if 77 with fail
        go_cut [6] from 9 (λa7 o=>a7= M O (nA2 s (nA1 s (nA0 s p)):Int)/\o=b3)
        case first=>
         clear j n bt bw b4 b5 A;obtain⟨b0,cq⟩:∃b0:Bool,(bF||ck)=b0:=⟨_,rfl⟩;have c7:Hid (nA2 s (nA1 s (nA0 s p))=if b0=U then nA1 s (nA0 s p)+1+1 else nA1 s (nA0 s p)+1):=by show _=_;rw[bb.out,<-cq];cases bF<;>cases ck<;>simp
         rw[cq];clear cq bb;cases b0 with
         |true=>
          go_wp2_with fail;go_meet
          case rel=>exact⟨by rw[c7.out];simp only[kJ];go_num,rfl⟩
         |false=>
          go_wp2_with fail;go_meet
          case rel=>exact⟨by rw[c7.out];simp,rfl⟩
        case rest=>
         obtain⟨rfl,bx⟩:=hcut;obtain rfl:=bx.symm;clear bx bb b4 b5 A;have a6:=λw=>lI s G (nA2 s (nA1 s (nA0 s p)):Int) (nA2 s (nA1 s (nA0 s p))) rfl w;rcases qE s (nA2 s (nA1 s (nA0 s p))) with h1|h1
         .have c:=λw=>iq ((qy s (nA2 s (nA1 s (nA0 s p)))).trans h1) w;have cy:Hid (qa s (nA1 s (nA0 s p))=(uo s (nA2 s (nA1 s (nA0 s p))),U)):=bw h1;have⟨f,r⟩:=aJ (uo s (nA2 s (nA1 s (nA0 s p))));have B:=am r;have y:=am r;generalize lk s (nA2 s (nA1 s (nA0 s p)))=ek at a6 c;generalize nA2 s (nA1 s (nA0 s p))=eg at B cI a6⊢;clear bt bw r h1 j n;go_wp2_with (first|(go_at_call 266;refine(a6 _).mono ?_;rintro ba bk ⟨rfl,u⟩;obtain rfl:=u.symm)|(go_at_call 189;refine(c _).mono ?_;rintro ba bk ⟨rfl,u⟩;obtain rfl:=u.symm));clear a6 c;go_loop [6] (λi=>∃(b k:Nat),b<=s.size/\s.size<b+k/\i= M O b/\Hid (jD cJ s k b=f)) (λi=>s.size-(intOf i).toNat)
          case atStart=>exact⟨eg,s.size+1,by omega,by omega,by first|rfl|(congr 1;omega),B⟩
          case round=>
           obtain⟨b,k,d3,d1,rfl,bl⟩:=hrel;obtain⟨k,rfl⟩:∃bo,k=bo+1:=⟨k-1,by omega⟩;have d:=bl.out;unfold jD at d;have e:=λw=>lI s G (b:Int) b rfl w;rcases qE s b with h1|h1
           .have d6:b<s.size:=sf h1;have c:=λw=>iq ((qy s b).trans h1) w;rw[ae h1]at d;have l:=am d;generalize lk s b=m at e c;clear d h1;go_wp2_with (first|(go_at_call 266;refine iI (e _) ?_)|(go_at_call 189;refine iI (c _) ?_));go_round
            case rel=>exact⟨b+1,k,by omega,by omega,by go_num,l⟩
            case measure=>simp[intOf];omega
           .have c:=λw=>iq ((qy s b).trans h1) w;rw[aa (by rw[h1];simp)]at d;have l:=am d;generalize lk s b=m at e c;clear d h1;go_wp2_with (first|(go_at_call 266;refine iI (e _) ?_)|(go_at_call 189;refine iI (c _) ?_));go_meet
            case rel=>exact⟨by rw[cy.out,y.out,<-l.out],by rw[cy.out],by simpa using C,E,H⟩
         .have c:=λw=>iq ((qy s (nA2 s (nA1 s (nA0 s p)))).trans h1) w;have dx:=bt h1;have g:=j.out;have F:=n.out;unfold nmA at g;unfold nmF at F;rw[dx]at g F;simp only[aa (show ¬V=U by simp)]at g F;subst g;obtain⟨cf,dc⟩:∃cf:Int,(nA2 s (nA1 s (nA0 s p)):Int)=cf:=⟨_,rfl⟩;rw[dc]at F a6⊢;subst F;generalize lk s (nA2 s (nA1 s (nA0 s p)))=ek at a6 c;clear dx h1 bt bw j n cI dc;go_wp2_with (first|(go_at_call 266;refine(a6 _).mono ?_;rintro ba bk ⟨rfl,u⟩;obtain rfl:=u.symm)|(go_at_call 189;refine(c _).mono ?_;rintro ba bk ⟨rfl,u⟩;obtain rfl:=u.symm));refine bH (v:= A2 #[Y #[M O 3,M O p,M O 0,M O 0,M O 0,S ⟨#[]⟩],M O cf]) (by simp[results,results233,go_sem,z0,ao,ap,ar,au,av]) rfl ⟨rfl,?_⟩
          iterate 6 refine ll ?_ (by simp) _
          exact H
     case rest=>
      obtain⟨rfl,d9,bd,dn,c8⟩:=hcut;have c3:=abB s _ c0.2;have dd:Fz s p=(D||a2):=by unfold Fz;rw[<-t.out,<-a8.out];simp
      have cu:=I0 s p cv;have g:=j.out;have F:=n.out;unfold nmA at g;unfold nmF at F;rw[ae d9]at g F;subst F;rw[dd]at g cu;have er:p<(qa s (nA1 s (nA0 s p))).1:=by omega
      have ep:(qa s (nA1 s (nA0 s p))).1<=s.size:=c3.2;have cb:(D||a2)=V->∀i,p<=i->i<(qa s (nA1 s (nA0 s p))).1->cJ (aA s i)=U:=λh i h1 c6=>by
       have d2:=cu h;exact d2.2 i h1 (by rw[d2.1]at c6;exact c6)
      clear cu dd t a8 j n d9 c3 c0 cl z cx cv;generalize (D||a2)=a0 at bd g cb;generalize (qa s (nA1 s (nA0 s p))).1=f at er ep g cb⊢;clear a5 bf b7 J K L ad ak al an z0 ao ap ar au av ce bj cd;have⟨a9,cr⟩:=aJ (si s p (f-p));rw[cr]at g;have bn:=am cr;have j:=am g;have bD:=am cb;clear g cb cr;obtain⟨bA,cc⟩:∃bA:Int,(if a0=U then(3:Int) else 2)=bA:=⟨_,rfl⟩;rw[cc]at bd;have cz:Hid ((bA=2/\a0=V/\(0:Int)<=0/\si s p (p-p)=Br (0:Int).toNat)\/(bA=3/\(a0=U\/a9=Z))):=by
       cases a0 with
       |true=>exact .inr ⟨cc.symm,.inl rfl⟩
       |false=>exact .inl ⟨cc.symm,rfl,by omega,by rw[fH];rfl⟩
      clear cc;have⟨J,K,L,ad,ak,al,an⟩:=db bd;have bj:w.heap.size<wc.heap.size:=ai bd;have C:=bd.setTo (f:Int);have E:=dn.other (a:=⟨w.heap.size,2,Z⟩) (by simp) (M O (f:Int));have H:be w (wc.setCell ⟨w.heap.size,2,Z⟩ (M O (f:Int))):=c8.setCell (by simp) _;go_wp2;go_loopw [7,8] (λew i wr=>∃(b:Nat) (c a:Int),p<=b/\b<=f/\i= M O b/\ew= M .u64 a/\gg w.heap.size wr c p (f:Int) 0 0 ⟨#[]⟩/\gg (w.heap.size+1) wr 0 0 0 0 0 ⟨#[]⟩/\be w wr/\Hid ((c=2/\a0=V/\0<=a/\si s p (b-p)=Br a.toNat)\/(c=3/\(a0=U\/a9=Z)))) (λ_ i _=>f-(intOf i).toNat)
      case atStart=>exact⟨p,bA,0,af _,by omega,rfl,rfl,C,E,H,cz⟩
      case round=>
       obtain⟨b,c,a,es,e3,rfl,rfl,br,bs,bc,d⟩:=hrel;clear C E H bd dn c8 J K L ad ak al an bj cz;have⟨J,K,L,ad,ak,al,an⟩:=db br;have⟨z0,ao,ap,ar,au,av,ce⟩:=db bs;have bj:w.heap.size<wr.heap.size:=ai br;have cd:w.heap.size+1<wr.heap.size:=ai bs;rcases d.out with⟨rfl,b8,e2,bv⟩|⟨rfl,ea⟩
       .have ds:=anD s p _ _ bv;by_cases d4:b<f
        .have d0:=bD.out b8 b es d4;have eo:=kF d0;have ev:=λw=>fL (s:=s) (i:=b) (by omega) w;have cw:si s p (b+1-p)=if a.toNat*10+(aA s b-48).toNat<=9223372036854775807 then Br (a.toNat*10+(aA s b-48).toNat) else Z:=by
          rw[show b+1-p=(b-p)+1 by omega,si,bv,show p+(b-p)=b by omega]
         have ei:a<=9223372036854775807:=by omega
         have d8:si s p (b+1-p)=Z->a9=Z:=λh=>by rw[<-bn.out];exact aaa s p _ h _ (by omega)
         have l:Hid ((¬a*10+(aA s b-48)<=9223372036854775807->a9=Z)/\(a*10+(aA s b-48)<=9223372036854775807->si s p (b+1-p)=Br (a*10+(aA s b-48)).toNat)):=by
          refine⟨λh=>d8 (by rw[cw,aa (by omega)]),λh=>?_⟩;rw[cw,ae (by omega)]
          congr 1
          omega
         generalize aA s b=m at ev eo l;clear d0 cw d8 bv d bD bn j ds;have df:=br.setKind 3;have dq:=bs.other (a:=⟨w.heap.size,0,Z⟩) (by simp) (M O 3);have c9:be w (wr.setCell ⟨w.heap.size,0,Z⟩ (M O 3)):=bc.setCell (by simp) _;have d5:(b:Int)<(f:Int):=by omega
         rcases(show 922337203685477580<a\/(a=922337203685477580/\55<m)\/(a=922337203685477580/\¬55<m)\/a<922337203685477580 by omega) with q|⟨q,ex⟩|⟨q,ex⟩|q
         .have ax:Hid (a9=Z):=l.1 (by omega);clear l;go_wp2;go_roundw
          case rel=>exact⟨b+1,3,_,by omega,by omega,by go_num,rfl,df,dq,c9,.inr ⟨rfl,.inr ax⟩⟩
          case measure=>simp[intOf];omega
         .have ax:Hid (a9=Z):=l.1 (by omega);have ee:(a==922337203685477580)=U:=by rw[mj];exact q
          have ec:¬922337203685477580<a:=by omega
          clear l q;go_wp2;go_roundw
          case rel=>exact⟨b+1,3,_,by omega,by omega,by go_num,rfl,df,dq,c9,.inr ⟨rfl,.inr ax⟩⟩
          case measure=>simp[intOf];omega
         .have ax:Hid (si s p (b+1-p)=Br (a*10+(m-48)).toNat):=l.2 (by omega);have ee:(a==922337203685477580)=U:=by rw[mj];exact q
          have ec:¬922337203685477580<a:=by omega
          have ey:a*10+(m-48)<=9223372036854775807:=by omega
          clear l q;go_wp2;go_roundw
          case rel=>exact⟨b+1,2,a*10+(m-48),by omega,by omega,by go_num,by first|rfl|(congr 1;omega),br,bs,bc,.inl ⟨rfl,b8,by omega,ax⟩⟩
          case measure=>simp[intOf];omega
         .have ax:Hid (si s p (b+1-p)=Br (a*10+(m-48)).toNat):=l.2 (by omega);have ee:(a==922337203685477580)=V:=by rw[eJ];omega
          have ec:¬922337203685477580<a:=by omega
          have ey:a*10+(m-48)<=9223372036854775807:=by omega
          clear l;go_wp2;go_roundw
          case rel=>exact⟨b+1,2,a*10+(m-48),by omega,by omega,by go_num,by first|rfl|(congr 1;omega),br,bs,bc,.inl ⟨rfl,b8,by omega,ax⟩⟩
          case measure=>simp[intOf];omega
        .obtain rfl:b=f:=by omega
         have g:=j.out;rw[b8,<-bn.out,bv]at g;simp only[aa (show ¬V=U by simp),ako]at g;rw[show((a.toNat:Nat):Int)=a by omega]at g;subst g;have e4:wrap64 a=a:=by unfold wrap64;omega
         have ei:a<=9223372036854775807:=by omega
         clear j bn bD d bv ds;go_wp2;refine bH (v:= A2 #[Y #[M O 2,M O p,M O (b:Int),M O 0,M O a,S ⟨#[]⟩],M O (-1)]) (by simp[results,results233,go_sem,z0,ao,ap,ar,au,av]) rfl ⟨rfl,?_⟩
         iterate 7 refine ll ?_ (by simp) _
         exact bc
       .have g:=j.out;have en:Value.agg #[M O 3,M O p,M O (f:Int),M O 0,M O 0,S (s.extract p f)]=eh:=by
         rcases ea with h|h
         .rw[h]at g;exact g
         .rw[h]at g;cases a0<;>exact g
        subst en;clear g j bn bD d ea;by_cases d4:b<f
        .have d5:(b:Int)<(f:Int):=by omega
         go_wp2;refine bH (v:= A2 #[Y #[M O 3,M O p,M O (f:Int),M O 0,M O 0,S (s.extract p f)],M O (-1)]) (by simp[results,results233,go_sem,z0,ao,ap,ar,au,av]) rfl ⟨rfl,?_⟩
         iterate 7 refine ll ?_ (by simp) _
         exact bc
        .have d5:¬(b:Int)<(f:Int):=by omega
         go_wp2;refine bH (v:= A2 #[Y #[M O 3,M O p,M O (f:Int),M O 0,M O 0,S (s.extract p f)],M O (-1)]) (by simp[results,results233,go_sem,z0,ao,ap,ar,au,av]) rfl ⟨rfl,?_⟩
         iterate 7 refine ll ?_ (by simp) _
         exact bc
def aha(s:ByteArray)(p:Nat):∃(t n:Int),hxA s p= Y #[M O 2,M O p,M O t,M O 0,M O n,S ⟨#[]⟩]:=by
 unfold hxA;split<;>exact⟨_,_,rfl⟩
def aab(s:ByteArray)(p:Nat):A9:=if aA s p=48/\aA s (p+1)=120 then hxA s p else nmA s p
def F3(s:ByteArray)(p:Nat):Int:=if aA s p=48/\aA s (p+1)=120 then hxF s p else nmF s p
def anH(s:ByteArray)(p:Nat):∃(k t n:Int) (x:ByteArray),nmA s p= Y #[M O k,M O p,M O t,M O 0,M O n,S x]:=by
 unfold nmA ako;split
 .split
  .exact⟨_,_,_,_,rfl⟩
  .split<;>exact⟨_,_,_,_,rfl⟩
 .exact⟨_,_,_,_,rfl⟩
def akq(s:ByteArray)(p:Nat):∃(k t n:Int) (x:ByteArray),aab s p= Y #[M O k,M O p,M O t,M O 0,M O n,S x]:=by
 unfold aab;split
 .obtain⟨t,n,a⟩:=aha s p;exact⟨_,_,_,_,a⟩
 .exact anH s p
def I2(s:ByteArray)(e:s.size<=1100000)(p:Nat)(j:aA s p=48)(b:aA s (p+1)=120)(w:A5):X T 233 #[S s,Y #[M O 0,M O p,M O 0,M O 0,M O 0,S ⟨#[]⟩]] w (gy w (A2 #[hxA s p,M O (hxF s p)])):=by
 have q:=co b;have r:=λw=>fL (s:=s) (i:=p) (by omega) w;rw[j]at r;have t:∀w,X T 266 #[S s,M O ((p:Int)+1)] w (kL w (M .u8 120)):=λw=>by
  have:=lI s e ((p:Int)+1) (p+1) (by omega) w;rw[ag8 q,b]at this;exact this
 have a:=λw=>L8 s e p (by omega) w;have⟨x,u,k⟩:=aha s p;rw[k]at a⊢;generalize hxF s p=f at a;go_in;go_wp2_with (go_at_call 266;refine iI (t _) ?_);generalize n:(w.alloc _).alloc _=g;obtain⟨-,h,l,F⟩:=If n;have o:gg (w.heap.size+1) g 0 0 0 0 0 ⟨#[]⟩:=h;refine gL (a _) λy d=>?_;have c:=o.below d (by omega);have m:=l.trans (d.mono (by omega));have⟨z0,z,A,B,C,E,H⟩:=db c;have G:w.heap.size+1<y.heap.size:=ai c;go_wp2;refine bH (v:= A2 #[Y #[M O 2,M O p,M O x,M O 0,M O u,S ⟨#[]⟩],M O f]) (by simp[results,results233,go_sem,z0,z,A,B,C,E]) rfl ⟨rfl,?_⟩
 iterate 6 refine ll ?_ (by simp) _
 exact m
def I3(s:ByteArray)(b:s.size<=1100000)(p:Nat)(d:p<s.size)(c:cJ (aA s p)=U)(w:A5):X T 233 #[S s,Y #[M O 0,M O p,M O 0,M O 0,M O 0,S ⟨#[]⟩]] w (gy w (A2 #[aab s p,M O (F3 s p)])):=by
 unfold aab F3;split
 .rename_i a;exact I2 s b p a.1 a.2 w
 .rename_i a;exact I1 s b p d c a w
def abC{c:Int}{b:Bool}(h:cD c=b)(w:A5):X T 191 #[M .u8 c] w (kL w (Ax b)):=(qg c w).mono λd e a=>⟨by rw[a.1,h],a.2.symm⟩
def abD(s:ByteArray)(t:s.size<=1100000)(p:Nat)(e:p<s.size)(a:cJ (aA s p)=U)(w:A5):X T 190 #[S s,M O p] w (gy w (A2 #[aab s p,M O (F3 s p)])):=by
 have x:=λw=>fL e w;have u:=kF a;have r:cD (aA s p)=V:=by simp[cD];omega
 have g:=λw=>abC r w;have f:=λw=>iq a w;have b:=λw=>I3 s t p e a w;have⟨y,A,z,C,n⟩:=akq s p;rw[n]at b⊢;generalize F3 s p=h at b;generalize aA s p=k at x g f u;have J:(k==10)=V:=by rw[eJ];omega
 go_in;go_wp2_with (first|(go_at_call 191;refine iI (g _) ?_)|(go_at_call 189;refine iI (f _) ?_));generalize o:(w.alloc _).alloc _=i;obtain⟨j, -,l,K⟩:=If o;have q:gg w.heap.size i 0 0 0 0 0 ⟨#[]⟩:=j;refine gL (b _) λB d=>?_;have c:=q.below d (by omega);have m:=l.trans (d.mono (by omega));have⟨z0,E,F,G,H,I,ad⟩:=db c;have L:w.heap.size<B.heap.size:=ai c;go_wp2;refine bH (v:= A2 #[Y #[M O y,M O p,M O A,M O 0,M O z,S C],M O h]) (by simp[results,results190,go_sem,z0,E,F,G,H,I]) rfl ⟨rfl,?_⟩
 iterate 6 refine ll ?_ (by simp) _
 exact m
def ahb(s:ByteArray)(p:Nat):(F3 s p<0↔(fc s p).2=U)/\∃(k t n:Int) (x:ByteArray),aab s p= Y #[M O k,M O p,M O t,M O 0,M O n,S x]/\((fc s p).2=U->t=((fc s p).1:Int)/\((k==3)=decide (¬(aA s p=48/\aA s (p+1)=120)/\(Fz s p=U\/si s p ((fc s p).1-p)=Z)))):=by
 unfold F3 aab fc;by_cases b:aA s p=48/\aA s (p+1)=120
 .simp only[ae b];unfold hxF hxA;cases hh:(pv s (p+2)).2 with
  |true=>
   simp only[kJ];refine⟨⟨λ_=>trivial,λ_=>by omega⟩,2,_,_,_,rfl,λ_=>⟨rfl,?_⟩⟩;simp[b]
  |false=>
   simp only[aa (show ¬V=U by simp)];refine⟨⟨λa=>by omega,λa=>by cases a⟩,2,_,_,_,rfl,λa=>by cases a⟩
 .simp only[aa b];unfold nmF nmA ako;cases hh:(qa s (nA1 s (nA0 s p))).2 with
  |true=>
   simp only[kJ];refine⟨⟨λ_=>trivial,λ_=>by omega⟩,?_⟩;cases hk:Fz s p with
   |true=>
    simp only[kJ];exact⟨3,_,_,_,rfl,λ_=>⟨rfl,by simp[b]⟩⟩
   |false=>
    simp only[aa (show ¬V=U by simp)];cases hc:si s p ((qa s (nA1 s (nA0 s p))).1-p) with
    |none=>exact⟨3,_,_,_,rfl,λ_=>⟨rfl,by simp[b]⟩⟩
    |some c=>exact⟨2,_,_,_,rfl,λ_=>⟨rfl,by simp⟩⟩
  |false=>
   simp only[aa (show ¬V=U by simp)];refine⟨⟨λa=>by omega,λa=>by cases a⟩,3,_,_,_,rfl,λa=>by cases a⟩
def I4(a:ByteArray)(b:cJ (aA a 0)=U)(e:qa a (nA1 a (nA0 a 0))=(a.size,U)):AE a=Z↔(Fz a 0=U\/si a 0 a.size=Z):=by
 cases hk:Fz a 0 with
 |false=>
  have⟨c,d⟩:=I0 a 0 b hk;have g:nA0 a 0=a.size:=by rw[e]at c;exact(yC c).1.symm
  rw[LI a (sf b) (λf i=>d f (by omega) (by omega))];simp
 |true=>
  simp only[true_or,iff_true];unfold Fz at hk;rcases aG hk with h|h
  .exact zk a b _ (co h.1) (by rw[h.1];decide)
  .exact zk a b _ (co h) (by rw[h];decide)
def fok(a:ByteArray):Bool:=decide (a.size<=40)&&qD a
def aac(s:ByteArray)(y:s.size<=1100000)(w:A5):X T 143 #[S s] w (gy w (Ax (fok s))):=by
 unfold fok;by_cases i:0<s.size
 .have C:((s.size:Int)==0)=V:=by rw[eJ];omega
  by_cases p:s.size<=40
  .have E:¬(40:Int)<(s.size:Int):=by omega
   have r:∀w,(Instr.index 9 (S s) (M O 0)).run T w= .ok (M .u8 (aA s 0)) w:=λw=>fL i w;by_cases c:cJ (aA s 0)=U
   .have b:=λw=>iq c w;have e:∀w,X T 190 #[S s,M O 0] w (gy w (A2 #[aab s 0,M O (F3 s 0)])):=λw=>abD s y 0 i c w;have⟨hF,m,F,G,H,v,z⟩:=ahb s 0;rw[v]at e;have A:(decide (s.size<=40)&&qD s)=(decide (F3 s 0<0)&&((m==3)&&(F==(s.size:Int)))):=by
     rw[aI p,gE];unfold qD;cases h2:(fc s 0).2 with
     |false=>
      rw[aE (show ¬F3 s 0<0 by rw[hF,h2];simp),fw,ub];rintro ⟨_,h,_⟩;rw[h]at h2;cases h2
     |true=>
      have⟨B,f⟩:=z h2;rw[aI (hF.2 h2),gE,f,B];by_cases k:(fc s 0).1=s.size
      .have j:fc s 0=(s.size,U):=Prod.ext k h2;rw[j];simp only[wF,beq_self_eq_true,Bool.and_true];rw[acE];constructor
       .rintro ⟨_,_,d,g⟩;have l:qa s (nA1 s (nA0 s 0))=(s.size,U):=by rw[<-j];unfold fc;rw[aa d]
        exact⟨d,(I4 s c l).1 g⟩
       .rintro ⟨d,g⟩;have l:qa s (nA1 s (nA0 s 0))=(s.size,U):=by rw[<-j];unfold fc;rw[aa d]
        exact⟨c,trivial,d,(I4 s c l).2 g⟩
      .rw[show((((fc s 0).1:Nat):Int)==(s.size:Int))=V by rw[eJ];omega,qe,ub];rintro ⟨_,h,_⟩;rw[h]at k;exact k rfl
    rw[A];generalize F3 s 0=n at e;generalize aA s 0=u at r b;by_cases hF:n<0
    .by_cases f:m=3
     .subst f;go_in;go_wp2_with (first|(go_at_call 189;refine iI (b _) ?_)|(go_at_call 190;refine(e _).mono ?_;rintro o t ⟨rfl,a⟩));go_ret;exact⟨by simp[hF],a.alloc a.size _⟩
     .have x:(m==3)=V:=by simp[f]
      go_in;go_wp2_with (first|(go_at_call 189;refine iI (b _) ?_)|(go_at_call 190;refine(e _).mono ?_;rintro o t ⟨rfl,a⟩));go_ret;exact⟨by simp[x],a.alloc a.size _⟩
    .go_in;go_wp2_with (first|(go_at_call 189;refine iI (b _) ?_)|(go_at_call 190;refine(e _).mono ?_;rintro o t ⟨rfl,a⟩));go_ret;exact⟨by rw[aE (show ¬n<0 by omega)];simp,a.alloc a.size _⟩
   .have q:cJ (aA s 0)=V:=by simpa using c
    have b:=λw=>iq q w;rw[show qD s=V by unfold qD;simp[q],qe];generalize aA s 0=u at r b;go_in;go_wp2_with (first|(go_at_call 189;refine iI (b _) ?_));go_ret;exact⟨rfl,ah _ _⟩
  .have E:(40:Int)<(s.size:Int):=by omega
   rw[aE p,fw];go_in;go_wp2;go_ret;exact⟨rfl,ah _ _⟩
 .have C:((s.size:Int)==0)=U:=by rw[mj];omega
  rw[show qD s=V by unfold qD;rw[dJ i];simp[zi],qe];go_in;go_wp2;go_ret;exact⟨rfl,ah _ _⟩
structure NArg (W:A5) (vt:A9) (ns:List Nd) (N:Nd) (vn vk:A9):Prop where
 t:dy W vt ns
 n:bi W vn N.nm
 k:dh W vk N.ks
 ok:Ay ns N
 ln:ns.length<=1048576
 l1:N.nm.length<=1048576
 l2:N.ks.length<=1048576
 lx:N.x.size<=1048576
 ls:∀s∈N.nm,s.size<=1048576
def NArg.below{W b:A5}(h:NArg W vt ns N vn vk)(a:be W b):NArg b vt ns N vn vk:=
 ⟨h.t.below a,h.n.below a,h.k.below a,h.ok,h.ln,h.l1,h.l2,h.lx,h.ls⟩
structure St (w:A5) (vt:A9) (ns:List Nd) (N:Nd) (vn vk:A9) (W:A5):Prop where
 a:NArg W vt ns N vn vk
 bt:W.cell? ⟨w.heap.size,0,Z⟩=Br vt
 bn:nA (w.heap.size+1) W 61 N vn vk
 bel:be w W
def St.below{W c:A5}(h:St w vt ns N vn vk W)(b:be W c):St w vt ns N vn vk c:=
 ⟨h.a.below b,ag b h.bt,h.bn.below b,h.bel.trans (b.mono h.bel.size)⟩
def St.start(h:NArg w vt ns N vn vk):St w vt ns N vn vk ((w.alloc (.cells #[vt] 25)).alloc (.cells #[M O N.k,M O N.f,M O N.t,M O N.l,M O N.op,M O N.n,S N.x,vn,vk] 61)):=by
 have a:be w ((w.alloc (.cells #[vt] 25)).alloc (.cells #[M O N.k,M O N.f,M O N.t,M O N.l,M O N.op,M O N.n,S N.x,vn,vk] 61)):=((ah _ w).alloc (af _) _).alloc (by simp) _;refine⟨h.below a,?_,?_,a⟩
 .rw[aj _ _ _ _ _ _ ((fp _ _ _ (by simp)).trans (aB w _))];rfl
 .have:=aB (w.alloc (.cells #[vt] 25)) (.cells #[M O N.k,M O N.f,M O N.t,M O N.l,M O N.op,M O N.n,S N.x,vn,vk] 61);rw[dm]at this;exact this
def ry(A:NArg w vt ns N vn vk)(i:Nat)(e:i<N.ks.length):
  X T 138 #[Y #[vt],jG N vn vk,M O i] w (gy w (M O (dK ns N i))):=by
 have⟨f,a,b,c,d,g⟩:=A.ok.get e;rw[d];exact aeJ w vt ns N a vn vk i f A.t A.n A.k b c A.ln A.l2
abbrev aN(N:Nd)(b a:A9):A9:= Y #[M O N.k,M O N.f,M O N.t,M O N.l,M O N.op,M O N.n,S N.x,b,a]
section
variable {w W : World} {vt vn vk : Value} {ns : List Nd} {N : Nd} {Q : Ending → World → Prop} (s : St w vt ns N vn vk W)
include s
def St.bare{a b c d:Bool}(k:∀e,St w vt ns N vn vk e->Q (A0 (Ax (aL N a b c d))) e):X T 139 #[aN N vn vk,Ax a,Ax b,Ax c,Ax d] W Q:=gL (abn _ N _ _ s.a.n s.a.k s.a.l1 _ _ _ _) λg f=>k g (s.below f)
def St.named{a b:Int}(k:∀c,St w vt ns N vn vk c->Q (A0 (Ax (fj N a b))) c):X T 140 #[aN N vn vk,M O a,M O b] W Q:=gL (Lg _ N _ _ a b s.a.n s.a.k s.a.l1 s.a.ls) λe d=>k e (s.below d)
def St.ex1(d:1<=N.ks.length)(k:∀b,St w vt ns N vn vk b->Q (A0 (Ax (jF ns N 1 0))) b):X T 141 #[Y #[vt],aN N vn vk,M O 0,M O 1] W Q:=gL (nD _ _ ns N _ _ 0 1 s.a.t s.a.n s.a.k s.a.ok d s.a.ln s.a.l2) λe c=>k e (s.below c)
def St.ex2(d:2<=N.ks.length)(k:∀b,St w vt ns N vn vk b->Q (A0 (Ax (jF ns N 2 0))) b):X T 141 #[Y #[vt],aN N vn vk,M O 0,M O 2] W Q:=gL (nD _ _ ns N _ _ 0 2 s.a.t s.a.n s.a.k s.a.ok d s.a.ln s.a.l2) λe c=>k e (s.below c)
def St.exL(k:∀b,St w vt ns N vn vk b->Q (A0 (Ax (jF ns N N.ks.length 0))) b):X T 141 #[Y #[vt],aN N vn vk,M O 0,M O (N.ks.length:Int)] W Q:=gL (nD _ _ ns N _ _ 0 _ s.a.t s.a.n s.a.k s.a.ok (af _) s.a.ln s.a.l2) λd c=>k d (s.below c)
def St.kid0(d:0<N.ks.length)(k:∀b,St w vt ns N vn vk b->Q (A0 (M O (dK ns N 0))) b):X T 138 #[Y #[vt],aN N vn vk,M O 0] W Q:=gL (ry s.a 0 d) λe c=>k e (s.below c)
def St.kid1(d:1<N.ks.length)(k:∀b,St w vt ns N vn vk b->Q (A0 (M O (dK ns N 1))) b):X T 138 #[Y #[vt],aN N vn vk,M O 1] W Q:=gL (ry s.a 1 d) λe c=>k e (s.below c)
end
def ahc(A:NArg w vt ns N vn vk)(a:1<N.ks.length):
  X T 138 #[Y #[vt],Y #[M O N.k,M O N.f,M O N.t,M O N.l,M O N.op,M O N.n,S N.x,vn,vk],M O 1] w (gy w (M O (dK ns N 1))):=ry A 1 a
