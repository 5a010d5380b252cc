import Derived.Test.YtnoembpaejlaeaaGreatDoorHLk08
import Derived.Test.YtnoembpaejlaeaaGreatDoorHLk04
set_option linter.all false
set_option maxRecDepth 100000
set_option maxHeartbeats 3200000
open Go.Value renaming int->M,string->T,agg->A0,pointer->A3,tuple->A5,bool->Br
open Go.IntKind renaming i64->O
open Go.Proofs.Tryz renaming prog->S
open Option renaming none->U,some->A9
open Go.Ending renaming returned->V
open Bool renaming true->X,false->Z
open Go.RowKit renaming Below->Y,intOf->B1,Hid->B2
open Go renaming Calls->Ax,World->A2,Value->B0,TypeId->B3,undef->B4
namespace Go.Proofs.YtnoembpaejlaeaaGreatDoor
open Go.RowKit Go.Maps Go.WideMaps
variable{N:Nd}{W w:World}{ns:List Nd}{vk vn vt:Value}
def ul(s:ByteArray)(i:Nat)(c:Int)(d:0<c:=by omega):(lk s i==c)=decide (aw s i=c):=by
 unfold lk;split
 .by_cases a:aw s i=c<;>simp[a]
 .rename_i a;rw[dH a];have b:((0:Int)==c)=Z:=by rw[dv];omega
  rw[b];symm;rw[sf];omega
def Df(s:ByteArray)(p:Nat):Bool:=decide ((aw s (nA0 s p)=46/\cD (aw s (nA0 s p+1))=X)\/aw s (nA1 s (nA0 s p))=101)
def ajc(s:ByteArray)(p E:Nat)(R:Option Nat):B0:=match R with
 |some a=> A0 #[M O 2,M O p,M O (E:Int),M O 0,M O (a:Int),T ⟨#[]⟩]
 |none=> A0 #[M O 3,M O p,M O (E:Int),M O 0,M O 0,T (s.extract p E)]
def nmA(s:ByteArray)(p:Nat):B0:=
 if(oq s (nA1 s (nA0 s p))).2=X then
  (if Df s p=X then A0 #[M O 3,M O p,M O ((oq s (nA1 s (nA0 s p))).1:Int),M O 0,M O 0,T (s.extract p (oq s (nA1 s (nA0 s p))).1)]
  else ajc s p (oq s (nA1 s (nA0 s p))).1 (qA s p ((oq s (nA1 s (nA0 s p))).1-p)))
 else A0 #[M O 3,M O p,M O 0,M O 0,M O 0,T ⟨#[]⟩]
def nmF(s:ByteArray)(p:Nat):Int:=if(oq s (nA1 s (nA0 s p))).2=X then -1 else((oq s (nA1 s (nA0 s p))).1:Int)
def JH(s:ByteArray)(p j:Nat)(h:qA s p j=U):∀n,j<=n->qA s p n=U
 |0,a=>by
  obtain rfl:j=0:=by omega
  exact h
 |n+1,a=>by
  rcases js a with rfl|h2
  .exact h
  .rw[qA,JH s p j h n (by omega)]
def Hc(s:ByteArray)(p:Nat)(f:cD (aw s p)=X)(a:Df s p=Z):(oq s (nA1 s (nA0 s p)))=(nA0 s p,X)/\∀i,p<=i->i<nA0 s p->cD (aw s i)=X:=by
 unfold Df at a;rw[sf]at a;have d:nA1 s (nA0 s p)=nA0 s p:=by unfold nA1;rw[aa (λb=>a (.inl b))]
 rw[d]at a⊢;have e:oq s (nA0 s p)=(nA0 s p,X):=by unfold oq;rw[aa (λb=>a (.inr b))]
 refine⟨e,λi g c=>?_⟩;rcases js g with rfl|h3
 .exact f
 .unfold nA0 at c;split at c
  .omega
  .exact ui cD s _ (p+1) i h3 c
def aml(s:ByteArray)(a:Nat)(h:aw s a=101)(c:cD (aw s (nA2 s a))=Z):oq s a=(nA2 s a,Z):=by
 have b:sx s (nA2 s a)=nA2 s a:=by unfold sx iI;rw[aa (by rw[c];simp)]
 unfold oq;rw[ab h,b];simp
def ajd(s:ByteArray)(a:Nat)(e:a<s.size)(h:aw s a=101)(b:cD (aw s (nA2 s a))=X):oq s a=(sx s (nA2 s a),X):=by
 have f:=re b;have d:=pq cD yl s s.size (nA2 s a+1) (by omega);have c:sx s (nA2 s a)=iI cD s s.size (nA2 s a+1):=by
  show iI cD s (s.size+1) (nA2 s a)=_;rw[iI,ab b]
 unfold oq;rw[ab h,c];simp;omega
def afH(s:ByteArray)(a:Nat)(h:aw s a=101):a<nA2 s a/\nA2 s a<=s.size:=by
 have b:=bq h;unfold nA2;split
 .rename_i hs;rcases hs with hs|hs
  .have:=bq hs;omega
  .have:=bq hs;omega
 .omega
def qe(s:ByteArray)(k:Nat):cD (aw s k)=X\/cD (aw s k)=Z:=by cases cD (aw s k)<;>simp
def Hd(s:ByteArray)(I:s.size<=1100000)(p:Nat)(ee:p<s.size)(cy:cD (aw s p)=X)(B:¬(aw s p=48/\aw s (p+1)=120))(w:A2):Ax S 135 #[T s,A0 #[M O 0,M O p,M O 0,M O 0,M O 0,T ⟨#[]⟩]] w λe u=>e= V (A5 #[nmA s p,M O (nmF s p)])/\Y w.heap.size w u:=by
 obtain⟨ek,cq⟩:=aF (nmA s p);obtain⟨e3,cs⟩:=aF (nmF s p);rw[cq,cs];have k:=aq cq;have o:=aq cs;clear cq cs;have cB:=λw=>dL ee w;go_in;go_upto_region 3 with fail
 generalize ds:(w.alloc _).alloc _=b4;obtain⟨a,c3,cr, -⟩:=Co ds;have cb:fe w.heap.size b4 2 p 0 0 0 ⟨#[]⟩:=a;have cc:fe (w.heap.size+1) b4 0 0 0 0 0 ⟨#[]⟩:=c3;clear ds a c3;have ex:w.heap.size+1<b4.heap.size:=aj cc;obtain⟨L,ad,af,ak,al,an,ao⟩:=bz cb;go_cut [22] from 9 (λe0 r=>e0= Br Z/\r=b4)
 case first=>
  by_cases z:aw s p=48
  .rw[z]at cB;have ea:¬aw s (p+1)=120:=λh=>B ⟨z,h⟩;have eo:(lk s (p+1)==120)=Z:=by rw[ul _ _ _];simpa using ea
   have f:∀w,Ax S 131 #[T s,M O ((p:Int)+1)] w λe u=>e= V (M .u8 (lk s (p+1)))/\u=w:=λw=>iC s I _ (p+1) (by omega) w;generalize lk s (p+1)=n at f eo;clear z ea B cy k o;go_wp2_with (go_at_call 131;refine ft (f _) ?_);go_meet
   case rel=>exact⟨rfl,rfl⟩
  .have b8:(aw s p==48)=Z:=by rw[dv];exact z
   generalize aw s p=n at cB b8;clear z B k o;go_wp2_with fail;go_meet
   case rel=>exact⟨rfl,rfl⟩
 case rest=>
  obtain⟨rfl,rfl⟩:=hcut;go_upto_if 34 with fail
  go_cut [6] from 9 (λa8 r=>a8= M O (nA0 s p:Int)/\r=wc)
  case first=>
   by_cases z:aw s p=48
   .have ep:B2 (nA0 s p=p+1):=by show _=_;unfold nA0;rw[ab z]
    rw[z];clear z B k o;go_wp2_with fail;go_meet
    case rel=>exact⟨by rw[ep.out];go_num,rfl⟩
   .have E:B2 (iI cD s (s.size+1) (p+1)=nA0 s p):=by show _=_;unfold nA0;rw[aa z];rfl
    have b8:(aw s p !=48)=X:=by rw[BB];exact z
    rw[b8];obtain⟨g,t⟩:=aF (nA0 s p);rw[t]at E;have A:=aq t;clear z B k o b8 t;go_wp2_with fail;go_loop [6] (λi=>∃(b l:Nat),b<=s.size/\s.size<b+l/\i= M O b/\B2 (iI cD s l b=g)) (λi=>s.size-(B1 i).toNat)
    case atStart=>exact⟨p+1,s.size+1,by omega,by omega,by first|rfl|(congr 1;omega),E⟩
    case round=>
     obtain⟨b,l,d6,d4,rfl,bl⟩:=hrel;obtain⟨l,rfl⟩:∃bo,l=bo+1:=⟨l-1,by omega⟩;have d:=bl.out;unfold iI at d;have f:=λw=>iC s I (b:Int) b rfl w;rcases qe s b with h1|h1
     .have d9:b<s.size:=re h1;have c:=λw=>fI ((pJ s b).trans h1) w;rw[ab h1]at d;have m:=aq d;generalize lk s b=n at f c;clear d h1;go_wp2_with (first|(go_at_call 131;refine ft (f _) ?_)|(go_at_call 134;refine ft (c _) ?_));go_round
      case rel=>exact⟨b+1,l,by omega,by omega,by go_num,m⟩
      case measure=>simp[B1];omega
     .have c:=λw=>fI ((pJ s b).trans h1) w;rw[aa (by rw[h1];simp)]at d;have m:=aq d;generalize lk s b=n at f c;clear d h1;go_wp2_with (first|(go_at_call 131;refine ft (f _) ?_)|(go_at_call 134;refine ft (c _) ?_));go_meet
      case rel=>exact⟨by rw[A.out,<-m.out],rfl⟩
  case rest=>
   obtain⟨rfl,rfl⟩:=hcut;have cp:=C5 s p ee;go_upto_region 9 with fail
   obtain⟨D,df⟩:∃D:Bool,decide (aw s (nA0 s p)=46/\cD (aw s (nA0 s p+1))=X)=D:=⟨_,rfl⟩;have x:=aq df;clear df;go_cut [51] from 9 (λe1 r=>e1= Br D/\r=wc)
   case first=>
    have f:=λw=>iC s I (nA0 s p:Int) (nA0 s p) rfl w;have C:∀w,Ax S 131 #[T s,M O ((nA0 s p:Int)+1)] w λe u=>e= V (M .u8 (lk s (nA0 s p+1)))/\u=w:=λw=>iC s I _ (nA0 s p+1) (by omega) w;have br:=ul s (nA0 s p) 46;by_cases a4:aw s (nA0 s p)=46
    .rw[bp a4]at br;have a5:=x.out;rcases qe s (nA0 s p+1) with h1|h1
     .have c:=λw=>fI ((pJ s (nA0 s p+1)).trans h1) w;rw[bp ⟨a4,h1⟩]at a5;subst a5;generalize lk s (nA0 s p+1)=em at C c;generalize lk s (nA0 s p)=n at f br;clear a4 h1 x k o;go_wp2_with (first|(go_at_call 131;first|(with_reducible refine ft (f _) ?_)|(with_reducible refine ft (C _) ?_))|(go_at_call 134;refine ft (c _) ?_));go_meet
      case rel=>exact⟨rfl,rfl⟩
     .have c:=λw=>fI ((pJ s (nA0 s p+1)).trans h1) w;rw[aD (λh=>by rw[h.2]at h1;cases h1)]at a5;subst a5;generalize lk s (nA0 s p+1)=em at C c;generalize lk s (nA0 s p)=n at f br;clear a4 h1 x k o;go_wp2_with (first|(go_at_call 131;first|(with_reducible refine ft (f _) ?_)|(with_reducible refine ft (C _) ?_))|(go_at_call 134;refine ft (c _) ?_));go_meet
      case rel=>exact⟨rfl,rfl⟩
    .rw[aD a4]at br;have a5:=x.out;rw[aD (λh=>a4 h.1)]at a5;subst a5;generalize lk s (nA0 s p)=n at f br;clear a4 x k o;go_wp2_with (first|(go_at_call 131;refine ft (f _) ?_));go_meet
     case rel=>exact⟨rfl,rfl⟩
   case rest=>
    obtain⟨rfl,rfl⟩:=hcut;go_upto_if 51 with fail
    go_cut [6] from 9 (λa8 r=>a8= M O (nA1 s (nA0 s p):Int)/\fe w.heap.size r (if D=X then 3 else 2) p 0 0 0 ⟨#[]⟩/\fe (w.heap.size+1) r 0 0 0 0 0 ⟨#[]⟩/\Y w.heap.size w r)
    case first=>
     cases D with
     |true=>
      have bj:=aE x.out;have E:B2 (iI cD s (s.size+1) (nA0 s p+1)=nA1 s (nA0 s p)):=by show _=_;unfold nA1;rw[ab bj];rfl
      have et:=re bj.2;obtain⟨g,t⟩:=aF (nA1 s (nA0 s p));rw[t]at E;have A:=aq t;generalize nA0 s p=eh at E et cp⊢;clear bj x k o B t;have F:=cb.setKind 3;have G:=cc.other (a:=⟨w.heap.size,0,U⟩) (by simp) (M O 3);have J:Y w.heap.size w (wc.setCell ⟨w.heap.size,0,U⟩ (M O 3)):=cr.setCell (by simp) _;go_wp2_with fail;go_loop [6] (λi=>∃(b l:Nat),b<=s.size/\s.size<b+l/\i= M O b/\B2 (iI cD s l b=g)) (λi=>s.size-(B1 i).toNat)
      case atStart=>exact⟨eh+1,s.size+1,by omega,by omega,by first|rfl|(congr 1;omega),E⟩
      case round=>
       obtain⟨b,l,d6,d4,rfl,bl⟩:=hrel;obtain⟨l,rfl⟩:∃bo,l=bo+1:=⟨l-1,by omega⟩;have d:=bl.out;unfold iI at d;have f:=λw=>iC s I (b:Int) b rfl w;rcases qe s b with h1|h1
       .have d9:b<s.size:=re h1;have c:=λw=>fI ((pJ s b).trans h1) w;rw[ab h1]at d;have m:=aq d;generalize lk s b=n at f c;clear d h1;go_wp2_with (first|(go_at_call 131;refine ft (f _) ?_)|(go_at_call 134;refine ft (c _) ?_));go_round
        case rel=>exact⟨b+1,l,by omega,by omega,by go_num,m⟩
        case measure=>simp[B1];omega
       .have c:=λw=>fI ((pJ s b).trans h1) w;rw[aa (by rw[h1];simp)]at d;have m:=aq d;generalize lk s b=n at f c;clear d h1;go_wp2_with (first|(go_at_call 131;refine ft (f _) ?_)|(go_at_call 134;refine ft (c _) ?_));go_meet
        case rel=>exact⟨by rw[A.out,<-m.out],F,G,J⟩
     |false=>
      have bj:=mj x.out;have t:nA1 s (nA0 s p)=nA0 s p:=by unfold nA1;rw[aa bj]
      have A:=aq t;clear bj x k o B t;go_wp2_with fail;go_meet
      case rel=>exact⟨by rw[A.out],cb,cc,cr⟩
    case rest=>
     obtain⟨rfl,a6,bh,b9⟩:=hcut;clear cb cc cr L ad af ak al an ao ex;have c6:=C6 s _ cp.2;have f:=λw=>iC s I (nA1 s (nA0 s p):Int) (nA1 s (nA0 s p)) rfl w;have c8:=ul s (nA1 s (nA0 s p)) 101;obtain⟨a3,cw⟩:∃a3:Bool,decide (aw s (nA1 s (nA0 s p))=101)=a3:=⟨_,rfl⟩;have a9:=aq cw;rw[cw]at c8;clear cw;obtain⟨L,ad,af,ak,al,an,ao⟩:=bz a6;obtain⟨z0,ap,ar,au,av,ax,ck⟩:=bz bh;have bk:w.heap.size<wc.heap.size:=aj a6;have cf:w.heap.size+1<wc.heap.size:=aj bh;go_upto_if 64 with(go_at_call 131;refine(f _).mono ?_;rintro e u ⟨rfl,y⟩;obtain rfl:=y.symm)
     clear f c8;go_cut [6] from 9 (λa8 r=>a8= M O ((oq s (nA1 s (nA0 s p))).1:Int)/\(oq s (nA1 s (nA0 s p))).2=X/\fe w.heap.size r (if(D||a3)=X then 3 else 2) p 0 0 0 ⟨#[]⟩/\fe (w.heap.size+1) r 0 0 0 0 0 ⟨#[]⟩/\Y w.heap.size w r)
     case first=>
      cases a3 with
      |false=>
       have K:=mj a9.out;have A:B2 (oq s (nA1 s (nA0 s p))=(nA1 s (nA0 s p),X)):=by show _=_;unfold oq;rw[aa K]
       rw[<-Gl D]at a6;clear K a9 k o x B;go_wp2_with fail;go_meet
       case rel=>exact⟨by rw[A.out],by rw[A.out],a6,bh,b9⟩
      |true=>
       have K:=aE a9.out;have bv:=aml s (nA1 s (nA0 s p)) K;have bx:=ajd s (nA1 s (nA0 s p)) (bq K) K;have c4:=afH s (nA1 s (nA0 s p)) K;have C:∀w,Ax S 131 #[T s,M O ((nA1 s (nA0 s p):Int)+1)] w λe u=>e= V (M .u8 (lk s (nA1 s (nA0 s p)+1)))/\u=w:=λw=>iC s I _ (nA1 s (nA0 s p)+1) (by omega) w;have b6:=ul s (nA1 s (nA0 s p)+1) 43;have b7:=ul s (nA1 s (nA0 s p)+1) 45;have bb:B2 (nA2 s (nA1 s (nA0 s p))=if decide (aw s (nA1 s (nA0 s p)+1)=43)=X\/decide (aw s (nA1 s (nA0 s p)+1)=45)=X then nA1 s (nA0 s p)+1+1 else nA1 s (nA0 s p)+1):=by show _=_;unfold nA2;simp
       generalize decide (aw s (nA1 s (nA0 s p)+1)=43)=cn at b6 bb;generalize decide (aw s (nA1 s (nA0 s p)+1)=45)=b1 at b7 bb;have F:=a6.setKind 3;have G:=bh.other (a:=⟨w.heap.size,0,U⟩) (by simp) (M O 3);have J:Y w.heap.size w (wc.setCell ⟨w.heap.size,0,U⟩ (M O 3)):=b9.setCell (by simp) _;obtain⟨b5,cv⟩:=aF (wc.setCell ⟨w.heap.size,0,U⟩ (M O 3));rw[cv]at F G J;have c0:=aq cv;clear K a9 x B cv;go_upto_region 17 with fail
       rw[c0.out];clear c0 a6 bh b9 L ad af ak al an ao z0 ap ar au av ax ck bk cf;obtain⟨L,ad,af,ak,al,an,ao⟩:=bz F;obtain⟨z0,ap,ar,au,av,ax,ck⟩:=bz G;have bk:w.heap.size<b5.heap.size:=aj F;have cf:w.heap.size+1<b5.heap.size:=aj G;go_cut [77] from 9 (λe2 r=>e2= Br (b1||cn)/\r=b5)
       case first=>
        generalize lk s (nA1 s (nA0 s p)+1)=n at C b6 b7;clear k o bv bx bb;cases b1 with
        |true=>
         go_wp2_with (first|(go_at_call 131;refine(C _).mono ?_;rintro e u ⟨rfl,y⟩;obtain rfl:=y.symm));go_meet
         case rel=>exact⟨rfl,rfl⟩
        |false=>
         go_wp2_with (first|(go_at_call 131;refine(C _).mono ?_;rintro e u ⟨rfl,y⟩;obtain rfl:=y.symm));go_meet
         case rel=>exact⟨rfl,rfl⟩
       case rest=>
        obtain⟨rfl,bA⟩:=hcut;obtain rfl:=bA.symm;clear bA;go_upto_if 77 with fail
        go_cut [6] from 9 (λa8 r=>a8= M O (nA2 s (nA1 s (nA0 s p)):Int)/\r=b5)
        case first=>
         clear k o bv bx b6 b7 C;obtain⟨b3,ct⟩:∃b3:Bool,(b1||cn)=b3:=⟨_,rfl⟩;have da:B2 (nA2 s (nA1 s (nA0 s p))=if b3=X then nA1 s (nA0 s p)+1+1 else nA1 s (nA0 s p)+1):=by show _=_;rw[bb.out,<-ct];cases b1<;>cases cn<;>simp
         rw[ct];clear ct bb;cases b3 with
         |true=>
          go_wp2_with fail;go_meet
          case rel=>exact⟨by rw[da.out];simp only[jE];go_num,rfl⟩
         |false=>
          go_wp2_with fail;go_meet
          case rel=>exact⟨by rw[da.out];simp,rfl⟩
        case rest=>
         obtain⟨rfl,bA⟩:=hcut;obtain rfl:=bA.symm;clear bA bb b6 b7 C;have a7:=λw=>iC s I (nA2 s (nA1 s (nA0 s p)):Int) (nA2 s (nA1 s (nA0 s p))) rfl w;rcases qe s (nA2 s (nA1 s (nA0 s p))) with h1|h1
         .have c:=λw=>fI ((pJ s (nA2 s (nA1 s (nA0 s p)))).trans h1) w;have cF:B2 (oq s (nA1 s (nA0 s p))=(sx s (nA2 s (nA1 s (nA0 s p))),X)):=bx h1;obtain⟨g,t⟩:=aF (sx s (nA2 s (nA1 s (nA0 s p))));have E:=aq t;have A:=aq t;generalize lk s (nA2 s (nA1 s (nA0 s p)))=en at a7 c;generalize nA2 s (nA1 s (nA0 s p))=ei at E c4 a7⊢;clear bv bx t h1 k o;go_wp2_with (first|(go_at_call 131;refine(a7 _).mono ?_;rintro e u ⟨rfl,y⟩;obtain rfl:=y.symm)|(go_at_call 134;refine(c _).mono ?_;rintro e u ⟨rfl,y⟩;obtain rfl:=y.symm));clear a7 c;go_loop [6] (λi=>∃(b l:Nat),b<=s.size/\s.size<b+l/\i= M O b/\B2 (iI cD s l b=g)) (λi=>s.size-(B1 i).toNat)
          case atStart=>exact⟨ei,s.size+1,by omega,by omega,by first|rfl|(congr 1;omega),E⟩
          case round=>
           obtain⟨b,l,d6,d4,rfl,bl⟩:=hrel;obtain⟨l,rfl⟩:∃bo,l=bo+1:=⟨l-1,by omega⟩;have d:=bl.out;unfold iI at d;have f:=λw=>iC s I (b:Int) b rfl w;rcases qe s b with h1|h1
           .have d9:b<s.size:=re h1;have c:=λw=>fI ((pJ s b).trans h1) w;rw[ab h1]at d;have m:=aq d;generalize lk s b=n at f c;clear d h1;go_wp2_with (first|(go_at_call 131;refine ft (f _) ?_)|(go_at_call 134;refine ft (c _) ?_));go_round
            case rel=>exact⟨b+1,l,by omega,by omega,by go_num,m⟩
            case measure=>simp[B1];omega
           .have c:=λw=>fI ((pJ s b).trans h1) w;rw[aa (by rw[h1];simp)]at d;have m:=aq d;generalize lk s b=n at f c;clear d h1;go_wp2_with (first|(go_at_call 131;refine ft (f _) ?_)|(go_at_call 134;refine ft (c _) ?_));go_meet
            case rel=>exact⟨by rw[cF.out,A.out,<-m.out],by rw[cF.out],by simpa using F,G,J⟩
         .have c:=λw=>fI ((pJ s (nA2 s (nA1 s (nA0 s p)))).trans h1) w;have d2:=bv h1;have j:=k.out;have H:=o.out;unfold nmA at j;unfold nmF at H;rw[d2]at j H;simp only[aa (show ¬Z=X by simp)]at j H;subst j;obtain⟨cl,dg⟩:∃cl:Int,(nA2 s (nA1 s (nA0 s p)):Int)=cl:=⟨_,rfl⟩;rw[dg]at H a7⊢;subst H;generalize lk s (nA2 s (nA1 s (nA0 s p)))=en at a7 c;clear d2 h1 bv bx k o c4 dg;go_wp2_with (first|(go_at_call 131;refine(a7 _).mono ?_;rintro e u ⟨rfl,y⟩;obtain rfl:=y.symm)|(go_at_call 134;refine(c _).mono ?_;rintro e u ⟨rfl,y⟩;obtain rfl:=y.symm));refine aH (v:= A5 #[A0 #[M O 3,M O p,M O 0,M O 0,M O 0,T ⟨#[]⟩],M O cl]) (by simp[results,Tryz.results135,go_sem,z0,ap,ar,au,av,ax]) rfl ⟨rfl,?_⟩
          iterate 6 refine fK ?_ (by simp) _
          exact J
     case rest=>
      obtain⟨rfl,ec,bf,dx,dc⟩:=hcut;have c7:=aam s _ c6.2;have dn:Df s p=(D||a3):=by unfold Df;rw[<-x.out,<-a9.out];simp
      have cx:=Hc s p cy;have j:=k.out;have H:=o.out;unfold nmA at j;unfold nmF at H;rw[ab ec]at j H;subst H;rw[dn]at j cx;have ev:p<(oq s (nA1 s (nA0 s p))).1:=by omega
      have es:(oq s (nA1 s (nA0 s p))).1<=s.size:=c7.2;have cd:(D||a3)=Z->∀i,p<=i->i<(oq s (nA1 s (nA0 s p))).1->cD (aw s i)=X:=λh i h1 c9=>by
       have d5:=cx h;exact d5.2 i h1 (by rw[d5.1]at c9;exact c9)
      clear cx dn x a9 k o ec c7 c6 cp B cB cy;generalize (D||a3)=a2 at bf j cd;generalize (oq s (nA1 s (nA0 s p))).1=g at ev es j cd⊢;clear a6 bh b9 L ad af ak al an ao z0 ap ar au av ax ck bk cf;obtain⟨ba,cu⟩:=aF (qA s p (g-p));rw[cu]at j;have bn:=aq cu;have k:=aq j;have b0:=aq cd;clear j cd cu;obtain⟨bD,ce⟩:∃bD:Int,(if a2=X then(3:Int) else 2)=bD:=⟨_,rfl⟩;rw[ce]at bf;have cI:B2 ((bD=2/\a2=Z/\(0:Int)<=0/\qA s p (p-p)=A9 (0:Int).toNat)\/(bD=3/\(a2=X\/ba=U))):=by
       cases a2 with
       |true=>exact .inr ⟨ce.symm,.inl rfl⟩
       |false=>exact .inl ⟨ce.symm,rfl,by omega,by rw[fG];rfl⟩
      clear ce;obtain⟨L,ad,af,ak,al,an,ao⟩:=bz bf;have bk:w.heap.size<wc.heap.size:=aj bf;have F:=bf.setTo (g:Int);have G:=dx.other (a:=⟨w.heap.size,2,U⟩) (by simp) (M O (g:Int));have J:Y w.heap.size w (wc.setCell ⟨w.heap.size,2,U⟩ (M O (g:Int))):=dc.setCell (by simp) _;go_wp2_with fail;go_loopw [7,8] (λeA i wr=>∃(b:Nat) (c a:Int),p<=b/\b<=g/\i= M O b/\eA= M .u64 a/\fe w.heap.size wr c p (g:Int) 0 0 ⟨#[]⟩/\fe (w.heap.size+1) wr 0 0 0 0 0 ⟨#[]⟩/\Y w.heap.size w wr/\B2 ((c=2/\a2=Z/\0<=a/\qA s p (b-p)=A9 a.toNat)\/(c=3/\(a2=X\/ba=U)))) (λ_ i _=>g-(B1 i).toNat)
      case atStart=>exact⟨p,bD,0,ag _,by omega,rfl,rfl,F,G,J,cI⟩
      case round=>
       obtain⟨b,c,a,ew,e5,rfl,rfl,bs,bt,bd,d⟩:=hrel;clear F G J bf dx dc L ad af ak al an ao bk cI;obtain⟨L,ad,af,ak,al,an,ao⟩:=bz bs;obtain⟨z0,ap,ar,au,av,ax,ck⟩:=bz bt;have bk:w.heap.size<wr.heap.size:=aj bs;have cf:w.heap.size+1<wr.heap.size:=aj bt;rcases d.out with⟨rfl,ca,e4,bw⟩|⟨rfl,ed⟩
       .have d1:=amg s p _ _ bw;by_cases d7:b<g
        .have d3:=b0.out ca b ew d7;have er:=jw d3;have ey:=λw=>dL (s:=s) (i:=b) (by omega) w;have cz:qA s p (b+1-p)=if a.toNat*10+(aw s b-48).toNat<=9223372036854775807 then A9 (a.toNat*10+(aw s b-48).toNat) else U:=by
          rw[show b+1-p=(b-p)+1 by omega,qA,bw,show p+(b-p)=b by omega]
         have el:a<=9223372036854775807:=by omega
         have eb:qA s p (b+1-p)=U->ba=U:=λh=>by rw[<-bn.out];exact JH s p _ h _ (by omega)
         have m:B2 ((¬a*10+(aw s b-48)<=9223372036854775807->ba=U)/\(a*10+(aw s b-48)<=9223372036854775807->qA s p (b+1-p)=A9 (a*10+(aw s b-48)).toNat)):=by
          refine⟨λh=>eb (by rw[cz,aa (by omega)]),λh=>?_⟩;rw[cz,ab (by omega)]
          congr 1
          omega
         generalize aw s b=n at ey er m;clear d3 cz eb bw d b0 bn k d1;have dq:=bs.setKind 3;have d0:=bt.other (a:=⟨w.heap.size,0,U⟩) (by simp) (M O 3);have dd:Y w.heap.size w (wr.setCell ⟨w.heap.size,0,U⟩ (M O 3)):=bd.setCell (by simp) _;have d8:(b:Int)<(g:Int):=by omega
         rcases(show 922337203685477580<a\/(a=922337203685477580/\55<n)\/(a=922337203685477580/\¬55<n)\/a<922337203685477580 by omega) with q|⟨q,eF⟩|⟨q,eF⟩|q
         .have a0:B2 (ba=U):=m.1 (by omega);clear m;go_wp2;go_roundw
          case rel=>exact⟨b+1,3,_,by omega,by omega,by go_num,rfl,dq,d0,dd,.inr ⟨rfl,.inr a0⟩⟩
          case measure=>simp[B1];omega
         .have a0:B2 (ba=U):=m.1 (by omega);have eg:(a==922337203685477580)=X:=by rw[jB];exact q
          have ef:¬922337203685477580<a:=by omega
          clear m q;go_wp2;go_roundw
          case rel=>exact⟨b+1,3,_,by omega,by omega,by go_num,rfl,dq,d0,dd,.inr ⟨rfl,.inr a0⟩⟩
          case measure=>simp[B1];omega
         .have a0:B2 (qA s p (b+1-p)=A9 (a*10+(n-48)).toNat):=m.2 (by omega);have eg:(a==922337203685477580)=X:=by rw[jB];exact q
          have ef:¬922337203685477580<a:=by omega
          have eL:a*10+(n-48)<=9223372036854775807:=by omega
          clear m q;go_wp2;go_roundw
          case rel=>exact⟨b+1,2,a*10+(n-48),by omega,by omega,by go_num,by first|rfl|(congr 1;omega),bs,bt,bd,.inl ⟨rfl,ca,by omega,a0⟩⟩
          case measure=>simp[B1];omega
         .have a0:B2 (qA s p (b+1-p)=A9 (a*10+(n-48)).toNat):=m.2 (by omega);have eg:(a==922337203685477580)=Z:=by rw[dv];omega
          have ef:¬922337203685477580<a:=by omega
          have eL:a*10+(n-48)<=9223372036854775807:=by omega
          clear m;go_wp2;go_roundw
          case rel=>exact⟨b+1,2,a*10+(n-48),by omega,by omega,by go_num,by first|rfl|(congr 1;omega),bs,bt,bd,.inl ⟨rfl,ca,by omega,a0⟩⟩
          case measure=>simp[B1];omega
        .obtain rfl:b=g:=by omega
         have j:=k.out;rw[ca,<-bn.out,bw]at j;simp only[aa (show ¬Z=X by simp),ajc]at j;rw[show((a.toNat:Nat):Int)=a by omega]at j;subst j;have e6:wrap64 a=a:=by unfold wrap64;omega
         have el:a<=9223372036854775807:=by omega
         clear k bn b0 d bw d1;go_wp2;refine aH (v:= A5 #[A0 #[M O 2,M O p,M O (b:Int),M O 0,M O a,T ⟨#[]⟩],M O (-1)]) (by simp[results,Tryz.results135,go_sem,z0,ap,ar,au,av,ax]) rfl ⟨rfl,?_⟩
         iterate 7 refine fK ?_ (by simp) _
         exact bd
       .have j:=k.out;have eq:Value.agg #[M O 3,M O p,M O (g:Int),M O 0,M O 0,T (s.extract p g)]=ek:=by
         rcases ed with h|h
         .rw[h]at j;exact j
         .rw[h]at j;cases a2<;>exact j
        subst eq;clear j k bn b0 d ed;by_cases d7:b<g
        .have d8:(b:Int)<(g:Int):=by omega
         go_wp2;refine aH (v:= A5 #[A0 #[M O 3,M O p,M O (g:Int),M O 0,M O 0,T (s.extract p g)],M O (-1)]) (by simp[results,Tryz.results135,go_sem,z0,ap,ar,au,av,ax]) rfl ⟨rfl,?_⟩
         iterate 7 refine fK ?_ (by simp) _
         exact bd
        .have d8:¬(b:Int)<(g:Int):=by omega
         go_wp2;refine aH (v:= A5 #[A0 #[M O 3,M O p,M O (g:Int),M O 0,M O 0,T (s.extract p g)],M O (-1)]) (by simp[results,Tryz.results135,go_sem,z0,ap,ar,au,av,ax]) rfl ⟨rfl,?_⟩
         iterate 7 refine fK ?_ (by simp) _
         exact bd
def afI(s:ByteArray)(p:Nat):∃(t n:Int),hxA s p= A0 #[M O 2,M O p,M O t,M O 0,M O n,T ⟨#[]⟩]:=by
 unfold hxA;split<;>exact⟨_,_,rfl⟩
def EG(s:ByteArray)(p:Nat):B0:=if aw s p=48/\aw s (p+1)=120 then hxA s p else nmA s p
def yq(s:ByteArray)(p:Nat):Int:=if aw s p=48/\aw s (p+1)=120 then hxF s p else nmF s p
def amm(s:ByteArray)(p:Nat):∃(k t n:Int) (x:ByteArray),nmA s p= A0 #[M O k,M O p,M O t,M O 0,M O n,T x]:=by
 unfold nmA ajc;split
 .split
  .exact⟨_,_,_,_,rfl⟩
  .split<;>exact⟨_,_,_,_,rfl⟩
 .exact⟨_,_,_,_,rfl⟩
def ab1(s:ByteArray)(p:Nat):∃(k t n:Int) (x:ByteArray),EG s p= A0 #[M O k,M O p,M O t,M O 0,M O n,T x]:=by
 unfold EG;split
 .obtain⟨t,n,a⟩:=afI s p;exact⟨_,_,_,_,a⟩
 .exact amm s p
def He(s:ByteArray)(n:s.size<=1100000)(p:Nat)(g:aw s p=48)(b:aw s (p+1)=120)(w:A2):Ax S 135 #[T s,A0 #[M O 0,M O p,M O 0,M O 0,M O 0,T ⟨#[]⟩]] w λe d=>e= V (A5 #[hxA s p,M O (hxF s p)])/\Y w.heap.size w d:=by
 have x:=bq b;have o:=λw=>dL (s:=s) (i:=p) (by omega) w;rw[g]at o;have q:∀w,Ax S 131 #[T s,M O ((p:Int)+1)] w λe d=>e= V (M .u8 120)/\d=w:=λw=>by
  have:=iC s n ((p:Int)+1) (p+1) (by omega) w;rw[sF x,b]at this;exact this
 have a:=λw=>JB s n p (by omega) w;obtain⟨A,z,h⟩:=afI s p;rw[h]at a⊢;generalize hxF s p=r at a;clear h g b;go_in;go_wp2_with (go_at_call 131;refine ft (q _) ?_);generalize k:(w.alloc _).alloc _=t;obtain⟨-,f,j,y⟩:=Co k;have l:fe (w.heap.size+1) t 0 0 0 0 0 ⟨#[]⟩:=f;clear k f;refine du (a _) λB c=>?_;have m:=l.below c (by omega);have u:=j.trans (c.mono (by omega));clear c l j y a q o;obtain⟨z0,C,E,F,G,H,J⟩:=bz m;have I:w.heap.size+1<B.heap.size:=aj m;go_wp2;refine aH (v:= A5 #[A0 #[M O 2,M O p,M O A,M O 0,M O z,T ⟨#[]⟩],M O r]) (by simp[results,Tryz.results135,go_sem,z0,C,E,F,G,H]) rfl ⟨rfl,?_⟩
 iterate 6 refine fK ?_ (by simp) _
 exact u
def Hf(s:ByteArray)(b:s.size<=1100000)(p:Nat)(d:p<s.size)(c:cD (aw s p)=X)(w:A2):Ax S 135 #[T s,A0 #[M O 0,M O p,M O 0,M O 0,M O 0,T ⟨#[]⟩]] w λe f=>e= V (A5 #[EG s p,M O (yq s p)])/\Y w.heap.size w f:=by
 unfold EG yq;split
 .rename_i a;exact He s b p a.1 a.2 w
 .rename_i a;exact Hd s b p d c a w
def xi{c:Int}{b:Bool}(h:bK c=b)(w:A2):Ax S 132 #[M .u8 c] w λe d=>e= V (Br b)/\d=w:=(pm c w).mono λe d a=>⟨by rw[a.1,h],a.2.symm⟩
def Dg(s:ByteArray)(x:s.size<=1100000)(p:Nat)(n:p<s.size)(a:cD (aw s p)=X)(w:A2):Ax S 74 #[T s,M O p] w λe E=>e= V (A5 #[EG s p,M O (yq s p)])/\Y w.heap.size w E:=by
 have o:=λw=>dL n w;have y:=jw a;have m:bK (aw s p)=Z:=by simp[bK];omega
 have f:=λw=>xi m w;have d:=λw=>fI a w;have b:=λw=>Hf s x p n a w;obtain⟨A,C,B,G,i⟩:=ab1 s p;rw[i]at b⊢;generalize yq s p=q at b;generalize aw s p=t at o f d y;have ad:(t==10)=Z:=by rw[dv];omega
 clear m a i;go_in;go_wp2_with (first|(go_at_call 132;refine ft (f _) ?_)|(go_at_call 134;refine ft (d _) ?_));generalize j:(w.alloc _).alloc _=r;obtain⟨g, -,h,z⟩:=Co j;have k:fe w.heap.size r 0 0 0 0 0 ⟨#[]⟩:=g;clear j g;refine du (b _) λF c=>?_;have l:=k.below c (by omega);have u:=h.trans (c.mono (by omega));clear c k h z b f d o;obtain⟨z0,H,I,J,K,L,ak⟩:=bz l;have af:w.heap.size<F.heap.size:=aj l;go_wp2;refine aH (v:= A5 #[A0 #[M O A,M O p,M O C,M O 0,M O B,T G],M O q]) (by simp[results,Tryz.results74,go_sem,z0,H,I,J,K,L]) rfl ⟨rfl,?_⟩
 iterate 6 refine fK ?_ (by simp) _
 exact u
def afJ(s:ByteArray)(p:Nat):(yq s p<0↔(dJ s p).2=X)/\∃(k t n:Int) (x:ByteArray),EG s p= A0 #[M O k,M O p,M O t,M O 0,M O n,T x]/\((dJ s p).2=X->t=((dJ s p).1:Int)/\((k==3)=decide (¬(aw s p=48/\aw s (p+1)=120)/\(Df s p=X\/qA s p ((dJ s p).1-p)=U)))):=by
 unfold yq EG dJ;by_cases b:aw s p=48/\aw s (p+1)=120
 .simp only[ab b];unfold hxF hxA;cases hh:(nA s (p+2)).2 with
  |true=>
   simp only[jE];refine⟨⟨λ_=>trivial,λ_=>by omega⟩,2,_,_,_,rfl,λ_=>⟨rfl,?_⟩⟩;simp[b]
  |false=>
   simp only[aa (show ¬Z=X by simp)];refine⟨⟨λa=>by omega,λa=>by cases a⟩,2,_,_,_,rfl,λa=>by cases a⟩
 .simp only[aa b];unfold nmF nmA ajc;cases hh:(oq s (nA1 s (nA0 s p))).2 with
  |true=>
   simp only[jE];refine⟨⟨λ_=>trivial,λ_=>by omega⟩,?_⟩;cases hk:Df s p with
   |true=>
    simp only[jE];exact⟨3,_,_,_,rfl,λ_=>⟨rfl,by simp[b]⟩⟩
   |false=>
    simp only[aa (show ¬Z=X by simp)];cases hc:qA s p ((oq s (nA1 s (nA0 s p))).1-p) with
    |none=>exact⟨3,_,_,_,rfl,λ_=>⟨rfl,by simp[b]⟩⟩
    |some c=>exact⟨2,_,_,_,rfl,λ_=>⟨rfl,by simp⟩⟩
  |false=>
   simp only[aa (show ¬Z=X by simp)];refine⟨⟨λa=>by omega,λa=>by cases a⟩,3,_,_,_,rfl,λa=>by cases a⟩
def Hg(q:ByteArray)(a:cD (aw q 0)=X)(d:oq q (nA1 q (nA0 q 0))=(q.size,X)):zu q=U↔(Df q 0=X\/qA q 0 q.size=U):=by
 cases hk:Df q 0 with
 |false=>
  obtain⟨b,c⟩:=Hc q 0 a hk;have f:nA0 q 0=q.size:=by rw[d]at b;exact(xG b).1.symm
  rw[Jw q (re a) (λe g=>c e (by omega) (by omega))];simp
 |true=>
  simp only[true_or,iff_true];unfold Df at hk;rcases aE hk with h|h
  .exact yo q a _ (bq h.1) (by rw[h.1];decide)
  .exact yo q a _ (bq h) (by rw[h];decide)
def fok(q:ByteArray):Bool:=decide (q.size<=40)&&qd q
def JI(s:ByteArray)(B:s.size<=1100000)(w:A2):Ax S 162 #[T s] w λe p=>e= V (Br (fok s))/\Y w.heap.size w p:=by
 unfold fok;by_cases j:0<s.size
 .have E:((s.size:Int)==0)=Z:=by rw[dv];omega
  by_cases r:s.size<=40
  .have F:¬(40:Int)<(s.size:Int):=by omega
   have x:∀w,(Instr.index 9 (T s) (M O 0)).run S w= .ok (M .u8 (aw s 0)) w:=λw=>dL j w;by_cases b:cD (aw s 0)=X
   .have c:=λw=>fI b w;have g:∀w,Ax S 74 #[T s,M O 0] w λe p=>e= V (A5 #[EG s 0,M O (yq s 0)])/\Y w.heap.size w p:=λw=>Dg s B 0 j b w;obtain⟨hF,o,G,H,I,t,u⟩:=afJ s 0;rw[t]at g;have v:(decide (s.size<=40)&&qd s)=(decide (yq s 0<0)&&((o==3)&&(G==(s.size:Int)))):=by
     rw[bp r,gB];unfold qd;cases h2:(dJ s 0).2 with
     |false=>
      rw[aD (show ¬yq s 0<0 by rw[hF,h2];simp),fw,sf];rintro ⟨_,i,_⟩;rw[i]at h2;cases h2
     |true=>
      obtain⟨C,f⟩:=u h2;rw[bp (hF.2 h2),gB,f,C];by_cases m:(dJ s 0).1=s.size
      .have k:dJ s 0=(s.size,X):=Prod.ext m h2;rw[k];simp only[vq,beq_self_eq_true,Bool.and_true];rw[Gv];constructor
       .rintro ⟨_,_,d,h⟩;have n:oq s (nA1 s (nA0 s 0))=(s.size,X):=by rw[<-k];unfold dJ;rw[aa d]
        exact⟨d,(Hg s b n).1 h⟩
       .rintro ⟨d,h⟩;have n:oq s (nA1 s (nA0 s 0))=(s.size,X):=by rw[<-k];unfold dJ;rw[aa d]
        exact⟨b,trivial,d,(Hg s b n).2 h⟩
      .rw[show((((dJ s 0).1:Nat):Int)==(s.size:Int))=Z by rw[dv];omega,pf,sf];rintro ⟨_,i,_⟩;rw[i]at m;exact m rfl
    rw[v];clear v u t hF;generalize yq s 0=q at g;generalize aw s 0=z at x c;clear b;by_cases hF:q<0
    .by_cases f:o=3
     .subst f;go_in;go_wp2_with (first|(go_at_call 134;refine ft (c _) ?_)|(go_at_call 74;refine(g _).mono ?_;rintro e y ⟨rfl,a⟩));go_ret;exact⟨by simp[hF],a.alloc a.size _⟩
     .have A:(o==3)=Z:=by simp[f]
      clear f;go_in;go_wp2_with (first|(go_at_call 134;refine ft (c _) ?_)|(go_at_call 74;refine(g _).mono ?_;rintro e y ⟨rfl,a⟩));go_ret;exact⟨by simp[A],a.alloc a.size _⟩
    .go_in;go_wp2_with (first|(go_at_call 134;refine ft (c _) ?_)|(go_at_call 74;refine(g _).mono ?_;rintro e y ⟨rfl,a⟩));go_ret;exact⟨by rw[aD (show ¬q<0 by omega)];simp,a.alloc a.size _⟩
   .have l:cD (aw s 0)=Z:=by simpa using b
    have c:=λw=>fI l w;rw[show qd s=Z by unfold qd;simp[l],pf];clear b l;generalize aw s 0=z at x c;go_in;go_wp2_with (first|(go_at_call 134;refine ft (c _) ?_));go_ret;exact⟨rfl,ai _ _⟩
  .have F:(40:Int)<(s.size:Int):=by omega
   rw[aD r,fw];go_in;go_wp2;go_ret;exact⟨rfl,ai _ _⟩
 .have E:((s.size:Int)==0)=X:=by rw[jB];omega
  rw[show qd s=Z by unfold qd;rw[dH j];simp[yl],pf];go_in;go_wp2;go_ret;exact⟨rfl,ai _ _⟩
structure NArg (W:A2) (vt:B0) (ns:List Nd) (N:Nd) (vn vk:B0):Prop where
 t:eK W vt ns
 n:dk W vn N.nm
 k:dB W vk N.ks
 ok:zo ns N
 ln:ns.length<=1048576
 l1:N.nm.length<=1048576
 l2:N.ks.length<=1048576
 lx:N.x.size<=1048576
 ls:∀s∈N.nm,s.size<=1048576
def NArg.below{b:A2}(h:NArg W vt ns N vn vk)(a:Y W.heap.size W b):NArg b vt ns N vn vk:=
 ⟨h.t.below a,h.n.below a,h.k.below a,h.ok,h.ln,h.l1,h.l2,h.lx,h.ls⟩
structure St (w:A2) (vt:B0) (ns:List Nd) (N:Nd) (vn vk:B0) (W:A2):Prop where
 a:NArg W vt ns N vn vk
 bt:W.cell? ⟨w.heap.size,0,U⟩=A9 vt
 bn:mD (w.heap.size+1) W 62 N vn vk
 bel:Y w.heap.size w W
def St.below{c:A2}(h:St w vt ns N vn vk W)(b:Y W.heap.size W c):St w vt ns N vn vk c:=
 ⟨h.a.below b,ah b h.bt,h.bn.below b,h.bel.trans (b.mono h.bel.size)⟩
def St.start(h:NArg w vt ns N vn vk):St w vt ns N vn vk ((w.alloc (.cells #[vt] 26)).alloc (.cells #[M O N.k,M O N.f,M O N.t,M O N.l,M O N.op,M O N.n,T N.x,vn,vk] 62)):=by
 have a:Y w.heap.size w ((w.alloc (.cells #[vt] 26)).alloc (.cells #[M O N.k,M O N.f,M O N.t,M O N.l,M O N.op,M O N.n,T N.x,vn,vk] 62)):=((ai _ w).alloc (ag _) _).alloc (by simp) _;refine⟨h.below a,?_,?_,a⟩
 .rw[am _ _ _ _ _ _ ((dG _ _ _ (by simp)).trans (aB w _))];rfl
 .have:=aB (w.alloc (.cells #[vt] 26)) (.cells #[M O N.k,M O N.f,M O N.t,M O N.l,M O N.op,M O N.n,T N.x,vn,vk] 62);rw[de]at this;exact this
def qC(a:NArg w vt ns N vn vk)(i:Nat)(g:i<N.ks.length):
  Ax S 157 #[A0 #[vt],jl N vn vk,M O i] w λe h=>e= V (M O (fH ns N i))/\Y w.heap.size w h:=by
 obtain⟨j,b,c,d,f,l⟩:=a.ok.get g;rw[f];exact ads w vt ns N b vn vk i j a.t a.n a.k c d a.ln a.l2
abbrev aN(N:Nd)(vn vk:B0):B0:= A0 #[M O N.k,M O N.f,M O N.t,M O N.l,M O N.op,M O N.n,T N.x,vn,vk]
section
variable {w W : World} {vt vn vk : Value} {ns : List Nd} {N : Nd} {Q : Ending → World → Prop} (s : St w vt ns N vn vk W)
include s
def St.bare{a b c d:Bool}(k:∀e,St w vt ns N vn vk e->Q (V (Br (bF N a b c d))) e):Ax S 158 #[aN N vn vk,Br a,Br b,Br c,Br d] W Q:=du (L9 _ N _ _ s.a.n s.a.k s.a.l1 _ _ _ _) λg f=>k g (s.below f)
def St.named{a b:Int}(k:∀c,St w vt ns N vn vk c->Q (V (Br (fE N a b))) c):Ax S 159 #[aN N vn vk,M O a,M O b] W Q:=du (Ji _ N _ _ a b s.a.n s.a.k s.a.l1 s.a.ls) λe d=>k e (s.below d)
def St.ex1(d:1<=N.ks.length)(k:∀b,St w vt ns N vn vk b->Q (V (Br (lE ns N 1 0))) b):Ax S 160 #[A0 #[vt],aN N vn vk,M O 0,M O 1] W Q:=du (mE _ _ ns N _ _ 0 1 s.a.t s.a.n s.a.k s.a.ok d s.a.ln s.a.l2) λe c=>k e (s.below c)
def St.ex2(d:2<=N.ks.length)(k:∀b,St w vt ns N vn vk b->Q (V (Br (lE ns N 2 0))) b):Ax S 160 #[A0 #[vt],aN N vn vk,M O 0,M O 2] W Q:=du (mE _ _ ns N _ _ 0 2 s.a.t s.a.n s.a.k s.a.ok d s.a.ln s.a.l2) λe c=>k e (s.below c)
def St.exL(k:∀b,St w vt ns N vn vk b->Q (V (Br (lE ns N N.ks.length 0))) b):Ax S 160 #[A0 #[vt],aN N vn vk,M O 0,M O (N.ks.length:Int)] W Q:=du (mE _ _ ns N _ _ 0 _ s.a.t s.a.n s.a.k s.a.ok (ag _) s.a.ln s.a.l2) λd c=>k d (s.below c)
def St.kid0(d:0<N.ks.length)(k:∀b,St w vt ns N vn vk b->Q (V (M O (fH ns N 0))) b):Ax S 157 #[A0 #[vt],aN N vn vk,M O 0] W Q:=du (qC s.a 0 d) λe c=>k e (s.below c)
def St.kid1(d:1<N.ks.length)(k:∀b,St w vt ns N vn vk b->Q (V (M O (fH ns N 1))) b):Ax S 157 #[A0 #[vt],aN N vn vk,M O 1] W Q:=du (qC s.a 1 d) λe c=>k e (s.below c)
end
def afK(a:NArg w vt ns N vn vk)(b:1<N.ks.length):
  Ax S 157 #[A0 #[vt],A0 #[M O N.k,M O N.f,M O N.t,M O N.l,M O N.op,M O N.n,T N.x,vn,vk],M O 1] w λe c=>e= V (M O (fH ns N 1))/\Y w.heap.size w c:=qC a 1 b
def fJ(b:Nat)(w:A2):Ax S 303 #[A3 (A9 ⟨b,0,U⟩)] w λe a=>e= V (A3 (A9 ⟨b,0,U⟩))/\a=w:=by
 go_in;go_wp2;go_ret;exact⟨rfl,rfl⟩
def oy(N:Nd):Nat->Nd
 |0=>⟨N.k,N.f,N.t,N.l,0,0,⟨#[]⟩,N.nm,[]⟩
 |1=>⟨N.k,N.f,N.t,N.l,0,N.n,⟨#[]⟩,[],[]⟩
 |2=>⟨N.k,N.f,N.t,N.l,0,N.n,⟨#[]⟩,[],[]⟩
 |3=>⟨N.k,N.f,N.t,N.l,0,0,N.x,[],[]⟩
 |4=>⟨N.k,N.f,N.t,N.l,N.op,0,⟨#[]⟩,[],[]⟩
 |5=>⟨N.k,N.f,N.t,N.l,(if N.op=1 then 1 else 0),0,⟨#[]⟩,N.nm,[]⟩
 |_=>⟨N.k,N.f,N.t,N.l,0,0,⟨#[]⟩,[],[]⟩
def tJ(vn:B0):Nat->B0
 |0=>vn
 |5=>vn
 |_=> .slice U 0 0
def ak5(b:Nat)(w:A2)(d:B3)(h:d=145\/d=148\/d=151\/d=154\/d=157\/d=160\/d=93):(method 433 d (A3 (A9 ⟨b,0,U⟩)) "loop.example/warp/impl.head").run S w= .ok (303,A3 (A9 ⟨b,0,U⟩)) w:=by rcases h with rfl|rfl|rfl|rfl|rfl|rfl|rfl<;>kernel_rfl
def amn(k:Nat):po k=145\/po k=148\/po k=151\/po k=154\/po k=157\/po k=160\/po k=93:=by
 unfold po;split<;>decide
def FC(k b:Nat)(w:A2):(method 433 (po k) (A3 (A9 ⟨b,0,U⟩)) "loop.example/warp/impl.head").run S w= .ok (303,A3 (A9 ⟨b,0,U⟩)) w:=ak5 b w _ (amn k)
def asT(b:Nat)(w:A2)(d:B3)(h:d=145\/d=148\/d=151\/d=154\/d=157\/d=160\/d=93):(Instr.typeAssert (.iface d (A3 (A9 ⟨b,0,U⟩))) 52 d X).run S w= .ok (A5 #[A3 (A9 ⟨b,0,U⟩),Br X]) w:=by rcases h with rfl|rfl|rfl|rfl|rfl|rfl|rfl<;>kernel_rfl
def asF(b:Nat)(w:A2)(d e:B3)(h:d=145\/d=148\/d=151\/d=154\/d=157\/d=160\/d=93)(g:e=145\/e=148\/e=151\/e=154\/e=157\/e=160\/e=93)(a:d≠e):(Instr.typeAssert (.iface d (A3 (A9 ⟨b,0,U⟩))) 52 e X).run S w= .ok (A5 #[A3 U,Br Z]) w:=by
 rcases h with rfl|rfl|rfl|rfl|rfl|rfl|rfl;all_goals
  rcases g with rfl|rfl|rfl|rfl|rfl|rfl|rfl;all_goals first|exact absurd rfl a|kernel_rfl
def JJ:Array B0:=#[M O 26,M O 1,M O 2,M O 10,M O 2,M O 3,M O 73,M O 3,M O 4,M O 74,M O 3,M O 4,M O 75,M O 3,M O 4,M O 76,M O 3,M O 4,M O 77,M O 3,M O 4,M O 78,M O 3,M O 4,
 M O 72,M O 4,M O 4,M O 68,M O 5,M O 6,M O 69,M O 6,M O 7,M O 67,M O 7,M O 8,M O 70,M O 8,M O 9,M O 71,M O 8,M O 9,M O 61,M O 9,M O 10,M O 62,M O 9,M O 10,
 M O 63,M O 10,M O 11,M O 64,M O 10,M O 11,M O 65,M O 10,M O 11,M O 66,M O 10,M O 11]
def tz:List Int:=[26,10,73,74,75,76,77,78,72,68,69,67,70,71,61,62,63,64,65,66]
def tA(k:Nat):Int:=match JJ.getD k (M O 0) with| .int _ a=>a|_=>0
def ak6(k:Nat)(a:k<20)(w:A2):(Instr.index 190 (A0 JJ) (M O (k:Int))).run S w= .ok (A0 #[M O (tz.getD k 0),M O (tA (3*k+1)),M O (tA (3*k+2))]) w:=by
 rcases(show k=0\/k=1\/k=2\/k=3\/k=4\/k=5\/k=6\/k=7\/k=8\/k=9\/k=10\/k=11\/k=12\/k=13\/k=14\/k=15\/k=16\/k=17\/k=18\/k=19 by omega) with rfl|rfl|rfl|rfl|rfl|rfl|rfl|rfl|rfl|rfl|rfl|rfl|rfl|rfl|rfl|rfl|rfl|rfl|rfl|rfl;all_goals kernel_rfl
def Dh{b:Func}{p q:Tmp}{u:B3}(h:b.results=#[.cell q u,.tmp p])(tmps:Array B0)(P:Program)(w:A2)(a:Addr)(v c:B0)(e:tmps.getD p B4=v)(g:tmps.getD q B4= A3 (A9 a))
  (d:(loadVar u a).run P w= .ok c w):(results b tmps).run P w= .ok (A5 #[c,v]) w:=by
 have f:tmps[p]?.getD B4=v:=by simpa using e
 have i:tmps[q]?.getD B4= A3 (A9 a):=by simpa using g
 simp only[results,h];simp[Result.andThen,f,i,asAddr,d]
def nB(b:Nat)(W:A2)(x a z:Int):Prop:=W.heap[b]?=A9 (.cells #[M O x,M O a,M O z] 189 (0,0))
def ab2(w:A2)(b:Nat)(x a z:Int)(h:nB b w x a z):(loadVar 189 ⟨b,0,U⟩).run S w= .ok (.agg #[.int .i64 x,.int .i64 a,.int .i64 z]) w:=
 Gn w b 189 189 _ _ _ h Tryz.underlying189 rfl (by kernel_rfl)
def nB.put{b:Nat}{x e z:Int}(h:nB b W x e z)(a c d:Int):nB b (((W.setCell ⟨b,0,U⟩ (M O a)).setCell ⟨b,1,U⟩ (M O c)).setCell ⟨b,2,U⟩ (M O d)) a c d:=
 aL _ b 2 _ _ _ (aL _ b 1 _ _ _ (aL _ b 0 _ _ _ h))
def nB.cells{b:Nat}{x a z:Int}(h:nB b W x a z):W.cell? ⟨b,0,U⟩=A9 (M O x)/\W.cell? ⟨b,1,U⟩=A9 (M O a)/\W.cell? ⟨b,2,U⟩=A9 (M O z)/\∀j,W.frozen? ⟨b,j,U⟩=Z:=by
 unfold nB at h;exact⟨by rw[am _ _ _ _ _ _ h];rfl,by rw[am _ _ _ _ _ _ h];rfl,by rw[am _ _ _ _ _ _ h];rfl,λj=>ch _ _ _ _ _ h⟩
def aat(w:A2)(tt:B3)(fr:Nat×Nat)(u:w.heap[1]?=A9 (.cells JJ tt fr))(j:Nat)(af:j<20)(c:Int)(k:tz.getD j 0=c)(y:∀i,i<j->tz.getD i 0≠c):
  Ax S 225 #[.int .i64 c] w λe I=>e= .returned (.tuple #[.agg #[.int .i64 c,.int .i64 (tA (3*j+1)),.int .i64 (tA (3*j+2))],.bool X])/\Y w.heap.size w I:=by
 have E:=aj u;have v:∀a,Y w.heap.size w (w.alloc a):=λa=>(ai _ w).alloc (ag _) a;have r:nB w.heap.size (w.alloc (.cells #[.int .i64 0,.int .i64 0,.int .i64 0] 189)) 0 0 0:=aB w _;have z:B2 (nB w.heap.size (w.alloc (.cells #[.int .i64 0,.int .i64 0,.int .i64 0] 189)) 0 0 0/\Y w.heap.size w (w.alloc (.cells #[.int .i64 0,.int .i64 0,.int .i64 0] 189))):=⟨r,v _⟩;have A:=aq y;have B:=aq k;clear y k r;go_in;go_wp2_with (refine uJ rfl 190 _ rfl 1 rfl tt _ fr _ (((v _).block _ E).trans u) Tryz.underlying190 rfl (by kernel_rfl) ?_);go_loopw [7] (λq wr=>∃b:Nat,b<=j/\q= .int .i64 b/\B2 (nB w.heap.size wr 0 0 0/\Y w.heap.size w wr)) (λq _=>20-(B1 q).toNat)
 case atStart=>exact⟨0,by omega,rfl,z⟩
 case round=>
  obtain⟨b,k,rfl,g⟩:=hrel;have F:b<20:=by omega
  have h:=λw=>ak6 b F w;have H:=aj g.1;obtain⟨J,K,L,ad⟩:=g.1.cells;have x:∀a,Y wr.heap.size wr (wr.alloc a):=λa=>(ai _ wr).alloc (ag _) a;rcases js k with rfl|hlt
  .rw[B.out]at h;obtain⟨d,n⟩:=aF (tA (3*b+1));obtain⟨f,o⟩:=aF (tA (3*b+2));rw[n,o]at h;have t:=gE n o;clear n o;have p:=nB.put g.1 c d f;have l:Y w.heap.size w (((wr.setCell ⟨w.heap.size,0,U⟩ (.int .i64 c)).setCell ⟨w.heap.size,1,U⟩ (.int .i64 d)).setCell ⟨w.heap.size,2,U⟩ (.int .i64 f)):=((g.2.setCell (ag _) _).setCell (ag _) _).setCell (ag _) _;have m:∀a,Y (((wr.setCell ⟨w.heap.size,0,U⟩ (.int .i64 c)).setCell ⟨w.heap.size,1,U⟩ (.int .i64 d)).setCell ⟨w.heap.size,2,U⟩ (.int .i64 f)).heap.size (((wr.setCell ⟨w.heap.size,0,U⟩ (.int .i64 c)).setCell ⟨w.heap.size,1,U⟩ (.int .i64 d)).setCell ⟨w.heap.size,2,U⟩ (.int .i64 f)) ((((wr.setCell ⟨w.heap.size,0,U⟩ (.int .i64 c)).setCell ⟨w.heap.size,1,U⟩ (.int .i64 d)).setCell ⟨w.heap.size,2,U⟩ (.int .i64 f)).alloc a):=λa=>(ai _ _).alloc (ag _) a;have s:B2 ((∀a,nB w.heap.size ((((wr.setCell ⟨w.heap.size,0,U⟩ (.int .i64 c)).setCell ⟨w.heap.size,1,U⟩ (.int .i64 d)).setCell ⟨w.heap.size,2,U⟩ (.int .i64 f)).alloc a) c d f)/\(∀a,Y w.heap.size w ((((wr.setCell ⟨w.heap.size,0,U⟩ (.int .i64 c)).setCell ⟨w.heap.size,1,U⟩ (.int .i64 d)).setCell ⟨w.heap.size,2,U⟩ (.int .i64 f)).alloc a))):=⟨λa=>((m a).block _ (aj p)).trans p,λa=>l.trans ((m a).mono l.size)⟩;clear p l m;go_wp21
   exact aH (Dh rfl _ _ _ ⟨w.heap.size,0,U⟩ (.bool X) _ rfl rfl (ab2 _ _ _ _ _ (s.1 _))) rfl ⟨by rw[t.out.1,t.out.2],s.2 _⟩
  .have G:=A.out b hlt;generalize tA (3*b+1)=d at h;generalize tA (3*b+2)=f at h;generalize tz.getD b 0=ak at h G;have C:B2 (∀a,nB w.heap.size (wr.alloc a) 0 0 0/\Y w.heap.size w (wr.alloc a)):=λa=>⟨((x a).block _ H).trans g.1,g.2.trans ((x a).mono g.2.size)⟩;go_wp21
   exact⟨⟨b+1,by omega,by go_num,C _⟩,by simp[B1];omega⟩
