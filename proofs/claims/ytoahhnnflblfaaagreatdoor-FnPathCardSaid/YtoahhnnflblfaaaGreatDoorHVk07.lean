import Derived.Test.YtoahhnnflblfaaaGreatDoorHVk05
import Derived.Test.YtoahhnnflblfaaaGreatDoorHVk06
set_option linter.all false
set_option maxRecDepth 100000
set_option maxHeartbeats 3200000
open Go.Value renaming int->M,string->Q,agg->A1,tuple->A3,bool->A6
open Go.IntKind renaming i64->O,u64->A8
open Go.Proofs.Tryz renaming prog->S
open Bool renaming true->T,false->X
open Go.Obj renaming cells->U
open Go.Ending renaming returned->V
open Go.RowKit renaming Below->Y,intOf->A4,Hid->A5
open Go renaming Value->Z,World->Ax,Calls->A2
open Option renaming none->A0,some->A7
namespace Go.Proofs.YtoahhnnflblfaaaGreatDoor
open Go.RowKit Go.Maps Go.WideMaps
theorem se(s:ByteArray)(i:Nat)(c:Int)(d:0<c):(lk s i==c)=decide (aw s i=c):=by
 unfold lk;split
 ·by_cases a:aw s i=c<;>simp[a]
 ·rename_i a;rw[dD a];have b:((0:Int)==c)=X:=by rw[aL];omega
  rw[b];symm;rw[qH];omega
def FC(s:ByteArray)(p:Nat):Bool:=decide ((aw s (nA0 s p)=46/\ch (aw s (nA0 s p+1))=T)\/aw s (nA1 s (nA0 s p))=101)
def agH(s:ByteArray)(p E:Nat)(R:Option Nat):Z:=match R with
 |some a=> A1 #[M O 2,M O p,M O (E:Int),M O 0,M O (a:Int),Q ⟨#[]⟩]
 |none=> A1 #[M O 3,M O p,M O (E:Int),M O 0,M O 0,Q (s.extract p E)]
def nmA(s:ByteArray)(p:Nat):Z:=
 if(nJ s (nA1 s (nA0 s p))).2=T then
  (if FC s p=T then A1 #[M O 3,M O p,M O ((nJ s (nA1 s (nA0 s p))).1:Int),M O 0,M O 0,Q (s.extract p (nJ s (nA1 s (nA0 s p))).1)]
  else agH s p (nJ s (nA1 s (nA0 s p))).1 (rC s p ((nJ s (nA1 s (nA0 s p))).1-p)))
 else A1 #[M O 3,M O p,M O 0,M O 0,M O 0,Q ⟨#[]⟩]
def nmF(s:ByteArray)(p:Nat):Int:=if(nJ s (nA1 s (nA0 s p))).2=T then -1 else((nJ s (nA1 s (nA0 s p))).1:Int)
theorem Gl(s:ByteArray)(p j:Nat)(h:rC s p j=A0):∀n,j<=n->rC s p n=A0
 |0,a=>by
  obtain rfl:j=0:=by omega
  exact h
 |n+1,a=>by
  rcases jg a with rfl|h2
  ·exact h
  ·rw[rC,Gl s p j h n (by omega)]
theorem KI(s:ByteArray)(p:Nat)(f:ch (aw s p)=T)(a:FC s p=X):(nJ s (nA1 s (nA0 s p)))=(nA0 s p,T)/\∀i,p<=i->i<nA0 s p->ch (aw s i)=T:=by
 unfold FC at a;rw[qH]at a;have d:nA1 s (nA0 s p)=nA0 s p:=by unfold nA1;rw[aa (fun b=>a (.inl b))]
 rw[d]at a⊢;have e:nJ s (nA0 s p)=(nA0 s p,T):=by unfold nJ;rw[aa (fun b=>a (.inr b))]
 refine⟨e,fun i g c=>?_⟩;rcases jg g with rfl|h3
 ·exact f
 ·unfold nA0 at c;split at c
  ·omega
  ·exact sa ch s _ (p+1) i h3 c
theorem ajI(s:ByteArray)(a:Nat)(h:aw s a=101)(c:ch (aw s (nA2 s a))=X):nJ s a=(nA2 s a,X):=by
 have b:qJ s (nA2 s a)=nA2 s a:=by unfold qJ iw;rw[aa (by rw[c];simp)]
 unfold nJ;rw[ab h,b];simp
theorem agI(s:ByteArray)(a:Nat)(e:a<s.size)(h:aw s a=101)(b:ch (aw s (nA2 s a))=T):nJ s a=(qJ s (nA2 s a),T):=by
 have f:=qK b;have d:=oD ch vB s s.size (nA2 s a+1) (by omega);have c:qJ s (nA2 s a)=iw ch s s.size (nA2 s a+1):=by
  show iw ch s (s.size+1) (nA2 s a)=_;rw[iw,ab b]
 unfold nJ;rw[ab h,c];simp;omega
theorem ajJ(s:ByteArray)(a:Nat)(h:aw s a=101):a<nA2 s a/\nA2 s a<=s.size:=by
 have b:=bm h (by omega);unfold nA2;split
 ·rename_i hs;rcases hs with hs|hs
  ·have:=bm hs (by omega);omega
  ·have:=bm hs (by omega);omega
 ·omega
theorem pj(s:ByteArray)(k:Nat):ch (aw s k)=T\/ch (aw s k)=X:=by cases ch (aw s k)<;>simp
theorem Eh(s:ByteArray)(I:s.size<=1100000)(p:Nat)(eh:p<s.size)(c0:ch (aw s p)=T)(B:¬(aw s p=48/\aw s (p+1)=120))(w:Ax):A2 S 74 #[Q s,A1 #[M O 0,M O p,M O 0,M O 0,M O 0,Q ⟨#[]⟩]] w fun e u=>e= V (A3 #[nmA s p,M O (nmF s p)])/\Y w.heap.size w u:=by
 obtain⟨en,ct⟩:=aA (nmA s p);obtain⟨e6,cu⟩:=aA (nmF s p);rw[ct,cu];have k:=aj ct;have o:=aj cu;clear ct cu;have bw:gK w.heap.size ((w.alloc (U #[M O 2,M O p,M O 0,M O 0,M O 0,Q ⟨#[]⟩] 88)).alloc (U #[M O 0,M O 0,M O 0,M O 0,M O 0,Q ⟨#[]⟩] 88)) 2 p 0 0 0 ⟨#[]⟩:=(dt _ _ _ (by simp)).trans (ar w _);have c4:=fun w=>eI eh w;have bA:gK (w.heap.size+1) ((w.alloc (U #[M O 2,M O p,M O 0,M O 0,M O 0,Q ⟨#[]⟩] 88)).alloc (U #[M O 0,M O 0,M O 0,M O 0,M O 0,Q ⟨#[]⟩] 88)) 0 0 0 0 0 ⟨#[]⟩:=by
  have:=ar (w.alloc (U #[M O 2,M O p,M O 0,M O 0,M O 0,Q ⟨#[]⟩] 88)) (U #[M O 0,M O 0,M O 0,M O 0,M O 0,Q ⟨#[]⟩] 88);rw[bu]at this;exact this
 have ce:Y w.heap.size w ((w.alloc (U #[M O 2,M O p,M O 0,M O 0,M O 0,Q ⟨#[]⟩] 88)).alloc (U #[M O 0,M O 0,M O 0,M O 0,M O 0,Q ⟨#[]⟩] 88)):=(((ai _ w).alloc (ag _) _).alloc (by simp) _);go_in;go_upto_region 3 with fail
 generalize (w.alloc (U #[M O 2,M O p,M O 0,M O 0,M O 0,Q ⟨#[]⟩] 88)).alloc (U #[M O 0,M O 0,M O 0,M O 0,M O 0,Q ⟨#[]⟩] 88)=c8 at bw bA ce;have eF:w.heap.size+1<c8.heap.size:=au bA;obtain⟨L,af,ak,al,am,an,ao⟩:=cJ bw;go_cut [22] from 9 (fun e3 r=>e3= A6 X/\r=c8)
 case first=>
  by_cases z:aw s p=48
  ·rw[z]at c4;have ec:¬aw s (p+1)=120:=fun h=>B ⟨z,h⟩;have er:(lk s (p+1)==120)=X:=by rw[se _ _ _ (by omega)];simpa using ec
   have f:∀w,A2 S 70 #[Q s,M O ((p:Int)+1)] w fun e u=>e= V (M .u8 (lk s (p+1)))/\u=w:=fun w=>gD s I _ (p+1) (by omega) w;generalize lk s (p+1)=n at f er;clear z ec B c0 k o;go_wp2_with (go_at_call 70;refine fc (f _) ?_);go_meet
   case rel=>exact⟨rfl,rfl⟩
  ·have cc:(aw s p==48)=X:=by rw[aL];exact z
   generalize aw s p=n at c4 cc;clear z B k o;go_wp2_with fail;go_meet
   case rel=>exact⟨rfl,rfl⟩
 case rest=>
  obtain⟨rfl,rfl⟩:=hcut;go_upto_if 34 with fail
  go_cut [6] from 9 (fun bb r=>bb= M O (nA0 s p:Int)/\r=wc)
  case first=>
   by_cases z:aw s p=48
   ·have es:A5 (nA0 s p=p+1):=by show _=_;unfold nA0;rw[ab z]
    rw[z];clear z B k o;go_wp2_with fail;go_meet
    case rel=>exact⟨by rw[es.out];go_num,rfl⟩
   ·have E:A5 (iw ch s (s.size+1) (p+1)=nA0 s p):=by show _=_;unfold nA0;rw[aa z];rfl
    have cc:(aw s p !=48)=T:=by rw[zh];exact z
    rw[cc];obtain⟨g,t⟩:=aA (nA0 s p);rw[t]at E;have A:=aj t;clear z B k o cc t;go_wp2_with fail;go_loop [6] (fun i=>∃(b l:Nat),b<=s.size/\s.size<b+l/\i= M O b/\A5 (iw ch s l b=g)) (fun i=>s.size-(A4 i).toNat)
    case atStart=>exact⟨p+1,s.size+1,by omega,by omega,by first|rfl|(congr 1;omega),E⟩
    case round=>
     obtain⟨b,l,d8,d6,rfl,bq⟩:=hrel;obtain⟨l,rfl⟩:∃bs,l=bs+1:=⟨l-1,by omega⟩;have d:=bq.out;unfold iw at d;have f:=fun w=>gD s I (b:Int) b rfl w;rcases pj s b with h1|h1
     ·have eb:b<s.size:=qK h1;have c:=fun w=>dK ((pg s b).trans h1) w;rw[ab h1]at d;have m:=aj d;generalize lk s b=n at f c;clear d h1;go_wp2_with (first|(go_at_call 70;refine fc (f _) ?_)|(go_at_call 73;refine fc (c _) ?_));go_round
      case rel=>exact⟨b+1,l,by omega,by omega,by go_num,m⟩
      case measure=>simp[A4];omega
     ·have c:=fun w=>dK ((pg s b).trans h1) w;rw[aa (by rw[h1];simp)]at d;have m:=aj d;generalize lk s b=n at f c;clear d h1;go_wp2_with (first|(go_at_call 70;refine fc (f _) ?_)|(go_at_call 73;refine fc (c _) ?_));go_meet
      case rel=>exact⟨by rw[A.out,<-m.out],rfl⟩
  case rest=>
   obtain⟨rfl,rfl⟩:=hcut;have cs:=Ee s p eh;go_upto_region 9 with fail
   obtain⟨D,dp⟩:∃D:Bool,decide (aw s (nA0 s p)=46/\ch (aw s (nA0 s p+1))=T)=D:=⟨_,rfl⟩;have x:=aj dp;clear dp;go_cut [51] from 9 (fun e4 r=>e4= A6 D/\r=wc)
   case first=>
    have f:=fun w=>gD s I (nA0 s p:Int) (nA0 s p) rfl w;have C:∀w,A2 S 70 #[Q s,M O ((nA0 s p:Int)+1)] w fun e u=>e= V (M .u8 (lk s (nA0 s p+1)))/\u=w:=fun w=>gD s I _ (nA0 s p+1) (by omega) w;have bt:=se s (nA0 s p) 46 (by omega);by_cases a7:aw s (nA0 s p)=46
    ·rw[bg a7]at bt;have a8:=x.out;rcases pj s (nA0 s p+1) with h1|h1
     ·have c:=fun w=>dK ((pg s (nA0 s p+1)).trans h1) w;rw[bg ⟨a7,h1⟩]at a8;subst a8;generalize lk s (nA0 s p+1)=ep at C c;generalize lk s (nA0 s p)=n at f bt;clear a7 h1 x k o;go_wp2_with (first|(go_at_call 70;first|(with_reducible refine fc (f _) ?_)|(with_reducible refine fc (C _) ?_))|(go_at_call 73;refine fc (c _) ?_));go_meet
      case rel=>exact⟨rfl,rfl⟩
     ·have c:=fun w=>dK ((pg s (nA0 s p+1)).trans h1) w;rw[az (fun h=>by rw[h.2]at h1;cases h1)]at a8;subst a8;generalize lk s (nA0 s p+1)=ep at C c;generalize lk s (nA0 s p)=n at f bt;clear a7 h1 x k o;go_wp2_with (first|(go_at_call 70;first|(with_reducible refine fc (f _) ?_)|(with_reducible refine fc (C _) ?_))|(go_at_call 73;refine fc (c _) ?_));go_meet
      case rel=>exact⟨rfl,rfl⟩
    ·rw[az a7]at bt;have a8:=x.out;rw[az (fun h=>a7 h.1)]at a8;subst a8;generalize lk s (nA0 s p)=n at f bt;clear a7 x k o;go_wp2_with (first|(go_at_call 70;refine fc (f _) ?_));go_meet
     case rel=>exact⟨rfl,rfl⟩
   case rest=>
    obtain⟨rfl,rfl⟩:=hcut;go_upto_if 51 with fail
    go_cut [6] from 9 (fun bb r=>bb= M O (nA1 s (nA0 s p):Int)/\gK w.heap.size r (if D=T then 3 else 2) p 0 0 0 ⟨#[]⟩/\gK (w.heap.size+1) r 0 0 0 0 0 ⟨#[]⟩/\Y w.heap.size w r)
    case first=>
     cases D with
     |true=>
      have bo:=aH x.out;have E:A5 (iw ch s (s.size+1) (nA0 s p+1)=nA1 s (nA0 s p)):=by show _=_;unfold nA1;rw[ab bo];rfl
      have ex:=qK bo.2;obtain⟨g,t⟩:=aA (nA1 s (nA0 s p));rw[t]at E;have A:=aj t;generalize nA0 s p=el at E ex cs⊢;clear bo x k o B t;have F:=bw.setKind 3;have G:=bA.other (a:=⟨w.heap.size,0,A0⟩) (by simp) (M O 3);have J:Y w.heap.size w (wc.setCell ⟨w.heap.size,0,A0⟩ (M O 3)):=ce.setCell (by simp) _;go_wp2_with fail;go_loop [6] (fun i=>∃(b l:Nat),b<=s.size/\s.size<b+l/\i= M O b/\A5 (iw ch s l b=g)) (fun i=>s.size-(A4 i).toNat)
      case atStart=>exact⟨el+1,s.size+1,by omega,by omega,by first|rfl|(congr 1;omega),E⟩
      case round=>
       obtain⟨b,l,d8,d6,rfl,bq⟩:=hrel;obtain⟨l,rfl⟩:∃bs,l=bs+1:=⟨l-1,by omega⟩;have d:=bq.out;unfold iw at d;have f:=fun w=>gD s I (b:Int) b rfl w;rcases pj s b with h1|h1
       ·have eb:b<s.size:=qK h1;have c:=fun w=>dK ((pg s b).trans h1) w;rw[ab h1]at d;have m:=aj d;generalize lk s b=n at f c;clear d h1;go_wp2_with (first|(go_at_call 70;refine fc (f _) ?_)|(go_at_call 73;refine fc (c _) ?_));go_round
        case rel=>exact⟨b+1,l,by omega,by omega,by go_num,m⟩
        case measure=>simp[A4];omega
       ·have c:=fun w=>dK ((pg s b).trans h1) w;rw[aa (by rw[h1];simp)]at d;have m:=aj d;generalize lk s b=n at f c;clear d h1;go_wp2_with (first|(go_at_call 70;refine fc (f _) ?_)|(go_at_call 73;refine fc (c _) ?_));go_meet
        case rel=>exact⟨by rw[A.out,<-m.out],F,G,J⟩
     |false=>
      have bo:=lB x.out;have t:nA1 s (nA0 s p)=nA0 s p:=by unfold nA1;rw[aa bo]
      have A:=aj t;clear bo x k o B t;go_wp2_with fail;go_meet
      case rel=>exact⟨by rw[A.out],bw,bA,ce⟩
    case rest=>
     obtain⟨rfl,a9,bn,cf⟩:=hcut;clear bw bA ce L af ak al am an ao eF;have da:=Ef s _ cs.2;have f:=fun w=>gD s I (nA1 s (nA0 s p):Int) (nA1 s (nA0 s p)) rfl w;have dd:=se s (nA1 s (nA0 s p)) 101 (by omega);obtain⟨a6,cz⟩:∃a6:Bool,decide (aw s (nA1 s (nA0 s p))=101)=a6:=⟨_,rfl⟩;have bd:=aj cz;rw[cz]at dd;clear cz;obtain⟨L,af,ak,al,am,an,ao⟩:=cJ a9;obtain⟨z0,ap,av,a0,a2,a3,cp⟩:=cJ bn;have bp:w.heap.size<wc.heap.size:=au a9;have cn:w.heap.size+1<wc.heap.size:=au bn;go_upto_if 64 with(go_at_call 70;refine(f _).mono ?_;rintro e u ⟨rfl,y⟩;obtain rfl:=y.symm)
     clear f dd;go_cut [6] from 9 (fun bb r=>bb= M O ((nJ s (nA1 s (nA0 s p))).1:Int)/\(nJ s (nA1 s (nA0 s p))).2=T/\gK w.heap.size r (if(D||a6)=T then 3 else 2) p 0 0 0 ⟨#[]⟩/\gK (w.heap.size+1) r 0 0 0 0 0 ⟨#[]⟩/\Y w.heap.size w r)
     case first=>
      cases a6 with
      |false=>
       have K:=lB bd.out;have A:A5 (nJ s (nA1 s (nA0 s p))=(nA1 s (nA0 s p),T)):=by show _=_;unfold nJ;rw[aa K]
       rw[<-D2 D]at a9;clear K bd k o x B;go_wp2_with fail;go_meet
       case rel=>exact⟨by rw[A.out],by rw[A.out],a9,bn,cf⟩
      |true=>
       have K:=aH bd.out;have b0:=ajI s (nA1 s (nA0 s p)) K;have b3:=agI s (nA1 s (nA0 s p)) (bm K (by omega)) K;have c9:=ajJ s (nA1 s (nA0 s p)) K;have C:∀w,A2 S 70 #[Q s,M O ((nA1 s (nA0 s p):Int)+1)] w fun e u=>e= V (M .u8 (lk s (nA1 s (nA0 s p)+1)))/\u=w:=fun w=>gD s I _ (nA1 s (nA0 s p)+1) (by omega) w;have ca:=se s (nA1 s (nA0 s p)+1) 43 (by omega);have cb:=se s (nA1 s (nA0 s p)+1) 45 (by omega);have bj:A5 (nA2 s (nA1 s (nA0 s p))=if decide (aw s (nA1 s (nA0 s p)+1)=43)=T\/decide (aw s (nA1 s (nA0 s p)+1)=45)=T then nA1 s (nA0 s p)+1+1 else nA1 s (nA0 s p)+1):=by show _=_;unfold nA2;simp
       generalize decide (aw s (nA1 s (nA0 s p)+1)=43)=cr at ca bj;generalize decide (aw s (nA1 s (nA0 s p)+1)=45)=b7 at cb bj;have F:=a9.setKind 3;have G:=bn.other (a:=⟨w.heap.size,0,A0⟩) (by simp) (M O 3);have J:Y w.heap.size w (wc.setCell ⟨w.heap.size,0,A0⟩ (M O 3)):=cf.setCell (by simp) _;obtain⟨b9,cy⟩:=aA (wc.setCell ⟨w.heap.size,0,A0⟩ (M O 3));rw[cy]at F G J;have c7:=aj cy;clear K bd x B cy;go_upto_region 17 with fail
       rw[c7.out];clear c7 a9 bn cf L af ak al am an ao z0 ap av a0 a2 a3 cp bp cn;obtain⟨L,af,ak,al,am,an,ao⟩:=cJ F;obtain⟨z0,ap,av,a0,a2,a3,cp⟩:=cJ G;have bp:w.heap.size<b9.heap.size:=au F;have cn:w.heap.size+1<b9.heap.size:=au G;go_cut [77] from 9 (fun e5 r=>e5= A6 (b7||cr)/\r=b9)
       case first=>
        generalize lk s (nA1 s (nA0 s p)+1)=n at C ca cb;clear k o b0 b3 bj;cases b7 with
        |true=>
         go_wp2_with (first|(go_at_call 70;refine(C _).mono ?_;rintro e u ⟨rfl,y⟩;obtain rfl:=y.symm));go_meet
         case rel=>exact⟨rfl,rfl⟩
        |false=>
         go_wp2_with (first|(go_at_call 70;refine(C _).mono ?_;rintro e u ⟨rfl,y⟩;obtain rfl:=y.symm));go_meet
         case rel=>exact⟨rfl,rfl⟩
       case rest=>
        obtain⟨rfl,b4⟩:=hcut;obtain rfl:=b4.symm;clear b4;go_upto_if 77 with fail
        go_cut [6] from 9 (fun bb r=>bb= M O (nA2 s (nA1 s (nA0 s p)):Int)/\r=b9)
        case first=>
         clear k o b0 b3 ca cb C;obtain⟨b8,cv⟩:∃b8:Bool,(b7||cr)=b8:=⟨_,rfl⟩;have dg:A5 (nA2 s (nA1 s (nA0 s p))=if b8=T then nA1 s (nA0 s p)+1+1 else nA1 s (nA0 s p)+1):=by show _=_;rw[bj.out,<-cv];cases b7<;>cases cr<;>simp
         rw[cv];clear cv bj;cases b8 with
         |true=>
          go_wp2_with fail;go_meet
          case rel=>exact⟨by rw[dg.out];simp only[pI];go_num,rfl⟩
         |false=>
          go_wp2_with fail;go_meet
          case rel=>exact⟨by rw[dg.out];simp,rfl⟩
        case rest=>
         obtain⟨rfl,b4⟩:=hcut;obtain rfl:=b4.symm;clear b4 bj ca cb C;have ba:=fun w=>gD s I (nA2 s (nA1 s (nA0 s p)):Int) (nA2 s (nA1 s (nA0 s p))) rfl w;rcases pj s (nA2 s (nA1 s (nA0 s p))) with h1|h1
         ·have c:=fun w=>dK ((pg s (nA2 s (nA1 s (nA0 s p)))).trans h1) w;have c5:A5 (nJ s (nA1 s (nA0 s p))=(qJ s (nA2 s (nA1 s (nA0 s p))),T)):=b3 h1;obtain⟨g,t⟩:=aA (qJ s (nA2 s (nA1 s (nA0 s p))));have E:=aj t;have A:=aj t;generalize lk s (nA2 s (nA1 s (nA0 s p)))=eq at ba c;generalize nA2 s (nA1 s (nA0 s p))=em at E c9 ba⊢;clear b0 b3 t h1 k o;go_wp2_with (first|(go_at_call 70;refine(ba _).mono ?_;rintro e u ⟨rfl,y⟩;obtain rfl:=y.symm)|(go_at_call 73;refine(c _).mono ?_;rintro e u ⟨rfl,y⟩;obtain rfl:=y.symm));clear ba c;go_loop [6] (fun i=>∃(b l:Nat),b<=s.size/\s.size<b+l/\i= M O b/\A5 (iw ch s l b=g)) (fun i=>s.size-(A4 i).toNat)
          case atStart=>exact⟨em,s.size+1,by omega,by omega,by first|rfl|(congr 1;omega),E⟩
          case round=>
           obtain⟨b,l,d8,d6,rfl,bq⟩:=hrel;obtain⟨l,rfl⟩:∃bs,l=bs+1:=⟨l-1,by omega⟩;have d:=bq.out;unfold iw at d;have f:=fun w=>gD s I (b:Int) b rfl w;rcases pj s b with h1|h1
           ·have eb:b<s.size:=qK h1;have c:=fun w=>dK ((pg s b).trans h1) w;rw[ab h1]at d;have m:=aj d;generalize lk s b=n at f c;clear d h1;go_wp2_with (first|(go_at_call 70;refine fc (f _) ?_)|(go_at_call 73;refine fc (c _) ?_));go_round
            case rel=>exact⟨b+1,l,by omega,by omega,by go_num,m⟩
            case measure=>simp[A4];omega
           ·have c:=fun w=>dK ((pg s b).trans h1) w;rw[aa (by rw[h1];simp)]at d;have m:=aj d;generalize lk s b=n at f c;clear d h1;go_wp2_with (first|(go_at_call 70;refine fc (f _) ?_)|(go_at_call 73;refine fc (c _) ?_));go_meet
            case rel=>exact⟨by rw[c5.out,A.out,<-m.out],by rw[c5.out],by simpa using F,G,J⟩
         ·have c:=fun w=>dK ((pg s (nA2 s (nA1 s (nA0 s p)))).trans h1) w;have d4:=b0 h1;have j:=k.out;have H:=o.out;unfold nmA at j;unfold nmF at H;rw[d4]at j H;simp only[aa (show ¬X=T by simp)]at j H;subst j;obtain⟨cq,ds⟩:∃cq:Int,(nA2 s (nA1 s (nA0 s p)):Int)=cq:=⟨_,rfl⟩;rw[ds]at H ba⊢;subst H;generalize lk s (nA2 s (nA1 s (nA0 s p)))=eq at ba c;clear d4 h1 b0 b3 k o c9 ds;go_wp2_with (first|(go_at_call 70;refine(ba _).mono ?_;rintro e u ⟨rfl,y⟩;obtain rfl:=y.symm)|(go_at_call 73;refine(c _).mono ?_;rintro e u ⟨rfl,y⟩;obtain rfl:=y.symm));refine bB (v:= A3 #[A1 #[M O 3,M O p,M O 0,M O 0,M O 0,Q ⟨#[]⟩],M O cq]) (by simp[results,Tryz.results74,go_sem,z0,ap,av,a0,a2,a3]) rfl ⟨rfl,?_⟩
          iterate 6 refine fI ?_ (by simp) _
          exact J
     case rest=>
      obtain⟨rfl,ef,bl,d1,dj⟩:=hcut;have dc:=ac1 s _ da.2;have dx:FC s p=(D||a6):=by unfold FC;rw[<-x.out,<-bd.out];simp
      have cB:=KI s p c0;have j:=k.out;have H:=o.out;unfold nmA at j;unfold nmF at H;rw[ab ef]at j H;subst H;rw[dx]at j cB;have ey:p<(nJ s (nA1 s (nA0 s p))).1:=by omega
      have ew:(nJ s (nA1 s (nA0 s p))).1<=s.size:=dc.2;have cl:(D||a6)=X->∀i,p<=i->i<(nJ s (nA1 s (nA0 s p))).1->ch (aw s i)=T:=fun h i h1 df=>by
       have d7:=cB h;exact d7.2 i h1 (by rw[d7.1]at df;exact df)
      clear cB dx x bd k o ef dc da cs B c4 c0;generalize (D||a6)=a5 at bl j cl;generalize (nJ s (nA1 s (nA0 s p))).1=g at ey ew j cl⊢;clear a9 bn cf L af ak al am an ao z0 ap av a0 a2 a3 cp bp cn;obtain⟨bf,cx⟩:=aA (rC s p (g-p));rw[cx]at j;have br:=aj cx;have k:=aj j;have b6:=aj cl;clear j cl cx;obtain⟨b5,cm⟩:∃b5:Int,(if a5=T then(3:Int) else 2)=b5:=⟨_,rfl⟩;rw[cm]at bl;have c6:A5 ((b5=2/\a5=X/\(0:Int)<=0/\rC s p (p-p)=A7 (0:Int).toNat)\/(b5=3/\(a5=T\/bf=A0))):=by
       cases a5 with
       |true=>exact .inr ⟨cm.symm,.inl rfl⟩
       |false=>exact .inl ⟨cm.symm,rfl,by omega,by rw[gH];rfl⟩
      clear cm;obtain⟨L,af,ak,al,am,an,ao⟩:=cJ bl;have bp:w.heap.size<wc.heap.size:=au bl;have F:=bl.setTo (g:Int);have G:=d1.other (a:=⟨w.heap.size,2,A0⟩) (by simp) (M O (g:Int));have J:Y w.heap.size w (wc.setCell ⟨w.heap.size,2,A0⟩ (M O (g:Int))):=dj.setCell (by simp) _;go_wp2_with fail;go_loopw [7,8] (fun e0 i wr=>∃(b:Nat) (c a:Int),p<=b/\b<=g/\i= M O b/\e0= M A8 a/\gK w.heap.size wr c p (g:Int) 0 0 ⟨#[]⟩/\gK (w.heap.size+1) wr 0 0 0 0 0 ⟨#[]⟩/\Y w.heap.size w wr/\A5 ((c=2/\a5=X/\0<=a/\rC s p (b-p)=A7 a.toNat)\/(c=3/\(a5=T\/bf=A0)))) (fun _ i _=>g-(A4 i).toNat)
      case atStart=>exact⟨p,b5,0,ag _,by omega,rfl,rfl,F,G,J,c6⟩
      case round=>
       obtain⟨b,c,a,eA,e8,rfl,rfl,bx,bD,bk,d⟩:=hrel;clear F G J bl d1 dj L af ak al am an ao bp c6;obtain⟨L,af,ak,al,am,an,ao⟩:=cJ bx;obtain⟨z0,ap,av,a0,a2,a3,cp⟩:=cJ bD;have bp:w.heap.size<wr.heap.size:=au bx;have cn:w.heap.size+1<wr.heap.size:=au bD;rcases d.out with⟨rfl,ck,e7,b1⟩|⟨rfl,eg⟩
       ·have d3:=ajG s p _ _ b1;by_cases d9:b<g
        ·have d5:=b6.out ck b eA d9;have ev:=iI d5;have eL:=fun w=>eI (s:=s) (i:=b) (by omega) w;have c3:rC s p (b+1-p)=if a.toNat*10+(aw s b-48).toNat<=9223372036854775807 then A7 (a.toNat*10+(aw s b-48).toNat) else A0:=by
          rw[show b+1-p=(b-p)+1 by omega,rC,b1,show p+(b-p)=b by omega]
         have eo:a<=9223372036854775807:=by omega
         have ee:rC s p (b+1-p)=A0->bf=A0:=fun h=>by rw[<-br.out];exact Gl s p _ h _ (by omega)
         have m:A5 ((¬a*10+(aw s b-48)<=9223372036854775807->bf=A0)/\(a*10+(aw s b-48)<=9223372036854775807->rC s p (b+1-p)=A7 (a*10+(aw s b-48)).toNat)):=by
          refine⟨fun h=>ee (by rw[c3,aa (by omega)]),fun h=>?_⟩;rw[c3,ab (by omega)]
          congr 1
          omega
         generalize aw s b=n at eL ev m;clear d5 c3 ee b1 d b6 br k d3;have d0:=bx.setKind 3;have d2:=bD.other (a:=⟨w.heap.size,0,A0⟩) (by simp) (M O 3);have dn:Y w.heap.size w (wr.setCell ⟨w.heap.size,0,A0⟩ (M O 3)):=bk.setCell (by simp) _;have ea:(b:Int)<(g:Int):=by omega
         rcases(show 922337203685477580<a\/(a=922337203685477580/\55<n)\/(a=922337203685477580/\¬55<n)\/a<922337203685477580 by omega) with q|⟨q,e1⟩|⟨q,e1⟩|q
         ·have a4:A5 (bf=A0):=m.out.1 (by omega);clear m;go_wp2;go_roundw
          case rel=>exact⟨b+1,3,_,by omega,by omega,by go_num,rfl,d0,d2,dn,.inr ⟨rfl,.inr a4.out⟩⟩
          case measure=>simp[A4];omega
         ·have a4:A5 (bf=A0):=m.out.1 (by omega);have ek:(a==922337203685477580)=T:=by rw[jH];exact q
          have ei:¬922337203685477580<a:=by omega
          clear m q;go_wp2;go_roundw
          case rel=>exact⟨b+1,3,_,by omega,by omega,by go_num,rfl,d0,d2,dn,.inr ⟨rfl,.inr a4.out⟩⟩
          case measure=>simp[A4];omega
         ·have a4:A5 (rC s p (b+1-p)=A7 (a*10+(n-48)).toNat):=m.out.2 (by omega);have ek:(a==922337203685477580)=T:=by rw[jH];exact q
          have ei:¬922337203685477580<a:=by omega
          have e2:a*10+(n-48)<=9223372036854775807:=by omega
          clear m q;go_wp2;go_roundw
          case rel=>exact⟨b+1,2,a*10+(n-48),by omega,by omega,by go_num,by first|rfl|(congr 1;omega),bx,bD,bk,.inl ⟨rfl,ck,by omega,a4.out⟩⟩
          case measure=>simp[A4];omega
         ·have a4:A5 (rC s p (b+1-p)=A7 (a*10+(n-48)).toNat):=m.out.2 (by omega);have ek:(a==922337203685477580)=X:=by rw[aL];omega
          have ei:¬922337203685477580<a:=by omega
          have e2:a*10+(n-48)<=9223372036854775807:=by omega
          clear m;go_wp2;go_roundw
          case rel=>exact⟨b+1,2,a*10+(n-48),by omega,by omega,by go_num,by first|rfl|(congr 1;omega),bx,bD,bk,.inl ⟨rfl,ck,by omega,a4.out⟩⟩
          case measure=>simp[A4];omega
        ·obtain rfl:b=g:=by omega
         have j:=k.out;rw[ck,<-br.out,b1]at j;simp only[aa (show ¬X=T by simp),agH]at j;rw[show((a.toNat:Nat):Int)=a by omega]at j;subst j;have e9:wrap64 a=a:=by unfold wrap64;omega
         have eo:a<=9223372036854775807:=by omega
         clear k br b6 d b1 d3;go_wp2;refine bB (v:= A3 #[A1 #[M O 2,M O p,M O (b:Int),M O 0,M O a,Q ⟨#[]⟩],M O (-1)]) (by simp[results,Tryz.results74,go_sem,z0,ap,av,a0,a2,a3]) rfl ⟨rfl,?_⟩
         iterate 7 refine fI ?_ (by simp) _
         exact bk
       ·have j:=k.out;have et:Value.agg #[M O 3,M O p,M O (g:Int),M O 0,M O 0,Q (s.extract p g)]=en:=by
         rcases eg with h|h
         ·rw[h]at j;exact j
         ·rw[h]at j;cases a5<;>exact j
        subst et;clear j k br b6 d eg;by_cases d9:b<g
        ·have ea:(b:Int)<(g:Int):=by omega
         go_wp2;refine bB (v:= A3 #[A1 #[M O 3,M O p,M O (g:Int),M O 0,M O 0,Q (s.extract p g)],M O (-1)]) (by simp[results,Tryz.results74,go_sem,z0,ap,av,a0,a2,a3]) rfl ⟨rfl,?_⟩
         iterate 7 refine fI ?_ (by simp) _
         exact bk
        ·have ea:¬(b:Int)<(g:Int):=by omega
         go_wp2;refine bB (v:= A3 #[A1 #[M O 3,M O p,M O (g:Int),M O 0,M O 0,Q (s.extract p g)],M O (-1)]) (by simp[results,Tryz.results74,go_sem,z0,ap,av,a0,a2,a3]) rfl ⟨rfl,?_⟩
         iterate 7 refine fI ?_ (by simp) _
         exact bk
theorem ac3(s:ByteArray)(p:Nat):∃(t n:Int),hxA s p= A1 #[M O 2,M O p,M O t,M O 0,M O n,Q ⟨#[]⟩]:=by
 unfold hxA;split<;>exact⟨_,_,rfl⟩
def yq(s:ByteArray)(p:Nat):Z:=if aw s p=48/\aw s (p+1)=120 then hxA s p else nmA s p
def vE(s:ByteArray)(p:Nat):Int:=if aw s p=48/\aw s (p+1)=120 then hxF s p else nmF s p
theorem ajK(s:ByteArray)(p:Nat):∃(k t n:Int) (x:ByteArray),nmA s p= A1 #[M O k,M O p,M O t,M O 0,M O n,Q x]:=by
 unfold nmA agH;split
 ·split
  ·exact⟨_,_,_,_,rfl⟩
  ·split<;>exact⟨_,_,_,_,rfl⟩
 ·exact⟨_,_,_,_,rfl⟩
theorem KJ(s:ByteArray)(p:Nat):∃(k t n:Int) (x:ByteArray),yq s p= A1 #[M O k,M O p,M O t,M O 0,M O n,Q x]:=by
 unfold yq;split
 ·obtain⟨t,n,a⟩:=ac3 s p;exact⟨_,_,_,_,a⟩
 ·exact ajK s p
theorem Ei(s:ByteArray)(l:s.size<=1100000)(p:Nat)(f:aw s p=48)(b:aw s (p+1)=120)(w:Ax):A2 S 74 #[Q s,A1 #[M O 0,M O p,M O 0,M O 0,M O 0,Q ⟨#[]⟩]] w fun e d=>e= V (A3 #[hxA s p,M O (hxF s p)])/\Y w.heap.size w d:=by
 have r:=bm b (by omega);have m:=fun w=>eI (s:=s) (i:=p) (by omega) w;rw[f]at m;have n:∀w,A2 S 70 #[Q s,M O ((p:Int)+1)] w fun e d=>e= V (M .u8 120)/\d=w:=fun w=>by
  have:=gD s l ((p:Int)+1) (p+1) (by omega) w;rw[rf r,b]at this;exact this
 have a:=fun w=>Gj s l p (by omega) w;obtain⟨u,t,g⟩:=ac3 s p;rw[g]at a⊢;generalize hxF s p=o at a;clear g f b;have j:gK (w.heap.size+1) ((w.alloc (U #[M O 2,M O p,M O 0,M O 0,M O 0,Q ⟨#[]⟩] 88)).alloc (U #[M O 0,M O 0,M O 0,M O 0,M O 0,Q ⟨#[]⟩] 88)) 0 0 0 0 0 ⟨#[]⟩:=by
  have:=ar (w.alloc (U #[M O 2,M O p,M O 0,M O 0,M O 0,Q ⟨#[]⟩] 88)) (U #[M O 0,M O 0,M O 0,M O 0,M O 0,Q ⟨#[]⟩] 88);rw[bu]at this;exact this
 have h:Y w.heap.size w ((w.alloc (U #[M O 2,M O p,M O 0,M O 0,M O 0,Q ⟨#[]⟩] 88)).alloc (U #[M O 0,M O 0,M O 0,M O 0,M O 0,Q ⟨#[]⟩] 88)):=(((ai _ w).alloc (ag _) _).alloc (by simp) _);go_in;go_wp2_with (go_at_call 70;refine fc (n _) ?_);refine cd (a _) fun x c=>?_;have k:=j.below c (by simp);have q:=h.trans (c.mono (by simp;omega));clear c j h a n m;obtain⟨z0,y,z,A,B,C,F⟩:=cJ k;have E:w.heap.size+1<x.heap.size:=au k;go_wp2;refine bB (v:= A3 #[A1 #[M O 2,M O p,M O u,M O 0,M O t,Q ⟨#[]⟩],M O o]) (by simp[results,Tryz.results74,go_sem,z0,y,z,A,B,C]) rfl ⟨rfl,?_⟩
 iterate 6 refine fI ?_ (by simp) _
 exact q
theorem Ej(s:ByteArray)(b:s.size<=1100000)(p:Nat)(d:p<s.size)(c:ch (aw s p)=T)(w:Ax):A2 S 74 #[Q s,A1 #[M O 0,M O p,M O 0,M O 0,M O 0,Q ⟨#[]⟩]] w fun e f=>e= V (A3 #[yq s p,M O (vE s p)])/\Y w.heap.size w f:=by
 unfold yq vE;split
 ·rename_i a;exact Ei s b p a.1 a.2 w
 ·rename_i a;exact Eh s b p d c a w
theorem jz{c:Int}{b:Bool}(h:bC c=b)(w:Ax):A2 S 71 #[M .u8 c] w fun e d=>e= V (A6 b)/\d=w:=(oB c w).mono fun e d a=>⟨by rw[a.1,h],a.2.symm⟩
theorem ut(s:ByteArray)(r:s.size<=1100000)(p:Nat)(l:p<s.size)(a:ch (aw s p)=T)(w:Ax):A2 S 36 #[Q s,M O p] w fun e z=>e= V (A3 #[yq s p,M O (vE s p)])/\Y w.heap.size w z:=by
 have m:=fun w=>eI l w;have t:=iI a;have k:bC (aw s p)=X:=by simp[bC];omega
 have f:=fun w=>jz k w;have d:=fun w=>dK a w;have b:=fun w=>Ej s r p l a w;obtain⟨u,y,x,B,h⟩:=KJ s p;rw[h]at b⊢;generalize vE s p=n at b;generalize aw s p=o at m f d t;have I:(o==10)=X:=by rw[aL];omega
 clear k a h;have i:gK w.heap.size ((w.alloc (U #[M O 0,M O 0,M O 0,M O 0,M O 0,Q ⟨#[]⟩] 88)).alloc (U #[M O 0,M O p,M O 0,M O 0,M O 0,Q ⟨#[]⟩] 88)) 0 0 0 0 0 ⟨#[]⟩:=(dt _ _ _ (by simp)).trans (ar w _);have g:Y w.heap.size w ((w.alloc (U #[M O 0,M O 0,M O 0,M O 0,M O 0,Q ⟨#[]⟩] 88)).alloc (U #[M O 0,M O p,M O 0,M O 0,M O 0,Q ⟨#[]⟩] 88)):=(((ai _ w).alloc (ag _) _).alloc (by simp) _);go_in;go_wp2_with (first|(go_at_call 71;refine fc (f _) ?_)|(go_at_call 73;refine fc (d _) ?_));refine cd (b _) fun A c=>?_;have j:=i.below c (by simp;omega);have q:=g.trans (c.mono (by simp;omega));clear c i g b f d m;obtain⟨z0,C,E,F,G,H,K⟩:=cJ j;have J:w.heap.size<A.heap.size:=au j;go_wp2;refine bB (v:= A3 #[A1 #[M O u,M O p,M O y,M O 0,M O x,Q B],M O n]) (by simp[results,Tryz.results36,go_sem,z0,C,E,F,G,H]) rfl ⟨rfl,?_⟩
 iterate 6 refine fI ?_ (by simp) _
 exact q
theorem ac4(s:ByteArray)(p:Nat):(vE s p<0↔(fe s p).2=T)/\∃(k t n:Int) (x:ByteArray),yq s p= A1 #[M O k,M O p,M O t,M O 0,M O n,Q x]/\((fe s p).2=T->t=((fe s p).1:Int)/\((k==3)=decide (¬(aw s p=48/\aw s (p+1)=120)/\(FC s p=T\/rC s p ((fe s p).1-p)=A0)))):=by
 unfold vE yq fe;by_cases b:aw s p=48/\aw s (p+1)=120
 ·simp only[ab b];unfold hxF hxA;cases hh:(na s (p+2)).2 with
  |true=>
   simp only[pI];refine⟨⟨fun _=>trivial,fun _=>by omega⟩,2,_,_,_,rfl,fun _=>⟨rfl,?_⟩⟩;simp[b]
  |false=>
   simp only[aa (show ¬X=T by simp)];refine⟨⟨fun a=>by omega,fun a=>by cases a⟩,2,_,_,_,rfl,fun a=>by cases a⟩
 ·simp only[aa b];unfold nmF nmA agH;cases hh:(nJ s (nA1 s (nA0 s p))).2 with
  |true=>
   simp only[pI];refine⟨⟨fun _=>trivial,fun _=>by omega⟩,?_⟩;cases hk:FC s p with
   |true=>
    simp only[pI];exact⟨3,_,_,_,rfl,fun _=>⟨rfl,by simp[b]⟩⟩
   |false=>
    simp only[aa (show ¬X=T by simp)];cases hc:rC s p ((nJ s (nA1 s (nA0 s p))).1-p) with
    |none=>exact⟨3,_,_,_,rfl,fun _=>⟨rfl,by simp[b]⟩⟩
    |some c=>exact⟨2,_,_,_,rfl,fun _=>⟨rfl,by simp⟩⟩
  |false=>
   simp only[aa (show ¬X=T by simp)];refine⟨⟨fun a=>by omega,fun a=>by cases a⟩,3,_,_,_,rfl,fun a=>by cases a⟩
theorem Ek(q:ByteArray)(a:ch (aw q 0)=T)(d:nJ q (nA1 q (nA0 q 0))=(q.size,T)):yo q=A0↔(FC q 0=T\/rC q 0 q.size=A0):=by
 cases hk:FC q 0 with
 |false=>
  obtain⟨b,c⟩:=KI q 0 a hk;have f:nA0 q 0=q.size:=by rw[d]at b;exact(ve b).1.symm
  rw[acL q (qK a) (fun e g=>c e (by omega) (by omega))];simp
 |true=>
  simp only[true_or,iff_true];unfold FC at hk;rcases aH hk with h|h
  ·exact Gg q a _ (bm h.1 (by omega)) (by rw[h.1];decide)
  ·exact Gg q a _ (bm h (by omega)) (by rw[h];decide)
def fok(q:ByteArray):Bool:=decide (q.size<=40)&&pi q
theorem Gm(s:ByteArray)(B:s.size<=1100000)(w:Ax):A2 S 101 #[Q s] w fun e p=>e= V (A6 (fok s))/\Y w.heap.size w p:=by
 unfold fok;by_cases j:0<s.size
 ·have E:((s.size:Int)==0)=X:=by rw[aL];omega
  by_cases r:s.size<=40
  ·have F:¬(40:Int)<(s.size:Int):=by omega
   have x:∀w,(Instr.index 9 (Q s) (M O 0)).run S w= .ok (M .u8 (aw s 0)) w:=fun w=>eI j w;by_cases b:ch (aw s 0)=T
   ·have c:=fun w=>dK b w;have g:∀w,A2 S 36 #[Q s,M O 0] w fun e p=>e= V (A3 #[yq s 0,M O (vE s 0)])/\Y w.heap.size w p:=fun w=>ut s B 0 j b w;obtain⟨hF,o,G,H,I,t,u⟩:=ac4 s 0;rw[t]at g;have v:(decide (s.size<=40)&&pi s)=(decide (vE s 0<0)&&((o==3)&&(G==(s.size:Int)))):=by
     rw[bg r,fC];unfold pi;cases h2:(fe s 0).2 with
     |false=>
      rw[az (show ¬vE s 0<0 by rw[hF,h2];simp),eG,qH];rintro ⟨_,i,_⟩;rw[i]at h2;cases h2
     |true=>
      obtain⟨C,f⟩:=u h2;rw[bg (hF.2 h2),fC,f,C];by_cases m:(fe s 0).1=s.size
      ·have k:fe s 0=(s.size,T):=Prod.ext m h2;rw[k];simp only[zi,beq_self_eq_true,Bool.and_true];rw[D6];constructor
       ·rintro ⟨_,_,d,h⟩;have n:nJ s (nA1 s (nA0 s 0))=(s.size,T):=by rw[<-k];unfold fe;rw[aa d]
        exact⟨d,(Ek s b n).1 h⟩
       ·rintro ⟨d,h⟩;have n:nJ s (nA1 s (nA0 s 0))=(s.size,T):=by rw[<-k];unfold fe;rw[aa d]
        exact⟨b,trivial,d,(Ek s b n).2 h⟩
      ·rw[show((((fe s 0).1:Nat):Int)==(s.size:Int))=X by rw[aL];omega,oz,qH];rintro ⟨_,i,_⟩;rw[i]at m;exact m rfl
    rw[v];clear v u t hF;generalize vE s 0=q at g;generalize aw s 0=z at x c;clear b;by_cases hF:q<0
    ·by_cases f:o=3
     ·subst f;go_in;go_wp2_with (first|(go_at_call 73;refine fc (c _) ?_)|(go_at_call 36;refine(g _).mono ?_;rintro e y ⟨rfl,a⟩));go_ret;exact⟨by simp[hF],a.alloc a.size _⟩
     ·have A:(o==3)=X:=by simp[f]
      clear f;go_in;go_wp2_with (first|(go_at_call 73;refine fc (c _) ?_)|(go_at_call 36;refine(g _).mono ?_;rintro e y ⟨rfl,a⟩));go_ret;exact⟨by simp[A],a.alloc a.size _⟩
    ·go_in;go_wp2_with (first|(go_at_call 73;refine fc (c _) ?_)|(go_at_call 36;refine(g _).mono ?_;rintro e y ⟨rfl,a⟩));go_ret;exact⟨by rw[az (show ¬q<0 by omega)];simp,a.alloc a.size _⟩
   ·have l:ch (aw s 0)=X:=by simpa using b
    have c:=fun w=>dK l w;rw[show pi s=X by unfold pi;simp[l],oz];clear b l;generalize aw s 0=z at x c;go_in;go_wp2_with (first|(go_at_call 73;refine fc (c _) ?_));go_ret;exact⟨rfl,ai _ _⟩
  ·have F:(40:Int)<(s.size:Int):=by omega
   rw[az r,eG];go_in;go_wp2;go_ret;exact⟨rfl,ai _ _⟩
 ·have E:((s.size:Int)==0)=T:=by rw[jH];omega
  rw[show pi s=X by unfold pi;rw[dD j];simp[vB],oz];go_in;go_wp2;go_ret;exact⟨rfl,ai _ _⟩
structure gn (W:Ax) (vt:Z) (ns:List Nd) (N:Nd) (vn vk:Z):Prop where
 t:co W vt ns
 n:bF W vn N.nm
 k:aK W vk N.ks
 ok:wL ns N
 ln:ns.length<=1048576
 l1:N.nm.length<=1048576
 l2:N.ks.length<=1048576
 lx:N.x.size<=1048576
 ls:∀s∈N.nm,s.size<=1048576
theorem gn.below{a c:Ax}{d:Z}{ns:List Nd}{N:Nd}{vn vk:Z}(h:gn a d ns N vn vk)(b:Y a.heap.size a c):gn c d ns N vn vk:=
 ⟨h.t.below b,h.n.below b,h.k.below b,h.ok,h.ln,h.l1,h.l2,h.lx,h.ls⟩
structure St (w:Ax) (vt:Z) (ns:List Nd) (N:Nd) (vn vk:Z) (W:Ax):Prop where
 a:gn W vt ns N vn vk
 bt:W.cell? ⟨w.heap.size,0,A0⟩=A7 vt
 bn:dr (w.heap.size+1) W 36 N vn vk
 bel:Y w.heap.size w W
theorem St.below{w:Ax}{e:Z}{ns:List Nd}{N:Nd}{vn vk:Z}{c d:Ax}(h:St w e ns N vn vk c)(b:Y c.heap.size c d):St w e ns N vn vk d:=
 ⟨h.a.below b,ah b h.bt,h.bn.below b,h.bel.trans (b.mono h.bel.size)⟩
theorem St.start{w:Ax}{a:Z}{ns:List Nd}{N:Nd}{vn vk:Z}(h:gn w a ns N vn vk):St w a ns N vn vk ((w.alloc (U #[a] 26)).alloc (U #[M O N.k,M O N.f,M O N.t,M O N.l,M O N.op,M O N.n,Q N.x,vn,vk] 36)):=by
 have b:Y w.heap.size w ((w.alloc (U #[a] 26)).alloc (U #[M O N.k,M O N.f,M O N.t,M O N.l,M O N.op,M O N.n,Q N.x,vn,vk] 36)):=((ai _ w).alloc (ag _) _).alloc (by simp) _;refine⟨h.below b,?_,?_,b⟩
 ·rw[ay _ _ _ _ _ _ ((dt _ _ _ (by simp)).trans (ar w _))];rfl
 ·have:=ar (w.alloc (U #[a] 26)) (U #[M O N.k,M O N.f,M O N.t,M O N.l,M O N.op,M O N.n,Q N.x,vn,vk] 36);rw[bu]at this;exact this
theorem lg{w:Ax}{b:Z}{ns:List Nd}{N:Nd}{vn vk:Z}(a:gn w b ns N vn vk)(i:Nat)(h:i<N.ks.length):
  A2 S 96 #[A1 #[b],dy N vn vk,M O i] w fun e j=>e= V (M O (eu ns N i))/\Y w.heap.size w j:=by
 obtain⟨l,c,d,f,g,m⟩:=a.ok.get h;rw[g];exact aa1 w b ns N c vn vk i l a.t a.n a.k d f a.ln a.l2
theorem vF{w:Ax}{a:Z}{ns:List Nd}{N:Nd}{vn vk:Z}(b:gn w a ns N vn vk)(c:0<N.ks.length):
  A2 S 96 #[A1 #[a],A1 #[M O N.k,M O N.f,M O N.t,M O N.l,M O N.op,M O N.n,Q N.x,vn,vk],M O 0] w fun e d=>e= V (M O (eu ns N 0))/\Y w.heap.size w d:=lg b 0 c
theorem vG{w:Ax}{a:Z}{ns:List Nd}{N:Nd}{vn vk:Z}(b:gn w a ns N vn vk)(c:1<N.ks.length):
  A2 S 96 #[A1 #[a],A1 #[M O N.k,M O N.f,M O N.t,M O N.l,M O N.op,M O N.n,Q N.x,vn,vk],M O 1] w fun e d=>e= V (M O (eu ns N 1))/\Y w.heap.size w d:=lg b 1 c
def hxd(u:Nat)(j:Nat):Int:=qj ((u / 16 ^ j%16:Nat):Int)
def IC(u:Nat):Nat->ByteArray
 |0=>⟨#[48,120]⟩
 |r+1=>IC u r++fa [hxd u (15-r)]
theorem Nat.pow_mul_two16(k:Nat):(2:Int) ^ (4*k)=(16:Int) ^ k:=by rw[Int.pow_mul];rfl
theorem qy(u:Nat):∀r,(IC u r).size=r+2
 |0=>rfl
 |r+1=>by show(IC u r++fa [hxd u (15-r)]).size=_;rw[ae,qy u r];rfl
theorem ac5(d:Int)(b:0<=d)(c:d<16)(w:Ax):(Instr.index 9 (Q ⟨#[48,49,50,51,52,53,54,55,56,57,97,98,99,100,101,102]⟩) (M A8 d)).run S w= .ok (M .u8 (qj d)) w:=by
 have a:d.toNat<DG.size:=by simp only[DG];show d.toNat<16;omega
 have e:=aiD d b c a;go_simp;exact e
theorem ami(c:Int)(a:0<=c)(b:c<18446744073709551616):bits .and A8 c 15=c%16:=by
 have:=bits_mask A8 64 (by decide) (fun f d e=>by rw[IntKind.wrap_u64];omega) 4 (by decide) c a b;simpa using this
theorem abf(n:Int)(A: -9223372036854775808<=n)(B:n<0)(w:Ax):A2 S 148 #[M O n] w fun e z=>e= V (Q (IC (n+18446744073709551616).toNat 16))/\Y w.heap.size w z:=by
 obtain⟨c,x⟩:∃c:Nat,(c:Int)=n+18446744073709551616:=⟨(n+18446744073709551616).toNat,by omega⟩;rw[show(n+18446744073709551616).toNat=c by omega];obtain⟨d,p⟩:∃d:Int,d=(c:Int):=⟨_,rfl⟩;have ak:IntKind.u64.wrap n=d:=by rw[IntKind.wrap_u64];omega
 have L:0<=d:=by omega
 have af:d<18446744073709551616:=by omega
 have l:=aj p;have H:¬0<=n:=by omega
 clear p x;go_in;go_wp2_with fail;go_loopw [4,5] (fun y j wr=>∃b:Nat,b<=16/\j= M O (60-4*(b:Int))/\y= Q (IC c b)/\Y w.heap.size w wr) (fun _ j _=>(A4 j+4).toNat)
 case atStart=>exact⟨0,by omega,rfl,rfl,ai _ _⟩
 case round=>
  obtain⟨b,I,rfl,rfl,h⟩:=hrel;by_cases C:b<16
  ·obtain⟨f,i⟩:∃f:Int,60-4*(b:Int)=f:=⟨_,rfl⟩;have F:0<=f:=by omega
   have G:f<=60:=by omega
   obtain⟨a,r⟩:∃a:Int,d / 2 ^ f.toNat=a:=⟨_,rfl⟩;have g:a=((c / 16 ^ (15-b):Nat):Int):=by
    rw[<-r,l.out,show f.toNat=4*(15-b) by omega,Nat.pow_mul_two16,Int.natCast_ediv];rfl
   have s:0<=a:=by rw[g];exact Int.natCast_nonneg _
   have t:a<18446744073709551616:=by
    rw[g];have:=Nat.div_le_self c (16 ^ (15-b));have:=l.out;omega
   have m:0<=a%16:=by omega
   have o:a%16<16:=by omega
   have u:bits .and A8 a 15=a%16:=ami a s t;have v:=fun w=>ac5 (a%16) m o w;have k:A5 (fa [qj (a%16)]=fa [hxd c (15-b)]):=by
    show _=_;unfold hxd;rw[g];rfl
   generalize a%16=D at m o u v k;have E:=fun w=>pd (wG w (qj D));have J:=qy c b;have K:(fa [qj D]).size=1:=rfl;have q:=aj i;rw[i];clear g i;go_wp2;go_roundw
   case rel=>exact⟨b+1,by omega,by have:=q.out;congr 1;omega,by rw[k.out];rfl,h.alloc h.size _⟩
   case measure=>simp[A4];omega
  ·obtain rfl:b=16:=by omega
   go_wp2;go_ret;exact⟨rfl,h⟩
theorem p2(w:Ax):A2 S 203 #[M O 16] w fun e a=>e= V (A6 T)/\a=w:=by
 have b:bits .and .i64 16 15=0:=by decide +kernel
 go_in;go_wp2;go_ret;exact⟨rfl,rfl⟩
theorem Gn(a b:List Int):fa (a++b)=fa a++fa b:=by
 have h:∀(d:List Int)(c:ByteArray),d.foldl (fun e f=>e.push (UInt8.ofNat f.toNat)) c=c++d.foldl (fun e f=>e.push (UInt8.ofNat f.toNat)) ByteArray.empty:=by
  intro d
  induction d with
  |nil=>intro c;simp
  |cons a e g=>
   intro c;rw[ju,ju,g (c.push _),g (ByteArray.empty.push _)];apply jh;simp[ByteArray.push,js]
 unfold fa;rw[List.foldl_append];exact h b _
