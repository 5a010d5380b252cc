import Derived.Test.YtnoojdbdapljoaaGreatDoorHOk06
import Derived.Test.YtnoojdbdapljoaaGreatDoorHOk14
set_option linter.all false
set_option maxRecDepth 100000
set_option maxHeartbeats 3200000
open Go.Value renaming int->M,string->Q,agg->A0,tuple->A3,bool->A7
open Go.IntKind renaming i64->O
open Bool renaming true->S,false->X
open Go.Obj renaming cells->T
open Go.Proofs.Tryz renaming prog->U
open Go.Ending renaming returned->V
open Go.RowKit renaming Below->Y,intOf->A4,Hid->A5
open Go renaming Value->Z,World->A1,Calls->A2
open Option renaming none->Ax,some->A6
namespace Go.Proofs.YtnoojdbdapljoaaGreatDoor
open Go.RowKit Go.Maps Go.WideMaps
theorem qF(s:ByteArray)(i:Nat)(c:Int)(d:0<c):(lk s i==c)=decide (aK s i=c):=by
 unfold lk;split
 ·by_cases a:aK s i=c<;>simp[a]
 ·rename_i a;rw[er a];have b:((0:Int)==c)=X:=by rw[bg];omega
  rw[b];symm;rw[pu];omega
def nKd(s:ByteArray)(p:Nat):Bool:=decide ((aK s (nA0 s p)=46/\dl (aK s (nA0 s p+1))=S)\/aK s (nA1 s (nA0 s p))=101)
def afv(s:ByteArray)(p E:Nat)(R:Option Nat):Z:=match R with
 |some a=> A0 #[M O 2,M O p,M O (E:Int),M O 0,M O (a:Int),Q ⟨#[]⟩]
 |none=> A0 #[M O 3,M O p,M O (E:Int),M O 0,M O 0,Q (s.extract p E)]
def nmA(s:ByteArray)(p:Nat):Z:=
 if(nH s (nA1 s (nA0 s p))).2=S then
  (if nKd s p=S then A0 #[M O 3,M O p,M O ((nH s (nA1 s (nA0 s p))).1:Int),M O 0,M O 0,Q (s.extract p (nH s (nA1 s (nA0 s p))).1)]
  else afv s p (nH s (nA1 s (nA0 s p))).1 (xi s p ((nH s (nA1 s (nA0 s p))).1-p)))
 else A0 #[M O 3,M O p,M O 0,M O 0,M O 0,Q ⟨#[]⟩]
def nmF(s:ByteArray)(p:Nat):Int:=if(nH s (nA1 s (nA0 s p))).2=S then -1 else((nH s (nA1 s (nA0 s p))).1:Int)
theorem E4(s:ByteArray)(p j:Nat)(h:xi s p j=Ax):∀n,j<=n->xi s p n=Ax
 |0,a=>by
  obtain rfl:j=0:=by omega
  exact h
 |n+1,a=>by
  rcases jk a with rfl|h2
  ·exact h
  ·rw[xi,E4 s p j h n (by omega)]
theorem Jh(s:ByteArray)(p:Nat)(f:dl (aK s p)=S)(a:nKd s p=X):(nH s (nA1 s (nA0 s p)))=(nA0 s p,S)/\∀i,p<=i->i<nA0 s p->dl (aK s i)=S:=by
 unfold nKd at a;rw[pu]at a;have d:nA1 s (nA0 s p)=nA0 s p:=by unfold nA1;rw[aa (fun b=>a (.inl b))]
 rw[d]at a⊢;have e:nH s (nA0 s p)=(nA0 s p,S):=by unfold nH;rw[aa (fun b=>a (.inr b))]
 refine⟨e,fun i g c=>?_⟩;rcases jk g with rfl|h3
 ·exact f
 ·unfold nA0 at c;split at c
  ·omega
  ·exact zj dl s _ (p+1) i h3 c
theorem ah7(s:ByteArray)(a:Nat)(h:aK s a=101)(c:dl (aK s (nA2 s a))=X):nH s a=(nA2 s a,X):=by
 have b:sF s (nA2 s a)=nA2 s a:=by unfold sF iL;rw[aa (by rw[c];simp)]
 unfold nH;rw[ab h,b];simp
theorem afw(s:ByteArray)(a:Nat)(e:a<s.size)(h:aK s a=101)(b:dl (aK s (nA2 s a))=S):nH s a=(sF s (nA2 s a),S):=by
 have f:=pA b;have d:=og dl ui s s.size (nA2 s a+1) (by omega);have c:sF s (nA2 s a)=iL dl s s.size (nA2 s a+1):=by
  show iL dl s (s.size+1) (nA2 s a)=_;rw[iL,ab b]
 unfold nH;rw[ab h,c];simp;omega
theorem ah8(s:ByteArray)(a:Nat)(h:aK s a=101):a<nA2 s a/\nA2 s a<=s.size:=by
 have b:=dE h (by omega);unfold nA2;split
 ·rename_i hs;rcases hs with hs|hs
  ·have:=dE hs (by omega);omega
  ·have:=dE hs (by omega);omega
 ·omega
theorem mK(s:ByteArray)(k:Nat):dl (aK s k)=S\/dl (aK s k)=X:=by cases dl (aK s k)<;>simp
theorem De(s:ByteArray)(I:s.size<=1100000)(p:Nat)(eo:p<s.size)(c3:dl (aK s p)=S)(B:¬(aK s p=48/\aK s (p+1)=120))(w:A1):A2 U 80 #[Q s,A0 #[M O 0,M O p,M O 0,M O 0,M O 0,Q ⟨#[]⟩]] w fun e u=>e= V (A3 #[nmA s p,M O (nmF s p)])/\Y w.heap.size w u:=by
 obtain⟨ev,cu⟩:=aA (nmA s p);obtain⟨fn,cv⟩:=aA (nmF s p);rw[cu,cv];have k:=aq cu;have o:=aq cv;clear cu cv;have bD:fy w.heap.size ((w.alloc (T #[M O 2,M O p,M O 0,M O 0,M O 0,Q ⟨#[]⟩] 109)).alloc (T #[M O 0,M O 0,M O 0,M O 0,M O 0,Q ⟨#[]⟩] 109)) 2 p 0 0 0 ⟨#[]⟩:=(dr _ _ _ (by simp)).trans (aw w _);have c5:=fun w=>dL eo w;have b0:fy (w.heap.size+1) ((w.alloc (T #[M O 2,M O p,M O 0,M O 0,M O 0,Q ⟨#[]⟩] 109)).alloc (T #[M O 0,M O 0,M O 0,M O 0,M O 0,Q ⟨#[]⟩] 109)) 0 0 0 0 0 ⟨#[]⟩:=by
  have:=aw (w.alloc (T #[M O 2,M O p,M O 0,M O 0,M O 0,Q ⟨#[]⟩] 109)) (T #[M O 0,M O 0,M O 0,M O 0,M O 0,Q ⟨#[]⟩] 109);rw[ba]at this;exact this
 have ck:Y w.heap.size w ((w.alloc (T #[M O 2,M O p,M O 0,M O 0,M O 0,Q ⟨#[]⟩] 109)).alloc (T #[M O 0,M O 0,M O 0,M O 0,M O 0,Q ⟨#[]⟩] 109)):=(((aj _ w).alloc (ah _) _).alloc (by simp) _);go_in;go_upto_region 3 with fail
 generalize (w.alloc (T #[M O 2,M O p,M O 0,M O 0,M O 0,Q ⟨#[]⟩] 109)).alloc (T #[M O 0,M O 0,M O 0,M O 0,M O 0,Q ⟨#[]⟩] 109)=c9 at bD b0 ck;have e9:w.heap.size+1<c9.heap.size:=ax b0;obtain⟨L,ad,af,ak,am,an,ao⟩:=da bD;go_cut [22] from 9 (fun ff r=>ff= A7 X/\r=c9)
 case first=>
  by_cases z:aK s p=48
  ·rw[z]at c5;have eh:¬aK s (p+1)=120:=fun h=>B ⟨z,h⟩;have e1:(lk s (p+1)==120)=X:=by rw[qF _ _ _ (by omega)];simpa using eh
   have f:∀w,A2 U 76 #[Q s,M O ((p:Int)+1)] w fun e u=>e= V (M .u8 (lk s (p+1)))/\u=w:=fun w=>fD s I _ (p+1) (by omega) w;generalize lk s (p+1)=n at f e1;clear z eh B c3 k o;go_wp2_with (go_at_call 76;refine ee (f _) ?_);go_meet
   case rel=>exact⟨rfl,rfl⟩
  ·have cf:(aK s p==48)=X:=by rw[bg];exact z
   generalize aK s p=n at c5 cf;clear z B k o;go_wp2_with fail;go_meet
   case rel=>exact⟨rfl,rfl⟩
 case rest=>
  obtain⟨rfl,rfl⟩:=hcut;go_upto_if 34 with fail
  go_cut [6] from 9 (fun bb r=>bb= M O (nA0 s p:Int)/\r=wc)
  case first=>
   by_cases z:aK s p=48
   ·have e2:A5 (nA0 s p=p+1):=by show _=_;unfold nA0;rw[ab z]
    rw[z];clear z B k o;go_wp2_with fail;go_meet
    case rel=>exact⟨by rw[e2.out];go_num,rfl⟩
   ·have E:A5 (iL dl s (s.size+1) (p+1)=nA0 s p):=by show _=_;unfold nA0;rw[aa z];rfl
    have cf:(aK s p !=48)=S:=by rw[mo];exact z
    rw[cf];obtain⟨g,t⟩:=aA (nA0 s p);rw[t]at E;have A:=aq t;clear z B k o cf t;go_wp2_with fail;go_loop [6] (fun i=>∃(b l:Nat),b<=s.size/\s.size<b+l/\i= M O b/\A5 (iL dl s l b=g)) (fun i=>s.size-(A4 i).toNat)
    case atStart=>exact⟨p+1,s.size+1,by omega,by omega,by first|rfl|(congr 1;omega),E⟩
    case round=>
     obtain⟨b,l,eb,d9,rfl,bt⟩:=hrel;obtain⟨l,rfl⟩:∃bx,l=bx+1:=⟨l-1,by omega⟩;have d:=bt.out;unfold iL at d;have f:=fun w=>fD s I (b:Int) b rfl w;rcases mK s b with h1|h1
     ·have eg:b<s.size:=pA h1;have c:=fun w=>dy ((mG s b).trans h1) w;rw[ab h1]at d;have m:=aq d;generalize lk s b=n at f c;clear d h1;go_wp2_with (first|(go_at_call 76;refine ee (f _) ?_)|(go_at_call 79;refine ee (c _) ?_));go_round
      case rel=>exact⟨b+1,l,by omega,by omega,by go_num,m⟩
      case measure=>simp[A4];omega
     ·have c:=fun w=>dy ((mG s b).trans h1) w;rw[aa (by rw[h1];simp)]at d;have m:=aq d;generalize lk s b=n at f c;clear d h1;go_wp2_with (first|(go_at_call 76;refine ee (f _) ?_)|(go_at_call 79;refine ee (c _) ?_));go_meet
      case rel=>exact⟨by rw[A.out,<-m.out],rfl⟩
  case rest=>
   obtain⟨rfl,rfl⟩:=hcut;have ct:=abd s p eo;go_upto_region 9 with fail
   obtain⟨D,d0⟩:∃D:Bool,decide (aK s (nA0 s p)=46/\dl (aK s (nA0 s p+1))=S)=D:=⟨_,rfl⟩;have x:=aq d0;clear d0;go_cut [51] from 9 (fun fg r=>fg= A7 D/\r=wc)
   case first=>
    have f:=fun w=>fD s I (nA0 s p:Int) (nA0 s p) rfl w;have C:∀w,A2 U 76 #[Q s,M O ((nA0 s p:Int)+1)] w fun e u=>e= V (M .u8 (lk s (nA0 s p+1)))/\u=w:=fun w=>fD s I _ (nA0 s p+1) (by omega) w;have bA:=qF s (nA0 s p) 46 (by omega);by_cases a6:aK s (nA0 s p)=46
    ·rw[bG a6]at bA;have a7:=x.out;rcases mK s (nA0 s p+1) with h1|h1
     ·have c:=fun w=>dy ((mG s (nA0 s p+1)).trans h1) w;rw[bG ⟨a6,h1⟩]at a7;subst a7;generalize lk s (nA0 s p+1)=eF at C c;generalize lk s (nA0 s p)=n at f bA;clear a6 h1 x k o;go_wp2_with (first|(go_at_call 76;first|(with_reducible refine ee (f _) ?_)|(with_reducible refine ee (C _) ?_))|(go_at_call 79;refine ee (c _) ?_));go_meet
      case rel=>exact⟨rfl,rfl⟩
     ·have c:=fun w=>dy ((mG s (nA0 s p+1)).trans h1) w;rw[aD (fun h=>by rw[h.2]at h1;cases h1)]at a7;subst a7;generalize lk s (nA0 s p+1)=eF at C c;generalize lk s (nA0 s p)=n at f bA;clear a6 h1 x k o;go_wp2_with (first|(go_at_call 76;first|(with_reducible refine ee (f _) ?_)|(with_reducible refine ee (C _) ?_))|(go_at_call 79;refine ee (c _) ?_));go_meet
      case rel=>exact⟨rfl,rfl⟩
    ·rw[aD a6]at bA;have a7:=x.out;rw[aD (fun h=>a6 h.1)]at a7;subst a7;generalize lk s (nA0 s p)=n at f bA;clear a6 x k o;go_wp2_with (first|(go_at_call 76;refine ee (f _) ?_));go_meet
     case rel=>exact⟨rfl,rfl⟩
   case rest=>
    obtain⟨rfl,rfl⟩:=hcut;go_upto_if 51 with fail
    go_cut [6] from 9 (fun bb r=>bb= M O (nA1 s (nA0 s p):Int)/\fy w.heap.size r (if D=S then 3 else 2) p 0 0 0 ⟨#[]⟩/\fy (w.heap.size+1) r 0 0 0 0 0 ⟨#[]⟩/\Y w.heap.size w r)
    case first=>
     cases D with
     |true=>
      have br:=bc x.out;have E:A5 (iL dl s (s.size+1) (nA0 s p+1)=nA1 s (nA0 s p)):=by show _=_;unfold nA1;rw[ab br];rfl
      have e6:=pA br.2;obtain⟨g,t⟩:=aA (nA1 s (nA0 s p));rw[t]at E;have A:=aq t;generalize nA0 s p=es at E e6 ct⊢;clear br x k o B t;have F:=bD.setKind 3;have G:=b0.other (a:=⟨w.heap.size,0,Ax⟩) (by simp) (M O 3);have J:Y w.heap.size w (wc.setCell ⟨w.heap.size,0,Ax⟩ (M O 3)):=ck.setCell (by simp) _;go_wp2_with fail;go_loop [6] (fun i=>∃(b l:Nat),b<=s.size/\s.size<b+l/\i= M O b/\A5 (iL dl s l b=g)) (fun i=>s.size-(A4 i).toNat)
      case atStart=>exact⟨es+1,s.size+1,by omega,by omega,by first|rfl|(congr 1;omega),E⟩
      case round=>
       obtain⟨b,l,eb,d9,rfl,bt⟩:=hrel;obtain⟨l,rfl⟩:∃bx,l=bx+1:=⟨l-1,by omega⟩;have d:=bt.out;unfold iL at d;have f:=fun w=>fD s I (b:Int) b rfl w;rcases mK s b with h1|h1
       ·have eg:b<s.size:=pA h1;have c:=fun w=>dy ((mG s b).trans h1) w;rw[ab h1]at d;have m:=aq d;generalize lk s b=n at f c;clear d h1;go_wp2_with (first|(go_at_call 76;refine ee (f _) ?_)|(go_at_call 79;refine ee (c _) ?_));go_round
        case rel=>exact⟨b+1,l,by omega,by omega,by go_num,m⟩
        case measure=>simp[A4];omega
       ·have c:=fun w=>dy ((mG s b).trans h1) w;rw[aa (by rw[h1];simp)]at d;have m:=aq d;generalize lk s b=n at f c;clear d h1;go_wp2_with (first|(go_at_call 76;refine ee (f _) ?_)|(go_at_call 79;refine ee (c _) ?_));go_meet
        case rel=>exact⟨by rw[A.out,<-m.out],F,G,J⟩
     |false=>
      have br:=ig x.out;have t:nA1 s (nA0 s p)=nA0 s p:=by unfold nA1;rw[aa br]
      have A:=aq t;clear br x k o B t;go_wp2_with fail;go_meet
      case rel=>exact⟨by rw[A.out],bD,b0,ck⟩
    case rest=>
     obtain⟨rfl,a8,bp,cl⟩:=hcut;clear bD b0 ck L ad af ak am an ao e9;have df:=abe s _ ct.2;have f:=fun w=>fD s I (nA1 s (nA0 s p):Int) (nA1 s (nA0 s p)) rfl w;have dn:=qF s (nA1 s (nA0 s p)) 101 (by omega);obtain⟨a5,cB⟩:∃a5:Bool,decide (aK s (nA1 s (nA0 s p))=101)=a5:=⟨_,rfl⟩;have bd:=aq cB;rw[cB]at dn;clear cB;obtain⟨L,ad,af,ak,am,an,ao⟩:=da a8;obtain⟨z0,ap,ar,av,a0,a2,cq⟩:=da bp;have bs:w.heap.size<wc.heap.size:=ax a8;have cp:w.heap.size+1<wc.heap.size:=ax bp;go_upto_if 64 with(go_at_call 76;refine(f _).mono ?_;rintro e u ⟨rfl,y⟩;obtain rfl:=y.symm)
     clear f dn;go_cut [6] from 9 (fun bb r=>bb= M O ((nH s (nA1 s (nA0 s p))).1:Int)/\(nH s (nA1 s (nA0 s p))).2=S/\fy w.heap.size r (if(D||a5)=S then 3 else 2) p 0 0 0 ⟨#[]⟩/\fy (w.heap.size+1) r 0 0 0 0 0 ⟨#[]⟩/\Y w.heap.size w r)
     case first=>
      cases a5 with
      |false=>
       have K:=ig bd.out;have A:A5 (nH s (nA1 s (nA0 s p))=(nA1 s (nA0 s p),S)):=by show _=_;unfold nH;rw[aa K]
       rw[<-yr D]at a8;clear K bd k o x B;go_wp2_with fail;go_meet
       case rel=>exact⟨by rw[A.out],by rw[A.out],a8,bp,cl⟩
      |true=>
       have K:=bc bd.out;have b3:=ah7 s (nA1 s (nA0 s p)) K;have b5:=afw s (nA1 s (nA0 s p)) (dE K (by omega)) K;have dd:=ah8 s (nA1 s (nA0 s p)) K;have C:∀w,A2 U 76 #[Q s,M O ((nA1 s (nA0 s p):Int)+1)] w fun e u=>e= V (M .u8 (lk s (nA1 s (nA0 s p)+1)))/\u=w:=fun w=>fD s I _ (nA1 s (nA0 s p)+1) (by omega) w;have cc:=qF s (nA1 s (nA0 s p)+1) 43 (by omega);have ce:=qF s (nA1 s (nA0 s p)+1) 45 (by omega);have bl:A5 (nA2 s (nA1 s (nA0 s p))=if decide (aK s (nA1 s (nA0 s p)+1)=43)=S\/decide (aK s (nA1 s (nA0 s p)+1)=45)=S then nA1 s (nA0 s p)+1+1 else nA1 s (nA0 s p)+1):=by show _=_;unfold nA2;simp
       generalize decide (aK s (nA1 s (nA0 s p)+1)=43)=cs at cc bl;generalize decide (aK s (nA1 s (nA0 s p)+1)=45)=b9 at ce bl;have F:=a8.setKind 3;have G:=bp.other (a:=⟨w.heap.size,0,Ax⟩) (by simp) (M O 3);have J:Y w.heap.size w (wc.setCell ⟨w.heap.size,0,Ax⟩ (M O 3)):=cl.setCell (by simp) _;obtain⟨cb,cz⟩:=aA (wc.setCell ⟨w.heap.size,0,Ax⟩ (M O 3));rw[cz]at F G J;have c8:=aq cz;clear K bd x B cz;go_upto_region 17 with fail
       rw[c8.out];clear c8 a8 bp cl L ad af ak am an ao z0 ap ar av a0 a2 cq bs cp;obtain⟨L,ad,af,ak,am,an,ao⟩:=da F;obtain⟨z0,ap,ar,av,a0,a2,cq⟩:=da G;have bs:w.heap.size<cb.heap.size:=ax F;have cp:w.heap.size+1<cb.heap.size:=ax G;go_cut [77] from 9 (fun fk r=>fk= A7 (b9||cs)/\r=cb)
       case first=>
        generalize lk s (nA1 s (nA0 s p)+1)=n at C cc ce;clear k o b3 b5 bl;cases b9 with
        |true=>
         go_wp2_with (first|(go_at_call 76;refine(C _).mono ?_;rintro e u ⟨rfl,y⟩;obtain rfl:=y.symm));go_meet
         case rel=>exact⟨rfl,rfl⟩
        |false=>
         go_wp2_with (first|(go_at_call 76;refine(C _).mono ?_;rintro e u ⟨rfl,y⟩;obtain rfl:=y.symm));go_meet
         case rel=>exact⟨rfl,rfl⟩
       case rest=>
        obtain⟨rfl,b6⟩:=hcut;obtain rfl:=b6.symm;clear b6;go_upto_if 77 with fail
        go_cut [6] from 9 (fun bb r=>bb= M O (nA2 s (nA1 s (nA0 s p)):Int)/\r=cb)
        case first=>
         clear k o b3 b5 cc ce C;obtain⟨ca,cx⟩:∃ca:Bool,(b9||cs)=ca:=⟨_,rfl⟩;have dq:A5 (nA2 s (nA1 s (nA0 s p))=if ca=S then nA1 s (nA0 s p)+1+1 else nA1 s (nA0 s p)+1):=by show _=_;rw[bl.out,<-cx];cases b9<;>cases cs<;>simp
         rw[cx];clear cx bl;cases ca with
         |true=>
          go_wp2_with fail;go_meet
          case rel=>exact⟨by rw[dq.out];simp only[rq];go_num,rfl⟩
         |false=>
          go_wp2_with fail;go_meet
          case rel=>exact⟨by rw[dq.out];simp,rfl⟩
        case rest=>
         obtain⟨rfl,b6⟩:=hcut;obtain rfl:=b6.symm;clear b6 bl cc ce C;have a9:=fun w=>fD s I (nA2 s (nA1 s (nA0 s p)):Int) (nA2 s (nA1 s (nA0 s p))) rfl w;rcases mK s (nA2 s (nA1 s (nA0 s p))) with h1|h1
         ·have c:=fun w=>dy ((mG s (nA2 s (nA1 s (nA0 s p)))).trans h1) w;have c6:A5 (nH s (nA1 s (nA0 s p))=(sF s (nA2 s (nA1 s (nA0 s p))),S)):=b5 h1;obtain⟨g,t⟩:=aA (sF s (nA2 s (nA1 s (nA0 s p))));have E:=aq t;have A:=aq t;generalize lk s (nA2 s (nA1 s (nA0 s p)))=e0 at a9 c;generalize nA2 s (nA1 s (nA0 s p))=et at E dd a9⊢;clear b3 b5 t h1 k o;go_wp2_with (first|(go_at_call 76;refine(a9 _).mono ?_;rintro e u ⟨rfl,y⟩;obtain rfl:=y.symm)|(go_at_call 79;refine(c _).mono ?_;rintro e u ⟨rfl,y⟩;obtain rfl:=y.symm));clear a9 c;go_loop [6] (fun i=>∃(b l:Nat),b<=s.size/\s.size<b+l/\i= M O b/\A5 (iL dl s l b=g)) (fun i=>s.size-(A4 i).toNat)
          case atStart=>exact⟨et,s.size+1,by omega,by omega,by first|rfl|(congr 1;omega),E⟩
          case round=>
           obtain⟨b,l,eb,d9,rfl,bt⟩:=hrel;obtain⟨l,rfl⟩:∃bx,l=bx+1:=⟨l-1,by omega⟩;have d:=bt.out;unfold iL at d;have f:=fun w=>fD s I (b:Int) b rfl w;rcases mK s b with h1|h1
           ·have eg:b<s.size:=pA h1;have c:=fun w=>dy ((mG s b).trans h1) w;rw[ab h1]at d;have m:=aq d;generalize lk s b=n at f c;clear d h1;go_wp2_with (first|(go_at_call 76;refine ee (f _) ?_)|(go_at_call 79;refine ee (c _) ?_));go_round
            case rel=>exact⟨b+1,l,by omega,by omega,by go_num,m⟩
            case measure=>simp[A4];omega
           ·have c:=fun w=>dy ((mG s b).trans h1) w;rw[aa (by rw[h1];simp)]at d;have m:=aq d;generalize lk s b=n at f c;clear d h1;go_wp2_with (first|(go_at_call 76;refine ee (f _) ?_)|(go_at_call 79;refine ee (c _) ?_));go_meet
            case rel=>exact⟨by rw[c6.out,A.out,<-m.out],by rw[c6.out],by simpa using F,G,J⟩
         ·have c:=fun w=>dy ((mG s (nA2 s (nA1 s (nA0 s p)))).trans h1) w;have d7:=b3 h1;have j:=k.out;have H:=o.out;unfold nmA at j;unfold nmF at H;rw[d7]at j H;simp only[aa (show ¬X=S by simp)]at j H;subst j;obtain⟨cr,d1⟩:∃cr:Int,(nA2 s (nA1 s (nA0 s p)):Int)=cr:=⟨_,rfl⟩;rw[d1]at H a9⊢;subst H;generalize lk s (nA2 s (nA1 s (nA0 s p)))=e0 at a9 c;clear d7 h1 b3 b5 k o dd d1;go_wp2_with (first|(go_at_call 76;refine(a9 _).mono ?_;rintro e u ⟨rfl,y⟩;obtain rfl:=y.symm)|(go_at_call 79;refine(c _).mono ?_;rintro e u ⟨rfl,y⟩;obtain rfl:=y.symm));refine bB (v:= A3 #[A0 #[M O 3,M O p,M O 0,M O 0,M O 0,Q ⟨#[]⟩],M O cr]) (by simp[results,Tryz.results80,go_sem,z0,ap,ar,av,a0,a2]) rfl ⟨rfl,?_⟩
          iterate 6 refine eI ?_ (by simp) _
          exact J
     case rest=>
      obtain⟨rfl,el,bo,d4,ds⟩:=hcut;have dk:=abc s _ df.2;have d2:nKd s p=(D||a5):=by unfold nKd;rw[<-x.out,<-bd.out];simp
      have c0:=Jh s p c3;have j:=k.out;have H:=o.out;unfold nmA at j;unfold nmF at H;rw[ab el]at j H;subst H;rw[d2]at j c0;have e7:p<(nH s (nA1 s (nA0 s p))).1:=by omega
      have e5:(nH s (nA1 s (nA0 s p))).1<=s.size:=dk.2;have cn:(D||a5)=X->∀i,p<=i->i<(nH s (nA1 s (nA0 s p))).1->dl (aK s i)=S:=fun h i h1 dp=>by
       have ea:=c0 h;exact ea.2 i h1 (by rw[ea.1]at dp;exact dp)
      clear c0 d2 x bd k o el dk df ct B c5 c3;generalize (D||a5)=a4 at bo j cn;generalize (nH s (nA1 s (nA0 s p))).1=g at e7 e5 j cn⊢;clear a8 bp cl L ad af ak am an ao z0 ap ar av a0 a2 cq bs cp;obtain⟨bf,cy⟩:=aA (xi s p (g-p));rw[cy]at j;have bw:=aq cy;have k:=aq j;have b8:=aq cn;clear j cn cy;obtain⟨b7,co⟩:∃b7:Int,(if a4=S then(3:Int) else 2)=b7:=⟨_,rfl⟩;rw[co]at bo;have c7:A5 ((b7=2/\a4=X/\(0:Int)<=0/\xi s p (p-p)=A6 (0:Int).toNat)\/(b7=3/\(a4=S\/bf=Ax))):=by
       cases a4 with
       |true=>exact .inr ⟨co.symm,.inl rfl⟩
       |false=>exact .inl ⟨co.symm,rfl,by omega,by rw[gj];rfl⟩
      clear co;obtain⟨L,ad,af,ak,am,an,ao⟩:=da bo;have bs:w.heap.size<wc.heap.size:=ax bo;have F:=bo.setTo (g:Int);have G:=d4.other (a:=⟨w.heap.size,2,Ax⟩) (by simp) (M O (g:Int));have J:Y w.heap.size w (wc.setCell ⟨w.heap.size,2,Ax⟩ (M O (g:Int))):=ds.setCell (by simp) _;go_wp2_with fail;go_loopw [7,8] (fun fb i wr=>∃(b:Nat) (c a:Int),p<=b/\b<=g/\i= M O b/\fb= M .u64 a/\fy w.heap.size wr c p (g:Int) 0 0 ⟨#[]⟩/\fy (w.heap.size+1) wr 0 0 0 0 0 ⟨#[]⟩/\Y w.heap.size w wr/\A5 ((c=2/\a4=X/\0<=a/\xi s p (b-p)=A6 a.toNat)\/(c=3/\(a4=S\/bf=Ax)))) (fun _ i _=>g-(A4 i).toNat)
      case atStart=>exact⟨p,b7,0,ah _,by omega,rfl,rfl,F,G,J,c7⟩
      case round=>
       obtain⟨b,c,a,e8,fq,rfl,rfl,bF,b1,bn,d⟩:=hrel;clear F G J bo d4 ds L ad af ak am an ao bs c7;obtain⟨L,ad,af,ak,am,an,ao⟩:=da bF;obtain⟨z0,ap,ar,av,a0,a2,cq⟩:=da b1;have bs:w.heap.size<wr.heap.size:=ax bF;have cp:w.heap.size+1<wr.heap.size:=ax b1;rcases d.out with⟨rfl,cm,fo,b4⟩|⟨rfl,em⟩
       ·have d6:=aa8 s p _ _ b4;by_cases ec:b<g
        ·have d8:=b8.out cm b e8 ec;have e4:=mC d8;have fa:=fun w=>dL (s:=s) (i:=b) (by omega) w;have c4:xi s p (b+1-p)=if a.toNat*10+(aK s b-48).toNat<=9223372036854775807 then A6 (a.toNat*10+(aK s b-48).toNat) else Ax:=by
          rw[show b+1-p=(b-p)+1 by omega,xi,b4,show p+(b-p)=b by omega]
         have ex:a<=9223372036854775807:=by omega
         have ei:xi s p (b+1-p)=Ax->bf=Ax:=fun h=>by rw[<-bw.out];exact E4 s p _ h _ (by omega)
         have m:A5 ((¬a*10+(aK s b-48)<=9223372036854775807->bf=Ax)/\(a*10+(aK s b-48)<=9223372036854775807->xi s p (b+1-p)=A6 (a*10+(aK s b-48)).toNat)):=by
          refine⟨fun h=>ei (by rw[c4,aa (by omega)]),fun h=>?_⟩;rw[c4,ab (by omega)]
          congr 1
          omega
         generalize aK s b=n at fa e4 m;clear d8 c4 ei b4 d b8 bw k d6;have d3:=bF.setKind 3;have d5:=b1.other (a:=⟨w.heap.size,0,Ax⟩) (by simp) (M O 3);have dz:Y w.heap.size w (wr.setCell ⟨w.heap.size,0,Ax⟩ (M O 3)):=bn.setCell (by simp) _;have ef:(b:Int)<(g:Int):=by omega
         rcases(show 922337203685477580<a\/(a=922337203685477580/\55<n)\/(a=922337203685477580/\¬55<n)\/a<922337203685477580 by omega) with q|⟨q,fc⟩|⟨q,fc⟩|q
         ·have a3:A5 (bf=Ax):=m.out.1 (by omega);clear m;go_wp2;go_roundw
          case rel=>exact⟨b+1,3,_,by omega,by omega,by go_num,rfl,d3,d5,dz,.inr ⟨rfl,.inr a3.out⟩⟩
          case measure=>simp[A4];omega
         ·have a3:A5 (bf=Ax):=m.out.1 (by omega);have eq:(a==922337203685477580)=S:=by rw[gn];exact q
          have ep:¬922337203685477580<a:=by omega
          clear m q;go_wp2;go_roundw
          case rel=>exact⟨b+1,3,_,by omega,by omega,by go_num,rfl,d3,d5,dz,.inr ⟨rfl,.inr a3.out⟩⟩
          case measure=>simp[A4];omega
         ·have a3:A5 (xi s p (b+1-p)=A6 (a*10+(n-48)).toNat):=m.out.2 (by omega);have eq:(a==922337203685477580)=S:=by rw[gn];exact q
          have ep:¬922337203685477580<a:=by omega
          have fe:a*10+(n-48)<=9223372036854775807:=by omega
          clear m q;go_wp2;go_roundw
          case rel=>exact⟨b+1,2,a*10+(n-48),by omega,by omega,by go_num,by first|rfl|(congr 1;omega),bF,b1,bn,.inl ⟨rfl,cm,by omega,a3.out⟩⟩
          case measure=>simp[A4];omega
         ·have a3:A5 (xi s p (b+1-p)=A6 (a*10+(n-48)).toNat):=m.out.2 (by omega);have eq:(a==922337203685477580)=X:=by rw[bg];omega
          have ep:¬922337203685477580<a:=by omega
          have fe:a*10+(n-48)<=9223372036854775807:=by omega
          clear m;go_wp2;go_roundw
          case rel=>exact⟨b+1,2,a*10+(n-48),by omega,by omega,by go_num,by first|rfl|(congr 1;omega),bF,b1,bn,.inl ⟨rfl,cm,by omega,a3.out⟩⟩
          case measure=>simp[A4];omega
        ·obtain rfl:b=g:=by omega
         have j:=k.out;rw[cm,<-bw.out,b4]at j;simp only[aa (show ¬X=S by simp),afv]at j;rw[show((a.toNat:Nat):Int)=a by omega]at j;subst j;have fr:wrap64 a=a:=by unfold wrap64;omega
         have ex:a<=9223372036854775807:=by omega
         clear k bw b8 d b4 d6;go_wp2;refine bB (v:= A3 #[A0 #[M O 2,M O p,M O (b:Int),M O 0,M O a,Q ⟨#[]⟩],M O (-1)]) (by simp[results,Tryz.results80,go_sem,z0,ap,ar,av,a0,a2]) rfl ⟨rfl,?_⟩
         iterate 7 refine eI ?_ (by simp) _
         exact bn
       ·have j:=k.out;have e3:Value.agg #[M O 3,M O p,M O (g:Int),M O 0,M O 0,Q (s.extract p g)]=ev:=by
         rcases em with h|h
         ·rw[h]at j;exact j
         ·rw[h]at j;cases a4<;>exact j
        subst e3;clear j k bw b8 d em;by_cases ec:b<g
        ·have ef:(b:Int)<(g:Int):=by omega
         go_wp2;refine bB (v:= A3 #[A0 #[M O 3,M O p,M O (g:Int),M O 0,M O 0,Q (s.extract p g)],M O (-1)]) (by simp[results,Tryz.results80,go_sem,z0,ap,ar,av,a0,a2]) rfl ⟨rfl,?_⟩
         iterate 7 refine eI ?_ (by simp) _
         exact bn
        ·have ef:¬(b:Int)<(g:Int):=by omega
         go_wp2;refine bB (v:= A3 #[A0 #[M O 3,M O p,M O (g:Int),M O 0,M O 0,Q (s.extract p g)],M O (-1)]) (by simp[results,Tryz.results80,go_sem,z0,ap,ar,av,a0,a2]) rfl ⟨rfl,?_⟩
         iterate 7 refine eI ?_ (by simp) _
         exact bn
theorem abI(s:ByteArray)(p:Nat):∃(t n:Int),hxA s p= A0 #[M O 2,M O p,M O t,M O 0,M O n,Q ⟨#[]⟩]:=by
 unfold hxA;split<;>exact⟨_,_,rfl⟩
def xm(s:ByteArray)(p:Nat):Z:=if aK s p=48/\aK s (p+1)=120 then hxA s p else nmA s p
def uu(s:ByteArray)(p:Nat):Int:=if aK s p=48/\aK s (p+1)=120 then hxF s p else nmF s p
theorem ah9(s:ByteArray)(p:Nat):∃(k t n:Int) (x:ByteArray),nmA s p= A0 #[M O k,M O p,M O t,M O 0,M O n,Q x]:=by
 unfold nmA afv;split
 ·split
  ·exact⟨_,_,_,_,rfl⟩
  ·split<;>exact⟨_,_,_,_,rfl⟩
 ·exact⟨_,_,_,_,rfl⟩
theorem Ji(s:ByteArray)(p:Nat):∃(k t n:Int) (x:ByteArray),xm s p= A0 #[M O k,M O p,M O t,M O 0,M O n,Q x]:=by
 unfold xm;split
 ·obtain⟨t,n,a⟩:=abI s p;exact⟨_,_,_,_,a⟩
 ·exact ah9 s p
theorem Df(s:ByteArray)(l:s.size<=1100000)(p:Nat)(f:aK s p=48)(b:aK s (p+1)=120)(w:A1):A2 U 80 #[Q s,A0 #[M O 0,M O p,M O 0,M O 0,M O 0,Q ⟨#[]⟩]] w fun e d=>e= V (A3 #[hxA s p,M O (hxF s p)])/\Y w.heap.size w d:=by
 have r:=dE b (by omega);have m:=fun w=>dL (s:=s) (i:=p) (by omega) w;rw[f]at m;have n:∀w,A2 U 76 #[Q s,M O ((p:Int)+1)] w fun e d=>e= V (M .u8 120)/\d=w:=fun w=>by
  have:=fD s l ((p:Int)+1) (p+1) (by omega) w;rw[pD r,b]at this;exact this
 have a:=fun w=>EC s l p (by omega) w;obtain⟨u,t,g⟩:=abI s p;rw[g]at a⊢;generalize hxF s p=o at a;clear g f b;have j:fy (w.heap.size+1) ((w.alloc (T #[M O 2,M O p,M O 0,M O 0,M O 0,Q ⟨#[]⟩] 109)).alloc (T #[M O 0,M O 0,M O 0,M O 0,M O 0,Q ⟨#[]⟩] 109)) 0 0 0 0 0 ⟨#[]⟩:=by
  have:=aw (w.alloc (T #[M O 2,M O p,M O 0,M O 0,M O 0,Q ⟨#[]⟩] 109)) (T #[M O 0,M O 0,M O 0,M O 0,M O 0,Q ⟨#[]⟩] 109);rw[ba]at this;exact this
 have h:Y w.heap.size w ((w.alloc (T #[M O 2,M O p,M O 0,M O 0,M O 0,Q ⟨#[]⟩] 109)).alloc (T #[M O 0,M O 0,M O 0,M O 0,M O 0,Q ⟨#[]⟩] 109)):=(((aj _ w).alloc (ah _) _).alloc (by simp) _);go_in;go_wp2_with (go_at_call 76;refine ee (n _) ?_);refine cd (a _) fun x c=>?_;have k:=j.below c (by simp);have q:=h.trans (c.mono (by simp;omega));clear c j h a n m;obtain⟨z0,y,z,A,B,C,F⟩:=da k;have E:w.heap.size+1<x.heap.size:=ax k;go_wp2;refine bB (v:= A3 #[A0 #[M O 2,M O p,M O u,M O 0,M O t,Q ⟨#[]⟩],M O o]) (by simp[results,Tryz.results80,go_sem,z0,y,z,A,B,C]) rfl ⟨rfl,?_⟩
 iterate 6 refine eI ?_ (by simp) _
 exact q
theorem Dg(s:ByteArray)(b:s.size<=1100000)(p:Nat)(d:p<s.size)(c:dl (aK s p)=S)(w:A1):A2 U 80 #[Q s,A0 #[M O 0,M O p,M O 0,M O 0,M O 0,Q ⟨#[]⟩]] w fun e f=>e= V (A3 #[xm s p,M O (uu s p)])/\Y w.heap.size w f:=by
 unfold xm uu;split
 ·rename_i a;exact Df s b p a.1 a.2 w
 ·rename_i a;exact De s b p d c a w
theorem iC{c:Int}{b:Bool}(h:cK c=b)(w:A1):A2 U 77 #[M .u8 c] w fun e d=>e= V (A7 b)/\d=w:=(mp c w).mono fun e d a=>⟨by rw[a.1,h],a.2.symm⟩
theorem sJ(s:ByteArray)(r:s.size<=1100000)(p:Nat)(l:p<s.size)(a:dl (aK s p)=S)(w:A1):A2 U 47 #[Q s,M O p] w fun e z=>e= V (A3 #[xm s p,M O (uu s p)])/\Y w.heap.size w z:=by
 have m:=fun w=>dL l w;have t:=mC a;have k:cK (aK s p)=X:=by simp[cK];omega
 have f:=fun w=>iC k w;have d:=fun w=>dy a w;have b:=fun w=>Dg s r p l a w;obtain⟨u,y,x,B,h⟩:=Ji s p;rw[h]at b⊢;generalize uu s p=n at b;generalize aK s p=o at m f d t;have I:(o==10)=X:=by rw[bg];omega
 clear k a h;have i:fy w.heap.size ((w.alloc (T #[M O 0,M O 0,M O 0,M O 0,M O 0,Q ⟨#[]⟩] 109)).alloc (T #[M O 0,M O p,M O 0,M O 0,M O 0,Q ⟨#[]⟩] 109)) 0 0 0 0 0 ⟨#[]⟩:=(dr _ _ _ (by simp)).trans (aw w _);have g:Y w.heap.size w ((w.alloc (T #[M O 0,M O 0,M O 0,M O 0,M O 0,Q ⟨#[]⟩] 109)).alloc (T #[M O 0,M O p,M O 0,M O 0,M O 0,Q ⟨#[]⟩] 109)):=(((aj _ w).alloc (ah _) _).alloc (by simp) _);go_in;go_wp2_with (first|(go_at_call 77;refine ee (f _) ?_)|(go_at_call 79;refine ee (d _) ?_));refine cd (b _) fun A c=>?_;have j:=i.below c (by simp;omega);have q:=g.trans (c.mono (by simp;omega));clear c i g b f d m;obtain⟨z0,C,E,F,G,H,K⟩:=da j;have J:w.heap.size<A.heap.size:=ax j;go_wp2;refine bB (v:= A3 #[A0 #[M O u,M O p,M O y,M O 0,M O x,Q B],M O n]) (by simp[results,Tryz.results47,go_sem,z0,C,E,F,G,H]) rfl ⟨rfl,?_⟩
 iterate 6 refine eI ?_ (by simp) _
 exact q
theorem abJ(s:ByteArray)(p:Nat):(uu s p<0↔(fC s p).2=S)/\∃(k t n:Int) (x:ByteArray),xm s p= A0 #[M O k,M O p,M O t,M O 0,M O n,Q x]/\((fC s p).2=S->t=((fC s p).1:Int)/\((k==3)=decide (¬(aK s p=48/\aK s (p+1)=120)/\(nKd s p=S\/xi s p ((fC s p).1-p)=Ax)))):=by
 unfold uu xm fC;by_cases b:aK s p=48/\aK s (p+1)=120
 ·simp only[ab b];unfold hxF hxA;cases hh:(mu s (p+2)).2 with
  |true=>
   simp only[rq];refine⟨⟨fun _=>trivial,fun _=>by omega⟩,2,_,_,_,rfl,fun _=>⟨rfl,?_⟩⟩;simp[b]
  |false=>
   simp only[aa (show ¬X=S by simp)];refine⟨⟨fun a=>by omega,fun a=>by cases a⟩,2,_,_,_,rfl,fun a=>by cases a⟩
 ·simp only[aa b];unfold nmF nmA afv;cases hh:(nH s (nA1 s (nA0 s p))).2 with
  |true=>
   simp only[rq];refine⟨⟨fun _=>trivial,fun _=>by omega⟩,?_⟩;cases hk:nKd s p with
   |true=>
    simp only[rq];exact⟨3,_,_,_,rfl,fun _=>⟨rfl,by simp[b]⟩⟩
   |false=>
    simp only[aa (show ¬X=S by simp)];cases hc:xi s p ((nH s (nA1 s (nA0 s p))).1-p) with
    |none=>exact⟨3,_,_,_,rfl,fun _=>⟨rfl,by simp[b]⟩⟩
    |some c=>exact⟨2,_,_,_,rfl,fun _=>⟨rfl,by simp⟩⟩
  |false=>
   simp only[aa (show ¬X=S by simp)];refine⟨⟨fun a=>by omega,fun a=>by cases a⟩,3,_,_,_,rfl,fun a=>by cases a⟩
theorem Jj(q:ByteArray)(a:dl (aK q 0)=S)(d:nH q (nA1 q (nA0 q 0))=(q.size,S)):xh q=Ax↔(nKd q 0=S\/xi q 0 q.size=Ax):=by
 cases hk:nKd q 0 with
 |false=>
  obtain⟨b,c⟩:=Jh q 0 a hk;have f:nA0 q 0=q.size:=by rw[d]at b;exact(tE b).1.symm
  rw[aba q (pA a) (fun e g=>c e (by omega) (by omega))];simp
 |true=>
  simp only[true_or,iff_true];unfold nKd at hk;rcases bc hk with h|h
  ·exact Ez q a _ (dE h.1 (by omega)) (by rw[h.1];decide)
  ·exact Ez q a _ (dE h (by omega)) (by rw[h];decide)
def fok(q:ByteArray):Bool:=decide (q.size<=40)&&oB q
theorem E5(s:ByteArray)(B:s.size<=1100000)(w:A1):A2 U 107 #[Q s] w fun e p=>e= V (A7 (fok s))/\Y w.heap.size w p:=by
 unfold fok;by_cases j:0<s.size
 ·have E:((s.size:Int)==0)=X:=by rw[bg];omega
  by_cases r:s.size<=40
  ·have F:¬(40:Int)<(s.size:Int):=by omega
   have x:∀w,(Instr.index 9 (Q s) (M O 0)).run U w= .ok (M .u8 (aK s 0)) w:=fun w=>dL j w;by_cases b:dl (aK s 0)=S
   ·have c:=fun w=>dy b w;have g:∀w,A2 U 47 #[Q s,M O 0] w fun e p=>e= V (A3 #[xm s 0,M O (uu s 0)])/\Y w.heap.size w p:=fun w=>sJ s B 0 j b w;obtain⟨hF,o,G,H,I,t,u⟩:=abJ s 0;rw[t]at g;have v:(decide (s.size<=40)&&oB s)=(decide (uu s 0<0)&&((o==3)&&(G==(s.size:Int)))):=by
     rw[bG r,eC];unfold oB;cases h2:(fC s 0).2 with
     |false=>
      rw[aD (show ¬uu s 0<0 by rw[hF,h2];simp),dK,pu];rintro ⟨_,i,_⟩;rw[i]at h2;cases h2
     |true=>
      obtain⟨C,f⟩:=u h2;rw[bG (hF.2 h2),eC,f,C];by_cases m:(fC s 0).1=s.size
      ·have k:fC s 0=(s.size,S):=Prod.ext m h2;rw[k];simp only[Nat.sub_zero,beq_self_eq_true,Bool.and_true];rw[CC];constructor
       ·rintro ⟨_,_,d,h⟩;have n:nH s (nA1 s (nA0 s 0))=(s.size,S):=by rw[<-k];unfold fC;rw[aa d]
        exact⟨d,(Jj s b n).1 h⟩
       ·rintro ⟨d,h⟩;have n:nH s (nA1 s (nA0 s 0))=(s.size,S):=by rw[<-k];unfold fC;rw[aa d]
        exact⟨b,trivial,d,(Jj s b n).2 h⟩
      ·rw[show((((fC s 0).1:Nat):Int)==(s.size:Int))=X by rw[bg];omega,mi,pu];rintro ⟨_,i,_⟩;rw[i]at m;exact m rfl
    rw[v];clear v u t hF;generalize uu s 0=q at g;generalize aK s 0=z at x c;clear b;by_cases hF:q<0
    ·by_cases f:o=3
     ·subst f;go_in;go_wp2_with (first|(go_at_call 79;refine ee (c _) ?_)|(go_at_call 47;refine(g _).mono ?_;rintro e y ⟨rfl,a⟩));go_ret;exact⟨by simp[hF],a.alloc a.size _⟩
     ·have A:(o==3)=X:=by simp[f]
      clear f;go_in;go_wp2_with (first|(go_at_call 79;refine ee (c _) ?_)|(go_at_call 47;refine(g _).mono ?_;rintro e y ⟨rfl,a⟩));go_ret;exact⟨by simp[A],a.alloc a.size _⟩
    ·go_in;go_wp2_with (first|(go_at_call 79;refine ee (c _) ?_)|(go_at_call 47;refine(g _).mono ?_;rintro e y ⟨rfl,a⟩));go_ret;exact⟨by rw[aD (show ¬q<0 by omega)];simp,a.alloc a.size _⟩
   ·have l:dl (aK s 0)=X:=by simpa using b
    have c:=fun w=>dy l w;rw[show oB s=X by unfold oB;simp[l],mi];clear b l;generalize aK s 0=z at x c;go_in;go_wp2_with (first|(go_at_call 79;refine ee (c _) ?_));go_ret;exact⟨rfl,aj _ _⟩
  ·have F:(40:Int)<(s.size:Int):=by omega
   rw[aD r,dK];go_in;go_wp2;go_ret;exact⟨rfl,aj _ _⟩
 ·have E:((s.size:Int)==0)=S:=by rw[gn];omega
  rw[show oB s=X by unfold oB;rw[er j];simp[ui],mi];go_in;go_wp2;go_ret;exact⟨rfl,aj _ _⟩
structure fp (W:A1) (vt:Z) (ns:List Nd) (N:Nd) (vn vk:Z):Prop where
 t:cg W vt ns
 n:bu W vn N.nm
 k:bi W vk N.ks
 ok:vB ns N
 ln:ns.length<=1048576
 l1:N.nm.length<=1048576
 l2:N.ks.length<=1048576
 lx:N.x.size<=1048576
 ls:∀s∈N.nm,s.size<=1048576
theorem fp.below{a c:A1}{e:Z}{d:List Nd}{N:Nd}{vn vk:Z}(h:fp a e d N vn vk)(b:Y a.heap.size a c):fp c e d N vn vk:=
 ⟨h.t.below b,h.n.below b,h.k.below b,h.ok,h.ln,h.l1,h.l2,h.lx,h.ls⟩
structure St (w:A1) (vt:Z) (ns:List Nd) (N:Nd) (vn vk:Z) (W:A1):Prop where
 a:fp W vt ns N vn vk
 bt:W.cell? ⟨w.heap.size,0,Ax⟩=A6 vt
 bn:de (w.heap.size+1) W 35 N vn vk
 bel:Y w.heap.size w W
theorem St.below{w:A1}{f:Z}{e:List Nd}{N:Nd}{vn vk:Z}{c d:A1}(h:St w f e N vn vk c)(b:Y c.heap.size c d):St w f e N vn vk d:=
 ⟨h.a.below b,cell_kept b h.bt,h.bn.below b,h.bel.trans (b.mono h.bel.size)⟩
theorem St.start{w:A1}{a:Z}{c:List Nd}{N:Nd}{vn vk:Z}(h:fp w a c N vn vk):St w a c N vn vk ((w.alloc (T #[a] 25)).alloc (T #[M O N.k,M O N.f,M O N.t,M O N.l,M O N.op,M O N.n,Q N.x,vn,vk] 35)):=by
 have b:Y w.heap.size w ((w.alloc (T #[a] 25)).alloc (T #[M O N.k,M O N.f,M O N.t,M O N.l,M O N.op,M O N.n,Q N.x,vn,vk] 35)):=((aj _ w).alloc (ah _) _).alloc (by simp) _;refine⟨h.below b,?_,?_,b⟩
 ·rw[az _ _ _ _ _ _ ((dr _ _ _ (by simp)).trans (aw w _))];rfl
 ·have:=aw (w.alloc (T #[a] 25)) (T #[M O N.k,M O N.f,M O N.t,M O N.l,M O N.op,M O N.n,Q N.x,vn,vk] 35);rw[ba]at this;exact this
theorem jm{w:A1}{c:Z}{b:List Nd}{N:Nd}{vn vk:Z}(a:fp w c b N vn vk)(i:Nat)(j:i<N.ks.length):
  A2 U 102 #[A0 #[c],dj N vn vk,M O i] w fun e l=>e= V (M O (dF b N i))/\Y w.heap.size w l:=by
 obtain⟨m,d,f,g,h,o⟩:=a.ok.get j;rw[h];exact Ky w c b N d vn vk i m a.t a.n a.k f g a.ln a.l2
theorem uv{w:A1}{b:Z}{a:List Nd}{N:Nd}{vn vk:Z}(c:fp w b a N vn vk)(d:0<N.ks.length):
  A2 U 102 #[A0 #[b],A0 #[M O N.k,M O N.f,M O N.t,M O N.l,M O N.op,M O N.n,Q N.x,vn,vk],M O 0] w fun e g=>e= V (M O (dF a N 0))/\Y w.heap.size w g:=jm c 0 d
theorem uw{w:A1}{b:Z}{a:List Nd}{N:Nd}{vn vk:Z}(c:fp w b a N vn vk)(d:1<N.ks.length):
  A2 U 102 #[A0 #[b],A0 #[M O N.k,M O N.f,M O N.t,M O N.l,M O N.op,M O N.n,Q N.x,vn,vk],M O 1] w fun e g=>e= V (M O (dF a N 1))/\Y w.heap.size w g:=jm c 1 d
