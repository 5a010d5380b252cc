import Derived.Test.YthjpdjibdnecoaaGreatDoorHQk07
import Derived.Test.YthjpdjibdnecoaaGreatDoorHQk12
set_option linter.all false
set_option maxRecDepth 100000
set_option maxHeartbeats 3200000
open Go.Value renaming int->M,string->Q,agg->A0,tuple->A3,bool->A7
open Go.IntKind renaming i64->O
open Bool renaming true->S,false->X
open Go.Obj renaming cells->T
open Go.Proofs.Tryz renaming prog->U
open Go.Ending renaming returned->V
open Go.RowKit renaming Below->Y,intOf->A4,Hid->A5
open Go renaming Value->Z,World->A1,Calls->A2
open Option renaming none->Ax,some->A6
namespace Go.Proofs.YthjpdjibdnecoaaGreatDoor
open Go.RowKit Go.Maps Go.WideMaps
theorem sC(s:ByteArray)(i:Nat)(c:Int)(d:0<c):(lk s i==c)=decide (az s i=c):=by
 unfold lk;split
 ·by_cases a:az s i=c<;>simp[a]
 ·rename_i a;rw[dE a];have b:((0:Int)==c)=X:=by rw[aK];omega
  rw[b];symm;rw[qJ];omega
def Hc(s:ByteArray)(p:Nat):Bool:=decide ((az s (nA0 s p)=46/\cu (az s (nA0 s p+1))=S)\/az s (nA1 s (nA0 s p))=101)
def agq(s:ByteArray)(p E:Nat)(R:Option Nat):Z:=match R with
 |some a=> A0 #[M O 2,M O p,M O (E:Int),M O 0,M O (a:Int),Q ⟨#[]⟩]
 |none=> A0 #[M O 3,M O p,M O (E:Int),M O 0,M O 0,Q (s.extract p E)]
def nmA(s:ByteArray)(p:Nat):Z:=
 if(oA s (nA1 s (nA0 s p))).2=S then
  (if Hc s p=S then A0 #[M O 3,M O p,M O ((oA s (nA1 s (nA0 s p))).1:Int),M O 0,M O 0,Q (s.extract p (oA s (nA1 s (nA0 s p))).1)]
  else agq s p (oA s (nA1 s (nA0 s p))).1 (uL s p ((oA s (nA1 s (nA0 s p))).1-p)))
 else A0 #[M O 3,M O p,M O 0,M O 0,M O 0,Q ⟨#[]⟩]
def nmF(s:ByteArray)(p:Nat):Int:=if(oA s (nA1 s (nA0 s p))).2=S then -1 else((oA s (nA1 s (nA0 s p))).1:Int)
theorem Hd(s:ByteArray)(p j:Nat)(h:uL s p j=Ax):∀n,j<=n->uL s p n=Ax
 |0,a=>by
  obtain rfl:j=0:=by omega
  exact h
 |n+1,a=>by
  rcases mi a with rfl|h2
  ·exact h
  ·rw[uL,Hd s p j h n (by omega)]
theorem EK(s:ByteArray)(p:Nat)(f:cu (az s p)=S)(a:Hc s p=X):(oA s (nA1 s (nA0 s p)))=(nA0 s p,S)/\∀i,p<=i->i<nA0 s p->cu (az s i)=S:=by
 unfold Hc at a;rw[qJ]at a;have d:nA1 s (nA0 s p)=nA0 s p:=by unfold nA1;rw[aa (fun b=>a (.inl b))]
 rw[d]at a⊢;have e:oA s (nA0 s p)=(nA0 s p,S):=by unfold oA;rw[aa (fun b=>a (.inr b))]
 refine⟨e,fun i g c=>?_⟩;rcases mi g with rfl|h3
 ·exact f
 ·unfold nA0 at c;split at c
  ·omega
  ·exact Bw cu s _ (p+1) i h3 c
theorem aiI(s:ByteArray)(a:Nat)(h:az s a=101)(c:cu (az s (nA2 s a))=X):oA s a=(nA2 s a,X):=by
 have b:vF s (nA2 s a)=nA2 s a:=by unfold vF iJ;rw[aa (by rw[c];simp)]
 unfold oA;rw[ab h,b];simp
theorem agr(s:ByteArray)(a:Nat)(e:a<s.size)(h:az s a=101)(b:cu (az s (nA2 s a))=S):oA s a=(vF s (nA2 s a),S):=by
 have f:=qa b;have d:=pA cu xq s s.size (nA2 s a+1) (by omega);have c:vF s (nA2 s a)=iJ cu s s.size (nA2 s a+1):=by
  show iJ cu s (s.size+1) (nA2 s a)=_;rw[iJ,ab b]
 unfold oA;rw[ab h,c];simp;omega
theorem acK(s:ByteArray)(a:Nat)(h:az s a=101):a<nA2 s a/\nA2 s a<=s.size:=by
 have b:=dv h (by omega);unfold nA2;split
 ·rename_i hs;rcases hs with hs|hs
  ·have:=dv hs (by omega);omega
  ·have:=dv hs (by omega);omega
 ·omega
theorem oD(s:ByteArray)(k:Nat):cu (az s k)=S\/cu (az s k)=X:=by cases cu (az s k)<;>simp
theorem EL(s:ByteArray)(I:s.size<=1100000)(p:Nat)(el:p<s.size)(cI:cu (az s p)=S)(B:¬(az s p=48/\az s (p+1)=120))(w:A1):A2 U 91 #[Q s,A0 #[M O 0,M O p,M O 0,M O 0,M O 0,Q ⟨#[]⟩]] w fun e u=>e= V (A3 #[nmA s p,M O (nmF s p)])/\Y w.heap.size w u:=by
 obtain⟨er,cv⟩:=ay (nmA s p);obtain⟨fg,cw⟩:=ay (nmF s p);rw[cv,cw];have k:=aw cv;have o:=aw cw;clear cv cw;have bA:dj w.heap.size ((w.alloc (T #[M O 2,M O p,M O 0,M O 0,M O 0,Q ⟨#[]⟩] 96)).alloc (T #[M O 0,M O 0,M O 0,M O 0,M O 0,Q ⟨#[]⟩] 96)) 2 p 0 0 0 ⟨#[]⟩:=(bm _ _ _ (by simp)).trans (aj w _);have c3:=fun w=>cD el w;have b0:dj (w.heap.size+1) ((w.alloc (T #[M O 2,M O p,M O 0,M O 0,M O 0,Q ⟨#[]⟩] 96)).alloc (T #[M O 0,M O 0,M O 0,M O 0,M O 0,Q ⟨#[]⟩] 96)) 0 0 0 0 0 ⟨#[]⟩:=by
  have:=aj (w.alloc (T #[M O 2,M O p,M O 0,M O 0,M O 0,Q ⟨#[]⟩] 96)) (T #[M O 0,M O 0,M O 0,M O 0,M O 0,Q ⟨#[]⟩] 96);rw[aF]at this;exact this
 have cg:Y w.heap.size w ((w.alloc (T #[M O 2,M O p,M O 0,M O 0,M O 0,Q ⟨#[]⟩] 96)).alloc (T #[M O 0,M O 0,M O 0,M O 0,M O 0,Q ⟨#[]⟩] 96)):=(((ag _ w).alloc (ae _) _).alloc (by simp) _);go_in;go_upto_region 3 with fail
 generalize (w.alloc (T #[M O 2,M O p,M O 0,M O 0,M O 0,Q ⟨#[]⟩] 96)).alloc (T #[M O 0,M O 0,M O 0,M O 0,M O 0,Q ⟨#[]⟩] 96)=c7 at bA b0 cg;have e7:w.heap.size+1<c7.heap.size:=ah b0;obtain⟨L,ad,af,ak,al,am,an⟩:=bf bA;go_cut [22] from 9 (fun fc r=>fc= A7 X/\r=c7)
 case first=>
  by_cases z:az s p=48
  ·rw[z]at c3;have eg:¬az s (p+1)=120:=fun h=>B ⟨z,h⟩;have ex:(lk s (p+1)==120)=X:=by rw[sC _ _ _ (by omega)];simpa using eg
   have f:∀w,A2 U 87 #[Q s,M O ((p:Int)+1)] w fun e u=>e= V (M .u8 (lk s (p+1)))/\u=w:=fun w=>gg s I _ (p+1) (by omega) w;generalize lk s (p+1)=n at f ex;clear z eg B cI k o;go_wp2_with (go_at_call 87;refine dK (f _) ?_);go_meet
   case rel=>exact⟨rfl,rfl⟩
  ·have cf:(az s p==48)=X:=by rw[aK];exact z
   generalize az s p=n at c3 cf;clear z B k o;go_wp2_with fail;go_meet
   case rel=>exact⟨rfl,rfl⟩
 case rest=>
  obtain⟨rfl,rfl⟩:=hcut;go_upto_if 34 with fail
  go_cut [6] from 9 (fun a9 r=>a9= M O (nA0 s p:Int)/\r=wc)
  case first=>
   by_cases z:az s p=48
   ·have e0:A5 (nA0 s p=p+1):=by show _=_;unfold nA0;rw[ab z]
    rw[z];clear z B k o;go_wp2_with fail;go_meet
    case rel=>exact⟨by rw[e0.out];go_num,rfl⟩
   ·have E:A5 (iJ cu s (s.size+1) (p+1)=nA0 s p):=by show _=_;unfold nA0;rw[aa z];rfl
    have cf:(az s p !=48)=S:=by rw[ud];exact z
    rw[cf];obtain⟨g,t⟩:=ay (nA0 s p);rw[t]at E;have A:=aw t;clear z B k o cf t;go_wp2_with fail;go_loop [6] (fun i=>∃(b l:Nat),b<=s.size/\s.size<b+l/\i= M O b/\A5 (iJ cu s l b=g)) (fun i=>s.size-(A4 i).toNat)
    case atStart=>exact⟨p+1,s.size+1,by omega,by omega,by first|rfl|(congr 1;omega),E⟩
    case round=>
     obtain⟨b,l,eb,d9,rfl,bs⟩:=hrel;obtain⟨l,rfl⟩:∃bw,l=bw+1:=⟨l-1,by omega⟩;have d:=bs.out;unfold iJ at d;have f:=fun w=>gg s I (b:Int) b rfl w;rcases oD s b with h1|h1
     ·have ef:b<s.size:=qa h1;have c:=fun w=>dw ((oy s b).trans h1) w;rw[ab h1]at d;have m:=aw d;generalize lk s b=n at f c;clear d h1;go_wp2_with (first|(go_at_call 87;refine dK (f _) ?_)|(go_at_call 90;refine dK (c _) ?_));go_round
      case rel=>exact⟨b+1,l,by omega,by omega,by go_num,m⟩
      case measure=>simp[A4];omega
     ·have c:=fun w=>dw ((oy s b).trans h1) w;rw[aa (by rw[h1];simp)]at d;have m:=aw d;generalize lk s b=n at f c;clear d h1;go_wp2_with (first|(go_at_call 87;refine dK (f _) ?_)|(go_at_call 90;refine dK (c _) ?_));go_meet
      case rel=>exact⟨by rw[A.out,<-m.out],rfl⟩
  case rest=>
   obtain⟨rfl,rfl⟩:=hcut;have ct:=JC s p el;go_upto_region 9 with fail
   obtain⟨D,d0⟩:∃D:Bool,decide (az s (nA0 s p)=46/\cu (az s (nA0 s p+1))=S)=D:=⟨_,rfl⟩;have x:=aw d0;clear d0;go_cut [51] from 9 (fun fd r=>fd= A7 D/\r=wc)
   case first=>
    have f:=fun w=>gg s I (nA0 s p:Int) (nA0 s p) rfl w;have C:∀w,A2 U 87 #[Q s,M O ((nA0 s p:Int)+1)] w fun e u=>e= V (M .u8 (lk s (nA0 s p+1)))/\u=w:=fun w=>gg s I _ (nA0 s p+1) (by omega) w;have bx:=sC s (nA0 s p) 46 (by omega);by_cases a5:az s (nA0 s p)=46
    ·rw[bC a5]at bx;have a6:=x.out;rcases oD s (nA0 s p+1) with h1|h1
     ·have c:=fun w=>dw ((oy s (nA0 s p+1)).trans h1) w;rw[bC ⟨a5,h1⟩]at a6;subst a6;generalize lk s (nA0 s p+1)=et at C c;generalize lk s (nA0 s p)=n at f bx;clear a5 h1 x k o;go_wp2_with (first|(go_at_call 87;first|(with_reducible refine dK (f _) ?_)|(with_reducible refine dK (C _) ?_))|(go_at_call 90;refine dK (c _) ?_));go_meet
      case rel=>exact⟨rfl,rfl⟩
     ·have c:=fun w=>dw ((oy s (nA0 s p+1)).trans h1) w;rw[aB (fun h=>by rw[h.2]at h1;cases h1)]at a6;subst a6;generalize lk s (nA0 s p+1)=et at C c;generalize lk s (nA0 s p)=n at f bx;clear a5 h1 x k o;go_wp2_with (first|(go_at_call 87;first|(with_reducible refine dK (f _) ?_)|(with_reducible refine dK (C _) ?_))|(go_at_call 90;refine dK (c _) ?_));go_meet
      case rel=>exact⟨rfl,rfl⟩
    ·rw[aB a5]at bx;have a6:=x.out;rw[aB (fun h=>a5 h.1)]at a6;subst a6;generalize lk s (nA0 s p)=n at f bx;clear a5 x k o;go_wp2_with (first|(go_at_call 87;refine dK (f _) ?_));go_meet
     case rel=>exact⟨rfl,rfl⟩
   case rest=>
    obtain⟨rfl,rfl⟩:=hcut;go_upto_if 51 with fail
    go_cut [6] from 9 (fun a9 r=>a9= M O (nA1 s (nA0 s p):Int)/\dj w.heap.size r (if D=S then 3 else 2) p 0 0 0 ⟨#[]⟩/\dj (w.heap.size+1) r 0 0 0 0 0 ⟨#[]⟩/\Y w.heap.size w r)
    case first=>
     cases D with
     |true=>
      have bo:=aC x.out;have E:A5 (iJ cu s (s.size+1) (nA0 s p+1)=nA1 s (nA0 s p)):=by show _=_;unfold nA1;rw[ab bo];rfl
      have e4:=qa bo.2;obtain⟨g,t⟩:=ay (nA1 s (nA0 s p));rw[t]at E;have A:=aw t;generalize nA0 s p=ep at E e4 ct⊢;clear bo x k o B t;have F:=bA.setKind 3;have G:=b0.other (a:=⟨w.heap.size,0,Ax⟩) (by simp) (M O 3);have J:Y w.heap.size w (wc.setCell ⟨w.heap.size,0,Ax⟩ (M O 3)):=cg.setCell (by simp) _;go_wp2_with fail;go_loop [6] (fun i=>∃(b l:Nat),b<=s.size/\s.size<b+l/\i= M O b/\A5 (iJ cu s l b=g)) (fun i=>s.size-(A4 i).toNat)
      case atStart=>exact⟨ep+1,s.size+1,by omega,by omega,by first|rfl|(congr 1;omega),E⟩
      case round=>
       obtain⟨b,l,eb,d9,rfl,bs⟩:=hrel;obtain⟨l,rfl⟩:∃bw,l=bw+1:=⟨l-1,by omega⟩;have d:=bs.out;unfold iJ at d;have f:=fun w=>gg s I (b:Int) b rfl w;rcases oD s b with h1|h1
       ·have ef:b<s.size:=qa h1;have c:=fun w=>dw ((oy s b).trans h1) w;rw[ab h1]at d;have m:=aw d;generalize lk s b=n at f c;clear d h1;go_wp2_with (first|(go_at_call 87;refine dK (f _) ?_)|(go_at_call 90;refine dK (c _) ?_));go_round
        case rel=>exact⟨b+1,l,by omega,by omega,by go_num,m⟩
        case measure=>simp[A4];omega
       ·have c:=fun w=>dw ((oy s b).trans h1) w;rw[aa (by rw[h1];simp)]at d;have m:=aw d;generalize lk s b=n at f c;clear d h1;go_wp2_with (first|(go_at_call 87;refine dK (f _) ?_)|(go_at_call 90;refine dK (c _) ?_));go_meet
        case rel=>exact⟨by rw[A.out,<-m.out],F,G,J⟩
     |false=>
      have bo:=iw x.out;have t:nA1 s (nA0 s p)=nA0 s p:=by unfold nA1;rw[aa bo]
      have A:=aw t;clear bo x k o B t;go_wp2_with fail;go_meet
      case rel=>exact⟨by rw[A.out],bA,b0,cg⟩
    case rest=>
     obtain⟨rfl,a7,bn,ch⟩:=hcut;clear bA b0 cg L ad af ak al am an e7;have c9:=JD s _ ct.2;have f:=fun w=>gg s I (nA1 s (nA0 s p):Int) (nA1 s (nA0 s p)) rfl w;have dk:=sC s (nA1 s (nA0 s p)) 101 (by omega);obtain⟨a4,cB⟩:∃a4:Bool,decide (az s (nA1 s (nA0 s p))=101)=a4:=⟨_,rfl⟩;have bb:=aw cB;rw[cB]at dk;clear cB;obtain⟨L,ad,af,ak,al,am,an⟩:=bf a7;obtain⟨z0,ao,ap,ar,av,a0,cq⟩:=bf bn;have br:w.heap.size<wc.heap.size:=ah a7;have cn:w.heap.size+1<wc.heap.size:=ah bn;go_upto_if 64 with(go_at_call 87;refine(f _).mono ?_;rintro e u ⟨rfl,y⟩;obtain rfl:=y.symm)
     clear f dk;go_cut [6] from 9 (fun a9 r=>a9= M O ((oA s (nA1 s (nA0 s p))).1:Int)/\(oA s (nA1 s (nA0 s p))).2=S/\dj w.heap.size r (if(D||a4)=S then 3 else 2) p 0 0 0 ⟨#[]⟩/\dj (w.heap.size+1) r 0 0 0 0 0 ⟨#[]⟩/\Y w.heap.size w r)
     case first=>
      cases a4 with
      |false=>
       have K:=iw bb.out;have A:A5 (oA s (nA1 s (nA0 s p))=(nA1 s (nA0 s p),S)):=by show _=_;unfold oA;rw[aa K]
       rw[<-xh D]at a7;clear K bb k o x B;go_wp2_with fail;go_meet
       case rel=>exact⟨by rw[A.out],by rw[A.out],a7,bn,ch⟩
      |true=>
       have K:=aC bb.out;have b3:=aiI s (nA1 s (nA0 s p)) K;have b5:=agr s (nA1 s (nA0 s p)) (dv K (by omega)) K;have c8:=acK s (nA1 s (nA0 s p)) K;have C:∀w,A2 U 87 #[Q s,M O ((nA1 s (nA0 s p):Int)+1)] w fun e u=>e= V (M .u8 (lk s (nA1 s (nA0 s p)+1)))/\u=w:=fun w=>gg s I _ (nA1 s (nA0 s p)+1) (by omega) w;have cc:=sC s (nA1 s (nA0 s p)+1) 43 (by omega);have ce:=sC s (nA1 s (nA0 s p)+1) 45 (by omega);have bh:A5 (nA2 s (nA1 s (nA0 s p))=if decide (az s (nA1 s (nA0 s p)+1)=43)=S\/decide (az s (nA1 s (nA0 s p)+1)=45)=S then nA1 s (nA0 s p)+1+1 else nA1 s (nA0 s p)+1):=by show _=_;unfold nA2;simp
       generalize decide (az s (nA1 s (nA0 s p)+1)=43)=cs at cc bh;generalize decide (az s (nA1 s (nA0 s p)+1)=45)=b9 at ce bh;have F:=a7.setKind 3;have G:=bn.other (a:=⟨w.heap.size,0,Ax⟩) (by simp) (M O 3);have J:Y w.heap.size w (wc.setCell ⟨w.heap.size,0,Ax⟩ (M O 3)):=ch.setCell (by simp) _;obtain⟨cb,cz⟩:=ay (wc.setCell ⟨w.heap.size,0,Ax⟩ (M O 3));rw[cz]at F G J;have c6:=aw cz;clear K bb x B cz;go_upto_region 17 with fail
       rw[c6.out];clear c6 a7 bn ch L ad af ak al am an z0 ao ap ar av a0 cq br cn;obtain⟨L,ad,af,ak,al,am,an⟩:=bf F;obtain⟨z0,ao,ap,ar,av,a0,cq⟩:=bf G;have br:w.heap.size<cb.heap.size:=ah F;have cn:w.heap.size+1<cb.heap.size:=ah G;go_cut [77] from 9 (fun ff r=>ff= A7 (b9||cs)/\r=cb)
       case first=>
        generalize lk s (nA1 s (nA0 s p)+1)=n at C cc ce;clear k o b3 b5 bh;cases b9 with
        |true=>
         go_wp2_with (first|(go_at_call 87;refine(C _).mono ?_;rintro e u ⟨rfl,y⟩;obtain rfl:=y.symm));go_meet
         case rel=>exact⟨rfl,rfl⟩
        |false=>
         go_wp2_with (first|(go_at_call 87;refine(C _).mono ?_;rintro e u ⟨rfl,y⟩;obtain rfl:=y.symm));go_meet
         case rel=>exact⟨rfl,rfl⟩
       case rest=>
        obtain⟨rfl,b6⟩:=hcut;obtain rfl:=b6.symm;clear b6;go_upto_if 77 with fail
        go_cut [6] from 9 (fun a9 r=>a9= M O (nA2 s (nA1 s (nA0 s p)):Int)/\r=cb)
        case first=>
         clear k o b3 b5 cc ce C;obtain⟨ca,cx⟩:∃ca:Bool,(b9||cs)=ca:=⟨_,rfl⟩;have dq:A5 (nA2 s (nA1 s (nA0 s p))=if ca=S then nA1 s (nA0 s p)+1+1 else nA1 s (nA0 s p)+1):=by show _=_;rw[bh.out,<-cx];cases b9<;>cases cs<;>simp
         rw[cx];clear cx bh;cases ca with
         |true=>
          go_wp2_with fail;go_meet
          case rel=>exact⟨by rw[dq.out];simp only[jh];go_num,rfl⟩
         |false=>
          go_wp2_with fail;go_meet
          case rel=>exact⟨by rw[dq.out];simp,rfl⟩
        case rest=>
         obtain⟨rfl,b6⟩:=hcut;obtain rfl:=b6.symm;clear b6 bh cc ce C;have a8:=fun w=>gg s I (nA2 s (nA1 s (nA0 s p)):Int) (nA2 s (nA1 s (nA0 s p))) rfl w;rcases oD s (nA2 s (nA1 s (nA0 s p))) with h1|h1
         ·have c:=fun w=>dw ((oy s (nA2 s (nA1 s (nA0 s p)))).trans h1) w;have c4:A5 (oA s (nA1 s (nA0 s p))=(vF s (nA2 s (nA1 s (nA0 s p))),S)):=b5 h1;obtain⟨g,t⟩:=ay (vF s (nA2 s (nA1 s (nA0 s p))));have E:=aw t;have A:=aw t;generalize lk s (nA2 s (nA1 s (nA0 s p)))=ev at a8 c;generalize nA2 s (nA1 s (nA0 s p))=eq at E c8 a8⊢;clear b3 b5 t h1 k o;go_wp2_with (first|(go_at_call 87;refine(a8 _).mono ?_;rintro e u ⟨rfl,y⟩;obtain rfl:=y.symm)|(go_at_call 90;refine(c _).mono ?_;rintro e u ⟨rfl,y⟩;obtain rfl:=y.symm));clear a8 c;go_loop [6] (fun i=>∃(b l:Nat),b<=s.size/\s.size<b+l/\i= M O b/\A5 (iJ cu s l b=g)) (fun i=>s.size-(A4 i).toNat)
          case atStart=>exact⟨eq,s.size+1,by omega,by omega,by first|rfl|(congr 1;omega),E⟩
          case round=>
           obtain⟨b,l,eb,d9,rfl,bs⟩:=hrel;obtain⟨l,rfl⟩:∃bw,l=bw+1:=⟨l-1,by omega⟩;have d:=bs.out;unfold iJ at d;have f:=fun w=>gg s I (b:Int) b rfl w;rcases oD s b with h1|h1
           ·have ef:b<s.size:=qa h1;have c:=fun w=>dw ((oy s b).trans h1) w;rw[ab h1]at d;have m:=aw d;generalize lk s b=n at f c;clear d h1;go_wp2_with (first|(go_at_call 87;refine dK (f _) ?_)|(go_at_call 90;refine dK (c _) ?_));go_round
            case rel=>exact⟨b+1,l,by omega,by omega,by go_num,m⟩
            case measure=>simp[A4];omega
           ·have c:=fun w=>dw ((oy s b).trans h1) w;rw[aa (by rw[h1];simp)]at d;have m:=aw d;generalize lk s b=n at f c;clear d h1;go_wp2_with (first|(go_at_call 87;refine dK (f _) ?_)|(go_at_call 90;refine dK (c _) ?_));go_meet
            case rel=>exact⟨by rw[c4.out,A.out,<-m.out],by rw[c4.out],by simpa using F,G,J⟩
         ·have c:=fun w=>dw ((oy s (nA2 s (nA1 s (nA0 s p)))).trans h1) w;have d7:=b3 h1;have j:=k.out;have H:=o.out;unfold nmA at j;unfold nmF at H;rw[d7]at j H;simp only[aa (show ¬X=S by simp)]at j H;subst j;obtain⟨cr,d1⟩:∃cr:Int,(nA2 s (nA1 s (nA0 s p)):Int)=cr:=⟨_,rfl⟩;rw[d1]at H a8⊢;subst H;generalize lk s (nA2 s (nA1 s (nA0 s p)))=ev at a8 c;clear d7 h1 b3 b5 k o c8 d1;go_wp2_with (first|(go_at_call 87;refine(a8 _).mono ?_;rintro e u ⟨rfl,y⟩;obtain rfl:=y.symm)|(go_at_call 90;refine(c _).mono ?_;rintro e u ⟨rfl,y⟩;obtain rfl:=y.symm));refine ba (v:= A3 #[A0 #[M O 3,M O p,M O 0,M O 0,M O 0,Q ⟨#[]⟩],M O cr]) (by simp[results,Tryz.results91,go_sem,z0,ao,ap,ar,av,a0]) rfl ⟨rfl,?_⟩
          iterate 6 refine eH ?_ (by simp) _
          exact J
     case rest=>
      obtain⟨rfl,ei,bl,d4,ds⟩:=hcut;have df:=JB s _ c9.2;have d2:Hc s p=(D||a4):=by unfold Hc;rw[<-x.out,<-bb.out];simp
      have cF:=EK s p cI;have j:=k.out;have H:=o.out;unfold nmA at j;unfold nmF at H;rw[ab ei]at j H;subst H;rw[d2]at j cF;have e5:p<(oA s (nA1 s (nA0 s p))).1:=by omega
      have e3:(oA s (nA1 s (nA0 s p))).1<=s.size:=df.2;have cl:(D||a4)=X->∀i,p<=i->i<(oA s (nA1 s (nA0 s p))).1->cu (az s i)=S:=fun h i h1 dn=>by
       have ea:=cF h;exact ea.2 i h1 (by rw[ea.1]at dn;exact dn)
      clear cF d2 x bb k o ei df c9 ct B c3 cI;generalize (D||a4)=a3 at bl j cl;generalize (oA s (nA1 s (nA0 s p))).1=g at e5 e3 j cl⊢;clear a7 bn ch L ad af ak al am an z0 ao ap ar av a0 cq br cn;obtain⟨bd,cy⟩:=ay (uL s p (g-p));rw[cy]at j;have bt:=aw cy;have k:=aw j;have b8:=aw cl;clear j cl cy;obtain⟨b7,cm⟩:∃b7:Int,(if a3=S then(3:Int) else 2)=b7:=⟨_,rfl⟩;rw[cm]at bl;have c5:A5 ((b7=2/\a3=X/\(0:Int)<=0/\uL s p (p-p)=A6 (0:Int).toNat)\/(b7=3/\(a3=S\/bd=Ax))):=by
       cases a3 with
       |true=>exact .inr ⟨cm.symm,.inl rfl⟩
       |false=>exact .inl ⟨cm.symm,rfl,by omega,by rw[eB];rfl⟩
      clear cm;obtain⟨L,ad,af,ak,al,am,an⟩:=bf bl;have br:w.heap.size<wc.heap.size:=ah bl;have F:=bl.setTo (g:Int);have G:=d4.other (a:=⟨w.heap.size,2,Ax⟩) (by simp) (M O (g:Int));have J:Y w.heap.size w (wc.setCell ⟨w.heap.size,2,Ax⟩ (M O (g:Int))):=ds.setCell (by simp) _;go_wp2_with fail;go_loopw [7,8] (fun e9 i wr=>∃(b:Nat) (c a:Int),p<=b/\b<=g/\i= M O b/\e9= M .u64 a/\dj w.heap.size wr c p (g:Int) 0 0 ⟨#[]⟩/\dj (w.heap.size+1) wr 0 0 0 0 0 ⟨#[]⟩/\Y w.heap.size w wr/\A5 ((c=2/\a3=X/\0<=a/\uL s p (b-p)=A6 a.toNat)\/(c=3/\(a3=S\/bd=Ax)))) (fun _ i _=>g-(A4 i).toNat)
      case atStart=>exact⟨p,b7,0,ae _,by omega,rfl,rfl,F,G,J,c5⟩
      case round=>
       obtain⟨b,c,a,e6,fl,rfl,rfl,bD,b1,bk,d⟩:=hrel;clear F G J bl d4 ds L ad af ak al am an br c5;obtain⟨L,ad,af,ak,al,am,an⟩:=bf bD;obtain⟨z0,ao,ap,ar,av,a0,cq⟩:=bf b1;have br:w.heap.size<wr.heap.size:=ah bD;have cn:w.heap.size+1<wr.heap.size:=ah b1;rcases d.out with⟨rfl,ck,fk,b4⟩|⟨rfl,ek⟩
       ·have d6:=acI s p _ _ b4;by_cases ec:b<g
        ·have d8:=b8.out ck b e6 ec;have e2:=oh d8;have e8:=fun w=>cD (s:=s) (i:=b) (by omega) w;have c0:uL s p (b+1-p)=if a.toNat*10+(az s b-48).toNat<=9223372036854775807 then A6 (a.toNat*10+(az s b-48).toNat) else Ax:=by
          rw[show b+1-p=(b-p)+1 by omega,uL,b4,show p+(b-p)=b by omega]
         have es:a<=9223372036854775807:=by omega
         have eh:uL s p (b+1-p)=Ax->bd=Ax:=fun h=>by rw[<-bt.out];exact Hd s p _ h _ (by omega)
         have m:A5 ((¬a*10+(az s b-48)<=9223372036854775807->bd=Ax)/\(a*10+(az s b-48)<=9223372036854775807->uL s p (b+1-p)=A6 (a*10+(az s b-48)).toNat)):=by
          refine⟨fun h=>eh (by rw[c0,aa (by omega)]),fun h=>?_⟩;rw[c0,ab (by omega)]
          congr 1
          omega
         generalize az s b=n at e8 e2 m;clear d8 c0 eh b4 d b8 bt k d6;have d3:=bD.setKind 3;have d5:=b1.other (a:=⟨w.heap.size,0,Ax⟩) (by simp) (M O 3);have dz:Y w.heap.size w (wr.setCell ⟨w.heap.size,0,Ax⟩ (M O 3)):=bk.setCell (by simp) _;have ed:(b:Int)<(g:Int):=by omega
         rcases(show 922337203685477580<a\/(a=922337203685477580/\55<n)\/(a=922337203685477580/\¬55<n)\/a<922337203685477580 by omega) with q|⟨q,fa⟩|⟨q,fa⟩|q
         ·have a2:A5 (bd=Ax):=m.out.1 (by omega);clear m;go_wp2;go_roundw
          case rel=>exact⟨b+1,3,_,by omega,by omega,by go_num,rfl,d3,d5,dz,.inr ⟨rfl,.inr a2.out⟩⟩
          case measure=>simp[A4];omega
         ·have a2:A5 (bd=Ax):=m.out.1 (by omega);have en:(a==922337203685477580)=S:=by rw[ix];exact q
          have em:¬922337203685477580<a:=by omega
          clear m q;go_wp2;go_roundw
          case rel=>exact⟨b+1,3,_,by omega,by omega,by go_num,rfl,d3,d5,dz,.inr ⟨rfl,.inr a2.out⟩⟩
          case measure=>simp[A4];omega
         ·have a2:A5 (uL s p (b+1-p)=A6 (a*10+(n-48)).toNat):=m.out.2 (by omega);have en:(a==922337203685477580)=S:=by rw[ix];exact q
          have em:¬922337203685477580<a:=by omega
          have fb:a*10+(n-48)<=9223372036854775807:=by omega
          clear m q;go_wp2;go_roundw
          case rel=>exact⟨b+1,2,a*10+(n-48),by omega,by omega,by go_num,by first|rfl|(congr 1;omega),bD,b1,bk,.inl ⟨rfl,ck,by omega,a2.out⟩⟩
          case measure=>simp[A4];omega
         ·have a2:A5 (uL s p (b+1-p)=A6 (a*10+(n-48)).toNat):=m.out.2 (by omega);have en:(a==922337203685477580)=X:=by rw[aK];omega
          have em:¬922337203685477580<a:=by omega
          have fb:a*10+(n-48)<=9223372036854775807:=by omega
          clear m;go_wp2;go_roundw
          case rel=>exact⟨b+1,2,a*10+(n-48),by omega,by omega,by go_num,by first|rfl|(congr 1;omega),bD,b1,bk,.inl ⟨rfl,ck,by omega,a2.out⟩⟩
          case measure=>simp[A4];omega
        ·obtain rfl:b=g:=by omega
         have j:=k.out;rw[ck,<-bt.out,b4]at j;simp only[aa (show ¬X=S by simp),agq]at j;rw[show((a.toNat:Nat):Int)=a by omega]at j;subst j;have fm:wrap64 a=a:=by unfold wrap64;omega
         have es:a<=9223372036854775807:=by omega
         clear k bt b8 d b4 d6;go_wp2;refine ba (v:= A3 #[A0 #[M O 2,M O p,M O (b:Int),M O 0,M O a,Q ⟨#[]⟩],M O (-1)]) (by simp[results,Tryz.results91,go_sem,z0,ao,ap,ar,av,a0]) rfl ⟨rfl,?_⟩
         iterate 7 refine eH ?_ (by simp) _
         exact bk
       ·have j:=k.out;have e1:Value.agg #[M O 3,M O p,M O (g:Int),M O 0,M O 0,Q (s.extract p g)]=er:=by
         rcases ek with h|h
         ·rw[h]at j;exact j
         ·rw[h]at j;cases a3<;>exact j
        subst e1;clear j k bt b8 d ek;by_cases ec:b<g
        ·have ed:(b:Int)<(g:Int):=by omega
         go_wp2;refine ba (v:= A3 #[A0 #[M O 3,M O p,M O (g:Int),M O 0,M O 0,Q (s.extract p g)],M O (-1)]) (by simp[results,Tryz.results91,go_sem,z0,ao,ap,ar,av,a0]) rfl ⟨rfl,?_⟩
         iterate 7 refine eH ?_ (by simp) _
         exact bk
        ·have ed:¬(b:Int)<(g:Int):=by omega
         go_wp2;refine ba (v:= A3 #[A0 #[M O 3,M O p,M O (g:Int),M O 0,M O 0,Q (s.extract p g)],M O (-1)]) (by simp[results,Tryz.results91,go_sem,z0,ao,ap,ar,av,a0]) rfl ⟨rfl,?_⟩
         iterate 7 refine eH ?_ (by simp) _
         exact bk
theorem acL(s:ByteArray)(p:Nat):∃(t n:Int),hxA s p= A0 #[M O 2,M O p,M O t,M O 0,M O n,Q ⟨#[]⟩]:=by
 unfold hxA;split<;>exact⟨_,_,rfl⟩
def Ab(s:ByteArray)(p:Nat):Z:=if az s p=48/\az s (p+1)=120 then hxA s p else nmA s p
def xw(s:ByteArray)(p:Nat):Int:=if az s p=48/\az s (p+1)=120 then hxF s p else nmF s p
theorem aiJ(s:ByteArray)(p:Nat):∃(k t n:Int) (x:ByteArray),nmA s p= A0 #[M O k,M O p,M O t,M O 0,M O n,Q x]:=by
 unfold nmA agq;split
 ·split
  ·exact⟨_,_,_,_,rfl⟩
  ·split<;>exact⟨_,_,_,_,rfl⟩
 ·exact⟨_,_,_,_,rfl⟩
theorem LD(s:ByteArray)(p:Nat):∃(k t n:Int) (x:ByteArray),Ab s p= A0 #[M O k,M O p,M O t,M O 0,M O n,Q x]:=by
 unfold Ab;split
 ·obtain⟨t,n,a⟩:=acL s p;exact⟨_,_,_,_,a⟩
 ·exact aiJ s p
theorem E0(s:ByteArray)(l:s.size<=1100000)(p:Nat)(f:az s p=48)(b:az s (p+1)=120)(w:A1):A2 U 91 #[Q s,A0 #[M O 0,M O p,M O 0,M O 0,M O 0,Q ⟨#[]⟩]] w fun e d=>e= V (A3 #[hxA s p,M O (hxF s p)])/\Y w.heap.size w d:=by
 have r:=dv b (by omega);have m:=fun w=>cD (s:=s) (i:=p) (by omega) w;rw[f]at m;have n:∀w,A2 U 87 #[Q s,M O ((p:Int)+1)] w fun e d=>e= V (M .u8 120)/\d=w:=fun w=>by
  have:=gg s l ((p:Int)+1) (p+1) (by omega) w;rw[rq r,b]at this;exact this
 have a:=fun w=>Ha s l p (by omega) w;obtain⟨u,t,g⟩:=acL s p;rw[g]at a⊢;generalize hxF s p=o at a;clear g f b;have j:dj (w.heap.size+1) ((w.alloc (T #[M O 2,M O p,M O 0,M O 0,M O 0,Q ⟨#[]⟩] 96)).alloc (T #[M O 0,M O 0,M O 0,M O 0,M O 0,Q ⟨#[]⟩] 96)) 0 0 0 0 0 ⟨#[]⟩:=by
  have:=aj (w.alloc (T #[M O 2,M O p,M O 0,M O 0,M O 0,Q ⟨#[]⟩] 96)) (T #[M O 0,M O 0,M O 0,M O 0,M O 0,Q ⟨#[]⟩] 96);rw[aF]at this;exact this
 have h:Y w.heap.size w ((w.alloc (T #[M O 2,M O p,M O 0,M O 0,M O 0,Q ⟨#[]⟩] 96)).alloc (T #[M O 0,M O 0,M O 0,M O 0,M O 0,Q ⟨#[]⟩] 96)):=(((ag _ w).alloc (ae _) _).alloc (by simp) _);go_in;go_wp2_with (go_at_call 87;refine dK (n _) ?_);refine aJ (a _) fun x c=>?_;have k:=j.below c (by simp);have q:=h.trans (c.mono (by simp;omega));clear c j h a n m;obtain⟨z0,y,z,A,B,C,F⟩:=bf k;have E:w.heap.size+1<x.heap.size:=ah k;go_wp2;refine ba (v:= A3 #[A0 #[M O 2,M O p,M O u,M O 0,M O t,Q ⟨#[]⟩],M O o]) (by simp[results,Tryz.results91,go_sem,z0,y,z,A,B,C]) rfl ⟨rfl,?_⟩
 iterate 6 refine eH ?_ (by simp) _
 exact q
theorem E1(s:ByteArray)(b:s.size<=1100000)(p:Nat)(d:p<s.size)(c:cu (az s p)=S)(w:A1):A2 U 91 #[Q s,A0 #[M O 0,M O p,M O 0,M O 0,M O 0,Q ⟨#[]⟩]] w fun e f=>e= V (A3 #[Ab s p,M O (xw s p)])/\Y w.heap.size w f:=by
 unfold Ab xw;split
 ·rename_i a;exact E0 s b p a.1 a.2 w
 ·rename_i a;exact EL s b p d c a w
theorem iL{c:Int}{b:Bool}(h:cd c=b)(w:A1):A2 U 88 #[M .u8 c] w fun e d=>e= V (A7 b)/\d=w:=(nD c w).mono fun e d a=>⟨by rw[a.1,h],a.2.symm⟩
theorem vH(s:ByteArray)(r:s.size<=1100000)(p:Nat)(l:p<s.size)(a:cu (az s p)=S)(w:A1):A2 U 57 #[Q s,M O p] w fun e z=>e= V (A3 #[Ab s p,M O (xw s p)])/\Y w.heap.size w z:=by
 have m:=fun w=>cD l w;have t:=oh a;have k:cd (az s p)=X:=by simp[cd];omega
 have f:=fun w=>iL k w;have d:=fun w=>dw a w;have b:=fun w=>E1 s r p l a w;obtain⟨u,y,x,B,h⟩:=LD s p;rw[h]at b⊢;generalize xw s p=n at b;generalize az s p=o at m f d t;have I:(o==10)=X:=by rw[aK];omega
 clear k a h;have i:dj w.heap.size ((w.alloc (T #[M O 0,M O 0,M O 0,M O 0,M O 0,Q ⟨#[]⟩] 96)).alloc (T #[M O 0,M O p,M O 0,M O 0,M O 0,Q ⟨#[]⟩] 96)) 0 0 0 0 0 ⟨#[]⟩:=(bm _ _ _ (by simp)).trans (aj w _);have g:Y w.heap.size w ((w.alloc (T #[M O 0,M O 0,M O 0,M O 0,M O 0,Q ⟨#[]⟩] 96)).alloc (T #[M O 0,M O p,M O 0,M O 0,M O 0,Q ⟨#[]⟩] 96)):=(((ag _ w).alloc (ae _) _).alloc (by simp) _);go_in;go_wp2_with (first|(go_at_call 88;refine dK (f _) ?_)|(go_at_call 90;refine dK (d _) ?_));refine aJ (b _) fun A c=>?_;have j:=i.below c (by simp;omega);have q:=g.trans (c.mono (by simp;omega));clear c i g b f d m;obtain⟨z0,C,E,F,G,H,K⟩:=bf j;have J:w.heap.size<A.heap.size:=ah j;go_wp2;refine ba (v:= A3 #[A0 #[M O u,M O p,M O y,M O 0,M O x,Q B],M O n]) (by simp[results,Tryz.results57,go_sem,z0,C,E,F,G,H]) rfl ⟨rfl,?_⟩
 iterate 6 refine eH ?_ (by simp) _
 exact q
theorem ac0(s:ByteArray)(p:Nat):(xw s p<0↔(dl s p).2=S)/\∃(k t n:Int) (x:ByteArray),Ab s p= A0 #[M O k,M O p,M O t,M O 0,M O n,Q x]/\((dl s p).2=S->t=((dl s p).1:Int)/\((k==3)=decide (¬(az s p=48/\az s (p+1)=120)/\(Hc s p=S\/uL s p ((dl s p).1-p)=Ax)))):=by
 unfold xw Ab dl;by_cases b:az s p=48/\az s (p+1)=120
 ·simp only[ab b];unfold hxF hxA;cases hh:(mw s (p+2)).2 with
  |true=>
   simp only[jh];refine⟨⟨fun _=>trivial,fun _=>by omega⟩,2,_,_,_,rfl,fun _=>⟨rfl,?_⟩⟩;simp[b]
  |false=>
   simp only[aa (show ¬X=S by simp)];refine⟨⟨fun a=>by omega,fun a=>by cases a⟩,2,_,_,_,rfl,fun a=>by cases a⟩
 ·simp only[aa b];unfold nmF nmA agq;cases hh:(oA s (nA1 s (nA0 s p))).2 with
  |true=>
   simp only[jh];refine⟨⟨fun _=>trivial,fun _=>by omega⟩,?_⟩;cases hk:Hc s p with
   |true=>
    simp only[jh];exact⟨3,_,_,_,rfl,fun _=>⟨rfl,by simp[b]⟩⟩
   |false=>
    simp only[aa (show ¬X=S by simp)];cases hc:uL s p ((oA s (nA1 s (nA0 s p))).1-p) with
    |none=>exact⟨3,_,_,_,rfl,fun _=>⟨rfl,by simp[b]⟩⟩
    |some c=>exact⟨2,_,_,_,rfl,fun _=>⟨rfl,by simp⟩⟩
  |false=>
   simp only[aa (show ¬X=S by simp)];refine⟨⟨fun a=>by omega,fun a=>by cases a⟩,3,_,_,_,rfl,fun a=>by cases a⟩
theorem LE(q:ByteArray)(a:cu (az q 0)=S)(d:oA q (nA1 q (nA0 q 0))=(q.size,S)):yo q=Ax↔(Hc q 0=S\/uL q 0 q.size=Ax):=by
 cases hk:Hc q 0 with
 |false=>
  obtain⟨b,c⟩:=EK q 0 a hk;have f:nA0 q 0=q.size:=by rw[d]at b;exact(xi b).1.symm
  rw[G6 q (qa a) (fun e g=>c e (by omega) (by omega))];simp
 |true=>
  simp only[true_or,iff_true];unfold Hc at hk;rcases aC hk with h|h
  ·exact xu q a _ (dv h.1 (by omega)) (by rw[h.1];decide)
  ·exact xu q a _ (dv h (by omega)) (by rw[h];decide)
def fok(q:ByteArray):Bool:=decide (q.size<=40)&&qc q
theorem He(s:ByteArray)(B:s.size<=1100000)(w:A1):A2 U 118 #[Q s] w fun e p=>e= V (A7 (fok s))/\Y w.heap.size w p:=by
 unfold fok;by_cases j:0<s.size
 ·have E:((s.size:Int)==0)=X:=by rw[aK];omega
  by_cases r:s.size<=40
  ·have F:¬(40:Int)<(s.size:Int):=by omega
   have x:∀w,(Instr.index 9 (Q s) (M O 0)).run U w= .ok (M .u8 (az s 0)) w:=fun w=>cD j w;by_cases b:cu (az s 0)=S
   ·have c:=fun w=>dw b w;have g:∀w,A2 U 57 #[Q s,M O 0] w fun e p=>e= V (A3 #[Ab s 0,M O (xw s 0)])/\Y w.heap.size w p:=fun w=>vH s B 0 j b w;obtain⟨hF,o,G,H,I,t,u⟩:=ac0 s 0;rw[t]at g;have v:(decide (s.size<=40)&&qc s)=(decide (xw s 0<0)&&((o==3)&&(G==(s.size:Int)))):=by
     rw[bC r,eG];unfold qc;cases h2:(dl s 0).2 with
     |false=>
      rw[aB (show ¬xw s 0<0 by rw[hF,h2];simp),dJ,qJ];rintro ⟨_,i,_⟩;rw[i]at h2;cases h2
     |true=>
      obtain⟨C,f⟩:=u h2;rw[bC (hF.2 h2),eG,f,C];by_cases m:(dl s 0).1=s.size
      ·have k:dl s 0=(s.size,S):=Prod.ext m h2;rw[k];simp only[AJ,beq_self_eq_true,Bool.and_true];rw[En];constructor
       ·rintro ⟨_,_,d,h⟩;have n:oA s (nA1 s (nA0 s 0))=(s.size,S):=by rw[<-k];unfold dl;rw[aa d]
        exact⟨d,(LE s b n).1 h⟩
       ·rintro ⟨d,h⟩;have n:oA s (nA1 s (nA0 s 0))=(s.size,S):=by rw[<-k];unfold dl;rw[aa d]
        exact⟨b,trivial,d,(LE s b n).2 h⟩
      ·rw[show((((dl s 0).1:Nat):Int)==(s.size:Int))=X by rw[aK];omega,nu,qJ];rintro ⟨_,i,_⟩;rw[i]at m;exact m rfl
    rw[v];clear v u t hF;generalize xw s 0=q at g;generalize az s 0=z at x c;clear b;by_cases hF:q<0
    ·by_cases f:o=3
     ·subst f;go_in;go_wp2_with (first|(go_at_call 90;refine dK (c _) ?_)|(go_at_call 57;refine(g _).mono ?_;rintro e y ⟨rfl,a⟩));go_ret;exact⟨by simp[hF],a.alloc a.size _⟩
     ·have A:(o==3)=X:=by simp[f]
      clear f;go_in;go_wp2_with (first|(go_at_call 90;refine dK (c _) ?_)|(go_at_call 57;refine(g _).mono ?_;rintro e y ⟨rfl,a⟩));go_ret;exact⟨by simp[A],a.alloc a.size _⟩
    ·go_in;go_wp2_with (first|(go_at_call 90;refine dK (c _) ?_)|(go_at_call 57;refine(g _).mono ?_;rintro e y ⟨rfl,a⟩));go_ret;exact⟨by rw[aB (show ¬q<0 by omega)];simp,a.alloc a.size _⟩
   ·have l:cu (az s 0)=X:=by simpa using b
    have c:=fun w=>dw l w;rw[show qc s=X by unfold qc;simp[l],nu];clear b l;generalize az s 0=z at x c;go_in;go_wp2_with (first|(go_at_call 90;refine dK (c _) ?_));go_ret;exact⟨rfl,ag _ _⟩
  ·have F:(40:Int)<(s.size:Int):=by omega
   rw[aB r,dJ];go_in;go_wp2;go_ret;exact⟨rfl,ag _ _⟩
 ·have E:((s.size:Int)==0)=S:=by rw[ix];omega
  rw[show qc s=X by unfold qc;rw[dE j];simp[xq],nu];go_in;go_wp2;go_ret;exact⟨rfl,ag _ _⟩
structure fI (W:A1) (vt:Z) (ns:List Nd) (N:Nd) (vn vk:Z):Prop where
 t:fx W vt ns
 n:cH W vn N.nm
 k:eo W vk N.ks
 ok:yq ns N
 ln:ns.length<=1048576
 l1:N.nm.length<=1048576
 l2:N.ks.length<=1048576
 lx:N.x.size<=1048576
 ls:∀s∈N.nm,s.size<=1048576
theorem fI.below{W b:A1}{c:Z}{ns:List Nd}{N:Nd}{vn vk:Z}(h:fI W c ns N vn vk)(a:Y W.heap.size W b):fI b c ns N vn vk:=
 ⟨h.t.below a,h.n.below a,h.k.below a,h.ok,h.ln,h.l1,h.l2,h.lx,h.ls⟩
structure St (w:A1) (vt:Z) (ns:List Nd) (N:Nd) (vn vk:Z) (W:A1):Prop where
 a:fI W vt ns N vn vk
 bt:W.cell? ⟨w.heap.size,0,Ax⟩=A6 vt
 bn:sw (w.heap.size+1) W 53 N vn vk
 bel:Y w.heap.size w W
theorem St.below{w:A1}{d:Z}{ns:List Nd}{N:Nd}{vn vk:Z}{W c:A1}(h:St w d ns N vn vk W)(b:Y W.heap.size W c):St w d ns N vn vk c:=
 ⟨h.a.below b,ai b h.bt,h.bn.below b,h.bel.trans (b.mono h.bel.size)⟩
theorem St.start{w:A1}{a:Z}{ns:List Nd}{N:Nd}{vn vk:Z}(h:fI w a ns N vn vk):St w a ns N vn vk ((w.alloc (T #[a] 26)).alloc (T #[M O N.k,M O N.f,M O N.t,M O N.l,M O N.op,M O N.n,Q N.x,vn,vk] 53)):=by
 have b:Y w.heap.size w ((w.alloc (T #[a] 26)).alloc (T #[M O N.k,M O N.f,M O N.t,M O N.l,M O N.op,M O N.n,Q N.x,vn,vk] 53)):=((ag _ w).alloc (ae _) _).alloc (by simp) _;refine⟨h.below b,?_,?_,b⟩
 ·rw[aq _ _ _ _ _ _ ((bm _ _ _ (by simp)).trans (aj w _))];rfl
 ·have:=aj (w.alloc (T #[a] 26)) (T #[M O N.k,M O N.f,M O N.t,M O N.l,M O N.op,M O N.n,Q N.x,vn,vk] 53);rw[aF]at this;exact this
theorem jz{w:A1}{b:Z}{ns:List Nd}{N:Nd}{vn vk:Z}(a:fI w b ns N vn vk)(i:Nat)(h:i<N.ks.length):
  A2 U 113 #[A0 #[b],eC N vn vk,M O i] w fun e j=>e= V (M O (dH ns N i))/\Y w.heap.size w j:=by
 obtain⟨l,c,d,f,g,m⟩:=a.ok.get h;rw[g];exact abe w b ns N c vn vk i l a.t a.n a.k d f a.ln a.l2
theorem xx{w:A1}{a:Z}{ns:List Nd}{N:Nd}{vn vk:Z}(b:fI w a ns N vn vk)(c:0<N.ks.length):
  A2 U 113 #[A0 #[a],A0 #[M O N.k,M O N.f,M O N.t,M O N.l,M O N.op,M O N.n,Q N.x,vn,vk],M O 0] w fun e d=>e= V (M O (dH ns N 0))/\Y w.heap.size w d:=jz b 0 c
theorem xy{w:A1}{a:Z}{ns:List Nd}{N:Nd}{vn vk:Z}(b:fI w a ns N vn vk)(c:1<N.ks.length):
  A2 U 113 #[A0 #[a],A0 #[M O N.k,M O N.f,M O N.t,M O N.l,M O N.op,M O N.n,Q N.x,vn,vk],M O 1] w fun e d=>e= V (M O (dH ns N 1))/\Y w.heap.size w d:=jz b 1 c
