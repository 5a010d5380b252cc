import Derived.Test.YtkdijoogonigpaaGreatDoorHUk08
import Derived.Deep.CutBlock
set_option linter.all false
set_option maxRecDepth 100000
set_option maxHeartbeats 3200000
open Go.Value renaming int->M,string->O,tuple->X,agg->Y,bool->Br
open Go.IntKind renaming i64->N
open Bool renaming true->Q,false->R
open Go.Obj renaming cells->S
open Go.Proofs.Tryz renaming prog->T
open Go.Ending renaming returned->U
open Option renaming none->V,some->B0
open Go.RowKit renaming Below->W,intOf->Ax,Hid->A0
open Go renaming Calls->Z,World->A2
namespace Go.Proofs.YtkdijoogonigpaaGreatDoor
open Go.RowKit Go.Maps Go.WideMaps
theorem oc(s:ByteArray)(i:Nat)(c:Int)(d:0<c):(lk s i==c)=decide (ao s i=c):=by
 unfold lk;split
 ·by_cases a:ao s i=c<;>simp[a]
 ·rename_i a;rw[ci a];have b:((0:Int)==c)=R:=by rw[aC];omega
  rw[b];symm;rw[nc];omega
def vf(s:ByteArray)(p:Nat):Bool:=decide ((ao s (nA0 s p)=46/\aL (ao s (nA0 s p+1))=Q)\/ao s (nA1 s (nA0 s p))=101)
def aav(s:ByteArray)(p E:Nat)(a:Option Nat):Value:=match a with
 |some b=> Y #[M N 2,M N p,M N (E:Int),M N 0,M N (b:Int),O ⟨#[]⟩]
 |none=> Y #[M N 3,M N p,M N (E:Int),M N 0,M N 0,O (s.extract p E)]
def nmA(s:ByteArray)(p:Nat):Value:=
 if(jn s (nA1 s (nA0 s p))).2=Q then
  (if vf s p=Q then Y #[M N 3,M N p,M N ((jn s (nA1 s (nA0 s p))).1:Int),M N 0,M N 0,O (s.extract p (jn s (nA1 s (nA0 s p))).1)]
  else aav s p (jn s (nA1 s (nA0 s p))).1 (kH s p ((jn s (nA1 s (nA0 s p))).1-p)))
 else Y #[M N 3,M N p,M N 0,M N 0,M N 0,O ⟨#[]⟩]
def nmF(s:ByteArray)(p:Nat):Int:=if(jn s (nA1 s (nA0 s p))).2=Q then -1 else((jn s (nA1 s (nA0 s p))).1:Int)
theorem Bj(s:ByteArray)(p j:Nat)(a:kH s p j=V):∀n,j<=n->kH s p n=V
 |0,b=>by
  obtain rfl:j=0:=by omega
  exact a
 |n+1,b=>by
  rcases gI b with rfl|h2
  ·exact a
  ·rw[kH,Bj s p j a n (by omega)]
theorem uk(s:ByteArray)(p:Nat)(f:aL (ao s p)=Q)(a:vf s p=R):(jn s (nA1 s (nA0 s p)))=(nA0 s p,Q)/\∀i,p<=i->i<nA0 s p->aL (ao s i)=Q:=by
 unfold vf at a;rw[nc]at a;have d:nA1 s (nA0 s p)=nA0 s p:=by unfold nA1;rw[aa (fun b=>a (.inl b))]
 rw[d]at a⊢;have e:jn s (nA0 s p)=(nA0 s p,Q):=by unfold jn;rw[aa (fun b=>a (.inr b))]
 refine⟨e,fun i g c=>?_⟩;rcases gI g with rfl|h3
 ·exact f
 ·unfold nA0 at c;split at c
  ·omega
  ·exact lh aL s _ (p+1) i h3 c
theorem ac4(s:ByteArray)(a:Nat)(c:ao s a=101)(d:aL (ao s (nA2 s a))=R):jn s a=(nA2 s a,R):=by
 have b:ju s (nA2 s a)=nA2 s a:=by unfold ju eH;rw[aa (by rw[d];simp)]
 unfold jn;rw[ab c,b];simp
theorem aaw(s:ByteArray)(a:Nat)(f:a<s.size)(d:ao s a=101)(b:aL (ao s (nA2 s a))=Q):jn s a=(ju s (nA2 s a),Q):=by
 have g:=li b;have e:=jm aL nw s s.size (nA2 s a+1) (by omega);have c:ju s (nA2 s a)=eH aL s s.size (nA2 s a+1):=by
  show eH aL s (s.size+1) (nA2 s a)=_;rw[eH,ab b]
 unfold jn;rw[ab d,c];simp;omega
theorem In(s:ByteArray)(a:Nat)(b:ao s a=101):a<nA2 s a/\nA2 s a<=s.size:=by
 have c:=ba b (by omega);unfold nA2;split
 ·rename_i hs;rcases hs with hs|hs
  ·have:=ba hs (by omega);omega
  ·have:=ba hs (by omega);omega
 ·omega
theorem lp(s:ByteArray)(k:Nat):aL (ao s k)=Q\/aL (ao s k)=R:=by cases aL (ao s k)<;>simp
theorem zm(s:ByteArray)(I:s.size<=1100000)(p:Nat)(er:p<s.size)(c9:aL (ao s p)=Q)(B:¬(ao s p=48/\ao s (p+1)=120))(w:A2):Z T 45 #[O s,Y #[M N 0,M N p,M N 0,M N 0,M N 0,O ⟨#[]⟩]] w fun e u=>e= U (X #[nmA s p,M N (nmF s p)])/\W w.heap.size w u:=by
 obtain⟨ex,c0⟩:=aD (nmA s p);obtain⟨fr,c3⟩:=aD (nmF s p);rw[c0,c3];have k:=ar c0;have o:=ar c3;clear c0 c3;have b3:cA w.heap.size ((w.alloc (S #[M N 2,M N p,M N 0,M N 0,M N 0,O ⟨#[]⟩] 29)).alloc (S #[M N 0,M N 0,M N 0,M N 0,M N 0,O ⟨#[]⟩] 29)) 2 p 0 0 0 ⟨#[]⟩:=(cg _ _ _ (by simp)).trans (ax w _);have dc:=fun w=>ch er w;have b5:cA (w.heap.size+1) ((w.alloc (S #[M N 2,M N p,M N 0,M N 0,M N 0,O ⟨#[]⟩] 29)).alloc (S #[M N 0,M N 0,M N 0,M N 0,M N 0,O ⟨#[]⟩] 29)) 0 0 0 0 0 ⟨#[]⟩:=by
  have:=ax (w.alloc (S #[M N 2,M N p,M N 0,M N 0,M N 0,O ⟨#[]⟩] 29)) (S #[M N 0,M N 0,M N 0,M N 0,M N 0,O ⟨#[]⟩] 29);rw[dI]at this;exact this
 have cp:W w.heap.size w ((w.alloc (S #[M N 2,M N p,M N 0,M N 0,M N 0,O ⟨#[]⟩] 29)).alloc (S #[M N 0,M N 0,M N 0,M N 0,M N 0,O ⟨#[]⟩] 29)):=(((aq _ w).alloc (ag _) _).alloc (by simp) _);go_in;go_upto_region 3 with fail
 generalize (w.alloc (S #[M N 2,M N p,M N 0,M N 0,M N 0,O ⟨#[]⟩] 29)).alloc (S #[M N 0,M N 0,M N 0,M N 0,M N 0,O ⟨#[]⟩] 29)=dk at b3 b5 cp;have fa:w.heap.size+1<dk.heap.size:=au b5;obtain⟨L,af,ak,al,am,an,ap⟩:=aE b3;go_cut [22] from 9 (fun fk r=>fk= Br R/\r=dk)
 case first=>
  by_cases z:ao s p=48
  ·rw[z]at dc;have em:¬ao s (p+1)=120:=fun h=>B ⟨z,h⟩;have e2:(lk s (p+1)==120)=R:=by rw[oc _ _ _ (by omega)];simpa using em
   have f:∀w,Z T 41 #[O s,M N ((p:Int)+1)] w fun e u=>e= U (M .u8 (lk s (p+1)))/\u=w:=fun w=>eC s I _ (p+1) (by omega) w;generalize lk s (p+1)=n at f e2;clear z em B c9 k o;go_wp2_with (go_at_call 41;refine dz (f _) ?_);go_meet
   case rel=>exact⟨rfl,rfl⟩
  ·have cn:(ao s p==48)=R:=by rw[aC];exact z
   generalize ao s p=n at dc cn;clear z B k o;go_wp2_with fail;go_meet
   case rel=>exact⟨rfl,rfl⟩
 case rest=>
  obtain⟨rfl,rfl⟩:=hcut;go_upto_if 34 with fail
  go_cut [6] from 9 (fun bf r=>bf= M N (nA0 s p:Int)/\r=wc)
  case first=>
   by_cases z:ao s p=48
   ·have e3:A0 (nA0 s p=p+1):=by show _=_;unfold nA0;rw[ab z]
    rw[z];clear z B k o;go_wp2_with fail;go_meet
    case rel=>exact⟨by rw[e3.out];go_num,rfl⟩
   ·have E:A0 (eH aL s (s.size+1) (p+1)=nA0 s p):=by show _=_;unfold nA0;rw[aa z];rfl
    have cn:(ao s p !=48)=Q:=by rw[uf];exact z
    rw[cn];obtain⟨g,t⟩:=aD (nA0 s p);rw[t]at E;have A:=ar t;clear z B k o cn t;go_wp2_with fail;go_loop [6] (fun i=>∃(b l:Nat),b<=s.size/\s.size<b+l/\i= M N b/\A0 (eH aL s l b=g)) (fun i=>s.size-(Ax i).toNat)
    case atStart=>exact⟨p+1,s.size+1,by omega,by omega,by first|rfl|(congr 1;omega),E⟩
    case round=>
     obtain⟨b,l,eh,ef,rfl,bw⟩:=hrel;obtain⟨l,rfl⟩:∃b0,l=b0+1:=⟨l-1,by omega⟩;have d:=bw.out;unfold eH at d;have f:=fun w=>eC s I (b:Int) b rfl w;rcases lp s b with h1|h1
     ·have el:b<s.size:=li h1;have c:=fun w=>cI ((ld s b).trans h1) w;rw[ab h1]at d;have m:=ar d;generalize lk s b=n at f c;clear d h1;go_wp2_with (first|(go_at_call 41;refine dz (f _) ?_)|(go_at_call 44;refine dz (c _) ?_));go_round
      case rel=>exact⟨b+1,l,by omega,by omega,by go_num,m⟩
      case measure=>simp[Ax];omega
     ·have c:=fun w=>cI ((ld s b).trans h1) w;rw[aa (by rw[h1];simp)]at d;have m:=ar d;generalize lk s b=n at f c;clear d h1;go_wp2_with (first|(go_at_call 41;refine dz (f _) ?_)|(go_at_call 44;refine dz (c _) ?_));go_meet
      case rel=>exact⟨by rw[A.out,<-m.out],rfl⟩
  case rest=>
   obtain⟨rfl,rfl⟩:=hcut;have cF:=ss s p er;go_upto_region 9 with fail
   obtain⟨D,d5⟩:∃D:Bool,decide (ao s (nA0 s p)=46/\aL (ao s (nA0 s p+1))=Q)=D:=⟨_,rfl⟩;have x:=ar d5;clear d5;go_cut [51] from 9 (fun fn r=>fn= Br D/\r=wc)
   case first=>
    have f:=fun w=>eC s I (nA0 s p:Int) (nA0 s p) rfl w;have C:∀w,Z T 41 #[O s,M N ((nA0 s p:Int)+1)] w fun e u=>e= U (M .u8 (lk s (nA0 s p+1)))/\u=w:=fun w=>eC s I _ (nA0 s p+1) (by omega) w;have b1:=oc s (nA0 s p) 46 (by omega);by_cases a8:ao s (nA0 s p)=46
    ·rw[cG a8]at b1;have a9:=x.out;rcases lp s (nA0 s p+1) with h1|h1
     ·have c:=fun w=>cI ((ld s (nA0 s p+1)).trans h1) w;rw[cG ⟨a8,h1⟩]at a9;subst a9;generalize lk s (nA0 s p+1)=e0 at C c;generalize lk s (nA0 s p)=n at f b1;clear a8 h1 x k o;go_wp2_with (first|(go_at_call 41;first|(with_reducible refine dz (f _) ?_)|(with_reducible refine dz (C _) ?_))|(go_at_call 44;refine dz (c _) ?_));go_meet
      case rel=>exact⟨rfl,rfl⟩
     ·have c:=fun w=>cI ((ld s (nA0 s p+1)).trans h1) w;rw[bk (fun h=>by rw[h.2]at h1;cases h1)]at a9;subst a9;generalize lk s (nA0 s p+1)=e0 at C c;generalize lk s (nA0 s p)=n at f b1;clear a8 h1 x k o;go_wp2_with (first|(go_at_call 41;first|(with_reducible refine dz (f _) ?_)|(with_reducible refine dz (C _) ?_))|(go_at_call 44;refine dz (c _) ?_));go_meet
      case rel=>exact⟨rfl,rfl⟩
    ·rw[bk a8]at b1;have a9:=x.out;rw[bk (fun h=>a8 h.1)]at a9;subst a9;generalize lk s (nA0 s p)=n at f b1;clear a8 x k o;go_wp2_with (first|(go_at_call 41;refine dz (f _) ?_));go_meet
     case rel=>exact⟨rfl,rfl⟩
   case rest=>
    obtain⟨rfl,rfl⟩:=hcut;go_upto_if 51 with fail
    go_cut [6] from 9 (fun bf r=>bf= M N (nA1 s (nA0 s p):Int)/\cA w.heap.size r (if D=Q then 3 else 2) p 0 0 0 ⟨#[]⟩/\cA (w.heap.size+1) r 0 0 0 0 0 ⟨#[]⟩/\W w.heap.size w r)
    case first=>
     cases D with
     |true=>
      have bs:=aI x.out;have E:A0 (eH aL s (s.size+1) (nA0 s p+1)=nA1 s (nA0 s p)):=by show _=_;unfold nA1;rw[ab bs];rfl
      have e7:=li bs.2;obtain⟨g,t⟩:=aD (nA1 s (nA0 s p));rw[t]at E;have A:=ar t;generalize nA0 s p=ev at E e7 cF⊢;clear bs x k o B t;have F:=b3.setKind 3;have G:=b5.other (a:=⟨w.heap.size,0,V⟩) (by simp) (M N 3);have J:W w.heap.size w (wc.setCell ⟨w.heap.size,0,V⟩ (M N 3)):=cp.setCell (by simp) _;go_wp2_with fail;go_loop [6] (fun i=>∃(b l:Nat),b<=s.size/\s.size<b+l/\i= M N b/\A0 (eH aL s l b=g)) (fun i=>s.size-(Ax i).toNat)
      case atStart=>exact⟨ev+1,s.size+1,by omega,by omega,by first|rfl|(congr 1;omega),E⟩
      case round=>
       obtain⟨b,l,eh,ef,rfl,bw⟩:=hrel;obtain⟨l,rfl⟩:∃b0,l=b0+1:=⟨l-1,by omega⟩;have d:=bw.out;unfold eH at d;have f:=fun w=>eC s I (b:Int) b rfl w;rcases lp s b with h1|h1
       ·have el:b<s.size:=li h1;have c:=fun w=>cI ((ld s b).trans h1) w;rw[ab h1]at d;have m:=ar d;generalize lk s b=n at f c;clear d h1;go_wp2_with (first|(go_at_call 41;refine dz (f _) ?_)|(go_at_call 44;refine dz (c _) ?_));go_round
        case rel=>exact⟨b+1,l,by omega,by omega,by go_num,m⟩
        case measure=>simp[Ax];omega
       ·have c:=fun w=>cI ((ld s b).trans h1) w;rw[aa (by rw[h1];simp)]at d;have m:=ar d;generalize lk s b=n at f c;clear d h1;go_wp2_with (first|(go_at_call 41;refine dz (f _) ?_)|(go_at_call 44;refine dz (c _) ?_));go_meet
        case rel=>exact⟨by rw[A.out,<-m.out],F,G,J⟩
     |false=>
      have bs:=na x.out;have t:nA1 s (nA0 s p)=nA0 s p:=by unfold nA1;rw[aa bs]
      have A:=ar t;clear bs x k o B t;go_wp2_with fail;go_meet
      case rel=>exact⟨by rw[A.out],b3,b5,cp⟩
    case rest=>
     obtain⟨rfl,bb,br,cq⟩:=hcut;clear b3 b5 cp L af ak al am an ap fa;have ds:=su s _ cF.2;have f:=fun w=>eC s I (nA1 s (nA0 s p):Int) (nA1 s (nA0 s p)) rfl w;have d0:=oc s (nA1 s (nA0 s p)) 101 (by omega);obtain⟨a7,c7⟩:∃a7:Bool,decide (ao s (nA1 s (nA0 s p))=101)=a7:=⟨_,rfl⟩;have bj:=ar c7;rw[c7]at d0;clear c7;obtain⟨L,af,ak,al,am,an,ap⟩:=aE bb;obtain⟨z0,av,a0,a2,a3,a4,cv⟩:=aE br;have bt:w.heap.size<wc.heap.size:=au bb;have cu:w.heap.size+1<wc.heap.size:=au br;go_upto_if 64 with(go_at_call 41;refine(f _).mono ?_;rintro e u ⟨rfl,y⟩;obtain rfl:=y.symm)
     clear f d0;go_cut [6] from 9 (fun bf r=>bf= M N ((jn s (nA1 s (nA0 s p))).1:Int)/\(jn s (nA1 s (nA0 s p))).2=Q/\cA w.heap.size r (if(D||a7)=Q then 3 else 2) p 0 0 0 ⟨#[]⟩/\cA (w.heap.size+1) r 0 0 0 0 0 ⟨#[]⟩/\W w.heap.size w r)
     case first=>
      cases a7 with
      |false=>
       have K:=na bj.out;have A:A0 (jn s (nA1 s (nA0 s p))=(nA1 s (nA0 s p),Q)):=by show _=_;unfold jn;rw[aa K]
       rw[<-Bool.or_false D]at bb;clear K bj k o x B;go_wp2_with fail;go_meet
       case rel=>exact⟨by rw[A.out],by rw[A.out],bb,br,cq⟩
      |true=>
       have K:=aI bj.out;have b7:=ac4 s (nA1 s (nA0 s p)) K;have b9:=aaw s (nA1 s (nA0 s p)) (ba K (by omega)) K;have dn:=In s (nA1 s (nA0 s p)) K;have C:∀w,Z T 41 #[O s,M N ((nA1 s (nA0 s p):Int)+1)] w fun e u=>e= U (M .u8 (lk s (nA1 s (nA0 s p)+1)))/\u=w:=fun w=>eC s I _ (nA1 s (nA0 s p)+1) (by omega) w;have cl:=oc s (nA1 s (nA0 s p)+1) 43 (by omega);have cm:=oc s (nA1 s (nA0 s p)+1) 45 (by omega);have bn:A0 (nA2 s (nA1 s (nA0 s p))=if decide (ao s (nA1 s (nA0 s p)+1)=43)=Q\/decide (ao s (nA1 s (nA0 s p)+1)=45)=Q then nA1 s (nA0 s p)+1+1 else nA1 s (nA0 s p)+1):=by show _=_;unfold nA2;simp
       generalize decide (ao s (nA1 s (nA0 s p)+1)=43)=cz at cl bn;generalize decide (ao s (nA1 s (nA0 s p)+1)=45)=ce at cm bn;have F:=bb.setKind 3;have G:=br.other (a:=⟨w.heap.size,0,V⟩) (by simp) (M N 3);have J:W w.heap.size w (wc.setCell ⟨w.heap.size,0,V⟩ (M N 3)):=cq.setCell (by simp) _;obtain⟨ck,c6⟩:=aD (wc.setCell ⟨w.heap.size,0,V⟩ (M N 3));rw[c6]at F G J;have dg:=ar c6;clear K bj x B c6;go_upto_region 17 with fail
       rw[dg.out];clear dg bb br cq L af ak al am an ap z0 av a0 a2 a3 a4 cv bt cu;obtain⟨L,af,ak,al,am,an,ap⟩:=aE F;obtain⟨z0,av,a0,a2,a3,a4,cv⟩:=aE G;have bt:w.heap.size<ck.heap.size:=au F;have cu:w.heap.size+1<ck.heap.size:=au G;go_cut [77] from 9 (fun fq r=>fq= Br (ce||cz)/\r=ck)
       case first=>
        generalize lk s (nA1 s (nA0 s p)+1)=n at C cl cm;clear k o b7 b9 bn;cases ce with
        |true=>
         go_wp2_with (first|(go_at_call 41;refine(C _).mono ?_;rintro e u ⟨rfl,y⟩;obtain rfl:=y.symm));go_meet
         case rel=>exact⟨rfl,rfl⟩
        |false=>
         go_wp2_with (first|(go_at_call 41;refine(C _).mono ?_;rintro e u ⟨rfl,y⟩;obtain rfl:=y.symm));go_meet
         case rel=>exact⟨rfl,rfl⟩
       case rest=>
        obtain⟨rfl,ca⟩:=hcut;obtain rfl:=ca.symm;clear ca;go_upto_if 77 with fail
        go_cut [6] from 9 (fun bf r=>bf= M N (nA2 s (nA1 s (nA0 s p)):Int)/\r=ck)
        case first=>
         clear k o b7 b9 cl cm C;obtain⟨cf,c4⟩:∃cf:Bool,(ce||cz)=cf:=⟨_,rfl⟩;have d2:A0 (nA2 s (nA1 s (nA0 s p))=if cf=Q then nA1 s (nA0 s p)+1+1 else nA1 s (nA0 s p)+1):=by show _=_;rw[bn.out,<-c4];cases ce<;>cases cz<;>simp
         rw[c4];clear c4 bn;cases cf with
         |true=>
          go_wp2_with fail;go_meet
          case rel=>exact⟨by rw[d2.out];simp only[gJ];go_num,rfl⟩
         |false=>
          go_wp2_with fail;go_meet
          case rel=>exact⟨by rw[d2.out];simp,rfl⟩
        case rest=>
         obtain⟨rfl,ca⟩:=hcut;obtain rfl:=ca.symm;clear ca bn cl cm C;have bd:=fun w=>eC s I (nA2 s (nA1 s (nA0 s p)):Int) (nA2 s (nA1 s (nA0 s p))) rfl w;rcases lp s (nA2 s (nA1 s (nA0 s p))) with h1|h1
         ·have c:=fun w=>cI ((ld s (nA2 s (nA1 s (nA0 s p)))).trans h1) w;have dd:A0 (jn s (nA1 s (nA0 s p))=(ju s (nA2 s (nA1 s (nA0 s p))),Q)):=b9 h1;obtain⟨g,t⟩:=aD (ju s (nA2 s (nA1 s (nA0 s p))));have E:=ar t;have A:=ar t;generalize lk s (nA2 s (nA1 s (nA0 s p)))=e1 at bd c;generalize nA2 s (nA1 s (nA0 s p))=ew at E dn bd⊢;clear b7 b9 t h1 k o;go_wp2_with (first|(go_at_call 41;refine(bd _).mono ?_;rintro e u ⟨rfl,y⟩;obtain rfl:=y.symm)|(go_at_call 44;refine(c _).mono ?_;rintro e u ⟨rfl,y⟩;obtain rfl:=y.symm));clear bd c;go_loop [6] (fun i=>∃(b l:Nat),b<=s.size/\s.size<b+l/\i= M N b/\A0 (eH aL s l b=g)) (fun i=>s.size-(Ax i).toNat)
          case atStart=>exact⟨ew,s.size+1,by omega,by omega,by first|rfl|(congr 1;omega),E⟩
          case round=>
           obtain⟨b,l,eh,ef,rfl,bw⟩:=hrel;obtain⟨l,rfl⟩:∃b0,l=b0+1:=⟨l-1,by omega⟩;have d:=bw.out;unfold eH at d;have f:=fun w=>eC s I (b:Int) b rfl w;rcases lp s b with h1|h1
           ·have el:b<s.size:=li h1;have c:=fun w=>cI ((ld s b).trans h1) w;rw[ab h1]at d;have m:=ar d;generalize lk s b=n at f c;clear d h1;go_wp2_with (first|(go_at_call 41;refine dz (f _) ?_)|(go_at_call 44;refine dz (c _) ?_));go_round
            case rel=>exact⟨b+1,l,by omega,by omega,by go_num,m⟩
            case measure=>simp[Ax];omega
           ·have c:=fun w=>cI ((ld s b).trans h1) w;rw[aa (by rw[h1];simp)]at d;have m:=ar d;generalize lk s b=n at f c;clear d h1;go_wp2_with (first|(go_at_call 41;refine dz (f _) ?_)|(go_at_call 44;refine dz (c _) ?_));go_meet
            case rel=>exact⟨by rw[dd.out,A.out,<-m.out],by rw[dd.out],by simpa using F,G,J⟩
         ·have c:=fun w=>cI ((ld s (nA2 s (nA1 s (nA0 s p)))).trans h1) w;have ec:=b7 h1;have j:=k.out;have H:=o.out;unfold nmA at j;unfold nmF at H;rw[ec]at j H;simp only[aa (show ¬R=Q by simp)]at j H;subst j;obtain⟨cy,d6⟩:∃cy:Int,(nA2 s (nA1 s (nA0 s p)):Int)=cy:=⟨_,rfl⟩;rw[d6]at H bd⊢;subst H;generalize lk s (nA2 s (nA1 s (nA0 s p)))=e1 at bd c;clear ec h1 b7 b9 k o dn d6;go_wp2_with (first|(go_at_call 41;refine(bd _).mono ?_;rintro e u ⟨rfl,y⟩;obtain rfl:=y.symm)|(go_at_call 44;refine(c _).mono ?_;rintro e u ⟨rfl,y⟩;obtain rfl:=y.symm));refine bg (v:= X #[Y #[M N 3,M N p,M N 0,M N 0,M N 0,O ⟨#[]⟩],M N cy]) (by simp[results,Tryz.results45,go_sem,z0,av,a0,a2,a3,a4]) rfl ⟨rfl,?_⟩
          iterate 6 refine dK ?_ (by simp) _
          exact J
     case rest=>
      obtain⟨rfl,ep,bp,d9,d3⟩:=hcut;have dx:=zl s _ ds.2;have d7:vf s p=(D||a7):=by unfold vf;rw[<-x.out,<-bj.out];simp
      have c8:=uk s p c9;have j:=k.out;have H:=o.out;unfold nmA at j;unfold nmF at H;rw[ab ep]at j H;subst H;rw[d7]at j c8;have e8:p<(jn s (nA1 s (nA0 s p))).1:=by omega
      have e6:(jn s (nA1 s (nA0 s p))).1<=s.size:=dx.2;have cs:(D||a7)=R->∀i,p<=i->i<(jn s (nA1 s (nA0 s p))).1->aL (ao s i)=Q:=fun h i h1 d1=>by
       have eg:=c8 h;exact eg.2 i h1 (by rw[eg.1]at d1;exact d1)
      clear c8 d7 x bj k o ep dx ds cF B dc c9;generalize (D||a7)=a6 at bp j cs;generalize (jn s (nA1 s (nA0 s p))).1=g at e8 e6 j cs⊢;clear bb br cq L af ak al am an ap z0 av a0 a2 a3 a4 cv bt cu;obtain⟨bl,c5⟩:=aD (kH s p (g-p));rw[c5]at j;have bx:=ar c5;have k:=ar j;have cc:=ar cs;clear j cs c5;obtain⟨cb,ct⟩:∃cb:Int,(if a6=Q then(3:Int) else 2)=cb:=⟨_,rfl⟩;rw[ct]at bp;have df:A0 ((cb=2/\a6=R/\(0:Int)<=0/\kH s p (p-p)=B0 (0:Int).toNat)\/(cb=3/\(a6=Q\/bl=V))):=by
       cases a6 with
       |true=>exact .inr ⟨ct.symm,.inl rfl⟩
       |false=>exact .inl ⟨ct.symm,rfl,by omega,by rw[fC];rfl⟩
      clear ct;obtain⟨L,af,ak,al,am,an,ap⟩:=aE bp;have bt:w.heap.size<wc.heap.size:=au bp;have F:=bp.setTo (g:Int);have G:=d9.other (a:=⟨w.heap.size,2,V⟩) (by simp) (M N (g:Int));have J:W w.heap.size w (wc.setCell ⟨w.heap.size,2,V⟩ (M N (g:Int))):=d3.setCell (by simp) _;go_wp2_with fail;go_loopw [7,8] (fun fc i wr=>∃(b:Nat) (c a:Int),p<=b/\b<=g/\i= M N b/\fc= M .u64 a/\cA w.heap.size wr c p (g:Int) 0 0 ⟨#[]⟩/\cA (w.heap.size+1) wr 0 0 0 0 0 ⟨#[]⟩/\W w.heap.size w wr/\A0 ((c=2/\a6=R/\0<=a/\kH s p (b-p)=B0 a.toNat)\/(c=3/\(a6=Q\/bl=V)))) (fun _ i _=>g-(Ax i).toNat)
      case atStart=>exact⟨p,cb,0,ag _,by omega,rfl,rfl,F,G,J,df⟩
      case round=>
       obtain⟨b,c,a,e9,fA,rfl,rfl,b4,b6,bo,d⟩:=hrel;clear F G J bp d9 d3 L af ak al am an ap bt df;obtain⟨L,af,ak,al,am,an,ap⟩:=aE b4;obtain⟨z0,av,a0,a2,a3,a4,cv⟩:=aE b6;have bt:w.heap.size<wr.heap.size:=au b4;have cu:w.heap.size+1<wr.heap.size:=au b6;rcases d.out with⟨rfl,cr,fu,b8⟩|⟨rfl,eq⟩
       ·have eb:=Dd s p _ _ b8;by_cases ej:b<g
        ·have ee:=cc.out cr b e9 ej;have e5:=dl ee;have fb:=fun w=>ch (s:=s) (i:=b) (by omega) w;have da:kH s p (b+1-p)=if a.toNat*10+(ao s b-48).toNat<=9223372036854775807 then B0 (a.toNat*10+(ao s b-48).toNat) else V:=by
          rw[show b+1-p=(b-p)+1 by omega,kH,b8,show p+(b-p)=b by omega]
         have eF:a<=9223372036854775807:=by omega
         have en:kH s p (b+1-p)=V->bl=V:=fun h=>by rw[<-bx.out];exact Bj s p _ h _ (by omega)
         have m:A0 ((¬a*10+(ao s b-48)<=9223372036854775807->bl=V)/\(a*10+(ao s b-48)<=9223372036854775807->kH s p (b+1-p)=B0 (a*10+(ao s b-48)).toNat)):=by
          refine⟨fun h=>en (by rw[da,aa (by omega)]),fun h=>?_⟩;rw[da,ab (by omega)]
          congr 1
          omega
         generalize ao s b=n at fb e5 m;clear ee da en b8 d cc bx k eb;have d8:=b4.setKind 3;have ea:=b6.other (a:=⟨w.heap.size,0,V⟩) (by simp) (M N 3);have d4:W w.heap.size w (wr.setCell ⟨w.heap.size,0,V⟩ (M N 3)):=bo.setCell (by simp) _;have ek:(b:Int)<(g:Int):=by omega
         rcases(show 922337203685477580<a\/(a=922337203685477580/\55<n)\/(a=922337203685477580/\¬55<n)\/a<922337203685477580 by omega) with q|⟨q,ff⟩|⟨q,ff⟩|q
         ·have a5:A0 (bl=V):=m.out.1 (by omega);clear m;go_wp2;go_roundw
          case rel=>exact⟨b+1,3,_,by omega,by omega,by go_num,rfl,d8,ea,d4,.inr ⟨rfl,.inr a5.out⟩⟩
          case measure=>simp[Ax];omega
         ·have a5:A0 (bl=V):=m.out.1 (by omega);have et:(a==922337203685477580)=Q:=by rw[jj];exact q
          have es:¬922337203685477580<a:=by omega
          clear m q;go_wp2;go_roundw
          case rel=>exact⟨b+1,3,_,by omega,by omega,by go_num,rfl,d8,ea,d4,.inr ⟨rfl,.inr a5.out⟩⟩
          case measure=>simp[Ax];omega
         ·have a5:A0 (kH s p (b+1-p)=B0 (a*10+(n-48)).toNat):=m.out.2 (by omega);have et:(a==922337203685477580)=Q:=by rw[jj];exact q
          have es:¬922337203685477580<a:=by omega
          have fg:a*10+(n-48)<=9223372036854775807:=by omega
          clear m q;go_wp2;go_roundw
          case rel=>exact⟨b+1,2,a*10+(n-48),by omega,by omega,by go_num,by first|rfl|(congr 1;omega),b4,b6,bo,.inl ⟨rfl,cr,by omega,a5.out⟩⟩
          case measure=>simp[Ax];omega
         ·have a5:A0 (kH s p (b+1-p)=B0 (a*10+(n-48)).toNat):=m.out.2 (by omega);have et:(a==922337203685477580)=R:=by rw[aC];omega
          have es:¬922337203685477580<a:=by omega
          have fg:a*10+(n-48)<=9223372036854775807:=by omega
          clear m;go_wp2;go_roundw
          case rel=>exact⟨b+1,2,a*10+(n-48),by omega,by omega,by go_num,by first|rfl|(congr 1;omega),b4,b6,bo,.inl ⟨rfl,cr,by omega,a5.out⟩⟩
          case measure=>simp[Ax];omega
        ·obtain rfl:b=g:=by omega
         have j:=k.out;rw[cr,<-bx.out,b8]at j;simp only[aa (show ¬R=Q by simp),aav]at j;rw[show((a.toNat:Nat):Int)=a by omega]at j;subst j;have fB:wrap64 a=a:=by unfold wrap64;omega
         have eF:a<=9223372036854775807:=by omega
         clear k bx cc d b8 eb;go_wp2;refine bg (v:= X #[Y #[M N 2,M N p,M N (b:Int),M N 0,M N a,O ⟨#[]⟩],M N (-1)]) (by simp[results,Tryz.results45,go_sem,z0,av,a0,a2,a3,a4]) rfl ⟨rfl,?_⟩
         iterate 7 refine dK ?_ (by simp) _
         exact bo
       ·have j:=k.out;have e4:Value.agg #[M N 3,M N p,M N (g:Int),M N 0,M N 0,O (s.extract p g)]=ex:=by
         rcases eq with h|h
         ·rw[h]at j;exact j
         ·rw[h]at j;cases a6<;>exact j
        subst e4;clear j k bx cc d eq;by_cases ej:b<g
        ·have ek:(b:Int)<(g:Int):=by omega
         go_wp2;refine bg (v:= X #[Y #[M N 3,M N p,M N (g:Int),M N 0,M N 0,O (s.extract p g)],M N (-1)]) (by simp[results,Tryz.results45,go_sem,z0,av,a0,a2,a3,a4]) rfl ⟨rfl,?_⟩
         iterate 7 refine dK ?_ (by simp) _
         exact bo
        ·have ek:¬(b:Int)<(g:Int):=by omega
         go_wp2;refine bg (v:= X #[Y #[M N 3,M N p,M N (g:Int),M N 0,M N 0,O (s.extract p g)],M N (-1)]) (by simp[results,Tryz.results45,go_sem,z0,av,a0,a2,a3,a4]) rfl ⟨rfl,?_⟩
         iterate 7 refine dK ?_ (by simp) _
         exact bo
theorem Io(s:ByteArray)(p:Nat):∃(t n:Int),qF s p= Y #[M N 2,M N p,M N t,M N 0,M N n,O ⟨#[]⟩]:=by
 unfold qF;split<;>exact⟨_,_,rfl⟩
def tI(s:ByteArray)(p:Nat):Value:=if ao s p=48/\ao s (p+1)=120 then qF s p else nmA s p
def ri(s:ByteArray)(p:Nat):Int:=if ao s p=48/\ao s (p+1)=120 then hxF s p else nmF s p
theorem ac5(s:ByteArray)(p:Nat):∃(k t n:Int) (x:ByteArray),nmA s p= Y #[M N k,M N p,M N t,M N 0,M N n,O x]:=by
 unfold nmA aav;split
 ·split
  ·exact⟨_,_,_,_,rfl⟩
  ·split<;>exact⟨_,_,_,_,rfl⟩
 ·exact⟨_,_,_,_,rfl⟩
theorem E3(s:ByteArray)(p:Nat):∃(k t n:Int) (x:ByteArray),tI s p= Y #[M N k,M N p,M N t,M N 0,M N n,O x]:=by
 unfold tI;split
 ·obtain⟨t,n,a⟩:=Io s p;exact⟨_,_,_,_,a⟩
 ·exact ac5 s p
theorem zn(s:ByteArray)(l:s.size<=1100000)(p:Nat)(f:ao s p=48)(b:ao s (p+1)=120)(w:A2):Z T 45 #[O s,Y #[M N 0,M N p,M N 0,M N 0,M N 0,O ⟨#[]⟩]] w fun e d=>e= U (X #[qF s p,M N (hxF s p)])/\W w.heap.size w d:=by
 have r:=ba b (by omega);have m:=fun w=>ch (s:=s) (i:=p) (by omega) w;rw[f]at m;have n:∀w,Z T 41 #[O s,M N ((p:Int)+1)] w fun e d=>e= U (M .u8 120)/\d=w:=fun w=>by
  have:=eC s l ((p:Int)+1) (p+1) (by omega) w;rw[nA r,b]at this;exact this
 have a:=fun w=>Bi s l p (by omega) w;obtain⟨u,t,g⟩:=Io s p;rw[g]at a⊢;generalize hxF s p=o at a;clear g f b;have j:cA (w.heap.size+1) ((w.alloc (S #[M N 2,M N p,M N 0,M N 0,M N 0,O ⟨#[]⟩] 29)).alloc (S #[M N 0,M N 0,M N 0,M N 0,M N 0,O ⟨#[]⟩] 29)) 0 0 0 0 0 ⟨#[]⟩:=by
  have:=ax (w.alloc (S #[M N 2,M N p,M N 0,M N 0,M N 0,O ⟨#[]⟩] 29)) (S #[M N 0,M N 0,M N 0,M N 0,M N 0,O ⟨#[]⟩] 29);rw[dI]at this;exact this
 have h:W w.heap.size w ((w.alloc (S #[M N 2,M N p,M N 0,M N 0,M N 0,O ⟨#[]⟩] 29)).alloc (S #[M N 0,M N 0,M N 0,M N 0,M N 0,O ⟨#[]⟩] 29)):=(((aq _ w).alloc (ag _) _).alloc (by simp) _);go_in;go_wp2_with (go_at_call 41;refine dz (n _) ?_);refine lc (a _) fun x c=>?_;have k:=j.below c (by simp);have q:=h.trans (c.mono (by simp;omega));clear c j h a n m;obtain⟨z0,y,z,A,B,C,F⟩:=aE k;have E:w.heap.size+1<x.heap.size:=au k;go_wp2;refine bg (v:= X #[Y #[M N 2,M N p,M N u,M N 0,M N t,O ⟨#[]⟩],M N o]) (by simp[results,Tryz.results45,go_sem,z0,y,z,A,B,C]) rfl ⟨rfl,?_⟩
 iterate 6 refine dK ?_ (by simp) _
 exact q
theorem zo(s:ByteArray)(b:s.size<=1100000)(p:Nat)(d:p<s.size)(c:aL (ao s p)=Q)(w:A2):Z T 45 #[O s,Y #[M N 0,M N p,M N 0,M N 0,M N 0,O ⟨#[]⟩]] w fun e f=>e= U (X #[tI s p,M N (ri s p)])/\W w.heap.size w f:=by
 unfold tI ri;split
 ·rename_i a;exact zn s b p a.1 a.2 w
 ·rename_i a;exact zm s b p d c a w
theorem gj{c:Int}{b:Bool}(f:bc c=b)(w:A2):Z T 42 #[M .u8 c] w fun e d=>e= U (Br b)/\d=w:=(ko c w).mono fun e d a=>⟨by rw[a.1,f],a.2.symm⟩
theorem qe(s:ByteArray)(r:s.size<=1100000)(p:Nat)(l:p<s.size)(a:aL (ao s p)=Q)(w:A2):Z T 16 #[O s,M N p] w fun e z=>e= U (X #[tI s p,M N (ri s p)])/\W w.heap.size w z:=by
 have m:=fun w=>ch l w;have t:=dl a;have k:bc (ao s p)=R:=by simp[bc];omega
 have f:=fun w=>gj k w;have d:=fun w=>cI a w;have b:=fun w=>zo s r p l a w;obtain⟨u,y,x,B,h⟩:=E3 s p;rw[h]at b⊢;generalize ri s p=n at b;generalize ao s p=o at m f d t;have I:(o==10)=R:=by rw[aC];omega
 clear k a h;have i:cA w.heap.size ((w.alloc (S #[M N 0,M N 0,M N 0,M N 0,M N 0,O ⟨#[]⟩] 29)).alloc (S #[M N 0,M N p,M N 0,M N 0,M N 0,O ⟨#[]⟩] 29)) 0 0 0 0 0 ⟨#[]⟩:=(cg _ _ _ (by simp)).trans (ax w _);have g:W w.heap.size w ((w.alloc (S #[M N 0,M N 0,M N 0,M N 0,M N 0,O ⟨#[]⟩] 29)).alloc (S #[M N 0,M N p,M N 0,M N 0,M N 0,O ⟨#[]⟩] 29)):=(((aq _ w).alloc (ag _) _).alloc (by simp) _);go_in;go_wp2_with (first|(go_at_call 42;refine dz (f _) ?_)|(go_at_call 44;refine dz (d _) ?_));refine lc (b _) fun A c=>?_;have j:=i.below c (by simp;omega);have q:=g.trans (c.mono (by simp;omega));clear c i g b f d m;obtain⟨z0,C,E,F,G,H,K⟩:=aE j;have J:w.heap.size<A.heap.size:=au j;go_wp2;refine bg (v:= X #[Y #[M N u,M N p,M N y,M N 0,M N x,O B],M N n]) (by simp[results,Tryz.results16,go_sem,z0,C,E,F,G,H]) rfl ⟨rfl,?_⟩
 iterate 6 refine dK ?_ (by simp) _
 exact q
theorem Ip(s:ByteArray)(p:Nat):(ri s p<0↔(bD s p).2=Q)/\∃(k t n:Int) (x:ByteArray),tI s p= Y #[M N k,M N p,M N t,M N 0,M N n,O x]/\((bD s p).2=Q->t=((bD s p).1:Int)/\((k==3)=decide (¬(ao s p=48/\ao s (p+1)=120)/\(vf s p=Q\/kH s p ((bD s p).1-p)=V)))):=by
 unfold ri tI bD;by_cases b:ao s p=48/\ao s (p+1)=120
 ·simp only[ab b];unfold hxF qF;cases hh:(ie s (p+2)).2 with
  |true=>
   simp only[gJ];refine⟨⟨fun _=>trivial,fun _=>by omega⟩,2,_,_,_,rfl,fun _=>⟨rfl,?_⟩⟩;simp[b]
  |false=>
   simp only[aa (show ¬R=Q by simp)];refine⟨⟨fun a=>by omega,fun a=>by cases a⟩,2,_,_,_,rfl,fun a=>by cases a⟩
 ·simp only[aa b];unfold nmF nmA aav;cases hh:(jn s (nA1 s (nA0 s p))).2 with
  |true=>
   simp only[gJ];refine⟨⟨fun _=>trivial,fun _=>by omega⟩,?_⟩;cases hk:vf s p with
   |true=>
    simp only[gJ];exact⟨3,_,_,_,rfl,fun _=>⟨rfl,by simp[b]⟩⟩
   |false=>
    simp only[aa (show ¬R=Q by simp)];cases hc:kH s p ((jn s (nA1 s (nA0 s p))).1-p) with
    |none=>exact⟨3,_,_,_,rfl,fun _=>⟨rfl,by simp[b]⟩⟩
    |some c=>exact⟨2,_,_,_,rfl,fun _=>⟨rfl,by simp⟩⟩
  |false=>
   simp only[aa (show ¬R=Q by simp)];refine⟨⟨fun a=>by omega,fun a=>by cases a⟩,3,_,_,_,rfl,fun a=>by cases a⟩
theorem zp(q:ByteArray)(a:aL (ao q 0)=Q)(d:jn q (nA1 q (nA0 q 0))=(q.size,Q)):sr q=V↔(vf q 0=Q\/kH q 0 q.size=V):=by
 cases hk:vf q 0 with
 |false=>
  obtain⟨b,c⟩:=uk q 0 a hk;have f:nA0 q 0=q.size:=by rw[d]at b;exact(qE b).1.symm
  rw[Be q (li a) (fun e g=>c e (by omega) (by omega))];simp
 |true=>
  simp only[true_or,iff_true];unfold vf at hk;rcases aI hk with h|h
  ·exact rh q a _ (ba h.1 (by omega)) (by rw[h.1];decide)
  ·exact rh q a _ (ba h (by omega)) (by rw[h];decide)
def Bk(q:ByteArray):Bool:=decide (q.size<=40)&&lm q
theorem tu(s:ByteArray)(B:s.size<=1100000)(w:A2):Z T 25 #[O s] w fun e p=>e= U (Br (Bk s))/\W w.heap.size w p:=by
 unfold Bk;by_cases j:0<s.size
 ·have E:((s.size:Int)==0)=R:=by rw[aC];omega
  by_cases r:s.size<=40
  ·have F:¬(40:Int)<(s.size:Int):=by omega
   have x:∀w,(Instr.index 9 (O s) (M N 0)).run T w= .ok (M .u8 (ao s 0)) w:=fun w=>ch j w;by_cases b:aL (ao s 0)=Q
   ·have c:=fun w=>cI b w;have g:∀w,Z T 16 #[O s,M N 0] w fun e p=>e= U (X #[tI s 0,M N (ri s 0)])/\W w.heap.size w p:=fun w=>qe s B 0 j b w;obtain⟨hF,o,G,H,I,t,u⟩:=Ip s 0;rw[t]at g;have v:(decide (s.size<=40)&&lm s)=(decide (ri s 0<0)&&((o==3)&&(G==(s.size:Int)))):=by
     rw[cG r,jf];unfold lm;cases h2:(bD s 0).2 with
     |false=>
      rw[bk (show ¬ri s 0<0 by rw[hF,h2];simp),ip,nc];rintro ⟨_,i,_⟩;rw[i]at h2;cases h2
     |true=>
      obtain⟨C,f⟩:=u h2;rw[cG (hF.2 h2),jf,f,C];by_cases m:(bD s 0).1=s.size
      ·have k:bD s 0=(s.size,Q):=Prod.ext m h2;rw[k];simp only[ng,beq_self_eq_true,Bool.and_true];rw[zb];constructor
       ·rintro ⟨_,_,d,h⟩;have n:jn s (nA1 s (nA0 s 0))=(s.size,Q):=by rw[<-k];unfold bD;rw[aa d]
        exact⟨d,(zp s b n).1 h⟩
       ·rintro ⟨d,h⟩;have n:jn s (nA1 s (nA0 s 0))=(s.size,Q):=by rw[<-k];unfold bD;rw[aa d]
        exact⟨b,trivial,d,(zp s b n).2 h⟩
      ·rw[show((((bD s 0).1:Nat):Int)==(s.size:Int))=R by rw[aC];omega,yF,nc];rintro ⟨_,i,_⟩;rw[i]at m;exact m rfl
    rw[v];clear v u t hF;generalize ri s 0=q at g;generalize ao s 0=z at x c;clear b;by_cases hF:q<0
    ·by_cases f:o=3
     ·subst f;go_in;go_wp2_with (first|(go_at_call 44;refine dz (c _) ?_)|(go_at_call 16;refine(g _).mono ?_;rintro e y ⟨rfl,a⟩));go_ret;exact⟨by simp[hF],a.alloc a.size _⟩
     ·have A:(o==3)=R:=by simp[f]
      clear f;go_in;go_wp2_with (first|(go_at_call 44;refine dz (c _) ?_)|(go_at_call 16;refine(g _).mono ?_;rintro e y ⟨rfl,a⟩));go_ret;exact⟨by simp[A],a.alloc a.size _⟩
    ·go_in;go_wp2_with (first|(go_at_call 44;refine dz (c _) ?_)|(go_at_call 16;refine(g _).mono ?_;rintro e y ⟨rfl,a⟩));go_ret;exact⟨by rw[bk (show ¬q<0 by omega)];simp,a.alloc a.size _⟩
   ·have l:aL (ao s 0)=R:=by simpa using b
    have c:=fun w=>cI l w;rw[show lm s=R by unfold lm;simp[l],yF];clear b l;generalize ao s 0=z at x c;go_in;go_wp2_with (first|(go_at_call 44;refine dz (c _) ?_));go_ret;exact⟨rfl,aq _ _⟩
  ·have F:(40:Int)<(s.size:Int):=by omega
   rw[bk r,ip];go_in;go_wp2;go_ret;exact⟨rfl,aq _ _⟩
 ·have E:((s.size:Int)==0)=Q:=by rw[jj];omega
  rw[show lm s=R by unfold lm;rw[ci j];simp[nw],yF];go_in;go_wp2;go_ret;exact⟨rfl,aq _ _⟩
