import Derived.Test.YtnlhhmlcjbohbaaGreatDoorHNk03
set_option linter.all false
set_option maxRecDepth 100000
set_option maxHeartbeats 3200000
open Go.Value renaming int->M,string->O,tuple->V,agg->X,bool->A2
open Go.IntKind renaming i64->N
open Bool renaming true->Q,false->R
open Go.Proofs.Tryz renaming prog->S
open Go.Ending renaming returned->T
open Option renaming none->U,some->A5
open Go.RowKit renaming Below->W,intOf->Z,Hid->Ax
open Go renaming Calls->Y,World->A0
namespace Go.Proofs.YtnlhhmlcjbohbaaGreatDoor
open Go.RowKit Go.Maps Go.WideMaps
theorem uz(s:ByteArray)(i:Nat)(c:Int)(d:0<c:=by omega):(lk s i==c)=decide (aq s i=c):=by
 unfold lk;split
 ·by_cases a:aq s i=c<;>simp[a]
 ·rename_i a;rw[dl a];have b:((0:Int)==c)=R:=by rw[bH];omega
  rw[b];symm;rw[sL];omega
def C3(s:ByteArray)(p:Nat):Bool:=decide ((aq s (nA0 s p)=46/\bc (aq s (nA0 s p+1))=Q)\/aq s (nA1 s (nA0 s p))=101)
def ajw(s:ByteArray)(p a:Nat)(b:Option Nat):Value:=match b with
 |some c=> X #[M N 2,M N p,M N (a:Int),M N 0,M N (c:Int),O ⟨#[]⟩]
 |none=> X #[M N 3,M N p,M N (a:Int),M N 0,M N 0,O (s.extract p a)]
def nmA(s:ByteArray)(p:Nat):Value:=
 if(ot s (nA1 s (nA0 s p))).2=Q then
  (if C3 s p=Q then X #[M N 3,M N p,M N ((ot s (nA1 s (nA0 s p))).1:Int),M N 0,M N 0,O (s.extract p (ot s (nA1 s (nA0 s p))).1)]
  else ajw s p (ot s (nA1 s (nA0 s p))).1 (rh s p ((ot s (nA1 s (nA0 s p))).1-p)))
 else X #[M N 3,M N p,M N 0,M N 0,M N 0,O ⟨#[]⟩]
def nmF(s:ByteArray)(p:Nat):Int:=if(ot s (nA1 s (nA0 s p))).2=Q then -1 else((ot s (nA1 s (nA0 s p))).1:Int)
theorem JD(s:ByteArray)(p j:Nat)(h:rh s p j=U):∀n,j<=n->rh s p n=U
 |0,a=>by
  obtain rfl:j=0:=by omega
  exact h
 |n+1,a=>by
  rcases jj a with rfl|h2
  ·exact h
  ·rw[rh,JD s p j h n (by omega)]
theorem G6(s:ByteArray)(p:Nat)(f:bc (aq s p)=Q)(a:C3 s p=R):(ot s (nA1 s (nA0 s p)))=(nA0 s p,Q)/\∀i,p<=i->i<nA0 s p->bc (aq s i)=Q:=by
 unfold C3 at a;rw[sL]at a;have d:nA1 s (nA0 s p)=nA0 s p:=by unfold nA1;rw[aa (fun b=>a (.inl b))]
 rw[d]at a⊢;have e:ot s (nA0 s p)=(nA0 s p,Q):=by unfold ot;rw[aa (fun b=>a (.inr b))]
 refine⟨e,fun i g c=>?_⟩;rcases jj g with rfl|h3
 ·exact f
 ·unfold nA0 at c;split at c
  ·omega
  ·exact mC bc s _ (p+1) i h3 c
theorem am2(s:ByteArray)(a:Nat)(h:aq s a=101)(c:bc (aq s (nA2 s a))=R):ot s a=(nA2 s a,R):=by
 have b:oD s (nA2 s a)=nA2 s a:=by unfold oD ic;rw[aa (by rw[c];simp)]
 unfold ot;rw[ab h,b];simp
theorem ajx(s:ByteArray)(a:Nat)(e:a<s.size)(h:aq s a=101)(b:bc (aq s (nA2 s a))=Q):ot s a=(oD s (nA2 s a),Q):=by
 have f:=qc b;have d:=oq bc tB s s.size (nA2 s a+1) (by omega);have c:oD s (nA2 s a)=ic bc s s.size (nA2 s a+1):=by
  show ic bc s (s.size+1) (nA2 s a)=_;rw[ic,ab b]
 unfold ot;rw[ab h,c];simp;omega
theorem afs(s:ByteArray)(a:Nat)(h:aq s a=101):a<nA2 s a/\nA2 s a<=s.size:=by
 have b:=bz h;unfold nA2;split
 ·rename_i hs;rcases hs with hs|hs
  ·have:=bz hs;omega
  ·have:=bz hs;omega
 ·omega
theorem qe(s:ByteArray)(k:Nat):bc (aq s k)=Q\/bc (aq s k)=R:=by cases bc (aq s k)<;>simp
theorem G7(s:ByteArray)(I:s.size<=1100000)(p:Nat)(eb:p<s.size)(cx:bc (aq s p)=Q)(B:¬(aq s p=48/\aq s (p+1)=120))(w:A0):Y S 55 #[O s,X #[M N 0,M N p,M N 0,M N 0,M N 0,O ⟨#[]⟩]] w fun e u=>e= T (V #[nmA s p,M N (nmF s p)])/\W w.heap.size w u:=by
 obtain⟨eh,cp⟩:=aA (nmA s p);obtain⟨e7,cr⟩:=aA (nmF s p);rw[cp,cr];have k:=aw cp;have o:=aw cr;clear cp cr;have cz:=fun w=>db eb w;go_in;go_upto_region 3 with fail
 generalize dk:(w.alloc _).alloc _=b5;obtain⟨a,c0,cq, -⟩:=GI dk;have cc:dE w.heap.size b5 2 p 0 0 0 ⟨#[]⟩:=a;have ce:dE (w.heap.size+1) b5 0 0 0 0 0 ⟨#[]⟩:=c0;clear dk a c0;have eF:w.heap.size+1<b5.heap.size:=ai ce;obtain⟨L,ad,af,ag,ak,al,am⟩:=aJ cc;go_cut [22] from 9 (fun e4 r=>e4= A2 R/\r=b5)
 case first=>
  by_cases z:aq s p=48
  ·rw[z]at cz;have d7:¬aq s (p+1)=120:=fun h=>B ⟨z,h⟩;have em:(lk s (p+1)==120)=R:=by rw[uz _ _ _];simpa using d7
   have f:∀w,Y S 51 #[O s,M N ((p:Int)+1)] w fun e u=>e= T (M .u8 (lk s (p+1)))/\u=w:=fun w=>gK s I _ (p+1) (by omega) w;generalize lk s (p+1)=n at f em;clear z d7 B cx k o;go_wp2_with (go_at_call 51;refine eH (f _) ?_);go_meet
   case rel=>exact⟨rfl,rfl⟩
  ·have b9:(aq s p==48)=R:=by rw[bH];exact z
   generalize aq s p=n at cz b9;clear z B k o;go_wp2_with fail;go_meet
   case rel=>exact⟨rfl,rfl⟩
 case rest=>
  obtain⟨rfl,rfl⟩:=hcut;go_upto_if 34 with fail
  go_cut [6] from 9 (fun a8 r=>a8= M N (nA0 s p:Int)/\r=wc)
  case first=>
   by_cases z:aq s p=48
   ·have en:Ax (nA0 s p=p+1):=by show _=_;unfold nA0;rw[ab z]
    rw[z];clear z B k o;go_wp2_with fail;go_meet
    case rel=>exact⟨by rw[en.out];go_num,rfl⟩
   ·have E:Ax (ic bc s (s.size+1) (p+1)=nA0 s p):=by show _=_;unfold nA0;rw[aa z];rfl
    have b9:(aq s p !=48)=Q:=by rw[Ci];exact z
    rw[b9];obtain⟨g,t⟩:=aA (nA0 s p);rw[t]at E;have A:=aw t;clear z B k o b9 t;go_wp2_with fail;go_loop [6] (fun i=>∃(b l:Nat),b<=s.size/\s.size<b+l/\i= M N b/\Ax (ic bc s l b=g)) (fun i=>s.size-(Z i).toNat)
    case atStart=>exact⟨p+1,s.size+1,by omega,by omega,by first|rfl|(congr 1;omega),E⟩
    case round=>
     obtain⟨b,l,d3,d1,rfl,bl⟩:=hrel;obtain⟨l,rfl⟩:∃bo,l=bo+1:=⟨l-1,by omega⟩;have d:=bl.out;unfold ic at d;have f:=fun w=>gK s I (b:Int) b rfl w;rcases qe s b with h1|h1
     ·have d6:b<s.size:=qc h1;have c:=fun w=>ed ((pK s b).trans h1) w;rw[ab h1]at d;have m:=aw d;generalize lk s b=n at f c;clear d h1;go_wp2_with (first|(go_at_call 51;refine eH (f _) ?_)|(go_at_call 54;refine eH (c _) ?_));go_round
      case rel=>exact⟨b+1,l,by omega,by omega,by go_num,m⟩
      case measure=>simp[Z];omega
     ·have c:=fun w=>ed ((pK s b).trans h1) w;rw[aa (by rw[h1];simp)]at d;have m:=aw d;generalize lk s b=n at f c;clear d h1;go_wp2_with (first|(go_at_call 51;refine eH (f _) ?_)|(go_at_call 54;refine eH (c _) ?_));go_meet
      case rel=>exact⟨by rw[A.out,<-m.out],rfl⟩
  case rest=>
   obtain⟨rfl,rfl⟩:=hcut;have cn:=Aa s p eb;go_upto_region 9 with fail
   obtain⟨D,dc⟩:∃D:Bool,decide (aq s (nA0 s p)=46/\bc (aq s (nA0 s p+1))=Q)=D:=⟨_,rfl⟩;have x:=aw dc;clear dc;go_cut [51] from 9 (fun e5 r=>e5= A2 D/\r=wc)
   case first=>
    have f:=fun w=>gK s I (nA0 s p:Int) (nA0 s p) rfl w;have C:∀w,Y S 51 #[O s,M N ((nA0 s p:Int)+1)] w fun e u=>e= T (M .u8 (lk s (nA0 s p+1)))/\u=w:=fun w=>gK s I _ (nA0 s p+1) (by omega) w;have br:=uz s (nA0 s p) 46;by_cases a4:aq s (nA0 s p)=46
    ·rw[bv a4]at br;have a5:=x.out;rcases qe s (nA0 s p+1) with h1|h1
     ·have c:=fun w=>ed ((pK s (nA0 s p+1)).trans h1) w;rw[bv ⟨a4,h1⟩]at a5;subst a5;generalize lk s (nA0 s p+1)=ek at C c;generalize lk s (nA0 s p)=n at f br;clear a4 h1 x k o;go_wp2_with (first|(go_at_call 51;first|(with_reducible refine eH (f _) ?_)|(with_reducible refine eH (C _) ?_))|(go_at_call 54;refine eH (c _) ?_));go_meet
      case rel=>exact⟨rfl,rfl⟩
     ·have c:=fun w=>ed ((pK s (nA0 s p+1)).trans h1) w;rw[aD (fun h=>by rw[h.2]at h1;cases h1)]at a5;subst a5;generalize lk s (nA0 s p+1)=ek at C c;generalize lk s (nA0 s p)=n at f br;clear a4 h1 x k o;go_wp2_with (first|(go_at_call 51;first|(with_reducible refine eH (f _) ?_)|(with_reducible refine eH (C _) ?_))|(go_at_call 54;refine eH (c _) ?_));go_meet
      case rel=>exact⟨rfl,rfl⟩
    ·rw[aD a4]at br;have a5:=x.out;rw[aD (fun h=>a4 h.1)]at a5;subst a5;generalize lk s (nA0 s p)=n at f br;clear a4 x k o;go_wp2_with (first|(go_at_call 51;refine eH (f _) ?_));go_meet
     case rel=>exact⟨rfl,rfl⟩
   case rest=>
    obtain⟨rfl,rfl⟩:=hcut;go_upto_if 51 with fail
    go_cut [6] from 9 (fun a8 r=>a8= M N (nA1 s (nA0 s p):Int)/\dE w.heap.size r (if D=Q then 3 else 2) p 0 0 0 ⟨#[]⟩/\dE (w.heap.size+1) r 0 0 0 0 0 ⟨#[]⟩/\W w.heap.size w r)
    case first=>
     cases D with
     |true=>
      have bj:=aG x.out;have E:Ax (ic bc s (s.size+1) (nA0 s p+1)=nA1 s (nA0 s p)):=by show _=_;unfold nA1;rw[ab bj];rfl
      have ev:=qc bj.2;obtain⟨g,t⟩:=aA (nA1 s (nA0 s p));rw[t]at E;have A:=aw t;generalize nA0 s p=ef at E ev cn⊢;clear bj x k o B t;have F:=cc.setKind 3;have G:=ce.other (a:=⟨w.heap.size,0,U⟩) (by simp) (M N 3);have J:W w.heap.size w (wc.setCell ⟨w.heap.size,0,U⟩ (M N 3)):=cq.setCell (by simp) _;go_wp2_with fail;go_loop [6] (fun i=>∃(b l:Nat),b<=s.size/\s.size<b+l/\i= M N b/\Ax (ic bc s l b=g)) (fun i=>s.size-(Z i).toNat)
      case atStart=>exact⟨ef+1,s.size+1,by omega,by omega,by first|rfl|(congr 1;omega),E⟩
      case round=>
       obtain⟨b,l,d3,d1,rfl,bl⟩:=hrel;obtain⟨l,rfl⟩:∃bo,l=bo+1:=⟨l-1,by omega⟩;have d:=bl.out;unfold ic at d;have f:=fun w=>gK s I (b:Int) b rfl w;rcases qe s b with h1|h1
       ·have d6:b<s.size:=qc h1;have c:=fun w=>ed ((pK s b).trans h1) w;rw[ab h1]at d;have m:=aw d;generalize lk s b=n at f c;clear d h1;go_wp2_with (first|(go_at_call 51;refine eH (f _) ?_)|(go_at_call 54;refine eH (c _) ?_));go_round
        case rel=>exact⟨b+1,l,by omega,by omega,by go_num,m⟩
        case measure=>simp[Z];omega
       ·have c:=fun w=>ed ((pK s b).trans h1) w;rw[aa (by rw[h1];simp)]at d;have m:=aw d;generalize lk s b=n at f c;clear d h1;go_wp2_with (first|(go_at_call 51;refine eH (f _) ?_)|(go_at_call 54;refine eH (c _) ?_));go_meet
        case rel=>exact⟨by rw[A.out,<-m.out],F,G,J⟩
     |false=>
      have bj:=jg x.out;have t:nA1 s (nA0 s p)=nA0 s p:=by unfold nA1;rw[aa bj]
      have A:=aw t;clear bj x k o B t;go_wp2_with fail;go_meet
      case rel=>exact⟨by rw[A.out],cc,ce,cq⟩
    case rest=>
     obtain⟨rfl,a6,bh,ca⟩:=hcut;clear cc ce cq L ad af ag ak al am eF;have c4:=Ab s _ cn.2;have f:=fun w=>gK s I (nA1 s (nA0 s p):Int) (nA1 s (nA0 s p)) rfl w;have c6:=uz s (nA1 s (nA0 s p)) 101;obtain⟨a3,cv⟩:∃a3:Bool,decide (aq s (nA1 s (nA0 s p))=101)=a3:=⟨_,rfl⟩;have a9:=aw cv;rw[cv]at c6;clear cv;obtain⟨L,ad,af,ag,ak,al,am⟩:=aJ a6;obtain⟨z0,an,ao,ap,ar,av,ck⟩:=aJ bh;have bk:w.heap.size<wc.heap.size:=ai a6;have ch:w.heap.size+1<wc.heap.size:=ai bh;go_upto_if 64 with(go_at_call 51;refine(f _).mono ?_;rintro e u ⟨rfl,y⟩;obtain rfl:=y.symm)
     clear f c6;go_cut [6] from 9 (fun a8 r=>a8= M N ((ot s (nA1 s (nA0 s p))).1:Int)/\(ot s (nA1 s (nA0 s p))).2=Q/\dE w.heap.size r (if(D||a3)=Q then 3 else 2) p 0 0 0 ⟨#[]⟩/\dE (w.heap.size+1) r 0 0 0 0 0 ⟨#[]⟩/\W w.heap.size w r)
     case first=>
      cases a3 with
      |false=>
       have K:=jg a9.out;have A:Ax (ot s (nA1 s (nA0 s p))=(nA1 s (nA0 s p),Q)):=by show _=_;unfold ot;rw[aa K]
       rw[<-Cc D]at a6;clear K a9 k o x B;go_wp2_with fail;go_meet
       case rel=>exact⟨by rw[A.out],by rw[A.out],a6,bh,ca⟩
      |true=>
       have K:=aG a9.out;have bw:=am2 s (nA1 s (nA0 s p)) K;have bA:=ajx s (nA1 s (nA0 s p)) (bz K) K;have c3:=afs s (nA1 s (nA0 s p)) K;have C:∀w,Y S 51 #[O s,M N ((nA1 s (nA0 s p):Int)+1)] w fun e u=>e= T (M .u8 (lk s (nA1 s (nA0 s p)+1)))/\u=w:=fun w=>gK s I _ (nA1 s (nA0 s p)+1) (by omega) w;have b7:=uz s (nA1 s (nA0 s p)+1) 43;have b8:=uz s (nA1 s (nA0 s p)+1) 45;have bd:Ax (nA2 s (nA1 s (nA0 s p))=if decide (aq s (nA1 s (nA0 s p)+1)=43)=Q\/decide (aq s (nA1 s (nA0 s p)+1)=45)=Q then nA1 s (nA0 s p)+1+1 else nA1 s (nA0 s p)+1):=by show _=_;unfold nA2;simp
       generalize decide (aq s (nA1 s (nA0 s p)+1)=43)=cm at b7 bd;generalize decide (aq s (nA1 s (nA0 s p)+1)=45)=b3 at b8 bd;have F:=a6.setKind 3;have G:=bh.other (a:=⟨w.heap.size,0,U⟩) (by simp) (M N 3);have J:W w.heap.size w (wc.setCell ⟨w.heap.size,0,U⟩ (M N 3)):=ca.setCell (by simp) _;obtain⟨b6,cu⟩:=aA (wc.setCell ⟨w.heap.size,0,U⟩ (M N 3));rw[cu]at F G J;have cI:=aw cu;clear K a9 x B cu;go_upto_region 17 with fail
       rw[cI.out];clear cI a6 bh ca L ad af ag ak al am z0 an ao ap ar av ck bk ch;obtain⟨L,ad,af,ag,ak,al,am⟩:=aJ F;obtain⟨z0,an,ao,ap,ar,av,ck⟩:=aJ G;have bk:w.heap.size<b6.heap.size:=ai F;have ch:w.heap.size+1<b6.heap.size:=ai G;go_cut [77] from 9 (fun e6 r=>e6= A2 (b3||cm)/\r=b6)
       case first=>
        generalize lk s (nA1 s (nA0 s p)+1)=n at C b7 b8;clear k o bw bA bd;cases b3 with
        |true=>
         go_wp2_with (first|(go_at_call 51;refine(C _).mono ?_;rintro e u ⟨rfl,y⟩;obtain rfl:=y.symm));go_meet
         case rel=>exact⟨rfl,rfl⟩
        |false=>
         go_wp2_with (first|(go_at_call 51;refine(C _).mono ?_;rintro e u ⟨rfl,y⟩;obtain rfl:=y.symm));go_meet
         case rel=>exact⟨rfl,rfl⟩
       case rest=>
        obtain⟨rfl,bD⟩:=hcut;obtain rfl:=bD.symm;clear bD;go_upto_if 77 with fail
        go_cut [6] from 9 (fun a8 r=>a8= M N (nA2 s (nA1 s (nA0 s p)):Int)/\r=b6)
        case first=>
         clear k o bw bA b7 b8 C;obtain⟨b4,cs⟩:∃b4:Bool,(b3||cm)=b4:=⟨_,rfl⟩;have c8:Ax (nA2 s (nA1 s (nA0 s p))=if b4=Q then nA1 s (nA0 s p)+1+1 else nA1 s (nA0 s p)+1):=by show _=_;rw[bd.out,<-cs];cases b3<;>cases cm<;>simp
         rw[cs];clear cs bd;cases b4 with
         |true=>
          go_wp2_with fail;go_meet
          case rel=>exact⟨by rw[c8.out];simp only[iK];go_num,rfl⟩
         |false=>
          go_wp2_with fail;go_meet
          case rel=>exact⟨by rw[c8.out];simp,rfl⟩
        case rest=>
         obtain⟨rfl,bD⟩:=hcut;obtain rfl:=bD.symm;clear bD bd b7 b8 C;have a7:=fun w=>gK s I (nA2 s (nA1 s (nA0 s p)):Int) (nA2 s (nA1 s (nA0 s p))) rfl w;rcases qe s (nA2 s (nA1 s (nA0 s p))) with h1|h1
         ·have c:=fun w=>ed ((pK s (nA2 s (nA1 s (nA0 s p)))).trans h1) w;have cB:Ax (ot s (nA1 s (nA0 s p))=(oD s (nA2 s (nA1 s (nA0 s p))),Q)):=bA h1;obtain⟨g,t⟩:=aA (oD s (nA2 s (nA1 s (nA0 s p))));have E:=aw t;have A:=aw t;generalize lk s (nA2 s (nA1 s (nA0 s p)))=el at a7 c;generalize nA2 s (nA1 s (nA0 s p))=eg at E c3 a7⊢;clear bw bA t h1 k o;go_wp2_with (first|(go_at_call 51;refine(a7 _).mono ?_;rintro e u ⟨rfl,y⟩;obtain rfl:=y.symm)|(go_at_call 54;refine(c _).mono ?_;rintro e u ⟨rfl,y⟩;obtain rfl:=y.symm));clear a7 c;go_loop [6] (fun i=>∃(b l:Nat),b<=s.size/\s.size<b+l/\i= M N b/\Ax (ic bc s l b=g)) (fun i=>s.size-(Z i).toNat)
          case atStart=>exact⟨eg,s.size+1,by omega,by omega,by first|rfl|(congr 1;omega),E⟩
          case round=>
           obtain⟨b,l,d3,d1,rfl,bl⟩:=hrel;obtain⟨l,rfl⟩:∃bo,l=bo+1:=⟨l-1,by omega⟩;have d:=bl.out;unfold ic at d;have f:=fun w=>gK s I (b:Int) b rfl w;rcases qe s b with h1|h1
           ·have d6:b<s.size:=qc h1;have c:=fun w=>ed ((pK s b).trans h1) w;rw[ab h1]at d;have m:=aw d;generalize lk s b=n at f c;clear d h1;go_wp2_with (first|(go_at_call 51;refine eH (f _) ?_)|(go_at_call 54;refine eH (c _) ?_));go_round
            case rel=>exact⟨b+1,l,by omega,by omega,by go_num,m⟩
            case measure=>simp[Z];omega
           ·have c:=fun w=>ed ((pK s b).trans h1) w;rw[aa (by rw[h1];simp)]at d;have m:=aw d;generalize lk s b=n at f c;clear d h1;go_wp2_with (first|(go_at_call 51;refine eH (f _) ?_)|(go_at_call 54;refine eH (c _) ?_));go_meet
            case rel=>exact⟨by rw[cB.out,A.out,<-m.out],by rw[cB.out],by simpa using F,G,J⟩
         ·have c:=fun w=>ed ((pK s (nA2 s (nA1 s (nA0 s p)))).trans h1) w;have dx:=bw h1;have j:=k.out;have H:=o.out;unfold nmA at j;unfold nmF at H;rw[dx]at j H;simp only[aa (show ¬R=Q by simp)]at j H;subst j;obtain⟨cl,dd⟩:∃cl:Int,(nA2 s (nA1 s (nA0 s p)):Int)=cl:=⟨_,rfl⟩;rw[dd]at H a7⊢;subst H;generalize lk s (nA2 s (nA1 s (nA0 s p)))=el at a7 c;clear dx h1 bw bA k o c3 dd;go_wp2_with (first|(go_at_call 51;refine(a7 _).mono ?_;rintro e u ⟨rfl,y⟩;obtain rfl:=y.symm)|(go_at_call 54;refine(c _).mono ?_;rintro e u ⟨rfl,y⟩;obtain rfl:=y.symm));refine aI (v:= V #[X #[M N 3,M N p,M N 0,M N 0,M N 0,O ⟨#[]⟩],M N cl]) (by simp[results,Tryz.results55,go_sem,z0,an,ao,ap,ar,av]) rfl ⟨rfl,?_⟩
          iterate 6 refine fJ ?_ (by simp) _
          exact J
     case rest=>
      obtain⟨rfl,d9,bf,dn,c9⟩:=hcut;have c5:=G5 s _ c4.2;have df:C3 s p=(D||a3):=by unfold C3;rw[<-x.out,<-a9.out];simp
      have cw:=G6 s p cx;have j:=k.out;have H:=o.out;unfold nmA at j;unfold nmF at H;rw[ab d9]at j H;subst H;rw[df]at j cw;have ew:p<(ot s (nA1 s (nA0 s p))).1:=by omega
      have et:(ot s (nA1 s (nA0 s p))).1<=s.size:=c5.2;have cf:(D||a3)=R->∀i,p<=i->i<(ot s (nA1 s (nA0 s p))).1->bc (aq s i)=Q:=fun h i h1 c7=>by
       have d2:=cw h;exact d2.2 i h1 (by rw[d2.1]at c7;exact c7)
      clear cw df x a9 k o d9 c5 c4 cn B cz cx;generalize (D||a3)=a2 at bf j cf;generalize (ot s (nA1 s (nA0 s p))).1=g at ew et j cf⊢;clear a6 bh ca L ad af ag ak al am z0 an ao ap ar av ck bk ch;obtain⟨bb,ct⟩:=aA (rh s p (g-p));rw[ct]at j;have bn:=aw ct;have k:=aw j;have b1:=aw cf;clear j cf ct;obtain⟨b0,cg⟩:∃b0:Int,(if a2=Q then(3:Int) else 2)=b0:=⟨_,rfl⟩;rw[cg]at bf;have cF:Ax ((b0=2/\a2=R/\(0:Int)<=0/\rh s p (p-p)=A5 (0:Int).toNat)\/(b0=3/\(a2=Q\/bb=U))):=by
       cases a2 with
       |true=>exact .inr ⟨cg.symm,.inl rfl⟩
       |false=>exact .inl ⟨cg.symm,rfl,by omega,by rw[eD];rfl⟩
      clear cg;obtain⟨L,ad,af,ag,ak,al,am⟩:=aJ bf;have bk:w.heap.size<wc.heap.size:=ai bf;have F:=bf.setTo (g:Int);have G:=dn.other (a:=⟨w.heap.size,2,U⟩) (by simp) (M N (g:Int));have J:W w.heap.size w (wc.setCell ⟨w.heap.size,2,U⟩ (M N (g:Int))):=c9.setCell (by simp) _;go_wp2_with fail;go_loopw [7,8] (fun e1 i wr=>∃(b:Nat) (c a:Int),p<=b/\b<=g/\i= M N b/\e1= M .u64 a/\dE w.heap.size wr c p (g:Int) 0 0 ⟨#[]⟩/\dE (w.heap.size+1) wr 0 0 0 0 0 ⟨#[]⟩/\W w.heap.size w wr/\Ax ((c=2/\a2=R/\0<=a/\rh s p (b-p)=A5 a.toNat)\/(c=3/\(a2=Q\/bb=U)))) (fun _ i _=>g-(Z i).toNat)
      case atStart=>exact⟨p,b0,0,ae _,by omega,rfl,rfl,F,G,J,cF⟩
      case round=>
       obtain⟨b,c,a,ex,e9,rfl,rfl,bs,bt,be,d⟩:=hrel;clear F G J bf dn c9 L ad af ag ak al am bk cF;obtain⟨L,ad,af,ag,ak,al,am⟩:=aJ bs;obtain⟨z0,an,ao,ap,ar,av,ck⟩:=aJ bt;have bk:w.heap.size<wr.heap.size:=ai bs;have ch:w.heap.size+1<wr.heap.size:=ai bt;rcases d.out with⟨rfl,cb,e8,bx⟩|⟨rfl,ea⟩
       ·have ds:=am1 s p _ _ bx;by_cases d4:b<g
        ·have d0:=b1.out cb b ex d4;have es:=fe d0;have e0:=fun w=>db (s:=s) (i:=b) (by omega) w;have cy:rh s p (b+1-p)=if a.toNat*10+(aq s b-48).toNat<=9223372036854775807 then A5 (a.toNat*10+(aq s b-48).toNat) else U:=by
          rw[show b+1-p=(b-p)+1 by omega,rh,bx,show p+(b-p)=b by omega]
         have ei:a<=9223372036854775807:=by omega
         have d8:rh s p (b+1-p)=U->bb=U:=fun h=>by rw[<-bn.out];exact JD s p _ h _ (by omega)
         have m:Ax ((¬a*10+(aq s b-48)<=9223372036854775807->bb=U)/\(a*10+(aq s b-48)<=9223372036854775807->rh s p (b+1-p)=A5 (a*10+(aq s b-48)).toNat)):=by
          refine⟨fun h=>d8 (by rw[cy,aa (by omega)]),fun h=>?_⟩;rw[cy,ab (by omega)]
          congr 1
          omega
         generalize aq s b=n at e0 es m;clear d0 cy d8 bx d b1 bn k ds;have dg:=bs.setKind 3;have dq:=bt.other (a:=⟨w.heap.size,0,U⟩) (by simp) (M N 3);have da:W w.heap.size w (wr.setCell ⟨w.heap.size,0,U⟩ (M N 3)):=be.setCell (by simp) _;have d5:(b:Int)<(g:Int):=by omega
         rcases(show 922337203685477580<a\/(a=922337203685477580/\55<n)\/(a=922337203685477580/\¬55<n)\/a<922337203685477580 by omega) with q|⟨q,e2⟩|⟨q,e2⟩|q
         ·have a0:Ax (bb=U):=m.1 (by omega);clear m;go_wp2;go_roundw
          case rel=>exact⟨b+1,3,_,by omega,by omega,by go_num,rfl,dg,dq,da,.inr ⟨rfl,.inr a0⟩⟩
          case measure=>simp[Z];omega
         ·have a0:Ax (bb=U):=m.1 (by omega);have ee:(a==922337203685477580)=Q:=by rw[jk];exact q
          have ec:¬922337203685477580<a:=by omega
          clear m q;go_wp2;go_roundw
          case rel=>exact⟨b+1,3,_,by omega,by omega,by go_num,rfl,dg,dq,da,.inr ⟨rfl,.inr a0⟩⟩
          case measure=>simp[Z];omega
         ·have a0:Ax (rh s p (b+1-p)=A5 (a*10+(n-48)).toNat):=m.2 (by omega);have ee:(a==922337203685477580)=Q:=by rw[jk];exact q
          have ec:¬922337203685477580<a:=by omega
          have e3:a*10+(n-48)<=9223372036854775807:=by omega
          clear m q;go_wp2;go_roundw
          case rel=>exact⟨b+1,2,a*10+(n-48),by omega,by omega,by go_num,by first|rfl|(congr 1;omega),bs,bt,be,.inl ⟨rfl,cb,by omega,a0⟩⟩
          case measure=>simp[Z];omega
         ·have a0:Ax (rh s p (b+1-p)=A5 (a*10+(n-48)).toNat):=m.2 (by omega);have ee:(a==922337203685477580)=R:=by rw[bH];omega
          have ec:¬922337203685477580<a:=by omega
          have e3:a*10+(n-48)<=9223372036854775807:=by omega
          clear m;go_wp2;go_roundw
          case rel=>exact⟨b+1,2,a*10+(n-48),by omega,by omega,by go_num,by first|rfl|(congr 1;omega),bs,bt,be,.inl ⟨rfl,cb,by omega,a0⟩⟩
          case measure=>simp[Z];omega
        ·obtain rfl:b=g:=by omega
         have j:=k.out;rw[cb,<-bn.out,bx]at j;simp only[aa (show ¬R=Q by simp),ajw]at j;rw[show((a.toNat:Nat):Int)=a by omega]at j;subst j;have fa:wrap64 a=a:=by unfold wrap64;omega
         have ei:a<=9223372036854775807:=by omega
         clear k bn b1 d bx ds;go_wp2;refine aI (v:= V #[X #[M N 2,M N p,M N (b:Int),M N 0,M N a,O ⟨#[]⟩],M N (-1)]) (by simp[results,Tryz.results55,go_sem,z0,an,ao,ap,ar,av]) rfl ⟨rfl,?_⟩
         iterate 7 refine fJ ?_ (by simp) _
         exact be
       ·have j:=k.out;have eq:Value.agg #[M N 3,M N p,M N (g:Int),M N 0,M N 0,O (s.extract p g)]=eh:=by
         rcases ea with h|h
         ·rw[h]at j;exact j
         ·rw[h]at j;cases a2<;>exact j
        subst eq;clear j k bn b1 d ea;by_cases d4:b<g
        ·have d5:(b:Int)<(g:Int):=by omega
         go_wp2;refine aI (v:= V #[X #[M N 3,M N p,M N (g:Int),M N 0,M N 0,O (s.extract p g)],M N (-1)]) (by simp[results,Tryz.results55,go_sem,z0,an,ao,ap,ar,av]) rfl ⟨rfl,?_⟩
         iterate 7 refine fJ ?_ (by simp) _
         exact be
        ·have d5:¬(b:Int)<(g:Int):=by omega
         go_wp2;refine aI (v:= V #[X #[M N 3,M N p,M N (g:Int),M N 0,M N 0,O (s.extract p g)],M N (-1)]) (by simp[results,Tryz.results55,go_sem,z0,an,ao,ap,ar,av]) rfl ⟨rfl,?_⟩
         iterate 7 refine fJ ?_ (by simp) _
         exact be
theorem aft(s:ByteArray)(p:Nat):∃(t n:Int),hxA s p= X #[M N 2,M N p,M N t,M N 0,M N n,O ⟨#[]⟩]:=by
 unfold hxA;split<;>exact⟨_,_,rfl⟩
def BA(s:ByteArray)(p:Nat):Value:=if aq s p=48/\aq s (p+1)=120 then hxA s p else nmA s p
def yF(s:ByteArray)(p:Nat):Int:=if aq s p=48/\aq s (p+1)=120 then hxF s p else nmF s p
theorem am3(s:ByteArray)(p:Nat):∃(k t n:Int) (x:ByteArray),nmA s p= X #[M N k,M N p,M N t,M N 0,M N n,O x]:=by
 unfold nmA ajw;split
 ·split
  ·exact⟨_,_,_,_,rfl⟩
  ·split<;>exact⟨_,_,_,_,rfl⟩
 ·exact⟨_,_,_,_,rfl⟩
theorem aci(s:ByteArray)(p:Nat):∃(k t n:Int) (x:ByteArray),BA s p= X #[M N k,M N p,M N t,M N 0,M N n,O x]:=by
 unfold BA;split
 ·obtain⟨t,n,a⟩:=aft s p;exact⟨_,_,_,_,a⟩
 ·exact am3 s p
theorem G8(s:ByteArray)(n:s.size<=1100000)(p:Nat)(g:aq s p=48)(b:aq s (p+1)=120)(w:A0):Y S 55 #[O s,X #[M N 0,M N p,M N 0,M N 0,M N 0,O ⟨#[]⟩]] w fun e d=>e= T (V #[hxA s p,M N (hxF s p)])/\W w.heap.size w d:=by
 have x:=bz b;have o:=fun w=>db (s:=s) (i:=p) (by omega) w;rw[g]at o;have q:∀w,Y S 51 #[O s,M N ((p:Int)+1)] w fun e d=>e= T (M .u8 120)/\d=w:=fun w=>by
  have:=gK s n ((p:Int)+1) (p+1) (by omega) w;rw[tH x,b]at this;exact this
 have a:=fun w=>JC s n p (by omega) w;obtain⟨A,z,h⟩:=aft s p;rw[h]at a⊢;generalize hxF s p=r at a;clear h g b;go_in;go_wp2_with (go_at_call 51;refine eH (q _) ?_);generalize k:(w.alloc _).alloc _=t;obtain⟨-,f,j,y⟩:=GI k;have l:dE (w.heap.size+1) t 0 0 0 0 0 ⟨#[]⟩:=f;clear k f;refine cJ (a _) fun B c=>?_;have m:=l.below c (by omega);have u:=j.trans (c.mono (by omega));clear c l j y a q o;obtain⟨z0,C,E,F,G,H,J⟩:=aJ m;have I:w.heap.size+1<B.heap.size:=ai m;go_wp2;refine aI (v:= V #[X #[M N 2,M N p,M N A,M N 0,M N z,O ⟨#[]⟩],M N r]) (by simp[results,Tryz.results55,go_sem,z0,C,E,F,G,H]) rfl ⟨rfl,?_⟩
 iterate 6 refine fJ ?_ (by simp) _
 exact u
theorem G9(s:ByteArray)(b:s.size<=1100000)(p:Nat)(d:p<s.size)(c:bc (aq s p)=Q)(w:A0):Y S 55 #[O s,X #[M N 0,M N p,M N 0,M N 0,M N 0,O ⟨#[]⟩]] w fun e f=>e= T (V #[BA s p,M N (yF s p)])/\W w.heap.size w f:=by
 unfold BA yF;split
 ·rename_i a;exact G8 s b p a.1 a.2 w
 ·rename_i a;exact G7 s b p d c a w
theorem jF{c:Int}{b:Bool}(h:ba c=b)(w:A0):Y S 52 #[M .u8 c] w fun e d=>e= T (A2 b)/\d=w:=(pm c w).mono fun e d a=>⟨by rw[a.1,h],a.2.symm⟩
theorem xr(s:ByteArray)(x:s.size<=1100000)(p:Nat)(n:p<s.size)(a:bc (aq s p)=Q)(w:A0):Y S 22 #[O s,M N p] w fun e E=>e= T (V #[BA s p,M N (yF s p)])/\W w.heap.size w E:=by
 have o:=fun w=>db n w;have y:=fe a;have m:ba (aq s p)=R:=by simp[ba];omega
 have f:=fun w=>jF m w;have d:=fun w=>ed a w;have b:=fun w=>G9 s x p n a w;obtain⟨A,C,B,G,i⟩:=aci s p;rw[i]at b⊢;generalize yF s p=q at b;generalize aq s p=t at o f d y;have ad:(t==10)=R:=by rw[bH];omega
 clear m a i;go_in;go_wp2_with (first|(go_at_call 52;refine eH (f _) ?_)|(go_at_call 54;refine eH (d _) ?_));generalize j:(w.alloc _).alloc _=r;obtain⟨g, -,h,z⟩:=GI j;have k:dE w.heap.size r 0 0 0 0 0 ⟨#[]⟩:=g;clear j g;refine cJ (b _) fun F c=>?_;have l:=k.below c (by omega);have u:=h.trans (c.mono (by omega));clear c k h z b f d o;obtain⟨z0,H,I,J,K,L,ag⟩:=aJ l;have af:w.heap.size<F.heap.size:=ai l;go_wp2;refine aI (v:= V #[X #[M N A,M N p,M N C,M N 0,M N B,O G],M N q]) (by simp[results,Tryz.results22,go_sem,z0,H,I,J,K,L]) rfl ⟨rfl,?_⟩
 iterate 6 refine fJ ?_ (by simp) _
 exact u
theorem afu(s:ByteArray)(p:Nat):(yF s p<0↔(cK s p).2=Q)/\∃(k t n:Int) (x:ByteArray),BA s p= X #[M N k,M N p,M N t,M N 0,M N n,O x]/\((cK s p).2=Q->t=((cK s p).1:Int)/\((k==3)=decide (¬(aq s p=48/\aq s (p+1)=120)/\(C3 s p=Q\/rh s p ((cK s p).1-p)=U)))):=by
 unfold yF BA cK;by_cases b:aq s p=48/\aq s (p+1)=120
 ·simp only[ab b];unfold hxF hxA;cases hh:(mD s (p+2)).2 with
  |true=>
   simp only[iK];refine⟨⟨fun _=>trivial,fun _=>by omega⟩,2,_,_,_,rfl,fun _=>⟨rfl,?_⟩⟩;simp[b]
  |false=>
   simp only[aa (show ¬R=Q by simp)];refine⟨⟨fun a=>by omega,fun a=>by cases a⟩,2,_,_,_,rfl,fun a=>by cases a⟩
 ·simp only[aa b];unfold nmF nmA ajw;cases hh:(ot s (nA1 s (nA0 s p))).2 with
  |true=>
   simp only[iK];refine⟨⟨fun _=>trivial,fun _=>by omega⟩,?_⟩;cases hk:C3 s p with
   |true=>
    simp only[iK];exact⟨3,_,_,_,rfl,fun _=>⟨rfl,by simp[b]⟩⟩
   |false=>
    simp only[aa (show ¬R=Q by simp)];cases hc:rh s p ((ot s (nA1 s (nA0 s p))).1-p) with
    |none=>exact⟨3,_,_,_,rfl,fun _=>⟨rfl,by simp[b]⟩⟩
    |some c=>exact⟨2,_,_,_,rfl,fun _=>⟨rfl,by simp⟩⟩
  |false=>
   simp only[aa (show ¬R=Q by simp)];refine⟨⟨fun a=>by omega,fun a=>by cases a⟩,3,_,_,_,rfl,fun a=>by cases a⟩
theorem Ha(q:ByteArray)(a:bc (aq q 0)=Q)(d:ot q (nA1 q (nA0 q 0))=(q.size,Q)):zL q=U↔(C3 q 0=Q\/rh q 0 q.size=U):=by
 cases hk:C3 q 0 with
 |false=>
  obtain⟨b,c⟩:=G6 q 0 a hk;have f:nA0 q 0=q.size:=by rw[d]at b;exact(yu b).1.symm
  rw[Jy q (qc a) (fun e g=>c e (by omega) (by omega))];simp
 |true=>
  simp only[true_or,iff_true];unfold C3 at hk;rcases aG hk with h|h
  ·exact yE q a _ (bz h.1) (by rw[h.1];decide)
  ·exact yE q a _ (bz h) (by rw[h];decide)
def fok(q:ByteArray):Bool:=decide (q.size<=40)&&qC q
theorem A7(s:ByteArray)(B:s.size<=1100000)(w:A0):Y S 64 #[O s] w fun e p=>e= T (A2 (fok s))/\W w.heap.size w p:=by
 unfold fok;by_cases j:0<s.size
 ·have E:((s.size:Int)==0)=R:=by rw[bH];omega
  by_cases r:s.size<=40
  ·have F:¬(40:Int)<(s.size:Int):=by omega
   have x:∀w,(Instr.index 9 (O s) (M N 0)).run S w= .ok (M .u8 (aq s 0)) w:=fun w=>db j w;by_cases b:bc (aq s 0)=Q
   ·have c:=fun w=>ed b w;have g:∀w,Y S 22 #[O s,M N 0] w fun e p=>e= T (V #[BA s 0,M N (yF s 0)])/\W w.heap.size w p:=fun w=>xr s B 0 j b w;obtain⟨hF,o,G,H,I,t,u⟩:=afu s 0;rw[t]at g;have v:(decide (s.size<=40)&&qC s)=(decide (yF s 0<0)&&((o==3)&&(G==(s.size:Int)))):=by
     rw[bv r,fI];unfold qC;cases h2:(cK s 0).2 with
     |false=>
      rw[aD (show ¬yF s 0<0 by rw[hF,h2];simp),eI,sL];rintro ⟨_,i,_⟩;rw[i]at h2;cases h2
     |true=>
      obtain⟨C,f⟩:=u h2;rw[bv (hF.2 h2),fI,f,C];by_cases m:(cK s 0).1=s.size
      ·have k:cK s 0=(s.size,Q):=Prod.ext m h2;rw[k];simp only[pi,beq_self_eq_true,Bool.and_true];rw[GC];constructor
       ·rintro ⟨_,_,d,h⟩;have n:ot s (nA1 s (nA0 s 0))=(s.size,Q):=by rw[<-k];unfold cK;rw[aa d]
        exact⟨d,(Ha s b n).1 h⟩
       ·rintro ⟨d,h⟩;have n:ot s (nA1 s (nA0 s 0))=(s.size,Q):=by rw[<-k];unfold cK;rw[aa d]
        exact⟨b,trivial,d,(Ha s b n).2 h⟩
      ·rw[show((((cK s 0).1:Nat):Int)==(s.size:Int))=R by rw[bH];omega,pf,sL];rintro ⟨_,i,_⟩;rw[i]at m;exact m rfl
    rw[v];clear v u t hF;generalize yF s 0=q at g;generalize aq s 0=z at x c;clear b;by_cases hF:q<0
    ·by_cases f:o=3
     ·subst f;go_in;go_wp2_with (first|(go_at_call 54;refine eH (c _) ?_)|(go_at_call 22;refine(g _).mono ?_;rintro e y ⟨rfl,a⟩));go_ret;exact⟨by simp[hF],a.alloc a.size _⟩
     ·have A:(o==3)=R:=by simp[f]
      clear f;go_in;go_wp2_with (first|(go_at_call 54;refine eH (c _) ?_)|(go_at_call 22;refine(g _).mono ?_;rintro e y ⟨rfl,a⟩));go_ret;exact⟨by simp[A],a.alloc a.size _⟩
    ·go_in;go_wp2_with (first|(go_at_call 54;refine eH (c _) ?_)|(go_at_call 22;refine(g _).mono ?_;rintro e y ⟨rfl,a⟩));go_ret;exact⟨by rw[aD (show ¬q<0 by omega)];simp,a.alloc a.size _⟩
   ·have l:bc (aq s 0)=R:=by simpa using b
    have c:=fun w=>ed l w;rw[show qC s=R by unfold qC;simp[l],pf];clear b l;generalize aq s 0=z at x c;go_in;go_wp2_with (first|(go_at_call 54;refine eH (c _) ?_));go_ret;exact⟨rfl,ah _ _⟩
  ·have F:(40:Int)<(s.size:Int):=by omega
   rw[aD r,eI];go_in;go_wp2;go_ret;exact⟨rfl,ah _ _⟩
 ·have E:((s.size:Int)==0)=Q:=by rw[jk];omega
  rw[show qC s=R by unfold qC;rw[dl j];simp[tB],pf];go_in;go_wp2;go_ret;exact⟨rfl,ah _ _⟩
