import Derived.Test.YtjeamjdieofoeaaGreatDoorHZk05
import Derived.Test.YtjeamjdieofoeaaGreatDoorHZk09
set_option linter.all false
set_option maxRecDepth 100000
set_option maxHeartbeats 3200000
open Go.Value renaming int->M,string->S,agg->Z,bool->A2,tuple->A5
open Go.IntKind renaming i64->O
open Go.Proofs.Tryz renaming prog->T
open Go.Ending renaming returned->U
open Bool renaming true->V,false->X
open Go renaming Calls->Y,World->A9,Value->Bs
open Go.RowKit renaming Below->Ax,intOf->Br,Hid->B0
open Option renaming none->A0,some->B1
namespace Go.Proofs.YtjeamjdieofoeaaGreatDoor
open Go.RowKit Go.Maps Go.WideMaps
variable{N:Nd}{ns:List Nd}{vk vn vt:Value}{w:World}
theorem uh(s:ByteArray)(i:Nat)(c:Int)(d:0<c:=by omega):(lk s i==c)=decide (ax s i=c):=by
 unfold lk;split
 ·by_cases a:ax s i=c<;>simp[a]
 ·rename_i a;rw[dj a];have b:((0:Int)==c)=X:=by rw[cG];omega
  rw[b];symm;rw[rL];omega
def EA(s:ByteArray)(p:Nat):Bool:=decide ((ax s (nA0 s p)=46/\cp (ax s (nA0 s p+1))=V)\/ax s (nA1 s (nA0 s p))=101)
def ait(s:ByteArray)(p E:Nat)(R:Option Nat):Bs:=match R with
 |some a=> Z #[M O 2,M O p,M O (E:Int),M O 0,M O (a:Int),S ⟨#[]⟩]
 |none=> Z #[M O 3,M O p,M O (E:Int),M O 0,M O 0,S (s.extract p E)]
def nmA(s:ByteArray)(p:Nat):Bs:=
 if(nJ s (nA1 s (nA0 s p))).2=V then
  (if EA s p=V then Z #[M O 3,M O p,M O ((nJ s (nA1 s (nA0 s p))).1:Int),M O 0,M O 0,S (s.extract p (nJ s (nA1 s (nA0 s p))).1)]
  else ait s p (nJ s (nA1 s (nA0 s p))).1 (tC s p ((nJ s (nA1 s (nA0 s p))).1-p)))
 else Z #[M O 3,M O p,M O 0,M O 0,M O 0,S ⟨#[]⟩]
def nmF(s:ByteArray)(p:Nat):Int:=if(nJ s (nA1 s (nA0 s p))).2=V then -1 else((nJ s (nA1 s (nA0 s p))).1:Int)
theorem Jc(s:ByteArray)(p j:Nat)(h:tC s p j=A0):∀n,j<=n->tC s p n=A0
 |0,a=>by
  obtain rfl:j=0:=by omega
  exact h
 |n+1,a=>by
  rcases iL a with rfl|h2
  ·exact h
  ·rw[tC,Jc s p j h n (by omega)]
theorem Gg(s:ByteArray)(p:Nat)(f:cp (ax s p)=V)(a:EA s p=X):(nJ s (nA1 s (nA0 s p)))=(nA0 s p,V)/\∀i,p<=i->i<nA0 s p->cp (ax s i)=V:=by
 unfold EA at a;rw[rL]at a;have d:nA1 s (nA0 s p)=nA0 s p:=by unfold nA1;rw[aa (fun b=>a (.inl b))]
 rw[d]at a⊢;have e:nJ s (nA0 s p)=(nA0 s p,V):=by unfold nJ;rw[aa (fun b=>a (.inr b))]
 refine⟨e,fun i g c=>?_⟩;rcases iL g with rfl|h3
 ·exact f
 ·unfold nA0 at c;split at c
  ·omega
  ·exact xK cp s _ (p+1) i h3 c
theorem ak6(s:ByteArray)(a:Nat)(h:ax s a=101)(c:cp (ax s (nA2 s a))=X):nJ s a=(nA2 s a,X):=by
 have b:ua s (nA2 s a)=nA2 s a:=by unfold ua gF;rw[aa (by rw[c];simp)]
 unfold nJ;rw[ab h,b];simp
theorem aiu(s:ByteArray)(a:Nat)(e:a<s.size)(h:ax s a=101)(b:cp (ax s (nA2 s a))=V):nJ s a=(ua s (nA2 s a),V):=by
 have f:=qx b;have d:=oq cp xL s s.size (nA2 s a+1) (by omega);have c:ua s (nA2 s a)=gF cp s s.size (nA2 s a+1):=by
  show gF cp s (s.size+1) (nA2 s a)=_;rw[gF,ab b]
 unfold nJ;rw[ab h,c];simp;omega
theorem ae9(s:ByteArray)(a:Nat)(h:ax s a=101):a<nA2 s a/\nA2 s a<=s.size:=by
 have b:=db h;unfold nA2;split
 ·rename_i hs;rcases hs with hs|hs
  ·have:=db hs;omega
  ·have:=db hs;omega
 ·omega
theorem pf(s:ByteArray)(k:Nat):cp (ax s k)=V\/cp (ax s k)=X:=by cases cp (ax s k)<;>simp
theorem Gh(s:ByteArray)(H:s.size<=1100000)(p:Nat)(el:p<s.size)(cB:cp (ax s p)=V)(A:¬(ax s p=48/\ax s (p+1)=120))(w:A9):Y T 147 #[S s,Z #[M O 0,M O p,M O 0,M O 0,M O 0,S ⟨#[]⟩]] w fun e w'=>e= U (A5 #[nmA s p,M O (nmF s p)])/\Ax w.heap.size w w':=by
 obtain⟨ev,cq⟩:=az (nmA s p);obtain⟨fn,cs⟩:=az (nmF s p);rw[cq,cs];have k:=aq cq;have o:=aq cs;clear cq cs;have cI:=fun w=>cL el w;go_in;go_upto_region 3 with fail
 generalize d2:(w.alloc _).alloc _=b4;obtain⟨a,c5,cr, -⟩:=DB d2;have cb:dD w.heap.size b4 2 p 0 0 0 ⟨#[]⟩:=a;have cc:dD (w.heap.size+1) b4 0 0 0 0 0 ⟨#[]⟩:=c5;clear d2 a c5;have fa:w.heap.size+1<b4.heap.size:=ai cc;obtain⟨K,L,ad,af,ak,al,am⟩:=bg cb;go_cut [22] from 9 (fun fg r=>fg= A2 X/\r=b4)
 case first=>
  by_cases y:ax s p=48
  ·rw[y]at cI;have eg:¬ax s (p+1)=120:=fun h=>A ⟨y,h⟩;have e2:(lk s (p+1)==120)=X:=by rw[uh _ _ _];simpa using eg
   have f:∀w,Y T 143 #[S s,M O ((p:Int)+1)] w fun e w'=>e= U (M .u8 (lk s (p+1)))/\w'=w:=fun w=>gh s H _ (p+1) (by omega) w;generalize lk s (p+1)=n at f e2;clear y eg A cB k o;go_wp2_with (go_at_call 143;refine dB (f _) ?_);go_meet
   case rel=>exact⟨rfl,rfl⟩
  ·have b8:(ax s p==48)=X:=by rw[cG];exact y
   generalize ax s p=n at cI b8;clear y A k o;go_wp2_with fail;go_meet
   case rel=>exact⟨rfl,rfl⟩
 case rest=>
  obtain⟨rfl,rfl⟩:=hcut;go_upto_if 34 with fail
  go_cut [6] from 9 (fun a8 r=>a8= M O (nA0 s p:Int)/\r=wc)
  case first=>
   by_cases y:ax s p=48
   ·have e3:B0 (nA0 s p=p+1):=by show _=_;unfold nA0;rw[ab y]
    rw[y];clear y A k o;go_wp2_with fail;go_meet
    case rel=>exact⟨by rw[e3.out];go_num,rfl⟩
   ·have C:B0 (gF cp s (s.size+1) (p+1)=nA0 s p):=by show _=_;unfold nA0;rw[aa y];rfl
    have b8:(ax s p !=48)=V:=by rw[xB];exact y
    rw[b8];obtain⟨g,t⟩:=az (nA0 s p);rw[t]at C;have z:=aq t;clear y A k o b8 t;go_wp2_with fail;go_loop [6] (fun i=>∃(b l:Nat),b<=s.size/\s.size<b+l/\i= M O b/\B0 (gF cp s l b=g)) (fun i=>s.size-(Br i).toNat)
    case atStart=>exact⟨p+1,s.size+1,by omega,by omega,by first|rfl|(congr 1;omega),C⟩
    case round=>
     obtain⟨b,l,ea,d8,rfl,bl⟩:=hrel;obtain⟨l,rfl⟩:∃bo,l=bo+1:=⟨l-1,by omega⟩;have d:=bl.out;unfold gF at d;have f:=fun w=>gh s H (b:Int) b rfl w;rcases pf s b with h1|h1
     ·have ef:b<s.size:=qx h1;have c:=fun w=>dE ((oK s b).trans h1) w;rw[ab h1]at d;have m:=aq d;generalize lk s b=n at f c;clear d h1;go_wp2_with (first|(go_at_call 143;refine dB (f _) ?_)|(go_at_call 146;refine dB (c _) ?_));go_round
      case rel=>exact⟨b+1,l,by omega,by omega,by go_num,m⟩
      case measure=>simp[Br];omega
     ·have c:=fun w=>dE ((oK s b).trans h1) w;rw[aa (by rw[h1];simp)]at d;have m:=aq d;generalize lk s b=n at f c;clear d h1;go_wp2_with (first|(go_at_call 143;refine dB (f _) ?_)|(go_at_call 146;refine dB (c _) ?_));go_meet
      case rel=>exact⟨by rw[z.out,<-m.out],rfl⟩
  case rest=>
   obtain⟨rfl,rfl⟩:=hcut;have cn:=B9 s p el;go_upto_region 9 with fail
   obtain⟨D,ds⟩:∃D:Bool,decide (ax s (nA0 s p)=46/\cp (ax s (nA0 s p+1))=V)=D:=⟨_,rfl⟩;have u:=aq ds;clear ds;go_cut [51] from 9 (fun fk r=>fk= A2 D/\r=wc)
   case first=>
    have f:=fun w=>gh s H (nA0 s p:Int) (nA0 s p) rfl w;have B:∀w,Y T 143 #[S s,M O ((nA0 s p:Int)+1)] w fun e w'=>e= U (M .u8 (lk s (nA0 s p+1)))/\w'=w:=fun w=>gh s H _ (nA0 s p+1) (by omega) w;have br:=uh s (nA0 s p) 46;by_cases a4:ax s (nA0 s p)=46
    ·rw[bH a4]at br;have a5:=u.out;rcases pf s (nA0 s p+1) with h1|h1
     ·have c:=fun w=>dE ((oK s (nA0 s p+1)).trans h1) w;rw[bH ⟨a4,h1⟩]at a5;subst a5;generalize lk s (nA0 s p+1)=e0 at B c;generalize lk s (nA0 s p)=n at f br;clear a4 h1 u k o;go_wp2_with (first|(go_at_call 143;first|(with_reducible refine dB (f _) ?_)|(with_reducible refine dB (B _) ?_))|(go_at_call 146;refine dB (c _) ?_));go_meet
      case rel=>exact⟨rfl,rfl⟩
     ·have c:=fun w=>dE ((oK s (nA0 s p+1)).trans h1) w;rw[aC (fun h=>by rw[h.2]at h1;cases h1)]at a5;subst a5;generalize lk s (nA0 s p+1)=e0 at B c;generalize lk s (nA0 s p)=n at f br;clear a4 h1 u k o;go_wp2_with (first|(go_at_call 143;first|(with_reducible refine dB (f _) ?_)|(with_reducible refine dB (B _) ?_))|(go_at_call 146;refine dB (c _) ?_));go_meet
      case rel=>exact⟨rfl,rfl⟩
    ·rw[aC a4]at br;have a5:=u.out;rw[aC (fun h=>a4 h.1)]at a5;subst a5;generalize lk s (nA0 s p)=n at f br;clear a4 u k o;go_wp2_with (first|(go_at_call 143;refine dB (f _) ?_));go_meet
     case rel=>exact⟨rfl,rfl⟩
   case rest=>
    obtain⟨rfl,rfl⟩:=hcut;go_upto_if 51 with fail
    go_cut [6] from 9 (fun a8 r=>a8= M O (nA1 s (nA0 s p):Int)/\dD w.heap.size r (if D=V then 3 else 2) p 0 0 0 ⟨#[]⟩/\dD (w.heap.size+1) r 0 0 0 0 0 ⟨#[]⟩/\Ax w.heap.size w r)
    case first=>
     cases D with
     |true=>
      have bh:=aH u.out;have C:B0 (gF cp s (s.size+1) (nA0 s p+1)=nA1 s (nA0 s p)):=by show _=_;unfold nA1;rw[ab bh];rfl
      have e7:=qx bh.2;obtain⟨g,t⟩:=az (nA1 s (nA0 s p));rw[t]at C;have z:=aq t;generalize nA0 s p=es at C e7 cn⊢;clear bh u k o A t;have E:=cb.setKind 3;have F:=cc.other (a:=⟨w.heap.size,0,A0⟩) (by simp) (M O 3);have I:Ax w.heap.size w (wc.setCell ⟨w.heap.size,0,A0⟩ (M O 3)):=cr.setCell (by simp) _;go_wp2_with fail;go_loop [6] (fun i=>∃(b l:Nat),b<=s.size/\s.size<b+l/\i= M O b/\B0 (gF cp s l b=g)) (fun i=>s.size-(Br i).toNat)
      case atStart=>exact⟨es+1,s.size+1,by omega,by omega,by first|rfl|(congr 1;omega),C⟩
      case round=>
       obtain⟨b,l,ea,d8,rfl,bl⟩:=hrel;obtain⟨l,rfl⟩:∃bo,l=bo+1:=⟨l-1,by omega⟩;have d:=bl.out;unfold gF at d;have f:=fun w=>gh s H (b:Int) b rfl w;rcases pf s b with h1|h1
       ·have ef:b<s.size:=qx h1;have c:=fun w=>dE ((oK s b).trans h1) w;rw[ab h1]at d;have m:=aq d;generalize lk s b=n at f c;clear d h1;go_wp2_with (first|(go_at_call 143;refine dB (f _) ?_)|(go_at_call 146;refine dB (c _) ?_));go_round
        case rel=>exact⟨b+1,l,by omega,by omega,by go_num,m⟩
        case measure=>simp[Br];omega
       ·have c:=fun w=>dE ((oK s b).trans h1) w;rw[aa (by rw[h1];simp)]at d;have m:=aq d;generalize lk s b=n at f c;clear d h1;go_wp2_with (first|(go_at_call 143;refine dB (f _) ?_)|(go_at_call 146;refine dB (c _) ?_));go_meet
        case rel=>exact⟨by rw[z.out,<-m.out],E,F,I⟩
     |false=>
      have bh:=iz u.out;have t:nA1 s (nA0 s p)=nA0 s p:=by unfold nA1;rw[aa bh]
      have z:=aq t;clear bh u k o A t;go_wp2_with fail;go_meet
      case rel=>exact⟨by rw[z.out],cb,cc,cr⟩
    case rest=>
     obtain⟨rfl,a6,bf,b9⟩:=hcut;clear cb cc cr K L ad af ak al am fa;have c7:=Ca s _ cn.2;have f:=fun w=>gh s H (nA1 s (nA0 s p):Int) (nA1 s (nA0 s p)) rfl w;have c9:=uh s (nA1 s (nA0 s p)) 101;obtain⟨a3,cx⟩:∃a3:Bool,decide (ax s (nA1 s (nA0 s p))=101)=a3:=⟨_,rfl⟩;have a9:=aq cx;rw[cx]at c9;clear cx;obtain⟨K,L,ad,af,ak,al,am⟩:=bg a6;obtain⟨z0,an,ao,ap,ar,av,ck⟩:=bg bf;have bk:w.heap.size<wc.heap.size:=ai a6;have ch:w.heap.size+1<wc.heap.size:=ai bf;go_upto_if 64 with(go_at_call 143;refine(f _).mono ?_;rintro e w' ⟨rfl,x⟩;obtain rfl:=x.symm)
     clear f c9;go_cut [6] from 9 (fun a8 r=>a8= M O ((nJ s (nA1 s (nA0 s p))).1:Int)/\(nJ s (nA1 s (nA0 s p))).2=V/\dD w.heap.size r (if(D||a3)=V then 3 else 2) p 0 0 0 ⟨#[]⟩/\dD (w.heap.size+1) r 0 0 0 0 0 ⟨#[]⟩/\Ax w.heap.size w r)
     case first=>
      cases a3 with
      |false=>
       have J:=iz a9.out;have z:B0 (nJ s (nA1 s (nA0 s p))=(nA1 s (nA0 s p),V)):=by show _=_;unfold nJ;rw[aa J]
       rw[<-A3 D]at a6;clear J a9 k o u A;go_wp2_with fail;go_meet
       case rel=>exact⟨by rw[z.out],by rw[z.out],a6,bf,b9⟩
      |true=>
       have J:=aH a9.out;have bw:=ak6 s (nA1 s (nA0 s p)) J;have bA:=aiu s (nA1 s (nA0 s p)) (db J) J;have c6:=ae9 s (nA1 s (nA0 s p)) J;have B:∀w,Y T 143 #[S s,M O ((nA1 s (nA0 s p):Int)+1)] w fun e w'=>e= U (M .u8 (lk s (nA1 s (nA0 s p)+1)))/\w'=w:=fun w=>gh s H _ (nA1 s (nA0 s p)+1) (by omega) w;have b6:=uh s (nA1 s (nA0 s p)+1) 43;have b7:=uh s (nA1 s (nA0 s p)+1) 45;have bb:B0 (nA2 s (nA1 s (nA0 s p))=if decide (ax s (nA1 s (nA0 s p)+1)=43)=V\/decide (ax s (nA1 s (nA0 s p)+1)=45)=V then nA1 s (nA0 s p)+1+1 else nA1 s (nA0 s p)+1):=by show _=_;unfold nA2;simp
       generalize decide (ax s (nA1 s (nA0 s p)+1)=43)=cm at b6 bb;generalize decide (ax s (nA1 s (nA0 s p)+1)=45)=b1 at b7 bb;have E:=a6.setKind 3;have F:=bf.other (a:=⟨w.heap.size,0,A0⟩) (by simp) (M O 3);have I:Ax w.heap.size w (wc.setCell ⟨w.heap.size,0,A0⟩ (M O 3)):=b9.setCell (by simp) _;obtain⟨b5,cw⟩:=az (wc.setCell ⟨w.heap.size,0,A0⟩ (M O 3));rw[cw]at E F I;have c4:=aq cw;clear J a9 u A cw;go_upto_region 17 with fail
       rw[c4.out];clear c4 a6 bf b9 K L ad af ak al am z0 an ao ap ar av ck bk ch;obtain⟨K,L,ad,af,ak,al,am⟩:=bg E;obtain⟨z0,an,ao,ap,ar,av,ck⟩:=bg F;have bk:w.heap.size<b5.heap.size:=ai E;have ch:w.heap.size+1<b5.heap.size:=ai F;go_cut [77] from 9 (fun fm r=>fm= A2 (b1||cm)/\r=b5)
       case first=>
        generalize lk s (nA1 s (nA0 s p)+1)=n at B b6 b7;clear k o bw bA bb;cases b1 with
        |true=>
         go_wp2_with (first|(go_at_call 143;refine(B _).mono ?_;rintro e w' ⟨rfl,x⟩;obtain rfl:=x.symm));go_meet
         case rel=>exact⟨rfl,rfl⟩
        |false=>
         go_wp2_with (first|(go_at_call 143;refine(B _).mono ?_;rintro e w' ⟨rfl,x⟩;obtain rfl:=x.symm));go_meet
         case rel=>exact⟨rfl,rfl⟩
       case rest=>
        obtain⟨rfl,bD⟩:=hcut;obtain rfl:=bD.symm;clear bD;go_upto_if 77 with fail
        go_cut [6] from 9 (fun a8 r=>a8= M O (nA2 s (nA1 s (nA0 s p)):Int)/\r=b5)
        case first=>
         clear k o bw bA b6 b7 B;obtain⟨b3,ct⟩:∃b3:Bool,(b1||cm)=b3:=⟨_,rfl⟩;have dk:B0 (nA2 s (nA1 s (nA0 s p))=if b3=V then nA1 s (nA0 s p)+1+1 else nA1 s (nA0 s p)+1):=by show _=_;rw[bb.out,<-ct];cases b1<;>cases cm<;>simp
         rw[ct];clear ct bb;cases b3 with
         |true=>
          go_wp2_with fail;go_meet
          case rel=>exact⟨by rw[dk.out];simp only[jq];go_num,rfl⟩
         |false=>
          go_wp2_with fail;go_meet
          case rel=>exact⟨by rw[dk.out];simp,rfl⟩
        case rest=>
         obtain⟨rfl,bD⟩:=hcut;obtain rfl:=bD.symm;clear bD bb b6 b7 B;have a7:=fun w=>gh s H (nA2 s (nA1 s (nA0 s p)):Int) (nA2 s (nA1 s (nA0 s p))) rfl w;rcases pf s (nA2 s (nA1 s (nA0 s p))) with h1|h1
         ·have c:=fun w=>dE ((oK s (nA2 s (nA1 s (nA0 s p)))).trans h1) w;have c0:B0 (nJ s (nA1 s (nA0 s p))=(ua s (nA2 s (nA1 s (nA0 s p))),V)):=bA h1;obtain⟨g,t⟩:=az (ua s (nA2 s (nA1 s (nA0 s p))));have C:=aq t;have z:=aq t;generalize lk s (nA2 s (nA1 s (nA0 s p)))=e1 at a7 c;generalize nA2 s (nA1 s (nA0 s p))=et at C c6 a7⊢;clear bw bA t h1 k o;go_wp2_with (first|(go_at_call 143;refine(a7 _).mono ?_;rintro e w' ⟨rfl,x⟩;obtain rfl:=x.symm)|(go_at_call 146;refine(c _).mono ?_;rintro e w' ⟨rfl,x⟩;obtain rfl:=x.symm));clear a7 c;go_loop [6] (fun i=>∃(b l:Nat),b<=s.size/\s.size<b+l/\i= M O b/\B0 (gF cp s l b=g)) (fun i=>s.size-(Br i).toNat)
          case atStart=>exact⟨et,s.size+1,by omega,by omega,by first|rfl|(congr 1;omega),C⟩
          case round=>
           obtain⟨b,l,ea,d8,rfl,bl⟩:=hrel;obtain⟨l,rfl⟩:∃bo,l=bo+1:=⟨l-1,by omega⟩;have d:=bl.out;unfold gF at d;have f:=fun w=>gh s H (b:Int) b rfl w;rcases pf s b with h1|h1
           ·have ef:b<s.size:=qx h1;have c:=fun w=>dE ((oK s b).trans h1) w;rw[ab h1]at d;have m:=aq d;generalize lk s b=n at f c;clear d h1;go_wp2_with (first|(go_at_call 143;refine dB (f _) ?_)|(go_at_call 146;refine dB (c _) ?_));go_round
            case rel=>exact⟨b+1,l,by omega,by omega,by go_num,m⟩
            case measure=>simp[Br];omega
           ·have c:=fun w=>dE ((oK s b).trans h1) w;rw[aa (by rw[h1];simp)]at d;have m:=aq d;generalize lk s b=n at f c;clear d h1;go_wp2_with (first|(go_at_call 143;refine dB (f _) ?_)|(go_at_call 146;refine dB (c _) ?_));go_meet
            case rel=>exact⟨by rw[c0.out,z.out,<-m.out],by rw[c0.out],by simpa using E,F,I⟩
         ·have c:=fun w=>dE ((oK s (nA2 s (nA1 s (nA0 s p)))).trans h1) w;have d6:=bw h1;have j:=k.out;have G:=o.out;unfold nmA at j;unfold nmF at G;rw[d6]at j G;simp only[aa (show ¬X=V by simp)]at j G;subst j;obtain⟨cl,dz⟩:∃cl:Int,(nA2 s (nA1 s (nA0 s p)):Int)=cl:=⟨_,rfl⟩;rw[dz]at G a7⊢;subst G;generalize lk s (nA2 s (nA1 s (nA0 s p)))=e1 at a7 c;clear d6 h1 bw bA k o c6 dz;go_wp2_with (first|(go_at_call 143;refine(a7 _).mono ?_;rintro e w' ⟨rfl,x⟩;obtain rfl:=x.symm)|(go_at_call 146;refine(c _).mono ?_;rintro e w' ⟨rfl,x⟩;obtain rfl:=x.symm));refine aI (v:= A5 #[Z #[M O 3,M O p,M O 0,M O 0,M O 0,S ⟨#[]⟩],M O cl]) (by simp[results,Tryz.results147,go_sem,z0,an,ao,ap,ar,av]) rfl ⟨rfl,?_⟩
          iterate 6 refine eJ ?_ (by simp) _
          exact I
     case rest=>
      obtain⟨rfl,ei,bd,d3,dn⟩:=hcut;have c8:=Li s _ c7.2;have d0:EA s p=(D||a3):=by unfold EA;rw[<-u.out,<-a9.out];simp
      have cz:=Gg s p cB;have j:=k.out;have G:=o.out;unfold nmA at j;unfold nmF at G;rw[ab ei]at j G;subst G;rw[d0]at j cz;have e8:p<(nJ s (nA1 s (nA0 s p))).1:=by omega
      have e6:(nJ s (nA1 s (nA0 s p))).1<=s.size:=c8.2;have cf:(D||a3)=X->∀i,p<=i->i<(nJ s (nA1 s (nA0 s p))).1->cp (ax s i)=V:=fun h i h1 df=>by
       have d9:=cz h;exact d9.2 i h1 (by rw[d9.1]at df;exact df)
      clear cz d0 u a9 k o ei c8 c7 cn A cI cB;generalize (D||a3)=a2 at bd j cf;generalize (nJ s (nA1 s (nA0 s p))).1=g at e8 e6 j cf⊢;clear a6 bf b9 K L ad af ak al am z0 an ao ap ar av ck bk ch;obtain⟨ba,cv⟩:=az (tC s p (g-p));rw[cv]at j;have bn:=aq cv;have k:=aq j;have b0:=aq cf;clear j cf cv;obtain⟨bF,cg⟩:∃bF:Int,(if a2=V then(3:Int) else 2)=bF:=⟨_,rfl⟩;rw[cg]at bd;have c3:B0 ((bF=2/\a2=X/\(0:Int)<=0/\tC s p (p-p)=B1 (0:Int).toNat)\/(bF=3/\(a2=V\/ba=A0))):=by
       cases a2 with
       |true=>exact .inr ⟨cg.symm,.inl rfl⟩
       |false=>exact .inl ⟨cg.symm,rfl,by omega,by rw[eC];rfl⟩
      clear cg;obtain⟨K,L,ad,af,ak,al,am⟩:=bg bd;have bk:w.heap.size<wc.heap.size:=ai bd;have E:=bd.setTo (g:Int);have F:=d3.other (a:=⟨w.heap.size,2,A0⟩) (by simp) (M O (g:Int));have I:Ax w.heap.size w (wc.setCell ⟨w.heap.size,2,A0⟩ (M O (g:Int))):=dn.setCell (by simp) _;go_wp2_with fail;go_loopw [7,8] (fun fc i wr=>∃(b:Nat) (c a:Int),p<=b/\b<=g/\i= M O b/\fc= M .u64 a/\dD w.heap.size wr c p (g:Int) 0 0 ⟨#[]⟩/\dD (w.heap.size+1) wr 0 0 0 0 0 ⟨#[]⟩/\Ax w.heap.size w wr/\B0 ((c=2/\a2=X/\0<=a/\tC s p (b-p)=B1 a.toNat)\/(c=3/\(a2=V\/ba=A0)))) (fun _ i _=>g-(Br i).toNat)
      case atStart=>exact⟨p,bF,0,ag _,by omega,rfl,rfl,E,F,I,c3⟩
      case round=>
       obtain⟨b,c,a,e9,fq,rfl,rfl,bs,bt,bc,d⟩:=hrel;clear E F I bd d3 dn K L ad af ak al am bk c3;obtain⟨K,L,ad,af,ak,al,am⟩:=bg bs;obtain⟨z0,an,ao,ap,ar,av,ck⟩:=bg bt;have bk:w.heap.size<wr.heap.size:=ai bs;have ch:w.heap.size+1<wr.heap.size:=ai bt;rcases d.out with⟨rfl,ca,fo,bx⟩|⟨rfl,ek⟩
       ·have d5:=aeE s p _ _ bx;by_cases eb:b<g
        ·have d7:=b0.out ca b e9 eb;have e5:=oD d7;have fb:=fun w=>cL (s:=s) (i:=b) (by omega) w;have cF:tC s p (b+1-p)=if a.toNat*10+(ax s b-48).toNat<=9223372036854775807 then B1 (a.toNat*10+(ax s b-48).toNat) else A0:=by
          rw[show b+1-p=(b-p)+1 by omega,tC,bx,show p+(b-p)=b by omega]
         have ex:a<=9223372036854775807:=by omega
         have eh:tC s p (b+1-p)=A0->ba=A0:=fun h=>by rw[<-bn.out];exact Jc s p _ h _ (by omega)
         have m:B0 ((¬a*10+(ax s b-48)<=9223372036854775807->ba=A0)/\(a*10+(ax s b-48)<=9223372036854775807->tC s p (b+1-p)=B1 (a*10+(ax s b-48)).toNat)):=by
          refine⟨fun h=>eh (by rw[cF,aa (by omega)]),fun h=>?_⟩;rw[cF,ab (by omega)]
          congr 1
          omega
         generalize ax s b=n at fb e5 m;clear d7 cF eh bx d b0 bn k d5;have d1:=bs.setKind 3;have d4:=bt.other (a:=⟨w.heap.size,0,A0⟩) (by simp) (M O 3);have dq:Ax w.heap.size w (wr.setCell ⟨w.heap.size,0,A0⟩ (M O 3)):=bc.setCell (by simp) _;have ec:(b:Int)<(g:Int):=by omega
         rcases(show 922337203685477580<a\/(a=922337203685477580/\55<n)\/(a=922337203685477580/\¬55<n)\/a<922337203685477580 by omega) with q|⟨q,fd⟩|⟨q,fd⟩|q
         ·have a0:B0 (ba=A0):=m.1 (by omega);clear m;go_wp2;go_roundw
          case rel=>exact⟨b+1,3,_,by omega,by omega,by go_num,rfl,d1,d4,dq,.inr ⟨rfl,.inr a0⟩⟩
          case measure=>simp[Br];omega
         ·have a0:B0 (ba=A0):=m.1 (by omega);have eq:(a==922337203685477580)=V:=by rw[ja];exact q
          have em:¬922337203685477580<a:=by omega
          clear m q;go_wp2;go_roundw
          case rel=>exact⟨b+1,3,_,by omega,by omega,by go_num,rfl,d1,d4,dq,.inr ⟨rfl,.inr a0⟩⟩
          case measure=>simp[Br];omega
         ·have a0:B0 (tC s p (b+1-p)=B1 (a*10+(n-48)).toNat):=m.2 (by omega);have eq:(a==922337203685477580)=V:=by rw[ja];exact q
          have em:¬922337203685477580<a:=by omega
          have ff:a*10+(n-48)<=9223372036854775807:=by omega
          clear m q;go_wp2;go_roundw
          case rel=>exact⟨b+1,2,a*10+(n-48),by omega,by omega,by go_num,by first|rfl|(congr 1;omega),bs,bt,bc,.inl ⟨rfl,ca,by omega,a0⟩⟩
          case measure=>simp[Br];omega
         ·have a0:B0 (tC s p (b+1-p)=B1 (a*10+(n-48)).toNat):=m.2 (by omega);have eq:(a==922337203685477580)=X:=by rw[cG];omega
          have em:¬922337203685477580<a:=by omega
          have ff:a*10+(n-48)<=9223372036854775807:=by omega
          clear m;go_wp2;go_roundw
          case rel=>exact⟨b+1,2,a*10+(n-48),by omega,by omega,by go_num,by first|rfl|(congr 1;omega),bs,bt,bc,.inl ⟨rfl,ca,by omega,a0⟩⟩
          case measure=>simp[Br];omega
        ·obtain rfl:b=g:=by omega
         have j:=k.out;rw[ca,<-bn.out,bx]at j;simp only[aa (show ¬X=V by simp),ait]at j;rw[show((a.toNat:Nat):Int)=a by omega]at j;subst j;have fr:wrap64 a=a:=by unfold wrap64;omega
         have ex:a<=9223372036854775807:=by omega
         clear k bn b0 d bx d5;go_wp2;refine aI (v:= A5 #[Z #[M O 2,M O p,M O (b:Int),M O 0,M O a,S ⟨#[]⟩],M O (-1)]) (by simp[results,Tryz.results147,go_sem,z0,an,ao,ap,ar,av]) rfl ⟨rfl,?_⟩
         iterate 7 refine eJ ?_ (by simp) _
         exact bc
       ·have j:=k.out;have e4:Value.agg #[M O 3,M O p,M O (g:Int),M O 0,M O 0,S (s.extract p g)]=ev:=by
         rcases ek with h|h
         ·rw[h]at j;exact j
         ·rw[h]at j;cases a2<;>exact j
        subst e4;clear j k bn b0 d ek;by_cases eb:b<g
        ·have ec:(b:Int)<(g:Int):=by omega
         go_wp2;refine aI (v:= A5 #[Z #[M O 3,M O p,M O (g:Int),M O 0,M O 0,S (s.extract p g)],M O (-1)]) (by simp[results,Tryz.results147,go_sem,z0,an,ao,ap,ar,av]) rfl ⟨rfl,?_⟩
         iterate 7 refine eJ ?_ (by simp) _
         exact bc
        ·have ec:¬(b:Int)<(g:Int):=by omega
         go_wp2;refine aI (v:= A5 #[Z #[M O 3,M O p,M O (g:Int),M O 0,M O 0,S (s.extract p g)],M O (-1)]) (by simp[results,Tryz.results147,go_sem,z0,an,ao,ap,ar,av]) rfl ⟨rfl,?_⟩
         iterate 7 refine eJ ?_ (by simp) _
         exact bc
theorem afa(s:ByteArray)(p:Nat):∃(t n:Int),hxA s p= Z #[M O 2,M O p,M O t,M O 0,M O n,S ⟨#[]⟩]:=by
 unfold hxA;split<;>exact⟨_,_,rfl⟩
def Au(s:ByteArray)(p:Nat):Bs:=if ax s p=48/\ax s (p+1)=120 then hxA s p else nmA s p
def yg(s:ByteArray)(p:Nat):Int:=if ax s p=48/\ax s (p+1)=120 then hxF s p else nmF s p
theorem ak7(s:ByteArray)(p:Nat):∃(k t n:Int) (x:ByteArray),nmA s p= Z #[M O k,M O p,M O t,M O 0,M O n,S x]:=by
 unfold nmA ait;split
 ·split
  ·exact⟨_,_,_,_,rfl⟩
  ·split<;>exact⟨_,_,_,_,rfl⟩
 ·exact⟨_,_,_,_,rfl⟩
theorem abi(s:ByteArray)(p:Nat):∃(k t n:Int) (x:ByteArray),Au s p= Z #[M O k,M O p,M O t,M O 0,M O n,S x]:=by
 unfold Au;split
 ·obtain⟨t,n,a⟩:=afa s p;exact⟨_,_,_,_,a⟩
 ·exact ak7 s p
theorem Gi(s:ByteArray)(m:s.size<=1100000)(p:Nat)(f:ax s p=48)(b:ax s (p+1)=120)(w:A9):Y T 147 #[S s,Z #[M O 0,M O p,M O 0,M O 0,M O 0,S ⟨#[]⟩]] w fun e w'=>e= U (A5 #[hxA s p,M O (hxF s p)])/\Ax w.heap.size w w':=by
 have u:=db b;have n:=fun w=>cL (s:=s) (i:=p) (by omega) w;rw[f]at n;have o:∀w,Y T 143 #[S s,M O ((p:Int)+1)] w fun e w'=>e= U (M .u8 120)/\w'=w:=fun w=>by
  have:=gh s m ((p:Int)+1) (p+1) (by omega) w;rw[su u,b]at this;exact this
 have a:=fun w=>IL s m p (by omega) w;obtain⟨z,y,g⟩:=afa s p;rw[g]at a⊢;generalize hxF s p=q at a;clear g f b;go_in;go_wp2_with (go_at_call 143;refine dB (o _) ?_);generalize j:(w.alloc _).alloc _=r;obtain⟨-,d,h,x⟩:=DB j;have k:dD (w.heap.size+1) r 0 0 0 0 0 ⟨#[]⟩:=d;clear j d;refine bv (a _) fun A c=>?_;have l:=k.below c (by omega);have t:=h.trans (c.mono (by omega));clear c k h x a o n;obtain⟨z0,B,C,E,F,G,I⟩:=bg l;have H:w.heap.size+1<A.heap.size:=ai l;go_wp2;refine aI (v:= A5 #[Z #[M O 2,M O p,M O z,M O 0,M O y,S ⟨#[]⟩],M O q]) (by simp[results,Tryz.results147,go_sem,z0,B,C,E,F,G]) rfl ⟨rfl,?_⟩
 iterate 6 refine eJ ?_ (by simp) _
 exact t
theorem Gj(s:ByteArray)(b:s.size<=1100000)(p:Nat)(d:p<s.size)(c:cp (ax s p)=V)(w:A9):Y T 147 #[S s,Z #[M O 0,M O p,M O 0,M O 0,M O 0,S ⟨#[]⟩]] w fun e w'=>e= U (A5 #[Au s p,M O (yg s p)])/\Ax w.heap.size w w':=by
 unfold Au yg;split
 ·rename_i a;exact Gi s b p a.1 a.2 w
 ·rename_i a;exact Gh s b p d c a w
theorem jv{c:Int}{b:Bool}(h:bJ c=b)(w:A9):Y T 144 #[M .u8 c] w fun e w'=>e= U (A2 b)/\w'=w:=(oh c w).mono fun e w' a=>⟨by rw[a.1,h],a.2.symm⟩
theorem wy(s:ByteArray)(x:s.size<=1100000)(p:Nat)(n:p<s.size)(a:cp (ax s p)=V)(w:A9):Y T 87 #[S s,M O p] w fun e w'=>e= U (A5 #[Au s p,M O (yg s p)])/\Ax w.heap.size w w':=by
 have o:=fun w=>cL n w;have y:=oD a;have m:bJ (ax s p)=X:=by simp[bJ];omega
 have f:=fun w=>jv m w;have d:=fun w=>dE a w;have b:=fun w=>Gj s x p n a w;obtain⟨A,C,B,F,i⟩:=abi s p;rw[i]at b⊢;generalize yg s p=q at b;generalize ax s p=t at o f d y;have L:(t==10)=X:=by rw[cG];omega
 clear m a i;go_in;go_wp2_with (first|(go_at_call 144;refine dB (f _) ?_)|(go_at_call 146;refine dB (d _) ?_));generalize j:(w.alloc _).alloc _=r;obtain⟨g, -,h,z⟩:=DB j;have k:dD w.heap.size r 0 0 0 0 0 ⟨#[]⟩:=g;clear j g;refine bv (b _) fun E c=>?_;have l:=k.below c (by omega);have u:=h.trans (c.mono (by omega));clear c k h z b f d o;obtain⟨z0,G,H,I,J,K,af⟩:=bg l;have ad:w.heap.size<E.heap.size:=ai l;go_wp2;refine aI (v:= A5 #[Z #[M O A,M O p,M O C,M O 0,M O B,S F],M O q]) (by simp[results,Tryz.results87,go_sem,z0,G,H,I,J,K]) rfl ⟨rfl,?_⟩
 iterate 6 refine eJ ?_ (by simp) _
 exact u
theorem afb(s:ByteArray)(p:Nat):(yg s p<0↔(di s p).2=V)/\∃(k t n:Int) (x:ByteArray),Au s p= Z #[M O k,M O p,M O t,M O 0,M O n,S x]/\((di s p).2=V->t=((di s p).1:Int)/\((k==3)=decide (¬(ax s p=48/\ax s (p+1)=120)/\(EA s p=V\/tC s p ((di s p).1-p)=A0)))):=by
 unfold yg Au di;by_cases b:ax s p=48/\ax s (p+1)=120
 ·simp only[ab b];unfold hxF hxA;cases hh:(mu s (p+2)).2 with
  |true=>
   simp only[jq];refine⟨⟨fun _=>trivial,fun _=>by omega⟩,2,_,_,_,rfl,fun _=>⟨rfl,?_⟩⟩;simp[b]
  |false=>
   simp only[aa (show ¬X=V by simp)];refine⟨⟨fun a=>by omega,fun a=>by cases a⟩,2,_,_,_,rfl,fun a=>by cases a⟩
 ·simp only[aa b];unfold nmF nmA ait;cases hh:(nJ s (nA1 s (nA0 s p))).2 with
  |true=>
   simp only[jq];refine⟨⟨fun _=>trivial,fun _=>by omega⟩,?_⟩;cases hk:EA s p with
   |true=>
    simp only[jq];exact⟨3,_,_,_,rfl,fun _=>⟨rfl,by simp[b]⟩⟩
   |false=>
    simp only[aa (show ¬X=V by simp)];cases hc:tC s p ((nJ s (nA1 s (nA0 s p))).1-p) with
    |none=>exact⟨3,_,_,_,rfl,fun _=>⟨rfl,by simp[b]⟩⟩
    |some c=>exact⟨2,_,_,_,rfl,fun _=>⟨rfl,by simp⟩⟩
  |false=>
   simp only[aa (show ¬X=V by simp)];refine⟨⟨fun a=>by omega,fun a=>by cases a⟩,3,_,_,_,rfl,fun a=>by cases a⟩
theorem abj(q:ByteArray)(a:cp (ax q 0)=V)(d:nJ q (nA1 q (nA0 q 0))=(q.size,V)):yF q=A0↔(EA q 0=V\/tC q 0 q.size=A0):=by
 cases hk:EA q 0 with
 |false=>
  obtain⟨b,c⟩:=Gg q 0 a hk;have f:nA0 q 0=q.size:=by rw[d]at b;exact(xz b).1.symm
  rw[IH q (qx a) (fun e g=>c e (by omega) (by omega))];simp
 |true=>
  simp only[true_or,iff_true];unfold EA at hk;rcases aH hk with h|h
  ·exact yc q a _ (db h.1) (by rw[h.1];decide)
  ·exact yc q a _ (db h) (by rw[h];decide)
def fok(q:ByteArray):Bool:=decide (q.size<=40)&&qy q
theorem Jd(s:ByteArray)(A:s.size<=1100000)(w:A9):Y T 174 #[S s] w fun e w'=>e= U (A2 (fok s))/\Ax w.heap.size w w':=by
 unfold fok;by_cases j:0<s.size
 ·have C:((s.size:Int)==0)=X:=by rw[cG];omega
  by_cases q:s.size<=40
  ·have E:¬(40:Int)<(s.size:Int):=by omega
   have v:∀w,(Instr.index 9 (S s) (M O 0)).run T w= .ok (M .u8 (ax s 0)) w:=fun w=>cL j w;by_cases b:cp (ax s 0)=V
   ·have c:=fun w=>dE b w;have g:∀w,Y T 87 #[S s,M O 0] w fun e w'=>e= U (A5 #[Au s 0,M O (yg s 0)])/\Ax w.heap.size w w':=fun w=>wy s A 0 j b w;obtain⟨hF,o,F,G,H,r,t⟩:=afb s 0;rw[r]at g;have u:(decide (s.size<=40)&&qy s)=(decide (yg s 0<0)&&((o==3)&&(F==(s.size:Int)))):=by
     rw[bH q,eI];unfold qy;cases h2:(di s 0).2 with
     |false=>
      rw[aC (show ¬yg s 0<0 by rw[hF,h2];simp),eo,rL];rintro ⟨_,i,_⟩;rw[i]at h2;cases h2
     |true=>
      obtain⟨B,f⟩:=t h2;rw[bH (hF.2 h2),eI,f,B];by_cases m:(di s 0).1=s.size
      ·have k:di s 0=(s.size,V):=Prod.ext m h2;rw[k];simp only[FC,beq_self_eq_true,Bool.and_true];rw[FB];constructor
       ·rintro ⟨_,_,d,h⟩;have n:nJ s (nA1 s (nA0 s 0))=(s.size,V):=by rw[<-k];unfold di;rw[aa d]
        exact⟨d,(abj s b n).1 h⟩
       ·rintro ⟨d,h⟩;have n:nJ s (nA1 s (nA0 s 0))=(s.size,V):=by rw[<-k];unfold di;rw[aa d]
        exact⟨b,trivial,d,(abj s b n).2 h⟩
      ·rw[show((((di s 0).1:Nat):Int)==(s.size:Int))=X by rw[cG];omega,og,rL];rintro ⟨_,i,_⟩;rw[i]at m;exact m rfl
    rw[u];clear u t r hF;generalize yg s 0=p at g;generalize ax s 0=y at v c;clear b;by_cases hF:p<0
    ·by_cases f:o=3
     ·subst f;go_in;go_wp2_with (first|(go_at_call 146;refine dB (c _) ?_)|(go_at_call 87;refine(g _).mono ?_;rintro e x ⟨rfl,a⟩));go_ret;exact⟨by simp[hF],a.alloc a.size _⟩
     ·have z:(o==3)=X:=by simp[f]
      clear f;go_in;go_wp2_with (first|(go_at_call 146;refine dB (c _) ?_)|(go_at_call 87;refine(g _).mono ?_;rintro e x ⟨rfl,a⟩));go_ret;exact⟨by simp[z],a.alloc a.size _⟩
    ·go_in;go_wp2_with (first|(go_at_call 146;refine dB (c _) ?_)|(go_at_call 87;refine(g _).mono ?_;rintro e x ⟨rfl,a⟩));go_ret;exact⟨by rw[aC (show ¬p<0 by omega)];simp,a.alloc a.size _⟩
   ·have l:cp (ax s 0)=X:=by simpa using b
    have c:=fun w=>dE l w;rw[show qy s=X by unfold qy;simp[l],og];clear b l;generalize ax s 0=y at v c;go_in;go_wp2_with (first|(go_at_call 146;refine dB (c _) ?_));go_ret;exact⟨rfl,ah _ _⟩
  ·have E:(40:Int)<(s.size:Int):=by omega
   rw[aC q,eo];go_in;go_wp2;go_ret;exact⟨rfl,ah _ _⟩
 ·have C:((s.size:Int)==0)=V:=by rw[ja];omega
  rw[show qy s=X by unfold qy;rw[dj j];simp[xL],og];go_in;go_wp2;go_ret;exact⟨rfl,ah _ _⟩
structure NArg (W:A9) (vt:Bs) (ns:List Nd) (N:Nd) (vn vk:Bs):Prop where
 t:fs W vt ns
 n:cu W vn N.nm
 k:dw W vk N.ks
 ok:za ns N
 ln:ns.length<=1048576
 l1:N.nm.length<=1048576
 l2:N.ks.length<=1048576
 lx:N.x.size<=1048576
 ls:∀s∈N.nm,s.size<=1048576
theorem NArg.below{W b:A9}(h:NArg W vt ns N vn vk)(a:Ax W.heap.size W b):NArg b vt ns N vn vk:=
 ⟨h.t.below a,h.n.below a,h.k.below a,h.ok,h.ln,h.l1,h.l2,h.lx,h.ls⟩
structure St (w:A9) (vt:Bs) (ns:List Nd) (N:Nd) (vn vk:Bs) (W:A9):Prop where
 a:NArg W vt ns N vn vk
 bt:W.cell? ⟨w.heap.size,0,A0⟩=B1 vt
 bn:qh (w.heap.size+1) W 45 N vn vk
 bel:Ax w.heap.size w W
theorem St.below{W c:A9}(h:St w vt ns N vn vk W)(b:Ax W.heap.size W c):St w vt ns N vn vk c:=
 ⟨h.a.below b,aj b h.bt,h.bn.below b,h.bel.trans (b.mono h.bel.size)⟩
theorem St.start(h:NArg w vt ns N vn vk):St w vt ns N vn vk ((w.alloc (.cells #[vt] 26)).alloc (.cells #[M O N.k,M O N.f,M O N.t,M O N.l,M O N.op,M O N.n,S N.x,vn,vk] 45)):=by
 have a:Ax w.heap.size w ((w.alloc (.cells #[vt] 26)).alloc (.cells #[M O N.k,M O N.f,M O N.t,M O N.l,M O N.op,M O N.n,S N.x,vn,vk] 45)):=((ah _ w).alloc (ag _) _).alloc (by simp) _;refine⟨h.below a,?_,?_,a⟩
 ·rw[au _ _ _ _ _ _ ((dg _ _ _ (by simp)).trans (aA w _))];rfl
 ·have:=aA (w.alloc (.cells #[vt] 26)) (.cells #[M O N.k,M O N.f,M O N.t,M O N.l,M O N.op,M O N.n,S N.x,vn,vk] 45);rw[cD]at this;exact this
theorem qj(a:NArg w vt ns N vn vk)(i:Nat)(g:i<N.ks.length):
  Y T 169 #[Z #[vt],jf N vn vk,M O i] w fun e w'=>e= U (M O (fh ns N i))/\Ax w.heap.size w w':=by
 obtain⟨h,b,c,d,f,j⟩:=a.ok.get g;rw[f];exact ac1 w vt ns N b vn vk i h a.t a.n a.k c d a.ln a.l2
abbrev aN(N:Nd)(vn vk:Bs):Bs:= Z #[M O N.k,M O N.f,M O N.t,M O N.l,M O N.op,M O N.n,S N.x,vn,vk]
section
variable {w W : World} {vt vn vk : Value} {ns : List Nd} {N : Nd} {Q : Ending → World → Prop} (s : St w vt ns N vn vk W)
include s
theorem St.bare{a b c e:Bool}(k:∀d,St w vt ns N vn vk d->Q (U (A2 (bC N a b c e))) d):Y T 170 #[aN N vn vk,A2 a,A2 b,A2 c,A2 e] W Q:=bv (Ll _ N _ _ s.a.n s.a.k s.a.l1 _ _ _ _) fun g f=>k g (s.below f)
theorem St.named{a b:Int}(k:∀c,St w vt ns N vn vk c->Q (U (A2 (eG N a b))) c):Y T 171 #[aN N vn vk,M O a,M O b] W Q:=bv (I8 _ N _ _ a b s.a.n s.a.k s.a.l1 s.a.ls) fun e d=>k e (s.below d)
theorem St.ex1(d:1<=N.ks.length)(k:∀b,St w vt ns N vn vk b->Q (U (A2 (lg ns N 1 0))) b):Y T 172 #[Z #[vt],aN N vn vk,M O 0,M O 1] W Q:=bv (lu _ _ ns N _ _ 0 1 s.a.t s.a.n s.a.k s.a.ok d s.a.ln s.a.l2) fun e c=>k e (s.below c)
theorem St.ex2(d:2<=N.ks.length)(k:∀b,St w vt ns N vn vk b->Q (U (A2 (lg ns N 2 0))) b):Y T 172 #[Z #[vt],aN N vn vk,M O 0,M O 2] W Q:=bv (lu _ _ ns N _ _ 0 2 s.a.t s.a.n s.a.k s.a.ok d s.a.ln s.a.l2) fun e c=>k e (s.below c)
theorem St.exL(k:∀b,St w vt ns N vn vk b->Q (U (A2 (lg ns N N.ks.length 0))) b):Y T 172 #[Z #[vt],aN N vn vk,M O 0,M O (N.ks.length:Int)] W Q:=bv (lu _ _ ns N _ _ 0 _ s.a.t s.a.n s.a.k s.a.ok (ag _) s.a.ln s.a.l2) fun d c=>k d (s.below c)
theorem St.kid0(d:0<N.ks.length)(k:∀b,St w vt ns N vn vk b->Q (U (M O (fh ns N 0))) b):Y T 169 #[Z #[vt],aN N vn vk,M O 0] W Q:=bv (qj s.a 0 d) fun e c=>k e (s.below c)
theorem St.kid1(d:1<N.ks.length)(k:∀b,St w vt ns N vn vk b->Q (U (M O (fh ns N 1))) b):Y T 169 #[Z #[vt],aN N vn vk,M O 1] W Q:=bv (qj s.a 1 d) fun e c=>k e (s.below c)
end
theorem afc(a:NArg w vt ns N vn vk)(b:1<N.ks.length):
  Y T 169 #[Z #[vt],Z #[M O N.k,M O N.f,M O N.t,M O N.l,M O N.op,M O N.n,S N.x,vn,vk],M O 1] w fun e w'=>e= U (M O (fh ns N 1))/\Ax w.heap.size w w':=qj a 1 b
