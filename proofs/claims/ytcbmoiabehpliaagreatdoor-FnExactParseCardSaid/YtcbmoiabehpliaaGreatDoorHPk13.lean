import Derived.Test.YtcbmoiabehpliaaGreatDoorHPk01
import Derived.Test.YtcbmoiabehpliaaGreatDoorHPk06
import Derived.Deep.Cut
import Derived.Deep.CutBlock
import Derived.Test.YtcbmoiabehpliaaGreatDoorHPk12
import Derived.Test.YtcbmoiabehpliaaGreatDoorHPk09
set_option linter.unusedVariables false
set_option maxRecDepth 100000
set_option maxHeartbeats 3200000
namespace Go.Proofs.YtcbmoiabehpliaaGreatDoor
open Go.RowKit Go.Maps Go.WideMaps
theorem ip(s:ByteArray)(i:Nat)(c:Int)(d:0<c):(lk s i==c)=decide (ae s i=c):=by
 unfold lk;split
 ·by_cases a:ae s i=c<;>simp[a]
 ·rename_i a;rw[aX a];have b:((0:Int)==c)=false:=by rw[beq_eq_false_iff_ne];omega
  rw[b];symm;rw[decide_eq_false_iff_not];omega
def tJ(s:ByteArray)(p:Nat):Bool:=decide ((ae s (nA0 s p)=46/\aG (ae s (nA0 s p+1))=true)\/ae s (nA1 s (nA0 s p))=101)
def Ed(s:ByteArray)(p E:Nat)(R:Option Nat):Value:=match R with
 |some a=> .agg #[.int .i64 2,.int .i64 p,.int .i64 (E:Int),.int .i64 0,.int .i64 (a:Int),.string ⟨#[]⟩]
 |none=> .agg #[.int .i64 3,.int .i64 p,.int .i64 (E:Int),.int .i64 0,.int .i64 0,.string (s.extract p E)]
def Dr(s:ByteArray)(p:Nat):Value:=
 if(eT s (nA1 s (nA0 s p))).2=true then
  (if tJ s p=true then .agg #[.int .i64 3,.int .i64 p,.int .i64 ((eT s (nA1 s (nA0 s p))).1:Int),.int .i64 0,.int .i64 0,.string (s.extract p (eT s (nA1 s (nA0 s p))).1)]
  else Ed s p (eT s (nA1 s (nA0 s p))).1 (jh s p ((eT s (nA1 s (nA0 s p))).1-p)))
 else .agg #[.int .i64 3,.int .i64 p,.int .i64 0,.int .i64 0,.int .i64 0,.string ⟨#[]⟩]
def FI(s:ByteArray)(p:Nat):Int:=if(eT s (nA1 s (nA0 s p))).2=true then -1 else((eT s (nA1 s (nA0 s p))).1:Int)
theorem tL(s:ByteArray)(p j:Nat)(h:jh s p j=none):∀n,j<=n->jh s p n=none
 |0,a=>by
  obtain rfl:j=0:=by omega
  exact h
 |n+1,a=>by
  rcases Nat.eq_or_lt_of_le a with rfl|h2
  ·exact h
  ·rw[jh,tL s p j h n (by omega)]
theorem rg(s:ByteArray)(p:Nat)(d:aG (ae s p)=true)(a:tJ s p=false):(eT s (nA1 s (nA0 s p)))=(nA0 s p,true)/\∀i,p<=i->i<nA0 s p->aG (ae s i)=true:=by
 unfold tJ at a;rw[decide_eq_false_iff_not]at a;have e:nA1 s (nA0 s p)=nA0 s p:=by unfold nA1;rw[if_neg (fun b=>a (.inl b))]
 rw[e]at a⊢;have f:eT s (nA0 s p)=(nA0 s p,true):=by unfold eT;rw[if_neg (fun b=>a (.inr b))]
 refine⟨f,fun i g c=>?_⟩;rcases Nat.eq_or_lt_of_le g with rfl|h3
 ·exact d
 ·unfold nA0 at c;split at c
  ·omega
  ·exact nH aG s _ (p+1) i h3 c
theorem Gy(s:ByteArray)(a:Nat)(h:ae s a=101)(c:aG (ae s (nA2 s a))=false):eT s a=(nA2 s a,false):=by
 have b:jv s (nA2 s a)=nA2 s a:=by unfold jv cZ;rw[if_neg (by rw[c];simp)]
 unfold eT;rw[if_pos h,b];simp
theorem Ee(s:ByteArray)(a:Nat)(f:a<s.size)(h:ae s a=101)(b:aG (ae s (nA2 s a))=true):eT s a=(jv s (nA2 s a),true):=by
 have d:=fL b;have e:=fx aG jS s s.size (nA2 s a+1) (by omega);have c:jv s (nA2 s a)=cZ aG s s.size (nA2 s a+1):=by
  show cZ aG s (s.size+1) (nA2 s a)=_;rw[cZ,if_pos b]
 unfold eT;rw[if_pos h,c];simp;omega
theorem AU(s:ByteArray)(a:Nat)(h:ae s a=101):a<nA2 s a/\nA2 s a<=s.size:=by
 have b:=aS h (by omega);unfold nA2;split
 ·rename_i hs;rcases hs with hs|hs
  ·have:=aS hs (by omega);omega
  ·have:=aS hs (by omega);omega
 ·omega
theorem eW(s:ByteArray)(k:Nat):aG (ae s k)=true\/aG (ae s k)=false:=by cases aG (ae s k)<;>simp
theorem rh(s:ByteArray)(I:s.size<=1100000)(p:Nat)(c0:p<s.size)(ch:aG (ae s p)=true)(C:¬(ae s p=48/\ae s (p+1)=120))(w:World):Calls Tryz.prog 84 #[.string s,.agg #[.int .i64 0,.int .i64 p,.int .i64 0,.int .i64 0,.int .i64 0,.string ⟨#[]⟩]] w fun e u=>e= .returned (.tuple #[Dr s p,.int .i64 (FI s p)])/\Below w.heap.size w u:=by
 obtain⟨ea,b9⟩:=ah (Dr s p);obtain⟨e2,ck⟩:=ah (FI s p);rw[b9,ck];have l:=ab b9;have r:=ab ck;clear b9 ck;have bs:aO w.heap.size ((w.alloc (.cells #[.int .i64 2,.int .i64 p,.int .i64 0,.int .i64 0,.int .i64 0,.string ⟨#[]⟩] 45)).alloc (.cells #[.int .i64 0,.int .i64 0,.int .i64 0,.int .i64 0,.int .i64 0,.string ⟨#[]⟩] 45)) 2 p 0 0 0 ⟨#[]⟩:=(Below.heap_alloc _ _ _ (by simp)).trans (heap_alloc_new w _);have cf:=fun w=>aI c0 w;have bb:aO (w.heap.size+1) ((w.alloc (.cells #[.int .i64 2,.int .i64 p,.int .i64 0,.int .i64 0,.int .i64 0,.string ⟨#[]⟩] 45)).alloc (.cells #[.int .i64 0,.int .i64 0,.int .i64 0,.int .i64 0,.int .i64 0,.string ⟨#[]⟩] 45)) 0 0 0 0 0 ⟨#[]⟩:=by
  have:=heap_alloc_new (w.alloc (.cells #[.int .i64 2,.int .i64 p,.int .i64 0,.int .i64 0,.int .i64 0,.string ⟨#[]⟩] 45)) (.cells #[.int .i64 0,.int .i64 0,.int .i64 0,.int .i64 0,.int .i64 0,.string ⟨#[]⟩] 45);rw[World.size_alloc]at this;exact this
 have b3:Below w.heap.size w ((w.alloc (.cells #[.int .i64 2,.int .i64 p,.int .i64 0,.int .i64 0,.int .i64 0,.string ⟨#[]⟩] 45)).alloc (.cells #[.int .i64 0,.int .i64 0,.int .i64 0,.int .i64 0,.int .i64 0,.string ⟨#[]⟩] 45)):=(((Below.refl _ w).alloc (Nat.le_refl _) _).alloc (by simp) _);go_in;go_upto_region 3 with fail
 generalize (w.alloc (.cells #[.int .i64 2,.int .i64 p,.int .i64 0,.int .i64 0,.int .i64 0,.string ⟨#[]⟩] 45)).alloc (.cells #[.int .i64 0,.int .i64 0,.int .i64 0,.int .i64 0,.int .i64 0,.string ⟨#[]⟩] 45)=c3 at bs bb b3;have es:w.heap.size+1<c3.heap.size:=lt_of_block bb;obtain⟨L,T,V,K,R,U,S⟩:=aw bs;go_cut [22] from 9 (fun eq o=>eq= .bool false/\o=c3)
 case first=>
  by_cases z:ae s p=48
  ·rw[z]at cf;have cv:¬ae s (p+1)=120:=fun h=>C ⟨z,h⟩;have el:(lk s (p+1)==120)=false:=by rw[ip _ _ _ (by omega)];simpa using cv
   have f:∀w,Calls Tryz.prog 80 #[.string s,.int .i64 ((p:Int)+1)] w fun e u=>e= .returned (.int .u8 (lk s (p+1)))/\u=w:=fun w=>bS s I _ (p+1) (by omega) w;generalize lk s (p+1)=n at f el;clear z cv C ch l r;go_wp2_with (go_at_call 80;refine bc (f _) ?_);go_meet
   case rel=>exact⟨rfl,rfl⟩
  ·have b8:(ae s p==48)=false:=by rw[beq_eq_false_iff_ne];exact z
   generalize ae s p=n at cf b8;clear z C l r;go_wp2_with fail;go_meet
   case rel=>exact⟨rfl,rfl⟩
 case rest=>
  obtain⟨rfl,rfl⟩:=hcut;go_upto_if 34 with fail
  go_cut [6] from 9 (fun Z o=>Z= .int .i64 (nA0 s p:Int)/\o=wc)
  case first=>
   by_cases z:ae s p=48
   ·have ei:Hid (nA0 s p=p+1):=by show _=_;unfold nA0;rw[if_pos z]
    rw[z];clear z C l r;go_wp2_with fail;go_meet
    case rel=>exact⟨by rw[ei.out];go_num,rfl⟩
   ·have H:Hid (cZ aG s (s.size+1) (p+1)=nA0 s p):=by show _=_;unfold nA0;rw[if_neg z];rfl
    have b8:(ae s p !=48)=true:=by rw[bne_iff_ne];exact z
    rw[b8];obtain⟨g,t⟩:=ah (nA0 s p);rw[t]at H;have B:=ab t;clear z C l r b8 t;go_wp2_with fail;go_loop [6] (fun i=>∃(b k:Nat),b<=s.size/\s.size<b+k/\i= .int .i64 b/\Hid (cZ aG s k b=g)) (fun i=>s.size-(intOf i).toNat)
    case atStart=>exact⟨p+1,s.size+1,by omega,by omega,by first|rfl|(congr 1;omega),H⟩
    case round=>
     obtain⟨b,k,d0,ds,rfl,bl⟩:=hrel;obtain⟨k,rfl⟩:∃bo,k=bo+1:=⟨k-1,by omega⟩;have d:=bl.out;unfold cZ at d;have f:=fun w=>bS s I (b:Int) b rfl w;rcases eW s b with h1|h1
     ·have c4:b<s.size:=fL h1;have c:=fun w=>aT ((eS s b).trans h1) w;rw[if_pos h1]at d;have m:=ab d;generalize lk s b=n at f c;clear d h1;go_wp2_with (first|(go_at_call 80;refine bc (f _) ?_)|(go_at_call 83;refine bc (c _) ?_));go_round
      case rel=>exact⟨b+1,k,by omega,by omega,by go_num,m⟩
      case measure=>simp[intOf];omega
     ·have c:=fun w=>aT ((eS s b).trans h1) w;rw[if_neg (by rw[h1];simp)]at d;have m:=ab d;generalize lk s b=n at f c;clear d h1;go_wp2_with (first|(go_at_call 80;refine bc (f _) ?_)|(go_at_call 83;refine bc (c _) ?_));go_meet
      case rel=>exact⟨by rw[B.out,<-m.out],rfl⟩
  case rest=>
   obtain⟨rfl,rfl⟩:=hcut;have cc:=vQ s p c0;go_upto_region 9 with fail
   obtain⟨D,df⟩:∃D:Bool,decide (ae s (nA0 s p)=46/\aG (ae s (nA0 s p+1))=true)=D:=⟨_,rfl⟩;have y:=ab df;clear df;go_cut [51] from 9 (fun em o=>em= .bool D/\o=wc)
   case first=>
    have f:=fun w=>bS s I (nA0 s p:Int) (nA0 s p) rfl w;have A:∀w,Calls Tryz.prog 80 #[.string s,.int .i64 ((nA0 s p:Int)+1)] w fun e u=>e= .returned (.int .u8 (lk s (nA0 s p+1)))/\u=w:=fun w=>bS s I _ (nA0 s p+1) (by omega) w;have bh:=ip s (nA0 s p) 46 (by omega);by_cases am:ae s (nA0 s p)=46
    ·rw[decide_eq_true am]at bh;have af:=y.out;rcases eW s (nA0 s p+1) with h1|h1
     ·have c:=fun w=>aT ((eS s (nA0 s p+1)).trans h1) w;rw[decide_eq_true ⟨am,h1⟩]at af;subst af;generalize lk s (nA0 s p+1)=et at A c;generalize lk s (nA0 s p)=n at f bh;clear am h1 y l r;go_wp2_with (first|(go_at_call 80;first|(with_reducible refine bc (f _) ?_)|(with_reducible refine bc (A _) ?_))|(go_at_call 83;refine bc (c _) ?_));go_meet
      case rel=>exact⟨rfl,rfl⟩
     ·have c:=fun w=>aT ((eS s (nA0 s p+1)).trans h1) w;rw[decide_eq_false (fun h=>by rw[h.2]at h1;cases h1)]at af;subst af;generalize lk s (nA0 s p+1)=et at A c;generalize lk s (nA0 s p)=n at f bh;clear am h1 y l r;go_wp2_with (first|(go_at_call 80;first|(with_reducible refine bc (f _) ?_)|(with_reducible refine bc (A _) ?_))|(go_at_call 83;refine bc (c _) ?_));go_meet
      case rel=>exact⟨rfl,rfl⟩
    ·rw[decide_eq_false am]at bh;have af:=y.out;rw[decide_eq_false (fun h=>am h.1)]at af;subst af;generalize lk s (nA0 s p)=n at f bh;clear am y l r;go_wp2_with (first|(go_at_call 80;refine bc (f _) ?_));go_meet
     case rel=>exact⟨rfl,rfl⟩
   case rest=>
    obtain⟨rfl,rfl⟩:=hcut;go_upto_if 51 with fail
    go_cut [6] from 9 (fun Z o=>Z= .int .i64 (nA1 s (nA0 s p):Int)/\aO w.heap.size o (if D=true then 3 else 2) p 0 0 0 ⟨#[]⟩/\aO (w.heap.size+1) o 0 0 0 0 0 ⟨#[]⟩/\Below w.heap.size w o)
    case first=>
     cases D with
     |true=>
      have a0:=of_decide_eq_true y.out;have H:Hid (cZ aG s (s.size+1) (nA0 s p+1)=nA1 s (nA0 s p)):=by show _=_;unfold nA1;rw[if_pos a0];rfl
      have eh:=fL a0.2;obtain⟨g,t⟩:=ah (nA1 s (nA0 s p));rw[t]at H;have B:=ab t;generalize nA0 s p=eN at H eh cc⊢;clear a0 y l r C t;have G:=bs.setKind 3;have E:=bb.other (a:=⟨w.heap.size,0,none⟩) (by simp) (.int .i64 3);have J:Below w.heap.size w (wc.setCell ⟨w.heap.size,0,none⟩ (.int .i64 3)):=b3.setCell (by simp) _;go_wp2_with fail;go_loop [6] (fun i=>∃(b k:Nat),b<=s.size/\s.size<b+k/\i= .int .i64 b/\Hid (cZ aG s k b=g)) (fun i=>s.size-(intOf i).toNat)
      case atStart=>exact⟨eN+1,s.size+1,by omega,by omega,by first|rfl|(congr 1;omega),H⟩
      case round=>
       obtain⟨b,k,d0,ds,rfl,bl⟩:=hrel;obtain⟨k,rfl⟩:∃bo,k=bo+1:=⟨k-1,by omega⟩;have d:=bl.out;unfold cZ at d;have f:=fun w=>bS s I (b:Int) b rfl w;rcases eW s b with h1|h1
       ·have c4:b<s.size:=fL h1;have c:=fun w=>aT ((eS s b).trans h1) w;rw[if_pos h1]at d;have m:=ab d;generalize lk s b=n at f c;clear d h1;go_wp2_with (first|(go_at_call 80;refine bc (f _) ?_)|(go_at_call 83;refine bc (c _) ?_));go_round
        case rel=>exact⟨b+1,k,by omega,by omega,by go_num,m⟩
        case measure=>simp[intOf];omega
       ·have c:=fun w=>aT ((eS s b).trans h1) w;rw[if_neg (by rw[h1];simp)]at d;have m:=ab d;generalize lk s b=n at f c;clear d h1;go_wp2_with (first|(go_at_call 80;refine bc (f _) ?_)|(go_at_call 83;refine bc (c _) ?_));go_meet
        case rel=>exact⟨by rw[B.out,<-m.out],G,E,J⟩
     |false=>
      have a0:=of_decide_eq_false y.out;have t:nA1 s (nA0 s p)=nA0 s p:=by unfold nA1;rw[if_neg a0]
      have B:=ab t;clear a0 y l r C t;go_wp2_with fail;go_meet
      case rel=>exact⟨by rw[B.out],bs,bb,b3⟩
    case rest=>
     obtain⟨rfl,Y,a3,bD⟩:=hcut;clear bs bb b3 L T V K R U S es;have cF:=vR s _ cc.2;have f:=fun w=>bS s I (nA1 s (nA0 s p):Int) (nA1 s (nA0 s p)) rfl w;have c6:=ip s (nA1 s (nA0 s p)) 101 (by omega);obtain⟨ak,ca⟩:∃ak:Bool,decide (ae s (nA1 s (nA0 s p))=101)=ak:=⟨_,rfl⟩;have a2:=ab ca;rw[ca]at c6;clear ca;obtain⟨L,T,V,K,R,U,S⟩:=aw Y;obtain⟨z0,N,X,W,M,Q,b1⟩:=aw a3;have av:w.heap.size<wc.heap.size:=lt_of_block Y;have bw:w.heap.size+1<wc.heap.size:=lt_of_block a3;go_upto_if 64 with(go_at_call 80;refine(f _).mono ?_;rintro e u ⟨rfl,x⟩;obtain rfl:=x.symm)
     clear f c6;go_cut [6] from 9 (fun Z o=>Z= .int .i64 ((eT s (nA1 s (nA0 s p))).1:Int)/\(eT s (nA1 s (nA0 s p))).2=true/\aO w.heap.size o (if(D||ak)=true then 3 else 2) p 0 0 0 ⟨#[]⟩/\aO (w.heap.size+1) o 0 0 0 0 0 ⟨#[]⟩/\Below w.heap.size w o)
     case first=>
      cases ak with
      |false=>
       have O:=of_decide_eq_false a2.out;have B:Hid (eT s (nA1 s (nA0 s p))=(nA1 s (nA0 s p),true)):=by show _=_;unfold eT;rw[if_neg O]
       rw[<-Bool.or_false D]at Y;clear O a2 l r y C;go_wp2_with fail;go_meet
       case rel=>exact⟨by rw[B.out],by rw[B.out],Y,a3,bD⟩
      |true=>
       have O:=of_decide_eq_true a2.out;have a9:=Gy s (nA1 s (nA0 s p)) O;have a8:=Ee s (nA1 s (nA0 s p)) (aS O (by omega)) O;have cz:=AU s (nA1 s (nA0 s p)) O;have A:∀w,Calls Tryz.prog 80 #[.string s,.int .i64 ((nA1 s (nA0 s p):Int)+1)] w fun e u=>e= .returned (.int .u8 (lk s (nA1 s (nA0 s p)+1)))/\u=w:=fun w=>bS s I _ (nA1 s (nA0 s p)+1) (by omega) w;have b7:=ip s (nA1 s (nA0 s p)+1) 43 (by omega);have b6:=ip s (nA1 s (nA0 s p)+1) 45 (by omega);have ap:Hid (nA2 s (nA1 s (nA0 s p))=if decide (ae s (nA1 s (nA0 s p)+1)=43)=true\/decide (ae s (nA1 s (nA0 s p)+1)=45)=true then nA1 s (nA0 s p)+1+1 else nA1 s (nA0 s p)+1):=by show _=_;unfold nA2;simp
       generalize decide (ae s (nA1 s (nA0 s p)+1)=43)=cl at b7 ap;generalize decide (ae s (nA1 s (nA0 s p)+1)=45)=bt at b6 ap;have G:=Y.setKind 3;have E:=a3.other (a:=⟨w.heap.size,0,none⟩) (by simp) (.int .i64 3);have J:Below w.heap.size w (wc.setCell ⟨w.heap.size,0,none⟩ (.int .i64 3)):=bD.setCell (by simp) _;obtain⟨b4,cq⟩:=ah (wc.setCell ⟨w.heap.size,0,none⟩ (.int .i64 3));rw[cq]at G E J;have d3:=ab cq;clear O a2 y C cq;go_upto_region 17 with fail
       rw[d3.out];clear d3 Y a3 bD L T V K R U S z0 N X W M Q b1 av bw;obtain⟨L,T,V,K,R,U,S⟩:=aw G;obtain⟨z0,N,X,W,M,Q,b1⟩:=aw E;have av:w.heap.size<b4.heap.size:=lt_of_block G;have bw:w.heap.size+1<b4.heap.size:=lt_of_block E;go_cut [77] from 9 (fun d9 o=>d9= .bool (bt||cl)/\o=b4)
       case first=>
        generalize lk s (nA1 s (nA0 s p)+1)=n at A b7 b6;clear l r a9 a8 ap;cases bt with
        |true=>
         go_wp2_with (first|(go_at_call 80;refine(A _).mono ?_;rintro e u ⟨rfl,x⟩;obtain rfl:=x.symm));go_meet
         case rel=>exact⟨rfl,rfl⟩
        |false=>
         go_wp2_with (first|(go_at_call 80;refine(A _).mono ?_;rintro e u ⟨rfl,x⟩;obtain rfl:=x.symm));go_meet
         case rel=>exact⟨rfl,rfl⟩
       case rest=>
        obtain⟨rfl,bn⟩:=hcut;obtain rfl:=bn.symm;clear bn;go_upto_if 77 with fail
        go_cut [6] from 9 (fun Z o=>Z= .int .i64 (nA2 s (nA1 s (nA0 s p)):Int)/\o=b4)
        case first=>
         clear l r a9 a8 b7 b6 A;obtain⟨bN,cm⟩:∃bN:Bool,(bt||cl)=bN:=⟨_,rfl⟩;have d2:Hid (nA2 s (nA1 s (nA0 s p))=if bN=true then nA1 s (nA0 s p)+1+1 else nA1 s (nA0 s p)+1):=by show _=_;rw[ap.out,<-cm];cases bt<;>cases cl<;>simp
         rw[cm];clear cm ap;cases bN with
         |true=>
          go_wp2_with fail;go_meet
          case rel=>exact⟨by rw[d2.out];simp only[if_true];go_num,rfl⟩
         |false=>
          go_wp2_with fail;go_meet
          case rel=>exact⟨by rw[d2.out];simp,rfl⟩
        case rest=>
         obtain⟨rfl,bn⟩:=hcut;obtain rfl:=bn.symm;clear bn ap b7 b6 A;have al:=fun w=>bS s I (nA2 s (nA1 s (nA0 s p)):Int) (nA2 s (nA1 s (nA0 s p))) rfl w;rcases eW s (nA2 s (nA1 s (nA0 s p))) with h1|h1
         ·have c:=fun w=>aT ((eS s (nA2 s (nA1 s (nA0 s p)))).trans h1) w;have d8:Hid (eT s (nA1 s (nA0 s p))=(jv s (nA2 s (nA1 s (nA0 s p))),true)):=a8 h1;obtain⟨g,t⟩:=ah (jv s (nA2 s (nA1 s (nA0 s p))));have H:=ab t;have B:=ab t;generalize lk s (nA2 s (nA1 s (nA0 s p)))=ed at al c;generalize nA2 s (nA1 s (nA0 s p))=ex at H cz al⊢;clear a9 a8 t h1 l r;go_wp2_with (first|(go_at_call 80;refine(al _).mono ?_;rintro e u ⟨rfl,x⟩;obtain rfl:=x.symm)|(go_at_call 83;refine(c _).mono ?_;rintro e u ⟨rfl,x⟩;obtain rfl:=x.symm));clear al c;go_loop [6] (fun i=>∃(b k:Nat),b<=s.size/\s.size<b+k/\i= .int .i64 b/\Hid (cZ aG s k b=g)) (fun i=>s.size-(intOf i).toNat)
          case atStart=>exact⟨ex,s.size+1,by omega,by omega,by first|rfl|(congr 1;omega),H⟩
          case round=>
           obtain⟨b,k,d0,ds,rfl,bl⟩:=hrel;obtain⟨k,rfl⟩:∃bo,k=bo+1:=⟨k-1,by omega⟩;have d:=bl.out;unfold cZ at d;have f:=fun w=>bS s I (b:Int) b rfl w;rcases eW s b with h1|h1
           ·have c4:b<s.size:=fL h1;have c:=fun w=>aT ((eS s b).trans h1) w;rw[if_pos h1]at d;have m:=ab d;generalize lk s b=n at f c;clear d h1;go_wp2_with (first|(go_at_call 80;refine bc (f _) ?_)|(go_at_call 83;refine bc (c _) ?_));go_round
            case rel=>exact⟨b+1,k,by omega,by omega,by go_num,m⟩
            case measure=>simp[intOf];omega
           ·have c:=fun w=>aT ((eS s b).trans h1) w;rw[if_neg (by rw[h1];simp)]at d;have m:=ab d;generalize lk s b=n at f c;clear d h1;go_wp2_with (first|(go_at_call 80;refine bc (f _) ?_)|(go_at_call 83;refine bc (c _) ?_));go_meet
            case rel=>exact⟨by rw[d8.out,B.out,<-m.out],by rw[d8.out],by simpa using G,E,J⟩
         ·have c:=fun w=>aT ((eS s (nA2 s (nA1 s (nA0 s p)))).trans h1) w;have cw:=a9 h1;have j:=l.out;have F:=r.out;unfold Dr at j;unfold FI at F;rw[cw]at j F;simp only[if_neg (show ¬false=true by simp)]at j F;subst j;obtain⟨cn,d6⟩:∃cn:Int,(nA2 s (nA1 s (nA0 s p)):Int)=cn:=⟨_,rfl⟩;rw[d6]at F al⊢;subst F;generalize lk s (nA2 s (nA1 s (nA0 s p)))=ed at al c;clear cw h1 a9 a8 l r cz d6;go_wp2_with (first|(go_at_call 80;refine(al _).mono ?_;rintro e u ⟨rfl,x⟩;obtain rfl:=x.symm)|(go_at_call 83;refine(c _).mono ?_;rintro e u ⟨rfl,x⟩;obtain rfl:=x.symm));refine bodyPost_ret (v:= .tuple #[.agg #[.int .i64 3,.int .i64 p,.int .i64 0,.int .i64 0,.int .i64 0,.string ⟨#[]⟩],.int .i64 cn]) (by simp[results,Tryz.results84,go_sem,z0,N,X,W,M,Q]) rfl ⟨rfl,?_⟩
          iterate 6 refine Below.setCell ?_ (by simp) _
          exact J
     case rest=>
      obtain⟨rfl,cN,a5,cx,c7⟩:=hcut;have c8:=vP s _ cF.2;have cs:tJ s p=(D||ak):=by unfold tJ;rw[<-y.out,<-a2.out];simp
      have cr:=rg s p ch;have j:=l.out;have F:=r.out;unfold Dr at j;unfold FI at F;rw[if_pos cN]at j F;subst F;rw[cs]at j cr;have ec:p<(eT s (nA1 s (nA0 s p))).1:=by omega
      have ep:(eT s (nA1 s (nA0 s p))).1<=s.size:=c8.2;have b0:(D||ak)=false->∀i,p<=i->i<(eT s (nA1 s (nA0 s p))).1->aG (ae s i)=true:=fun h i h1 cI=>by
       have d5:=cr h;exact d5.2 i h1 (by rw[d5.1]at cI;exact cI)
      clear cr cs y a2 l r cN c8 cF cc C cf ch;generalize (D||ak)=an at a5 j b0;generalize (eT s (nA1 s (nA0 s p))).1=g at ec ep j b0⊢;clear Y a3 bD L T V K R U S z0 N X W M Q b1 av bw;obtain⟨ar,cg⟩:=ah (jh s p (g-p));rw[cg]at j;have bk:=ab cg;have l:=ab j;have bx:=ab b0;clear j b0 cg;obtain⟨a7,b5⟩:∃a7:Int,(if an=true then(3:Int) else 2)=a7:=⟨_,rfl⟩;rw[b5]at a5;have c9:Hid ((a7=2/\an=false/\(0:Int)<=0/\jh s p (p-p)=some (0:Int).toNat)\/(a7=3/\(an=true\/ar=none))):=by
       cases an with
       |true=>exact .inr ⟨b5.symm,.inl rfl⟩
       |false=>exact .inl ⟨b5.symm,rfl,by omega,by rw[Nat.sub_self];rfl⟩
      clear b5;obtain⟨L,T,V,K,R,U,S⟩:=aw a5;have av:w.heap.size<wc.heap.size:=lt_of_block a5;have G:=a5.setTo (g:Int);have E:=cx.other (a:=⟨w.heap.size,2,none⟩) (by simp) (.int .i64 (g:Int));have J:Below w.heap.size w (wc.setCell ⟨w.heap.size,2,none⟩ (.int .i64 (g:Int))):=c7.setCell (by simp) _;go_wp2_with fail;go_loopw [7,8] (fun eb i wr=>∃(b:Nat) (c a:Int),p<=b/\b<=g/\i= .int .i64 b/\eb= .int .u64 a/\aO w.heap.size wr c p (g:Int) 0 0 ⟨#[]⟩/\aO (w.heap.size+1) wr 0 0 0 0 0 ⟨#[]⟩/\Below w.heap.size w wr/\Hid ((c=2/\an=false/\0<=a/\jh s p (b-p)=some a.toNat)\/(c=3/\(an=true\/ar=none)))) (fun _ i _=>g-(intOf i).toNat)
      case atStart=>exact⟨p,a7,0,Nat.le_refl _,by omega,rfl,rfl,G,E,J,c9⟩
      case round=>
       obtain⟨b,c,a,e0,e3,rfl,rfl,bd,br,a4,d⟩:=hrel;clear G E J a5 cx c7 L T V K R U S av c9;obtain⟨L,T,V,K,R,U,S⟩:=aw bd;obtain⟨z0,N,X,W,M,Q,b1⟩:=aw br;have av:w.heap.size<wr.heap.size:=lt_of_block bd;have bw:w.heap.size+1<wr.heap.size:=lt_of_block br;rcases d.out with⟨rfl,bA,e1,a6⟩|⟨rfl,dn⟩
       ·have cP:=Gi s p _ _ a6;by_cases d7:b<g
        ·have ct:=bx.out bA b e0 d7;have ek:=eQ ct;have en:=fun w=>aI (s:=s) (i:=b) (by omega) w;have cb:jh s p (b+1-p)=if a.toNat*10+(ae s b-48).toNat<=9223372036854775807 then some (a.toNat*10+(ae s b-48).toNat) else none:=by
          rw[show b+1-p=(b-p)+1 by omega,jh,a6,show p+(b-p)=b by omega]
         have ev:a<=9223372036854775807:=by omega
         have c5:jh s p (b+1-p)=none->ar=none:=fun h=>by rw[<-bk.out];exact tL s p _ h _ (by omega)
         have m:Hid ((¬a*10+(ae s b-48)<=9223372036854775807->ar=none)/\(a*10+(ae s b-48)<=9223372036854775807->jh s p (b+1-p)=some (a*10+(ae s b-48)).toNat)):=by
          refine⟨fun h=>c5 (by rw[cb,if_neg (by omega)]),fun h=>?_⟩;rw[cb,if_pos (by omega)]
          congr 1
          omega
         generalize ae s b=n at en ek m;clear ct cb c5 a6 d bx bk l cP;have d4:=bd.setKind 3;have dq:=br.other (a:=⟨w.heap.size,0,none⟩) (by simp) (.int .i64 3);have dk:Below w.heap.size w (wr.setCell ⟨w.heap.size,0,none⟩ (.int .i64 3)):=a4.setCell (by simp) _;have d1:(b:Int)<(g:Int):=by omega
         rcases(show 922337203685477580<a\/(a=922337203685477580/\55<n)\/(a=922337203685477580/\¬55<n)\/a<922337203685477580 by omega) with q|⟨q,ey⟩|⟨q,ey⟩|q
         ·have ao:Hid (ar=none):=m.out.1 (by omega);clear m;go_wp2;go_roundw
          case rel=>exact⟨b+1,3,_,by omega,by omega,by go_num,rfl,d4,dq,dk,.inr ⟨rfl,.inr ao.out⟩⟩
          case measure=>simp[intOf];omega
         ·have ao:Hid (ar=none):=m.out.1 (by omega);have cB:(a==922337203685477580)=true:=by rw[beq_iff_eq];exact q
          have cT:¬922337203685477580<a:=by omega
          clear m q;go_wp2;go_roundw
          case rel=>exact⟨b+1,3,_,by omega,by omega,by go_num,rfl,d4,dq,dk,.inr ⟨rfl,.inr ao.out⟩⟩
          case measure=>simp[intOf];omega
         ·have ao:Hid (jh s p (b+1-p)=some (a*10+(n-48)).toNat):=m.out.2 (by omega);have cB:(a==922337203685477580)=true:=by rw[beq_iff_eq];exact q
          have cT:¬922337203685477580<a:=by omega
          have ef:a*10+(n-48)<=9223372036854775807:=by omega
          clear m q;go_wp2;go_roundw
          case rel=>exact⟨b+1,2,a*10+(n-48),by omega,by omega,by go_num,by first|rfl|(congr 1;omega),bd,br,a4,.inl ⟨rfl,bA,by omega,ao.out⟩⟩
          case measure=>simp[intOf];omega
         ·have ao:Hid (jh s p (b+1-p)=some (a*10+(n-48)).toNat):=m.out.2 (by omega);have cB:(a==922337203685477580)=false:=by rw[beq_eq_false_iff_ne];omega
          have cT:¬922337203685477580<a:=by omega
          have ef:a*10+(n-48)<=9223372036854775807:=by omega
          clear m;go_wp2;go_roundw
          case rel=>exact⟨b+1,2,a*10+(n-48),by omega,by omega,by go_num,by first|rfl|(congr 1;omega),bd,br,a4,.inl ⟨rfl,bA,by omega,ao.out⟩⟩
          case measure=>simp[intOf];omega
        ·obtain rfl:b=g:=by omega
         have j:=l.out;rw[bA,<-bk.out,a6]at j;simp only[if_neg (show ¬false=true by simp),Ed]at j;rw[show((a.toNat:Nat):Int)=a by omega]at j;subst j;have e4:wrap64 a=a:=by unfold wrap64;omega
         have ev:a<=9223372036854775807:=by omega
         clear l bk bx d a6 cP;go_wp2;refine bodyPost_ret (v:= .tuple #[.agg #[.int .i64 2,.int .i64 p,.int .i64 (b:Int),.int .i64 0,.int .i64 a,.string ⟨#[]⟩],.int .i64 (-1)]) (by simp[results,Tryz.results84,go_sem,z0,N,X,W,M,Q]) rfl ⟨rfl,?_⟩
         iterate 7 refine Below.setCell ?_ (by simp) _
         exact a4
       ·have j:=l.out;have eg:Value.agg #[.int .i64 3,.int .i64 p,.int .i64 (g:Int),.int .i64 0,.int .i64 0,.string (s.extract p g)]=ea:=by
         rcases dn with h|h
         ·rw[h]at j;exact j
         ·rw[h]at j;cases an<;>exact j
        subst eg;clear j l bk bx d dn;by_cases d7:b<g
        ·have d1:(b:Int)<(g:Int):=by omega
         go_wp2;refine bodyPost_ret (v:= .tuple #[.agg #[.int .i64 3,.int .i64 p,.int .i64 (g:Int),.int .i64 0,.int .i64 0,.string (s.extract p g)],.int .i64 (-1)]) (by simp[results,Tryz.results84,go_sem,z0,N,X,W,M,Q]) rfl ⟨rfl,?_⟩
         iterate 7 refine Below.setCell ?_ (by simp) _
         exact a4
        ·have d1:¬(b:Int)<(g:Int):=by omega
         go_wp2;refine bodyPost_ret (v:= .tuple #[.agg #[.int .i64 3,.int .i64 p,.int .i64 (g:Int),.int .i64 0,.int .i64 0,.string (s.extract p g)],.int .i64 (-1)]) (by simp[results,Tryz.results84,go_sem,z0,N,X,W,M,Q]) rfl ⟨rfl,?_⟩
         iterate 7 refine Below.setCell ?_ (by simp) _
         exact a4
theorem AV(s:ByteArray)(p:Nat):∃(t n:Int),Dq s p= .agg #[.int .i64 2,.int .i64 p,.int .i64 t,.int .i64 0,.int .i64 n,.string ⟨#[]⟩]:=by
 unfold Dq;split<;>exact⟨_,_,rfl⟩
def mH(s:ByteArray)(p:Nat):Value:=if ae s p=48/\ae s (p+1)=120 then Dq s p else Dr s p
def jZ(s:ByteArray)(p:Nat):Int:=if ae s p=48/\ae s (p+1)=120 then DO s p else FI s p
theorem Gz(s:ByteArray)(p:Nat):∃(k t n:Int) (x:ByteArray),Dr s p= .agg #[.int .i64 k,.int .i64 p,.int .i64 t,.int .i64 0,.int .i64 n,.string x]:=by
 unfold Dr Ed;split
 ·split
  ·exact⟨_,_,_,_,rfl⟩
  ·split<;>exact⟨_,_,_,_,rfl⟩
 ·exact⟨_,_,_,_,rfl⟩
theorem xN(s:ByteArray)(p:Nat):∃(k t n:Int) (x:ByteArray),mH s p= .agg #[.int .i64 k,.int .i64 p,.int .i64 t,.int .i64 0,.int .i64 n,.string x]:=by
 unfold mH;split
 ·obtain⟨t,n,a⟩:=AV s p;exact⟨_,_,_,_,a⟩
 ·exact Gz s p
theorem rj(s:ByteArray)(n:s.size<=1100000)(p:Nat)(j:ae s p=48)(d:ae s (p+1)=120)(w:World):Calls Tryz.prog 84 #[.string s,.agg #[.int .i64 0,.int .i64 p,.int .i64 0,.int .i64 0,.int .i64 0,.string ⟨#[]⟩]] w fun e c=>e= .returned (.tuple #[Dq s p,.int .i64 (DO s p)])/\Below w.heap.size w c:=by
 have u:=aS d (by omega);have h:=fun w=>aI (s:=s) (i:=p) (by omega) w;rw[j]at h;have g:∀w,Calls Tryz.prog 80 #[.string s,.int .i64 ((p:Int)+1)] w fun e c=>e= .returned (.int .u8 120)/\c=w:=fun w=>by
  have:=bS s n ((p:Int)+1) (p+1) (by omega) w;rw[gC u,d]at this;exact this
 have a:=fun w=>tm s n p (by omega) w;obtain⟨r,x,l⟩:=AV s p;rw[l]at a⊢;generalize DO s p=t at a;clear l j d;have m:aO (w.heap.size+1) ((w.alloc (.cells #[.int .i64 2,.int .i64 p,.int .i64 0,.int .i64 0,.int .i64 0,.string ⟨#[]⟩] 45)).alloc (.cells #[.int .i64 0,.int .i64 0,.int .i64 0,.int .i64 0,.int .i64 0,.string ⟨#[]⟩] 45)) 0 0 0 0 0 ⟨#[]⟩:=by
  have:=heap_alloc_new (w.alloc (.cells #[.int .i64 2,.int .i64 p,.int .i64 0,.int .i64 0,.int .i64 0,.string ⟨#[]⟩] 45)) (.cells #[.int .i64 0,.int .i64 0,.int .i64 0,.int .i64 0,.int .i64 0,.string ⟨#[]⟩] 45);rw[World.size_alloc]at this;exact this
 have k:Below w.heap.size w ((w.alloc (.cells #[.int .i64 2,.int .i64 p,.int .i64 0,.int .i64 0,.int .i64 0,.string ⟨#[]⟩] 45)).alloc (.cells #[.int .i64 0,.int .i64 0,.int .i64 0,.int .i64 0,.int .i64 0,.string ⟨#[]⟩] 45)):=(((Below.refl _ w).alloc (Nat.le_refl _) _).alloc (by simp) _);go_in;go_wp2_with (go_at_call 80;refine bc (g _) ?_);refine au (a _) fun B b=>?_;have f:=m.below b (by simp);have y:=k.trans (b.mono (by simp;omega));clear b m k a g h;obtain⟨z0,C,A,z,q,o,E⟩:=aw f;have F:w.heap.size+1<B.heap.size:=lt_of_block f;go_wp2;refine bodyPost_ret (v:= .tuple #[.agg #[.int .i64 2,.int .i64 p,.int .i64 r,.int .i64 0,.int .i64 x,.string ⟨#[]⟩],.int .i64 t]) (by simp[results,Tryz.results84,go_sem,z0,C,A,z,q,o]) rfl ⟨rfl,?_⟩
 iterate 6 refine Below.setCell ?_ (by simp) _
 exact y
theorem rl(s:ByteArray)(b:s.size<=1100000)(p:Nat)(f:p<s.size)(c:aG (ae s p)=true)(w:World):Calls Tryz.prog 84 #[.string s,.agg #[.int .i64 0,.int .i64 p,.int .i64 0,.int .i64 0,.int .i64 0,.string ⟨#[]⟩]] w fun e d=>e= .returned (.tuple #[mH s p,.int .i64 (jZ s p)])/\Below w.heap.size w d:=by
 unfold mH jZ;split
 ·rename_i a;exact rj s b p a.1 a.2 w
 ·rename_i a;exact rh s b p f c a w
theorem db{c:Int}{b:Bool}(h:aC c=b)(w:World):Calls Tryz.prog 81 #[.int .u8 c] w fun e d=>e= .returned (.bool b)/\d=w:=(eG c w).mono fun e d a=>⟨by rw[a.1,h],a.2.symm⟩
theorem jz(s:ByteArray)(H:s.size<=1100000)(p:Nat)(m:p<s.size)(a:aG (ae s p)=true)(w:World):Calls Tryz.prog 43 #[.string s,.int .i64 p] w fun e z=>e= .returned (.tuple #[mH s p,.int .i64 (jZ s p)])/\Below w.heap.size w z:=by
 have l:=fun w=>aI m w;have q:=eQ a;have j:aC (ae s p)=false:=by simp[aC];omega
 have d:=fun w=>db j w;have f:=fun w=>aT a w;have b:=fun w=>rl s H p m a w;obtain⟨o,u,A,G,h⟩:=xN s p;rw[h]at b⊢;generalize jZ s p=x at b;generalize ae s p=r at l d f q;have K:(r==10)=false:=by rw[beq_eq_false_iff_ne];omega
 clear j a h;have k:aO w.heap.size ((w.alloc (.cells #[.int .i64 0,.int .i64 0,.int .i64 0,.int .i64 0,.int .i64 0,.string ⟨#[]⟩] 45)).alloc (.cells #[.int .i64 0,.int .i64 p,.int .i64 0,.int .i64 0,.int .i64 0,.string ⟨#[]⟩] 45)) 0 0 0 0 0 ⟨#[]⟩:=(Below.heap_alloc _ _ _ (by simp)).trans (heap_alloc_new w _);have i:Below w.heap.size w ((w.alloc (.cells #[.int .i64 0,.int .i64 0,.int .i64 0,.int .i64 0,.int .i64 0,.string ⟨#[]⟩] 45)).alloc (.cells #[.int .i64 0,.int .i64 p,.int .i64 0,.int .i64 0,.int .i64 0,.string ⟨#[]⟩] 45)):=(((Below.refl _ w).alloc (Nat.le_refl _) _).alloc (by simp) _);go_in;go_wp2_with (first|(go_at_call 81;refine bc (d _) ?_)|(go_at_call 83;refine bc (f _) ?_));refine au (b _) fun F c=>?_;have g:=k.below c (by simp;omega);have y:=i.trans (c.mono (by simp;omega));clear c k i b d f l;obtain⟨z0,C,E,B,t,n,I⟩:=aw g;have J:w.heap.size<F.heap.size:=lt_of_block g;go_wp2;refine bodyPost_ret (v:= .tuple #[.agg #[.int .i64 o,.int .i64 p,.int .i64 u,.int .i64 0,.int .i64 A,.string G],.int .i64 x]) (by simp[results,Tryz.results43,go_sem,z0,C,E,B,t,n]) rfl ⟨rfl,?_⟩
 iterate 6 refine Below.setCell ?_ (by simp) _
 exact y
theorem AW(s:ByteArray)(p:Nat):(jZ s p<0↔(aP s p).2=true)/\∃(k t n:Int) (x:ByteArray),mH s p= .agg #[.int .i64 k,.int .i64 p,.int .i64 t,.int .i64 0,.int .i64 n,.string x]/\((aP s p).2=true->t=((aP s p).1:Int)/\((k==3)=decide (¬(ae s p=48/\ae s (p+1)=120)/\(tJ s p=true\/jh s p ((aP s p).1-p)=none)))):=by
 unfold jZ mH aP;by_cases b:ae s p=48/\ae s (p+1)=120
 ·simp only[if_pos b];unfold DO Dq;cases hh:(eu s (p+2)).2 with
  |true=>
   simp only[if_true];refine⟨⟨fun _=>trivial,fun _=>by omega⟩,2,_,_,_,rfl,fun _=>⟨rfl,?_⟩⟩;simp[b]
  |false=>
   simp only[if_neg (show ¬false=true by simp)];refine⟨⟨fun a=>by omega,fun a=>by cases a⟩,2,_,_,_,rfl,fun a=>by cases a⟩
 ·simp only[if_neg b];unfold FI Dr Ed;cases hh:(eT s (nA1 s (nA0 s p))).2 with
  |true=>
   simp only[if_true];refine⟨⟨fun _=>trivial,fun _=>by omega⟩,?_⟩;cases hk:tJ s p with
   |true=>
    simp only[if_true];exact⟨3,_,_,_,rfl,fun _=>⟨rfl,by simp[b]⟩⟩
   |false=>
    simp only[if_neg (show ¬false=true by simp)];cases hc:jh s p ((eT s (nA1 s (nA0 s p))).1-p) with
    |none=>exact⟨3,_,_,_,rfl,fun _=>⟨rfl,by simp[b]⟩⟩
    |some c=>exact⟨2,_,_,_,rfl,fun _=>⟨rfl,by simp⟩⟩
  |false=>
   simp only[if_neg (show ¬false=true by simp)];refine⟨⟨fun a=>by omega,fun a=>by cases a⟩,3,_,_,_,rfl,fun a=>by cases a⟩
theorem xO(q:ByteArray)(a:aG (ae q 0)=true)(c:eT q (nA1 q (nA0 q 0))=(q.size,true)):ld q=none↔(tJ q 0=true\/jh q 0 q.size=none):=by
 cases hk:tJ q 0 with
 |false=>
  obtain⟨b,e⟩:=rg q 0 a hk;have f:nA0 q 0=q.size:=by rw[c]at b;exact(Prod.mk.inj b).1.symm
  rw[tg q (fL a) (fun d g=>e d (by omega) (by omega))];simp
 |true=>
  simp only[true_or,iff_true];unfold tJ at hk;rcases of_decide_eq_true hk with h|h
  ·exact jU q a _ (aS h.1 (by omega)) (by rw[h.1];decide)
  ·exact jU q a _ (aS h (by omega)) (by rw[h];decide)
def GA(q:ByteArray):Bool:=decide (q.size<=40)&&fM q
theorem tM(s:ByteArray)(C:s.size<=1100000)(w:World):Calls Tryz.prog 111 #[.string s] w fun e k=>e= .returned (.bool (GA s))/\Below w.heap.size w k:=by
 unfold GA;by_cases j:0<s.size
 ·have F:((s.size:Int)==0)=false:=by rw[beq_eq_false_iff_ne];omega
  by_cases q:s.size<=40
  ·have B:¬(40:Int)<(s.size:Int):=by omega
   have v:∀w,(Instr.index 9 (.string s) (.int .i64 0)).run Tryz.prog w= .ok (.int .u8 (ae s 0)) w:=fun w=>aI j w;by_cases a:aG (ae s 0)=true
   ·have c:=fun w=>aT a w;have d:∀w,Calls Tryz.prog 43 #[.string s,.int .i64 0] w fun e k=>e= .returned (.tuple #[mH s 0,.int .i64 (jZ s 0)])/\Below w.heap.size w k:=fun w=>jz s C 0 j a w;obtain⟨hF,m,E,H,I,r,y⟩:=AW s 0;rw[r]at d;have x:(decide (s.size<=40)&&fM s)=(decide (jZ s 0<0)&&((m==3)&&(E==(s.size:Int)))):=by
     rw[decide_eq_true q,Bool.true_and];unfold fM;cases h2:(aP s 0).2 with
     |false=>
      rw[decide_eq_false (show ¬jZ s 0<0 by rw[hF,h2];simp),Bool.false_and,decide_eq_false_iff_not];rintro ⟨_,i,_⟩;rw[i]at h2;cases h2
     |true=>
      obtain⟨A,g⟩:=y h2;rw[decide_eq_true (hF.2 h2),Bool.true_and,g,A];by_cases p:(aP s 0).1=s.size
      ·have n:aP s 0=(s.size,true):=Prod.ext p h2;rw[n];simp only[Nat.sub_zero,beq_self_eq_true,Bool.and_true];rw[decide_eq_decide];constructor
       ·rintro ⟨_,_,f,h⟩;have o:eT s (nA1 s (nA0 s 0))=(s.size,true):=by rw[<-n];unfold aP;rw[if_neg f]
        exact⟨f,(xO s a o).1 h⟩
       ·rintro ⟨f,h⟩;have o:eT s (nA1 s (nA0 s 0))=(s.size,true):=by rw[<-n];unfold aP;rw[if_neg f]
        exact⟨a,trivial,f,(xO s a o).2 h⟩
      ·rw[show((((aP s 0).1:Nat):Int)==(s.size:Int))=false by rw[beq_eq_false_iff_ne];omega,Bool.and_false,decide_eq_false_iff_not];rintro ⟨_,i,_⟩;rw[i]at p;exact p rfl
    rw[x];clear x y r hF;generalize jZ s 0=u at d;generalize ae s 0=z at v c;clear a;by_cases hF:u<0
    ·by_cases g:m=3
     ·subst g;go_in;go_wp2_with (first|(go_at_call 83;refine bc (c _) ?_)|(go_at_call 43;refine(d _).mono ?_;rintro e t ⟨rfl,b⟩));go_ret;exact⟨by simp[hF],b.alloc b.size _⟩
     ·have G:(m==3)=false:=by simp[g]
      clear g;go_in;go_wp2_with (first|(go_at_call 83;refine bc (c _) ?_)|(go_at_call 43;refine(d _).mono ?_;rintro e t ⟨rfl,b⟩));go_ret;exact⟨by simp[G],b.alloc b.size _⟩
    ·go_in;go_wp2_with (first|(go_at_call 83;refine bc (c _) ?_)|(go_at_call 43;refine(d _).mono ?_;rintro e t ⟨rfl,b⟩));go_ret;exact⟨by rw[decide_eq_false (show ¬u<0 by omega)];simp,b.alloc b.size _⟩
   ·have l:aG (ae s 0)=false:=by simpa using a
    have c:=fun w=>aT l w;rw[show fM s=false by unfold fM;simp[l],Bool.and_false];clear a l;generalize ae s 0=z at v c;go_in;go_wp2_with (first|(go_at_call 83;refine bc (c _) ?_));go_ret;exact⟨rfl,Below.refl _ _⟩
  ·have B:(40:Int)<(s.size:Int):=by omega
   rw[decide_eq_false q,Bool.false_and];go_in;go_wp2;go_ret;exact⟨rfl,Below.refl _ _⟩
 ·have F:((s.size:Int)==0)=true:=by rw[beq_iff_eq];omega
  rw[show fM s=false by unfold fM;rw[aX j];simp[jS],Bool.and_false];go_in;go_wp2;go_ret;exact⟨rfl,Below.refl _ _⟩
structure bP (W:World) (vt:Value) (ns:List Nd) (N:Nd) (vn vk:Value):Prop where
 t:bf W vt ns
 n:aH W vn N.nm
 k:aV W vk N.ks
 ok:lu ns N
 ln:ns.length<=1048576
 l1:N.nm.length<=1048576
 l2:N.ks.length<=1048576
 lx:N.x.size<=1048576
 ls:∀s∈N.nm,s.size<=1048576
theorem bP.below{W b:World}{c:Value}{ns:List Nd}{N:Nd}{vn vk:Value}(h:bP W c ns N vn vk)(a:Below W.heap.size W b):bP b c ns N vn vk:=
 ⟨h.t.below a,h.n.below a,h.k.below a,h.ok,h.ln,h.l1,h.l2,h.lx,h.ls⟩
structure St (w:World) (vt:Value) (ns:List Nd) (N:Nd) (vn vk:Value) (W:World):Prop where
 a:bP W vt ns N vn vk
 bt:W.cell? ⟨w.heap.size,0,none⟩=some vt
 bn:jj (w.heap.size+1) W 69 N vn vk
 bel:Below w.heap.size w W
theorem St.below{w:World}{d:Value}{ns:List Nd}{N:Nd}{vn vk:Value}{W c:World}(h:St w d ns N vn vk W)(b:Below W.heap.size W c):St w d ns N vn vk c:=
 ⟨h.a.below b,aa b h.bt,h.bn.below b,h.bel.trans (b.mono h.bel.size)⟩
theorem St.start{w:World}{a:Value}{ns:List Nd}{N:Nd}{vn vk:Value}(h:bP w a ns N vn vk):St w a ns N vn vk ((w.alloc (.cells #[a] 24)).alloc (.cells #[.int .i64 N.k,.int .i64 N.f,.int .i64 N.t,.int .i64 N.l,.int .i64 N.op,.int .i64 N.n,.string N.x,vn,vk] 69)):=by
 have b:Below w.heap.size w ((w.alloc (.cells #[a] 24)).alloc (.cells #[.int .i64 N.k,.int .i64 N.f,.int .i64 N.t,.int .i64 N.l,.int .i64 N.op,.int .i64 N.n,.string N.x,vn,vk] 69)):=((Below.refl _ w).alloc (Nat.le_refl _) _).alloc (by simp) _;refine⟨h.below b,?_,?_,b⟩
 ·rw[cell_of_row _ _ _ _ _ _ ((Below.heap_alloc _ _ _ (by simp)).trans (heap_alloc_new w _))];rfl
 ·have:=heap_alloc_new (w.alloc (.cells #[a] 24)) (.cells #[.int .i64 N.k,.int .i64 N.f,.int .i64 N.t,.int .i64 N.l,.int .i64 N.op,.int .i64 N.n,.string N.x,vn,vk] 69);rw[World.size_alloc]at this;exact this
theorem dw{w:World}{b:Value}{ns:List Nd}{N:Nd}{vn vk:Value}(a:bP w b ns N vn vk)(i:Nat)(j:i<N.ks.length):
  Calls Tryz.prog 106 #[.agg #[b],bu N vn vk,.int .i64 i] w fun e l=>e= .returned (.int .i64 (ba ns N i))/\Below w.heap.size w l:=by
 obtain⟨c,h,d,f,g,m⟩:=a.ok.get j;rw[g];exact zh w b ns N h vn vk i c a.t a.n a.k d f a.ln a.l2
theorem kC{w:World}{a:Value}{ns:List Nd}{N:Nd}{vn vk:Value}(d:bP w a ns N vn vk)(c:0<N.ks.length):
  Calls Tryz.prog 106 #[.agg #[a],.agg #[.int .i64 N.k,.int .i64 N.f,.int .i64 N.t,.int .i64 N.l,.int .i64 N.op,.int .i64 N.n,.string N.x,vn,vk],.int .i64 0] w fun e b=>e= .returned (.int .i64 (ba ns N 0))/\Below w.heap.size w b:=dw d 0 c
theorem kD{w:World}{a:Value}{ns:List Nd}{N:Nd}{vn vk:Value}(d:bP w a ns N vn vk)(c:1<N.ks.length):
  Calls Tryz.prog 106 #[.agg #[a],.agg #[.int .i64 N.k,.int .i64 N.f,.int .i64 N.t,.int .i64 N.l,.int .i64 N.op,.int .i64 N.n,.string N.x,vn,vk],.int .i64 1] w fun e b=>e= .returned (.int .i64 (ba ns N 1))/\Below w.heap.size w b:=dw d 1 c
end Go.Proofs.YtcbmoiabehpliaaGreatDoor
