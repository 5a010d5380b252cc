import Derived.Test.YtcbmoiabehpliaaGreatDoorHPk01
import Derived.Test.YtcbmoiabehpliaaGreatDoorHPk13
import Derived.Lib.ItoaNum
import Derived.Test.YtcbmoiabehpliaaGreatDoorHPk03
import Derived.Deep.RegionWith
import Derived.Test.YtcbmoiabehpliaaGreatDoorHPk02
set_option linter.unusedVariables false
set_option maxRecDepth 100000
set_option maxHeartbeats 6400000
namespace Go.Proofs.YtcbmoiabehpliaaGreatDoor
open Go.RowKit Go.Maps Go.WideMaps
def KE(u:Nat)(j:Nat):Int:=JM ((u / 16 ^ j%16:Nat):Int)
theorem GC:bits .and .i64 16 15=0:=by decide+kernel
theorem p2(w:World):Calls Tryz.prog 246 #[.int .i64 16] w fun e a=>e= .returned (.bool true)/\a=w:=by
 have b:=GC;go_in;go_wp2;go_ret;exact⟨rfl,rfl⟩
structure Rw (B:Nat) (w:World) (u r:Nat):Prop where
 ex:∃arr,w.heap[B]?=some (.cells arr 295 (0,0))/\arr.size=65/\∀j,j<r->arr[64-j]?=some (.int .u8 (KE u j))
theorem Rw.step{B:Nat}{w:World}{u r:Nat}(h:Rw B w u r)(g:r<65)(x:Int)(f:x=KE u r):Rw B (w.setCell ⟨B,64-r,none⟩ (.int .u8 x)) u (r+1):=by
 obtain⟨j,d,e,b⟩:=h.ex;refine⟨_,heap_setCell_same w B (64-r) _ _ _ d,by simp[e],fun a i=>?_⟩;rw[Array.getElem?_setIfInBounds];by_cases c:a=r
 ·subst c;rw[if_pos rfl,if_pos (by omega),f]
 ·rw[if_neg (by omega)];exact b a (by omega)
def JY(a:List UInt8):List Int:=a.map fun b=>(b.toNat:Int)
def pre(c:Nat):List Int:=if c=0 then [] else JY (Lib.decDigits c)
structure tO (w:World):Prop where
 tabs:fV w
 errs:eF w
 pow:Lib.TabIs Tryz.prog w "internal/strconv.uint64pow10" .u64 Lib.pow10Tab
 brj:w.cell? ⟨11,15,none⟩=some (.int .u8 4)
theorem lA{P:Program}{w b:World}{B:Nat}{n:String}{cs:Array Value}(h:w.var? P n=some cs)(e:Below B w b)(d:w.heap.size<=B):b.var? P n=some cs:=by
 unfold World.var? at h⊢;cases hg:P.globalNamed n with
 |none=>simp[hg]at h
 |some a=>
  simp only[hg,Option.bind_some]at h⊢;have c:a<w.heap.size:=by
   rcases Nat.lt_or_ge a w.heap.size with h'|h'
   ·exact h'
   ·simp[Array.getElem?_eq_none h']at h
  rw[e.block a (Nat.lt_of_lt_of_le c d)];exact h
theorem tO.below{w c:World}{B:Nat}(h:tO w)(b:Below B w c)(a:w.heap.size<=B):tO c:=
 ⟨h.tabs.below b a,h.errs.below b a,lA h.pow b a,(jw b (Nat.lt_of_lt_of_le (World.block_lt_of_cell? w _ h.brj) a)).trans h.brj⟩
theorem GD:∀k:Fin 30,5<=jR (aD cL k.val)/\jR (aD cL k.val)<=78:=by decide+kernel
theorem tP(kind:Int)(h:kind<5\/78<kind):∀(f k:Nat),k+f<=30->vE kind f k=vD
 |0,k,_=>rfl
 |f+1,k,a=>by
  have:=GD ⟨k,by omega⟩;unfold vE;rw[if_neg (by simp only at this;omega)];exact tP kind h f (k+1) (by omega)
theorem tQ:∀k:Fin 79,k.val≠7->js (k.val:Int)=bR (k.val:Int):=by decide+kernel
theorem xP(kind:Int)(b:kind≠7):js kind=bR kind:=by
 by_cases a:0<=kind/\kind<=78
 ·have:=tQ ⟨kind.toNat,by omega⟩ (by simp only;omega);simp only[show((kind.toNat:Nat):Int)=kind by omega]at this;exact this
 ·unfold js bR;rw[if_neg (by omega),if_neg (by omega),if_neg (by omega),if_neg (by omega),if_neg (by omega),if_neg (by omega),if_neg (by omega)];exact tP kind (by omega) 30 0 (by omega)
theorem qy(s:ByteArray)(d:s.size<=1100000)(w:World):Calls Tryz.prog 157 #[.string s] w fun e a=>e= .returned (.string s)/\Below w.heap.size w a:=by
 have b:=fun w=>Tryz.stringslite_Clone s w (by omega);go_in;go_wp2_with (go_at_call 183;refine(b _).mono ?_;rintro e a ⟨rfl,c⟩);go_ret;exact⟨rfl,c⟩
def wf(s:ByteArray)(p:Nat):Int×ByteArray:=match jb bj (s.extract p (eo s (s.size+1) p)) 22 0 with|some a=>(10+(a:Int),⟨#[]⟩)|none=>(1,s.extract p (eo s (s.size+1) p))
theorem IL(s:ByteArray)(p:Nat):FD s p= .agg #[.int .i64 (wf s p).1,.int .i64 p,.int .i64 (eo s (s.size+1) p),.int .i64 0,.int .i64 0,.string (wf s p).2]:=by
 unfold FD wf;cases jb bj (s.extract p (eo s (s.size+1) p)) 22 0<;>rfl
theorem xQ{b t mb n:Nat}{w c:World}{D:DataW Unit}(h:w.ownsMap Tryz.prog 9 (plainElem (H:=Unit) Tryz.prog 3) mb n D)(g:fT b t w c)(j:mb≠b)(i:mb≠t):c.ownsMap Tryz.prog 9 (plainElem (H:=Unit) Tryz.prog 3) mb n D:=by
 obtain⟨f,d,a,e⟩:=h;exact⟨f,d,(g.block mb (lt_of_block a) j i).trans a,e⟩
theorem rm{fr:Int}(s:ByteArray)(bk:s.size<=70000)(b t mb:Nat)(w:World)(p:Nat)(l K:Int)(al:p<s.size)(J:b≠t)(ao:mb≠b)(a3:mb≠t)(hS:bO b w s (.map (some mb)) fr p l false)(S:aO t w 0 p 0 K 0 ByteArray.empty)(V:w.ownsMap Tryz.prog 9 (plainElem (H:=Unit) Tryz.prog 3) mb 22 (kV 22)):
  Calls Tryz.prog 116 #[.pointer (some ⟨b,0,none⟩),.pointer (some ⟨t,0,none⟩)] w fun e n=>e= .returned (.tuple #[])/\fT b t w n/\bO b n s (.map (some mb)) fr (eo s (s.size+1) p:Int) l false/\aO t n (wf s p).1 p 0 K 0 (wf s p).2:=by
 have bn:b<w.heap.size:=lt_of_block hS;have bh:t<w.heap.size:=lt_of_block S;have a0:=jt s (s.size+1) p (Nat.le_of_lt al);have X:=fun w=>lT s (by omega) p (Nat.le_of_lt al) w;obtain⟨u,v,r,F,C,A,x,z⟩:=bB hS;obtain⟨m,o,y,k,i,q,j⟩:=aw S;unfold wf;generalize eo s (s.size+1) p=a at X a0;obtain⟨av,Q⟩:=ah (jb bj (s.extract p a) 22 0);rw[Q];have Z:=ab Q;clear Q;go_in;go_upto_region 0 with fail
 go_cut [16] from 7 (fun a7 L=>a7= .int .i64 (a:Int)/\fT b t w L/\bO b L s (.map (some mb)) fr a l false/\aO t L 0 p 0 K 0 ByteArray.empty)
 case first=>
  go_region_with (first|(go_at_call 156;refine(X _).mono ?_;rintro e n ⟨rfl,ar⟩;obtain rfl:=ar.symm))
  all_goals
   go_wp2_with fail;go_meet
   case rel=>exact⟨rfl,((fT.refl b t w).setB 3 _).drew,hS.setP _,S.other (Ne.symm J) _⟩
 case rest=>
  obtain⟨rfl,R,U,M⟩:=hcut;clear u v r F C A x z m o y k i q j;have Y:=xQ V R ao a3;obtain⟨u,v,r,F,C,A,x,z⟩:=bB U;obtain⟨m,o,y,k,i,q,j⟩:=aw M;go_upto_region 1 with fail
  go_quiet (fail)
  have g:=U.drewN nq;have f:=M.drewN nq;have B:=R.drewN nq;have N:(wc.drewN nq).ownsMap Tryz.prog 9 (plainElem (H:=Unit) Tryz.prog 3) mb 22 (kV 22):=Y;generalize wc.drewN nq=ak at g f B N⊢;clear u v r F C A x z m o y k i q j U M R Y V;obtain⟨u,v,r,F,C,A,x,z⟩:=bB g;obtain⟨m,o,y,k,i,q,j⟩:=aw f;have a6:b<ak.heap.size:=lt_of_block g;have ap:t<ak.heap.size:=lt_of_block f;have an:(s.extract p a).size<=70000:=by rw[ByteArray.size_extract];omega
  have E:keyOf Tryz.prog 9 (.string (s.extract p a))=some (.string (s.extract p a).data.toList):=keyOf_string_mk Tryz.underlying9 (by unfold maxLen;omega);have c:=sV (H:=Unit) (s.extract p a);have T:=fun w=>qy (s.extract p a) (by omega) w;unfold gS at c;rw[Z.out]at c;cases av with
  |some W=>
   have af:=DK (H:=Unit) (s.extract p a) W Z.out;have h:Maps.has (kV (H:=Unit) 22) (.string (s.extract p a).data.toList)=true:=c;clear c;generalize s.extract p a=a4 at E af h T an⊢;go_wp2_with (at_lookup;refine wpList_lookup_own_ok_int _ rfl _ _ 82 rfl 9 3 .i64 DF Tryz.underlying82 Tryz.underlying3 (by kernel_rfl) mb 22 _ rfl N _ _ rfl E ?_;intro am d a5;rw[h];rw[af]at d;obtain rfl:10+(W:Int)=am:=by injection d with d;injection d);refine bodyPost_ret (results_none rfl _ _ _) rfl ?_;exact⟨rfl,B.setT 0 _,g.other J _,f.setKind _⟩
  |none=>
   have h:Maps.has (kV (H:=Unit) 22) (.string (s.extract p a).data.toList)=false:=c;clear c;obtain⟨a4,O⟩:=ah (s.extract p a);rw[O]at E h T an⊢;have a1:=ab O;clear O;go_wp2_with (first|(at_lookup;refine wpList_lookup_own_ok_int _ rfl _ _ 82 rfl 9 3 .i64 DF Tryz.underlying82 Tryz.underlying3 (by kernel_rfl) mb 22 _ rfl N _ _ rfl E ?_;intro am d a5;rw[h])|(go_at_call 157;refine(T _).mono ?_;rintro e bb ⟨rfl,G⟩;have a8:=g.below G a6;have I:=f.below G ap;have a2:=B.below (G.mono B.size);have tf3:=(aw I).2.2.2.2.2.2;have bl:=(aw I).1;have a9:=(aw I).2.2.2.2.2.1;clear G));go_end0
   exact⟨rfl,(a2.setT 0 _).setT 5 _,(a8.other J _).other J _,by rw[a1.out];exact(I.setKind _).setText _⟩
theorem cV(s:ByteArray)(a b i:Nat)(e:b<=s.size)(d:a+i<b):ae (s.extract a b) i=ae s (a+i):=by
 rw[qV,qV];have c:(s.extract a b).data.toList=(s.data.toList.drop a).take (b-a):=by rw[<-ByteArray.toList_eq,Lib.extract_toList]
 rw[c,List.getElem?_take,if_pos (by omega),List.getElem?_drop]
theorem iq(s:ByteArray)(a b:Nat)(c:b<=s.size):(s.extract a b).size=b-a:=by rw[ByteArray.size_extract];omega
theorem xR(s:ByteArray)(a b p:Nat)(c:b<=s.size):∀n,a+p+n<=b->jg (s.extract a b) p n=jg s (a+p) n
 |0,_=>rfl
 |n+1,h=>by
  rw[jg,jg,xR s a b p c n (by omega),cV s a b (p+n) c (by omega),Nat.add_assoc]
theorem xS(s:ByteArray)(a b p:Nat)(c:b<=s.size):∀n,a+p+n<=b->jh (s.extract a b) p n=jh s (a+p) n
 |0,_=>rfl
 |n+1,h=>by
  rw[jh,jh,xS s a b p c n (by omega),cV s a b (p+n) c (by omega),Nat.add_assoc]
def kE(s:ByteArray)(p:Nat):Int×Int×ByteArray:=
 if ae s p=48/\ae s (p+1)=120 then(2,wrap64 (jg s (p+2) ((aP s p).1-(p+2)):Int),⟨#[]⟩)
 else match (if tJ s p=true then none else jh s p ((aP s p).1-p)) with
  |some a=>(2,(a:Int),⟨#[]⟩)
  |none=>(3,0,s.extract p (aP s p).1)
theorem GE(s:ByteArray)(p:Nat)(a:(aP s p).2=true):mH s p= .agg #[.int .i64 (kE s p).1,.int .i64 p,.int .i64 ((aP s p).1:Int),.int .i64 0,.int .i64 (kE s p).2.1,.string (kE s p).2.2]/\jZ s p= -1:=by
 unfold mH jZ kE;by_cases b:ae s p=48/\ae s (p+1)=120
 ·have c:aP s p=eu s (p+2):=by unfold aP;rw[if_pos b]
  rw[c]at a⊢;simp only[if_pos b];unfold Dq DO;rw[if_pos a,if_pos a];exact⟨rfl,rfl⟩
 ·have c:aP s p=eT s (nA1 s (nA0 s p)):=by unfold aP;rw[if_neg b]
  rw[c]at a⊢;simp only[if_neg b];unfold Dr FI;rw[if_pos a,if_pos a];cases tJ s p with
  |true=>exact⟨rfl,rfl⟩
  |false=>
   simp only[if_neg (show ¬false=true by simp)];cases jh s p ((eT s (nA1 s (nA0 s p))).1-p)<;>exact⟨rfl,by trivial⟩
theorem tR(s:ByteArray)(p:Nat)(b:(aP s p).2=false):jZ s p=((aP s p).1:Int):=by
 unfold jZ;by_cases a:ae s p=48/\ae s (p+1)=120
 ·have c:aP s p=eu s (p+2):=by unfold aP;rw[if_pos a]
  rw[c]at b⊢;rw[if_pos a];unfold DO;rw[if_neg (by rw[b];simp)]
 ·have c:aP s p=eT s (nA1 s (nA0 s p)):=by unfold aP;rw[if_neg a]
  rw[c]at b⊢;rw[if_neg a];unfold FI;rw[if_neg (by rw[b];simp)]
theorem zt(s:ByteArray)(p:Nat)(i:p<s.size)(f:aG (ae s p)=true)(q:¬(ae s p=48/\ae s (p+1)=120)):ld (s.extract p (aP s p).1)=Option.map (fun u:Nat=>(u:Int)) (if tJ s p=true then none else jh s p ((aP s p).1-p)):=by
 have e:=iL s p i;have m:=iq s p (aP s p).1 e.2;have b:∀a,p+a<(aP s p).1->ae (s.extract p (aP s p).1) a=ae s (p+a):=fun a j=>cV s p _ a e.2 j;have g:aG (ae (s.extract p (aP s p).1) 0)=true:=by rw[b 0 (by omega)];exact f
 have c:aP s p=eT s (nA1 s (nA0 s p)):=by unfold aP;rw[if_neg q]
 have k:=vQ s p i;have n:=vR s _ k.2;have r:=vP s _ n.2;cases hk:tJ s p with
 |false=>
  obtain⟨o,d⟩:=rg s p f hk;have v:(aP s p).1=nA0 s p:=by rw[c,o]
  rw[tg _ (by omega) (fun a j=>by rw[b a (by omega)];exact d _ (by omega) (by omega))];rw[m,xS s p _ 0 e.2 _ (by omega),Nat.add_zero];simp
 |true=>
  simp only[if_true,Option.map_none];unfold tJ at hk;rcases of_decide_eq_true hk with h|h
  ·have l:nA0 s p<(aP s p).1:=by
    have:nA0 s p<nA1 s (nA0 s p):=by
     unfold nA1;rw[if_pos h];have:=gA s (nA0 s p+1) (by have:=fL h.2;omega);omega
    rw[c];omega
   exact jU _ g (nA0 s p-p) (by omega) (by rw[b _ (by omega),show p+(nA0 s p-p)=nA0 s p by omega,h.1];decide)
  ·have l:nA1 s (nA0 s p)<(aP s p).1:=by
    have d:=AU s _ h;have t:=gA s _ d.2;rw[c];unfold eT;rw[if_pos h];simp only;omega
   exact jU _ g (nA1 s (nA0 s p)-p) (by omega) (by rw[b _ (by omega),show p+(nA1 s (nA0 s p)-p)=nA1 s (nA0 s p) by omega,h];decide)
theorem tS(s:ByteArray)(F:s.size<=1100000)(p:Nat)(m:p<s.size)(o:aG (ae s p)=true)(z:(aP s p).2=true)(w:World)(q:eF w):
  Calls Tryz.prog 159 #[.string (s.extract p (aP s p).1)] w fun e g=>(((kE s p).1=2/\e= .returned (.tuple #[.int .i64 (kE s p).2.1,.bool true])/\(kE s p).2.2=⟨#[]⟩)\/((kE s p).1=3/\(∃x,e= .returned (.tuple #[.int .i64 x,.bool false]))/\(kE s p).2.1=0/\(kE s p).2.2=s.extract p (aP s p).1))/\Below w.heap.size w g:=by
 have l:=iL s p m;have t:=iq s p (aP s p).1 l.2;have c:∀a,p+a<(aP s p).1->ae (s.extract p (aP s p).1) a=ae s (p+a):=fun a v=>cV s p _ a l.2 v;by_cases b:ae s p=48/\ae s (p+1)=120
 ·have e:aP s p=eu s (p+2):=by unfold aP;rw[if_pos b]
  have y:eu s (p+2)=((aP s p).1,true):=by rw[<-e];exact Prod.ext rfl z
  obtain⟨B,A,C,u⟩:=th y;refine(qo _ (by rw[c 0 (by omega)];exact b.1) (by rw[c 1 (by omega)];exact b.2) (by omega) (by omega) (fun a k d=>by rw[c a (by omega)];exact u _ (by omega) (by omega)) w).mono ?_;rintro r g ⟨rfl,f⟩;rw[t,xR s p _ 2 l.2 _ (by omega)];have h:kE s p=(2,wrap64 (jg s (p+2) ((aP s p).1-(p+2)):Int),⟨#[]⟩):=by unfold kE;rw[if_pos b]
  rw[h];exact⟨.inl ⟨rfl,by rw[show(aP s p).1-p-2=(aP s p).1-(p+2) by omega],rfl⟩,f⟩
 ·have n:¬(ae (s.extract p (aP s p).1) 0=48/\ae (s.extract p (aP s p).1) 1=120):=by
   rintro ⟨k,d⟩;have E:=aS d (by omega);rw[c 0 (by omega)]at k;rw[c 1 (by omega)]at d;exact b ⟨k,d⟩
  refine(qp _ (by omega) n w q).mono ?_;rintro r g ⟨⟨x,rfl,j⟩,f⟩;rw[zt s p m o b]at j⊢;refine⟨?_,f⟩;have h:kE s p=match (if tJ s p=true then none else jh s p ((aP s p).1-p)) with|some i=>(2,(i:Int),⟨#[]⟩)|none=>(3,0,s.extract p (aP s p).1):=by unfold kE;rw[if_neg b]
  rw[h];cases hc:(if tJ s p=true then none else jh s p ((aP s p).1-p)) with
  |some i=>
   rw[hc]at j;have:=j i rfl;subst this;exact .inl ⟨rfl,rfl,rfl⟩
  |none=>exact .inr ⟨rfl,⟨x,rfl⟩,rfl,rfl⟩
theorem og{fr:Int}(s:ByteArray)(bt:s.size<=70000)(b t:Nat)(w:World)(m:Value)(p:Nat)(l M:Int)(U:p<s.size)(a9:aG (ae s p)=true)(f:b≠t)(hS:bO b w s m fr p l false)(I:aO t w 0 p 0 M 0 ByteArray.empty)(C:eF w)(bl:12<=b)(bD:12<=t):
  Calls Tryz.prog 118 #[.pointer (some ⟨b,0,none⟩),.pointer (some ⟨t,0,none⟩)] w fun e n=>e= .returned (.tuple #[])/\fT b t w n/\
   (if(aP s p).2=true then bO b n s m fr ((aP s p).1:Int) l false/\aO t n (kE s p).1 p 0 M (kE s p).2.1 (kE s p).2.2 else bO b n s m fr ((aP s p).1:Int) l true/\aO t n 0 p 0 M 0 ByteArray.empty):=by
 have bA:b<w.heap.size:=lt_of_block hS;have bs:t<w.heap.size:=lt_of_block I;have al:=iL s p U;have k:=fun w=>jf s (by omega) p U w;have r:=fun a5 w C=>tS s (by omega) p U a9 a5 w C;obtain⟨O,Q,N,Y,X,V,R,T⟩:=bB hS;obtain⟨B,h,i,A,v,E,x⟩:=aw I;generalize kE s p=a1 at r;obtain⟨bb,bx,bn⟩:=a1;generalize aP s p=a0 at k al r;obtain⟨c,a3⟩:=a0;simp only at k al r⊢;cases a3 with
 |false=>
  simp only[Bool.false_eq_true,if_false];go_in;go_upto_region 0 with fail
  go_quiet ((go_at_call 158;exact Calls.quiet_of_same (k _)))
  have j:=(hS.drewN nq).setP (c:Int);have g:=(I.drewN nq).other (a:=⟨b,3,none⟩) (Ne.symm f) (.int .i64 (c:Int));have o:=((fT.refl b t w).drewN nq).setB 3 (.int .i64 (c:Int));go_wp2;refine bodyPost_ret (results_none rfl _ _ _) rfl ?_;exact⟨rfl,o.setB 5 _,j.setK _,g.other (Ne.symm f) _⟩
 |true=>
  simp only[if_true];have ak:=r rfl;clear r;go_in;go_upto_region 0 with fail
  go_quiet ((go_at_call 158;exact Calls.quiet_of_same (k _)))
  have j:=(hS.drewN nq).setP (c:Int);have g:=(I.drewN nq).other (a:=⟨b,3,none⟩) (Ne.symm f) (.int .i64 (c:Int));have o:=((fT.refl b t w).drewN nq).setB 3 (.int .i64 (c:Int));have L:eF ((w.drewN nq).setCell ⟨b,3,none⟩ (.int .i64 (c:Int))):=by
   obtain⟨⟨h,a4,an⟩,⟨i,p2,ap⟩⟩:=C;refine⟨⟨h,a4,?_⟩,⟨i,p2,?_⟩⟩
   ·unfold World.cell? at an⊢;rw[heap_setCell_other _ _ _ _ (by simp;omega)];exact an
   ·unfold World.cell? at ap⊢;rw[heap_setCell_other _ _ _ _ (by simp;omega)];exact ap
  go_upto_region 4 with fail
  generalize (w.drewN nq).setCell ⟨b,3,none⟩ (.int .i64 (c:Int))=af at j g o L⊢;clear O Q N Y X V R T B h i A v E x k;obtain⟨O,Q,N,Y,X,V,R,T⟩:=bB j;obtain⟨B,h,i,A,v,E,x⟩:=aw g;go_quiet (fail)
  have J:=j.drewN nq;have H:=g.drewN nq;have q:=o.drewN nq;have am:eF (af.drewN nq):=⟨L.syn,L.rng⟩;generalize af.drewN nq=S at J H q am⊢;clear O Q N Y X V R T B h i A v E x j g o L C;have ar:b<S.heap.size:=lt_of_block J;have Z:t<S.heap.size:=lt_of_block H;have a8:(s.extract p c).size<=70000:=by rw[ByteArray.size_extract];omega
  have W:=fun w=>qy (s.extract p c) (by omega) w;have z:=ak S am;clear ak;generalize s.extract p c=br at W z a8⊢;go_wp2_with fail;refine z.mono ?_;rintro e ao ⟨(⟨rfl,rfl,rfl⟩|⟨rfl,⟨bk,rfl⟩,rfl,rfl⟩),d⟩
  ·have K:=J.below d ar;have u:=H.below d Z;have F:=q.below (d.mono q.size);clear d z W;obtain⟨B,h,i,A,v,E,x⟩:=aw u;go_wp2;refine bodyPost_ret (results_none rfl _ _ _) rfl ?_;exact⟨rfl,(F.setT 0 _).setT 4 _,(K.other f _).other f _,(u.setKind _).setNum _⟩
  ·have K:=J.below d ar;have u:=H.below d Z;have F:=q.below (d.mono q.size);have a6:b<ao.heap.size:=lt_of_block K;have av:t<ao.heap.size:=lt_of_block u;clear d z;go_wp2_with (go_at_call 157;refine(W _).mono ?_;rintro e bo ⟨rfl,y⟩;have a7:=K.below y a6;have G:=u.below y av;have a2:=F.below (y.mono F.size);have tf4:=(aw G).2.2.2.2.2.2;have bw:=(aw G).1;have bh:=(aw G).2.2.2.2.2.1;clear y);go_end0
   exact⟨rfl,(a2.setT 0 _).setT 5 _,(a7.other f _).other f _,(G.setKind _).setText _⟩
theorem JZ(k:Nat)(a:k<11)(w:World):(Instr.index 208 (.agg cY) (.int .i64 (k:Int))).run Tryz.prog w= .ok (.string (aD cY k)) w:=by
 rcases(show k=0\/k=1\/k=2\/k=3\/k=4\/k=5\/k=6\/k=7\/k=8\/k=9\/k=10 by omega) with rfl|rfl|rfl|rfl|rfl|rfl|rfl|rfl|rfl|rfl|rfl;all_goals kernel_rfl
theorem J0(k:Nat)(a:k<18)(w:World):(Instr.index 209 (.agg dV) (.int .i64 (k:Int))).run Tryz.prog w= .ok (.string (aD dV k)) w:=by
 rcases(show k=0\/k=1\/k=2\/k=3\/k=4\/k=5\/k=6\/k=7\/k=8\/k=9\/k=10\/k=11\/k=12\/k=13\/k=14\/k=15\/k=16\/k=17 by omega) with rfl|rfl|rfl|rfl|rfl|rfl|rfl|rfl|rfl|rfl|rfl|rfl|rfl|rfl|rfl|rfl|rfl|rfl;all_goals kernel_rfl
theorem KR:∀k:Fin 11,(aD cY k.val).size<=3:=by decide
theorem KS:∀k:Fin 18,(aD dV k.val).size<=3:=by decide
def qz(V:Array Value)(base:Int)(r:ByteArray):Nat->Nat->Int×Nat->Int×Nat
 |0,_,a=>a
 |f+1,i,a=>qz V base r f (i+1) (if a.2<(aD V i).size/\Lib.hasPrefix r.data.toList (aD V i).data.toList=true then(base+(i:Int),(aD V i).size) else a)
structure pN (V:Array Value) (base:Int) (r:ByteArray) (f i:Nat) (a R:Int×Nat):Prop where
 out:qz V base r f i a=R
def gU(r:ByteArray):Int:=if ae r 0=59 then 5 else if ae r 0=10 then 7 else(qz dV 61 r 18 0 (qz cY 40 r 11 0 (0,0))).1
theorem rp(r:ByteArray)(ao:r.size<=70000)(X:0<r.size)(w:World)(T:fV w):Calls Tryz.prog 161 #[.string r] w fun e Y=>e= .returned (.int .i64 (gU r))/\Y=w:=by
 unfold gU;have E:∀w,(Instr.index 9 (.string r) (.int .i64 0)).run Tryz.prog w= .ok (.int .u8 (ae r 0)) w:=fun w=>aI X w;by_cases s:ae r 0=59
 ·rw[if_pos s];rw[s]at E;go_in;go_wp2;go_ret;exact⟨rfl,rfl⟩
 rw[if_neg s];by_cases t:ae r 0=10
 ·rw[if_pos t];rw[t]at E;go_in;go_wp2;go_ret;exact⟨rfl,rfl⟩
 rw[if_neg t];have al:(ae r 0==59)=false:=by rw[beq_eq_false_iff_ne];exact s
 have ak:(ae r 0==10)=false:=by rw[beq_eq_false_iff_ne];exact t
 generalize ae r 0=an at E al ak;clear s t;obtain⟨-,⟨S,U,L⟩,⟨V,am,O⟩⟩:=T;have K:=fun a x w=>JZ a x w;have N:=fun a x w=>J0 a x w;obtain⟨A,y⟩:∃A:Array Value,cY=A:=⟨_,rfl⟩;obtain⟨z,B⟩:∃z:Array Value,dV=z:=⟨_,rfl⟩;have R:Hid (∀a:Nat,a<11->∀w,(Instr.index 208 (.agg A) (.int .i64 (a:Int))).run Tryz.prog w= .ok (.string (aD cY a)) w):=by rw[<-y];exact K
 have W:Hid (∀a:Nat,a<18->∀w,(Instr.index 209 (.agg z) (.int .i64 (a:Int))).run Tryz.prog w= .ok (.string (aD dV a)) w):=by rw[<-B];exact N
 rw[y]at L;rw[B]at O;have af:A.size=11:=by rw[<-y];rfl
 have Z:z.size=18:=by rw[<-B];rfl
 clear K N y B;obtain⟨m,H⟩:=ah (qz cY 40 r 11 0 (0,0));rw[H];obtain⟨o,G⟩:=ah (qz dV 61 r 18 0 m);rw[G];have Q:pN cY 40 r 11 0 (0,0) m:=⟨H⟩;have M:pN dV 61 r 18 0 m o:=⟨G⟩;clear H G;go_in;go_wp2_with (refine wpList_load_row rfl 208 _ rfl 2 rfl S _ U _ L Tryz.underlying208 rfl (by rw[af];kernel_rfl) ?_);go_loop [3,4,16] (fun I C k=>∃(a c:Nat) (d:Int),a<=11/\c<=3/\I= .int .i64 d/\C= .int .i64 c/\k= .int .i64 a/\pN cY 40 r (11-a) a (d,c) m) (fun _ _ k=>11-(intOf k).toNat)
 case atStart=>exact⟨0,0,0,by omega,by omega,rfl,rfl,rfl,Q⟩
 case round=>
  obtain⟨a,c,d,x,n,rfl,rfl,rfl,l⟩:=hrel;by_cases p:a<11
  ·have J:=R.out a p;have v:(aD cY a).size<=3:=KR ⟨a,p⟩;have b:=l.out;rw[show 11-a=(11-(a+1))+1 by omega,qz]at b;have h:=fun w=>Tryz.strings_HasPrefix r (aD cY a) w;generalize aD cY a=f at J v b h;by_cases u:c<f.size
   ·have F:(c:Int)<(f.size:Int):=by omega
    by_cases g:Lib.hasPrefix r.data.toList f.data.toList=true
    ·rw[if_pos ⟨u,g⟩]at b;have i:pN cY 40 r (11-(a+1)) (a+1) (40+(a:Int),f.size) m:=⟨b⟩;rw[g]at h;clear b g;go_wp2_with (go_at_call 58;refine bc (h _) ?_);go_round
     case rel=>exact⟨a+1,f.size,40+(a:Int),by omega,v,by go_num,rfl,by go_num,i⟩
     case measure=>simp[intOf];omega
    ·have q:Lib.hasPrefix r.data.toList f.data.toList=false:=by simpa using g
     rw[if_neg (fun j=>g j.2)]at b;have i:pN cY 40 r (11-(a+1)) (a+1) (d,c) m:=⟨b⟩;rw[q]at h;clear b g q;go_wp2_with (go_at_call 58;refine bc (h _) ?_);go_round
     case rel=>exact⟨a+1,c,d,by omega,n,rfl,rfl,by go_num,i⟩
     case measure=>simp[intOf];omega
   ·have F:¬(c:Int)<(f.size:Int):=by omega
    rw[if_neg (fun j=>u j.1)]at b;have i:pN cY 40 r (11-(a+1)) (a+1) (d,c) m:=⟨b⟩;clear b;go_wp2;go_round
    case rel=>exact⟨a+1,c,d,by omega,n,rfl,rfl,by go_num,i⟩
    case measure=>simp[intOf];omega
  ·obtain rfl:a=11:=by omega
   have b:=l.out;rw[Nat.sub_self,qz]at b;subst b;clear l Q;go_wp2_with (refine wpList_load_row rfl 209 _ rfl 3 rfl V _ am _ O Tryz.underlying209 rfl (by rw[Z];kernel_rfl) ?_);go_loop [3,4,35] (fun I C k=>∃(a c:Nat) (d:Int),a<=18/\c<=3/\I= .int .i64 d/\C= .int .i64 c/\k= .int .i64 a/\pN dV 61 r (18-a) a (d,c) o) (fun _ _ k=>18-(intOf k).toNat)
   case atStart=>exact⟨0,c,d,by omega,n,rfl,rfl,rfl,M⟩
   case round=>
    obtain⟨a,c,d,x,n,rfl,rfl,rfl,l⟩:=hrel;by_cases p:a<18
    ·have J:=W.out a p;have v:(aD dV a).size<=3:=KS ⟨a,p⟩;have b:=l.out;rw[show 18-a=(18-(a+1))+1 by omega,qz]at b;have h:=fun w=>Tryz.strings_HasPrefix r (aD dV a) w;generalize aD dV a=f at J v b h;by_cases u:c<f.size
     ·have F:(c:Int)<(f.size:Int):=by omega
      by_cases g:Lib.hasPrefix r.data.toList f.data.toList=true
      ·rw[if_pos ⟨u,g⟩]at b;have i:pN dV 61 r (18-(a+1)) (a+1) (61+(a:Int),f.size) o:=⟨b⟩;rw[g]at h;clear b g;go_wp2_with (go_at_call 58;refine bc (h _) ?_);go_round
       case rel=>exact⟨a+1,f.size,61+(a:Int),by omega,v,by go_num,rfl,by go_num,i⟩
       case measure=>simp[intOf];omega
      ·have q:Lib.hasPrefix r.data.toList f.data.toList=false:=by simpa using g
       rw[if_neg (fun j=>g j.2)]at b;have i:pN dV 61 r (18-(a+1)) (a+1) (d,c) o:=⟨b⟩;rw[q]at h;clear b g q;go_wp2_with (go_at_call 58;refine bc (h _) ?_);go_round
       case rel=>exact⟨a+1,c,d,by omega,n,rfl,rfl,by go_num,i⟩
       case measure=>simp[intOf];omega
     ·have F:¬(c:Int)<(f.size:Int):=by omega
      rw[if_neg (fun j=>u j.1)]at b;have i:pN dV 61 r (18-(a+1)) (a+1) (d,c) o:=⟨b⟩;clear b;go_wp2;go_round
      case rel=>exact⟨a+1,c,d,by omega,n,rfl,rfl,by go_num,i⟩
      case measure=>simp[intOf];omega
    ·obtain rfl:a=18:=by omega
     have b:=l.out;rw[Nat.sub_self,qz]at b;subst b;clear l M;go_wp2;go_ret;exact⟨rfl,rfl⟩
theorem fV.setCell{w:World}(h:fV w){a:Addr}(l:12<=a.block)(v:Value):fV (w.setCell a v):=by
 obtain⟨⟨b,g,k⟩,⟨e,f,i⟩,⟨d,j,c⟩⟩:=h;exact⟨⟨b,g,(heap_setCell_other w a _ v (by omega)).trans k⟩,⟨e,f,(heap_setCell_other w a _ v (by omega)).trans i⟩,⟨d,j,(heap_setCell_other w a _ v (by omega)).trans c⟩⟩
theorem fV.drewN{w:World}(h:fV w)(n:Nat):fV (w.drewN n):=⟨h.word,h.mark,h.bin⟩
theorem rq:∀k:Fin 79,(bR (k.val:Int)).size<=6:=by decide+kernel
theorem AX(k:Int):(bR k).size<=6:=by
 by_cases a:0<=k/\k<=78
 ·have:=rq ⟨k.toNat,by omega⟩;simp only[show((k.toNat:Nat):Int)=k by omega]at this;exact this
 ·unfold bR;rw[if_neg (by omega),if_neg (by omega),if_neg (by omega),if_neg (by omega),if_neg (by omega)];decide
theorem wg(V:Array Value)(base:Int)(r:ByteArray)(d:0<=base)(N:Int):∀(f i:Nat)(a:Int×Nat),0<=a.1->a.1<=N->base+((i+f:Nat):Int)<=N+1->0<=(qz V base r f i a).1/\(qz V base r f i a).1<=N
 |0,i,a,b,c,_=>⟨b,c⟩
 |f+1,i,a,b,c,e=>by
  unfold qz;refine wg V base r d N f (i+1) _ ?_ ?_ (by omega)
  ·split
   ·simp only;omega
   ·exact b
  ·split
   ·simp only;omega
   ·exact c
theorem AY(r:ByteArray):0<=gU r/\gU r<=78:=by
 unfold gU;split
 ·omega
 split
 ·omega
 have a:=wg cY 40 r (by omega) 50 11 0 (0,0) (by simp) (by simp) (by simp);exact wg dV 61 r (by omega) 78 18 0 _ a.1 (by omega) (by simp)
def wh(b t:Nat)(a:World)(s:ByteArray)(m:Value)(fr:Int)(p:Nat)(l c k:Int):Prop:=
 if k=0 then bO b a s m fr p l true/\aO t a 0 p 0 c 0 ByteArray.empty else bO b a s m fr ((p:Int)+((bR k).size:Int)) (if k=7 then l+1 else l) false/\aO t a k p 0 c 0 ByteArray.empty
theorem ru{fr:Int}(s:ByteArray)(am:s.size<=70000)(b t:Nat)(w:World)(m:Value)(p:Nat)(l K:Int)(Y:p<s.size)(af:0<=l)(X:l<=100000)(i:b≠t)(hS:bO b w s m fr p l false)(o:aO t w 0 p 0 K 0 ByteArray.empty)(f:fV w)(ak:12<=b)(ap:12<=t):
  Calls Tryz.prog 120 #[.pointer (some ⟨b,0,none⟩),.pointer (some ⟨t,0,none⟩)] w fun e z=>e= .returned (.tuple #[])/\fT b t w z/\wh b t z s m fr p l K (gU (s.extract p s.size)):=by
 have ao:b<w.heap.size:=lt_of_block hS;have al:t<w.heap.size:=lt_of_block o;have an:(s.extract p s.size).size=s.size-p:=iq s p s.size (Nat.le_refl _);have h:=fun w f=>rp (s.extract p s.size) (by omega) (by omega) w f;have T:=AY (s.extract p s.size);generalize gU (s.extract p s.size)=c at h T;obtain⟨C,E,B,A,x,v,F,u⟩:=bB hS;obtain⟨Q,R,L,O,M,S,N⟩:=aw o;unfold wh;by_cases H:c=0
 ·subst H;simp only[if_true];go_in;go_upto_region 0 with fail
  go_quiet ((go_at_call 161;exact Calls.quiet_of_same (h _ (f.drewN _))))
  go_wp2;refine bodyPost_ret (results_none rfl _ _ _) rfl ?_;exact⟨rfl,((fT.refl b t w).drewN _).setB 5 _,(hS.drewN _).setK _,(o.drewN _).other (Ne.symm i) _⟩
 have W:(c==0)=false:=by rw[beq_eq_false_iff_ne];exact H
 have q:=fun w f=>jc c (by omega) (by omega) w f;have V:=AX c;generalize bR c=y at q V;simp only[if_neg H];by_cases J:c=7
 ·subst J;simp only[if_true];go_in;go_upto_region 0 with fail
  go_quiet ((go_at_call 161;exact Calls.quiet_of_same (h _ (f.drewN _))))
  have g:=((hS.drewN nq).setL (l+1)).other (a:=⟨t,0,none⟩) i (.int .i64 7);have k:=((o.drewN nq).other (a:=⟨b,4,none⟩) (Ne.symm i) (.int .i64 (l+1))).setKind 7;have n:=(((fT.refl b t w).drewN nq).setB 4 (.int .i64 (l+1))).setT 0 (.int .i64 7);have d:=((f.drewN nq).setCell (a:=⟨b,4,none⟩) (by simp;omega) (.int .i64 (l+1))).setCell (a:=⟨t,0,none⟩) (by simp;omega) (.int .i64 7);go_upto_region 6 with fail
  generalize ((w.drewN nq).setCell ⟨b,4,none⟩ (.int .i64 (l+1))).setCell ⟨t,0,none⟩ (.int .i64 7)=r at g k n d⊢;clear C E B A x v F u Q R L O M S N h;obtain⟨C,E,B,A,x,v,F,u⟩:=bB g;have j:fV r.drew:=⟨d.word,d.mark,d.bin⟩;have I:=q r.drew j;have U:IntKind.i64.wrap ((p:Int)+(y.size:Int))=(p:Int)+(y.size:Int):=by rw[IntKind.wrap_i64];omega
  clear j d f q;go_region_with (first|(go_at_call 123;refine I.mono ?_;rintro e z ⟨rfl,G⟩;obtain rfl:=G.symm))
  all_goals
   go_end0
   exact⟨rfl,(n.setB 3 _).drew,g.setP _,k.other (Ne.symm i) _⟩
 ·have Z:(c==7)=false:=by rw[beq_eq_false_iff_ne];exact J
  simp only[if_neg J];go_in;go_upto_region 0 with fail
  go_quiet ((go_at_call 161;exact Calls.quiet_of_same (h _ (f.drewN _))))
  have g:=(hS.drewN nq).other (a:=⟨t,0,none⟩) i (.int .i64 c);have k:=(o.drewN nq).setKind c;have n:=((fT.refl b t w).drewN nq).setT 0 (.int .i64 c);have d:=(f.drewN nq).setCell (a:=⟨t,0,none⟩) (by simp;omega) (.int .i64 c);go_upto_region 6 with fail
  generalize (w.drewN nq).setCell ⟨t,0,none⟩ (.int .i64 c)=r at g k n d⊢;clear C E B A x v F u Q R L O M S N h;obtain⟨C,E,B,A,x,v,F,u⟩:=bB g;have j:fV r.drew:=⟨d.word,d.mark,d.bin⟩;have I:=q r.drew j;have U:IntKind.i64.wrap ((p:Int)+(y.size:Int))=(p:Int)+(y.size:Int):=by rw[IntKind.wrap_i64];omega
  clear j d f q;go_region_with (first|(go_at_call 123;refine I.mono ?_;rintro e z ⟨rfl,G⟩;obtain rfl:=G.symm))
  all_goals
   go_end0
   exact⟨rfl,(n.setB 3 _).drew,g.setP _,k.other (Ne.symm i) _⟩
structure Rd where
 ok:Bool
 a:Nat
 d:Int
 k:Int
 n:Int
 x:ByteArray
def rdI(s:ByteArray)(p:Nat):Rd:=
 if aC (ae s p)=true then⟨true,eo s (s.size+1) p,0,(wf s p).1,0,(wf s p).2⟩
 else if aG (ae s p)=true then(if(aP s p).2=true then⟨true,(aP s p).1,0,(kE s p).1,(kE s p).2.1,(kE s p).2.2⟩ else⟨false,(aP s p).1,0,0,0,ByteArray.empty⟩)
 else if ae s p=34 then(if(bX s (s.size+1) (p+1) []).1=true then⟨true,(bX s (s.size+1) (p+1) []).2.1,0,4,0,kZ (bX s (s.size+1) (p+1) []).2.2⟩ else⟨false,(bX s (s.size+1) (p+1) []).2.1,0,0,0,ByteArray.empty⟩)
 else if gU (s.extract p s.size)=0 then⟨false,p,0,0,0,ByteArray.empty⟩ else⟨true,p+(bR (gU (s.extract p s.size))).size,if gU (s.extract p s.size)=7 then 1 else 0,gU (s.extract p s.size),0,ByteArray.empty⟩
def IM(b t:Nat)(w c:World)(s:ByteArray)(m:Value)(fr:Int)(p:Nat)(l:Int)(R:Rd):Prop:=fT b t w c/\bO b c s m fr (R.a:Int) (l+R.d) (!R.ok)/\aO t c R.k p 0 l R.n R.x
theorem tO.blocks{w d:World}(h:tO w)(a:∀k,k<12->d.heap[k]?=w.heap[k]?):tO d:=by
 obtain⟨⟨⟨n,r,u⟩,⟨i,q,s⟩,⟨g,t,o⟩⟩,⟨⟨l,m,f⟩,⟨p,j,c⟩⟩,b,e⟩:=h;refine⟨⟨⟨n,r,(a _ (by decide)).trans u⟩,⟨i,q,(a _ (by decide)).trans s⟩,⟨g,t,(a _ (by decide)).trans o⟩⟩,⟨⟨l,m,?_⟩,⟨p,j,?_⟩⟩,?_,?_⟩
 ·unfold World.cell? at f⊢;rw[a _ (by decide)];exact f
 ·unfold World.cell? at c⊢;rw[a _ (by decide)];exact c
 ·unfold Lib.TabIs World.var? at b⊢;rw[show Tryz.prog.globalNamed "internal/strconv.uint64pow10" =some 9 by kernel_rfl]at b⊢;simp only[Option.bind_some]at b⊢;rw[a _ (by decide)];exact b
 ·unfold World.cell? at e⊢;rw[a _ (by decide)];exact e
theorem dX{x e z:World}{b:Option Nat}(h:x.grownBy e b)(k:e.grownBy z b):x.grownBy z b:=
 ⟨k.os.trans h.os,k.tape.trans h.tape,k.output.trans h.output,Nat.le_trans h.size k.size,fun d c a=>(k.block d (Nat.lt_of_lt_of_le c h.size) a).trans (h.block d c a)⟩
theorem zu{fr:Int}(s:ByteArray)(an:s.size<=70000)(b mb:Nat)(w:World)(p:Nat)(l:Int)(G:p<s.size)(b4:0<=l)(cb:l<=100000)(av:mb≠b)(b8:12<=b)(hS:bO b w s (.map (some mb)) fr p l false)(ar:w.ownsMap Tryz.prog 9 (plainElem (H:=Unit) Tryz.prog 3) mb 22 (kV 22))(bx:tO w):
  Calls Tryz.prog 59 #[.pointer (some ⟨b,0,none⟩)] w fun e j=>e= .returned (.agg #[.int .i64 (rdI s p).k,.int .i64 p,.int .i64 ((rdI s p).a:Int),.int .i64 l,.int .i64 (rdI s p).n,.string (rdI s p).x])/\w.grownBy j (some b)/\bO b j s (.map (some mb)) (p:Int) ((rdI s p).a:Int) (l+(rdI s p).d) (!(rdI s p).ok):=by
 have a6:b<w.heap.size:=lt_of_block hS;have bb:mb<w.heap.size:=ar.lt;have cm:=fun w=>aI G w;obtain⟨Q,S,N,am,al,Y,T,W⟩:=bB hS;obtain⟨cc,b3⟩:=qR hS;obtain⟨a8,a4⟩:=ah (rdI s p);rw[a4];have a1:=ab a4;clear a4;go_in;go_wp2_with fail;have ap:=hS.setF (p:Int);have R:=xQ (t:=b) ar ((fT.refl b b w).setB 2 (.int .i64 (p:Int))) av av;have ao:tO (w.setCell ⟨b,2,none⟩ (.int .i64 (p:Int))):=bx.blocks (fun k O=>heap_setCell_other _ _ _ _ (by simp only;omega));have a0:w.grownBy (w.setCell ⟨b,2,none⟩ (.int .i64 (p:Int))) (some b):=⟨rfl,rfl,rfl,by simp[World.setCell],fun k O y=>heap_setCell_other _ _ _ _ (fun e=>y (by rw[e]))⟩;have U:(w.setCell ⟨b,2,none⟩ (.int .i64 (p:Int))).heap.size=w.heap.size:=by simp[World.setCell]
 obtain⟨bE,bw,bt,bh,bs,bN,bo,bd⟩:=bB ap;obtain⟨br,bD⟩:=qR ap;rw[<-U];rw[<-U]at a6 bb;generalize w.setCell ⟨b,2,none⟩ (.int .i64 (p:Int))=d at ap R ao a0 U a6 bb bE bw bt bh bs bN bo bd br bD⊢;have b5:=ab a0;clear hS ar bx a0 U Q S N am al Y T W cc b3;go_region
 have a7:∀x:World,aO x.heap.size (x.alloc (.cells #[.int .i64 0,.int .i64 0,.int .i64 0,.int .i64 0,.int .i64 0,.string ⟨#[]⟩] 45)) 0 0 0 0 0 ByteArray.empty:=fun x=>heap_alloc_new x _;have af:Below d.heap.size d ((d.alloc (.cells #[.int .i64 0,.int .i64 0,.int .i64 0,.int .i64 0,.int .i64 0,.string ⟨#[]⟩] 45)).alloc (.cells #[.int .i64 0,.int .i64 p,.int .i64 0,.int .i64 l,.int .i64 0,.string ⟨#[]⟩] 45)):=
  (((Below.refl _ d).alloc (Nat.le_refl _) _).alloc (by simp) _)
 have L:aO d.heap.size ((d.alloc (.cells #[.int .i64 0,.int .i64 0,.int .i64 0,.int .i64 0,.int .i64 0,.string ⟨#[]⟩] 45)).alloc (.cells #[.int .i64 0,.int .i64 p,.int .i64 0,.int .i64 l,.int .i64 0,.string ⟨#[]⟩] 45)) 0 0 0 0 0 ByteArray.empty:=
  (Below.heap_alloc _ _ _ (by simp)).trans (a7 d)
 have a3:aO (d.heap.size+1) ((d.alloc (.cells #[.int .i64 0,.int .i64 0,.int .i64 0,.int .i64 0,.int .i64 0,.string ⟨#[]⟩] 45)).alloc (.cells #[.int .i64 0,.int .i64 p,.int .i64 0,.int .i64 l,.int .i64 0,.string ⟨#[]⟩] 45)) 0 p 0 l 0 ByteArray.empty:=by
  have:=heap_alloc_new (d.alloc (.cells #[.int .i64 0,.int .i64 0,.int .i64 0,.int .i64 0,.int .i64 0,.string ⟨#[]⟩] 45)) (.cells #[.int .i64 0,.int .i64 p,.int .i64 0,.int .i64 l,.int .i64 0,.string ⟨#[]⟩] 45);rw[World.size_alloc]at this;exact this
 have Z:=ap.below af a6;have r:=ao.below af (Nat.le_refl _);have K:=(R.alloc (.cells #[.int .i64 0,.int .i64 0,.int .i64 0,.int .i64 0,.int .i64 0,.string ⟨#[]⟩] 45)).alloc (.cells #[.int .i64 0,.int .i64 p,.int .i64 0,.int .i64 l,.int .i64 0,.string ⟨#[]⟩] 45);obtain⟨m,bn⟩:=ah ((d.alloc (.cells #[.int .i64 0,.int .i64 0,.int .i64 0,.int .i64 0,.int .i64 0,.string ⟨#[]⟩] 45)).alloc (.cells #[.int .i64 0,.int .i64 p,.int .i64 0,.int .i64 l,.int .i64 0,.string ⟨#[]⟩] 45));rw[bn]at af L a3 Z r K⊢;clear bn a7 bE bw bt bh bs bN bo bd br bD;obtain⟨Q,S,N,am,al,Y,T,W⟩:=bB Z;have y:b≠d.heap.size+1:=by omega
 go_wp2_with fail;go_quiet (fail)
 go_upto_block 0 with fail
 have z:bO b (m.drew.drewN nq) s (.map (some mb)) p p l false:=Z;have A:aO (d.heap.size+1) (m.drew.drewN nq) 0 p 0 l 0 ByteArray.empty:=a3;have o:fT b (d.heap.size+1) m (m.drew.drewN nq):=((fT.refl _ _ _).drew).drewN nq;have ak:(m.drew.drewN nq).ownsMap Tryz.prog 9 (plainElem (H:=Unit) Tryz.prog 3) mb 22 (kV 22):=K;have V:fV (m.drew.drewN nq):=⟨r.tabs.word,r.tabs.mark,r.tabs.bin⟩;have M:eF (m.drew.drewN nq):=⟨r.errs.syn,r.errs.rng⟩;generalize m.drew.drewN nq=I at z A o ak V M⊢;clear Q S N am al Y T W cm;go_cut [] from 4 (fun b1=>IM b (d.heap.size+1) m b1 s (.map (some mb)) p p l a8)
 case first=>
  have X:=rm s an b (d.heap.size+1) mb I p l l G y av (by omega) z A ak;have B:=fun cl=>og s an b (d.heap.size+1) I (.map (some mb)) p l l G cl y z A M (by omega) (by omega);have F:=nu s an b (d.heap.size+1) I (.map (some mb)) p l p l G y z A;have E:=ru s an b (d.heap.size+1) I (.map (some mb)) p l l G b4 cb y z A V b8 (by omega);have f:=a1.out;unfold rdI at f;clear ak V M r K ao R a1;cases hlt:aC (ae s p) with
  |true=>
   rw[hlt,if_pos rfl]at f;have q:=ab f;have g:=fun w=>dK (ae s p) w;rw[hlt]at g;clear f hlt B F E;generalize ae s p=bA at g⊢;go_wp2_with (first|(go_at_call 115;refine(g _).mono ?_;rintro e j ⟨rfl,rfl⟩)|(go_at_call 116;refine X.mono ?_;rintro e a2 ⟨rfl,h,c,J⟩));go_meet
   case rel=>rw[<-q.out];exact⟨o.trans h,by simpa using c,J⟩
  |false=>
   rw[hlt,if_neg (by simp)]at f;have g:=fun w=>dK (ae s p) w;rw[hlt]at g;cases hdg:aG (ae s p) with
   |true=>
    rw[hdg,if_pos rfl]at f;have i:=fun w=>cG (ae s p) w;rw[hdg]at i;have q:=ab f;have b7:=B hdg;clear f hlt hdg X B F E;generalize ae s p=bA at g i⊢;go_wp2_with (first|(go_at_call 115;refine(g _).mono ?_;rintro e j ⟨rfl,rfl⟩)|(go_at_call 117;refine(i _).mono ?_;rintro e j ⟨rfl,rfl⟩)|(go_at_call 118;refine b7.mono ?_;rintro e a2 ⟨rfl,h,c⟩;have C:Hid _:=c;clear c));go_meet
    case rel=>
     rw[<-q.out];have c:=C.out;cases hok:(aP s p).2 with
     |true=>rw[hok]at c;simp only[if_true]at c⊢;exact⟨o.trans h,by simpa using c.1,c.2⟩
     |false=>rw[hok]at c;simp only[Bool.false_eq_true,if_false]at c⊢;exact⟨o.trans h,by simpa using c.1,c.2⟩
   |false=>
    rw[hdg,if_neg (by simp)]at f;have i:=fun w=>cG (ae s p) w;rw[hdg]at i;by_cases u:ae s p=34
    ·rw[if_pos u]at f;have q:=ab f;rw[u]at g i⊢;generalize bX s (s.size+1) (p+1) []=b6 at F q;clear f hlt hdg u X B E;go_wp2_with (first|(go_at_call 115;refine(g _).mono ?_;rintro e j ⟨rfl,rfl⟩)|(go_at_call 117;refine(i _).mono ?_;rintro e j ⟨rfl,rfl⟩)|(go_at_call 119;refine F.mono ?_;rintro e a2 ⟨rfl,h,c⟩;have C:Hid _:=c;clear c));go_meet
     case rel=>
      rw[<-q.out];have c:=C.out;unfold dU at c;obtain⟨cg,cz,cI⟩:=b6;cases cg with
      |true=>simp only[if_true]at c⊢;exact⟨o.trans h,by simpa using c.1,c.2⟩
      |false=>simp only[Bool.false_eq_true,if_false]at c⊢;exact⟨o.trans h,by simpa using c.1,c.2⟩
    ·rw[if_neg u]at f;have b2:(ae s p==34)=false:=by rw[beq_eq_false_iff_ne];exact u
     generalize gU (s.extract p s.size)=k at E f;have q:=ab f;clear f hlt hdg u X B F;generalize ae s p=bA at g i b2⊢;go_wp2_with (first|(go_at_call 115;refine(g _).mono ?_;rintro e j ⟨rfl,rfl⟩)|(go_at_call 117;refine(i _).mono ?_;rintro e j ⟨rfl,rfl⟩)|(go_at_call 120;refine E.mono ?_;rintro e a2 ⟨rfl,h,c⟩;have C:Hid _:=c;clear c));go_meet
     case rel=>
      rw[<-q.out];have c:=C.out;unfold wh at c;by_cases O:k=0
      ·rw[if_pos O]at c⊢;exact⟨o.trans h,by simpa using c.1,c.2⟩
      ·rw[if_neg O]at c⊢;refine⟨o.trans h,?_,c.2⟩;have J:=c.1;have ca:(if k=7 then l+1 else l)=l+(if k=7 then 1 else 0):=by split<;>omega
       rw[ca]at J;simpa using J
 case rest=>
  obtain⟨bk,a5,bl⟩:=hcut;have a9:aO d.heap.size wc 0 0 0 0 0 ByteArray.empty:=(bk.block d.heap.size (lt_of_block L) (by omega) (by omega)).trans L;clear Z a3 L z A o ak V M r K ao R a1;obtain⟨cr,a,cP,k,n,x⟩:=a8;simp only at a5 bl⊢;obtain⟨Q,S,N,am,al,Y,T,W⟩:=bB a5;obtain⟨ct,cv,cx,cs,cn,cw,cq⟩:=aw bl;obtain⟨z0,ck,ch,cf,b9,b0,cN⟩:=aw a9;have cB:d.heap.size<wc.heap.size:=lt_of_block a9;go_wp2;refine bodyPost_ret (v:= .agg #[.int .i64 k,.int .i64 p,.int .i64 (a:Int),.int .i64 l,.int .i64 n,.string x]) (by simp[results,Tryz.results59,go_sem,z0,ck,ch,cf,b9,b0]) rfl ⟨rfl,?_,?_⟩
  ·refine dX b5.out ?_;exact jq (jq (jq (jq (jq (jq (jq (Gc af bk (by omega)) _ (by simp)) _ (by simp)) _ (by simp)) _ (by simp)) _ (by simp)) _ (by simp)) _ (by simp)
  ·exact((((((a5.other (by simp;omega) _).other (by simp;omega) _).other (by simp;omega) _).other (by simp;omega) _).other (by simp;omega) _).other (by simp;omega) _).other (by simp;omega) _
def jA(b:Nat)(w:World)(s:ByteArray)(m:Value)(p l:Int)(k:Bool):Prop:=∃a,bO b w s m a p l k
theorem jA.cells{b:Nat}{w:World}{s:ByteArray}{m:Value}{p l:Int}{k:Bool}(h:jA b w s m p l k):w.cell? ⟨b,0,none⟩=some (.string s)/\w.cell? ⟨b,1,none⟩=some m/\w.cell? ⟨b,3,none⟩=some (.int .i64 p)/\w.cell? ⟨b,4,none⟩=some (.int .i64 l)/\w.cell? ⟨b,5,none⟩=some (.bool k)/\
  w.frozen? ⟨b,3,none⟩=false/\w.frozen? ⟨b,4,none⟩=false/\w.frozen? ⟨b,5,none⟩=false:=by obtain⟨a,h⟩:=h;exact bB h
theorem jA.pos{b:Nat}{w:World}{s:ByteArray}{m:Value}{p:Nat}{l:Int}{k:Bool}(h:jA b w s m p l k):qj b w=p:=by obtain⟨a,h⟩:=h;exact ib h
theorem jA.lt{b:Nat}{w:World}{s:ByteArray}{m:Value}{p l:Int}{k:Bool}(h:jA b w s m p l k):b<w.heap.size:=by obtain⟨a,h⟩:=h;exact lt_of_block h
theorem jA.setP{b:Nat}{w:World}{s:ByteArray}{m:Value}{p l:Int}{k:Bool}(h:jA b w s m p l k)(x:Int):jA b (w.setCell ⟨b,3,none⟩ (.int .i64 x)) s m x l k:=by obtain⟨a,h⟩:=h;exact⟨a,h.setP x⟩
theorem jA.heap{b:Nat}{w a:World}{s:ByteArray}{m:Value}{p l:Int}{k:Bool}(h:jA b w s m p l k)(d:a.heap[b]?=w.heap[b]?):jA b a s m p l k:=by obtain⟨c,h⟩:=h;exact⟨c,d.trans h⟩
theorem Ef(i:Nat)(h:i<11):bR (40+(i:Int))=aD cY i:=by
 unfold bR;rw[if_neg (by omega),if_neg (by omega),if_neg (by omega),if_pos (by omega)];rw[show(40+(i:Int)-40).toNat=i by omega]
theorem Eg(i:Nat)(h:i<18):bR (61+(i:Int))=aD dV i:=by
 unfold bR;rw[if_neg (by omega),if_neg (by omega),if_neg (by omega),if_neg (by omega),if_pos (by omega)];rw[show(61+(i:Int)-61).toNat=i by omega]
def KF(r:ByteArray)(k:Int)(n:Nat):Prop:=(k=0/\n=0)\/(n=(bR k).size/\1<=n/\Lib.hasPrefix r.data.toList (bR k).data.toList=true/\k≠0)
theorem ry(V:Array Value)(base:Int)(r:ByteArray)(N:Nat)(d:0<base)(b:∀i,i<N->bR (base+(i:Int))=aD V i):∀(f i:Nat)(a:Int×Nat),i+f<=N->KF r a.1 a.2->KF r (qz V base r f i a).1 (qz V base r f i a).2
 |0,i,a,_,h=>h
 |f+1,i,a,e,h=>by
  unfold qz;refine ry V base r N d b f (i+1) _ (by omega) ?_;split
  ·rename_i c;refine .inr ⟨?_,?_,?_,?_⟩
   ·show(aD V i).size=_;rw[b i (by omega)]
   ·show 1<=(aD V i).size;omega
   ·show Lib.hasPrefix _ (bR (base+(i:Int))).data.toList=true;rw[b i (by omega)];exact c.2
   ·show base+(i:Int)≠0;omega
  ·exact h
theorem Eh(r x:ByteArray)(h:Lib.hasPrefix r.data.toList x.data.toList=true):x.size<=r.size:=by
 unfold Lib.hasPrefix at h;rw[List.isPrefixOf_iff_prefix]at h;have:=h.length_le
 rwa [Array.length_toList,Array.length_toList]at this
theorem xT(r:ByteArray)(h:0<r.size)(a:gU r≠0):1<=(bR (gU r)).size/\(bR (gU r)).size<=r.size:=by
 unfold gU at a⊢;split
 ·exact⟨by decide,by show 1<=r.size;omega⟩
 split
 ·exact⟨by decide,by show 1<=r.size;omega⟩
 rename_i e d;rw[if_neg e,if_neg d]at a;have g:=ry cY 40 r 11 (by omega) Ef 11 0 (0,0) (by omega) (.inl ⟨rfl,rfl⟩);have c:=ry dV 61 r 18 (by omega) Eg 18 0 _ (by omega) g;rcases c with⟨b,_⟩|⟨b,i,f,_⟩
 ·exact absurd b a
 ·exact⟨by omega,Eh r _ f⟩
theorem rz(s:ByteArray)(p:Nat)(h:aC (ae s p)=true):p<eo s (s.size+1) p:=by
 have a:p<s.size:=by
  rcases Nat.lt_or_ge p s.size with h1|h1
  ·exact h1
  ·exact absurd (.inl h) (nD (by omega))
 rw[eo,if_pos (.inl h)];have:=jt s s.size (p+1) (by omega);omega
theorem fD(s:ByteArray)(p:Nat)(i:p<s.size)(b:(rdI s p).ok=true):p<(rdI s p).a/\(rdI s p).a<=s.size/\0<=(rdI s p).d/\(rdI s p).d<=1:=by
 unfold rdI at b⊢;split
 ·rename_i h;exact⟨rz s p h,(jt s _ p (by omega)).2,by simp,by simp⟩
 split
 ·rename_i g f;rw[if_neg g,if_pos f]at b;have:=iL s p i;split
  ·exact⟨this.1,this.2,by simp,by simp⟩
  ·rename_i e;rw[if_neg e]at b;cases b
 split
 ·rename_i g f e;rw[if_neg g,if_neg f,if_pos e]at b;have:=ia s (s.size+1) (p+1) [] (by omega);split
  ·exact⟨by simp only;omega,this.2.1,by simp,by simp⟩
  ·rename_i c;rw[if_neg c]at b;cases b
 ·rename_i g f e;rw[if_neg g,if_neg f,if_neg e]at b;split
  ·rename_i c;rw[if_pos c]at b;cases b
  ·rename_i c;have j:=iq s p s.size (Nat.le_refl _);have:=xT (s.extract p s.size) (by omega) c;refine⟨by simp only;omega,by simp only;omega,?_,?_⟩
   ·simp only;split<;>omega
   ·simp only;split<;>omega
def Ds(c:Int):Bool:=decide (c≠10/\c≠ -1)
theorem AZ:Ds (-1)=false:=by decide
def Af(s:ByteArray)(p:Nat):Nat:=cZ Ds s (s.size+1) p
def blk(s:ByteArray):Nat->Nat->Nat
 |0,p=>p
 |f+1,p=>if s.size<=p then p else if dJ (ae s p)=true then blk s f (p+1) else if ae s p=45/\ae s (p+1)=45 then blk s f (Af s p) else p
theorem oh(s:ByteArray)(p:Nat)(h:p<=s.size):p<=Af s p/\Af s p<=s.size:=fx Ds AZ s _ p h
theorem mT(s:ByteArray)(p:Nat)(h:ae s p=45):p<Af s p:=by
 have a:=aS h (by omega);unfold Af;rw[cZ,if_pos (by rw[h];decide)];have:=fx Ds AZ s s.size (p+1) (by omega);omega
theorem kF(s:ByteArray):∀(f g p:Nat),p<=s.size->s.size<p+f->s.size<p+g->blk s f p=blk s g p
 |0,g,p,h,b,a=>by omega
 |f+1,0,p,h,b,a=>by omega
 |f+1,g+1,p,h,b,a=>by
  unfold blk;split
  ·rfl
  split
  ·exact kF s f g (p+1) (by omega) (by omega) (by omega)
  split
  ·rename_i c;have e:=mT s p c.1;have d:=oh s p h;exact kF s f g _ d.2 (by omega) (by omega)
  ·rfl
theorem ir(s:ByteArray):∀(f p:Nat),p<=s.size->p<=blk s f p/\blk s f p<=s.size
 |0,p,h=>⟨Nat.le_refl _,h⟩
 |f+1,p,h=>by
  unfold blk;split
  ·exact⟨Nat.le_refl _,h⟩
  split
  ·have:=ir s f (p+1) (by omega);omega
  split
  ·have a:=oh s p h;have:=ir s f (Af s p) a.2;omega
  ·exact⟨Nat.le_refl _,h⟩
def FJ(s:ByteArray):Nat->Nat->Int->Bool×Nat×List Tk
 |0,_,_=>(true,0,[])
 |f+1,p,l=>
  if s.size<=blk s (s.size+1) p then(true,0,[])
  else if(rdI s (blk s (s.size+1) p)).ok=true then
   ((FJ s f (rdI s (blk s (s.size+1) p)).a (l+(rdI s (blk s (s.size+1) p)).d)).1,(FJ s f (rdI s (blk s (s.size+1) p)).a (l+(rdI s (blk s (s.size+1) p)).d)).2.1,
    ⟨(rdI s (blk s (s.size+1) p)).k,(blk s (s.size+1) p:Nat),((rdI s (blk s (s.size+1) p)).a:Nat),l,(rdI s (blk s (s.size+1) p)).n,(rdI s (blk s (s.size+1) p)).x⟩::(FJ s f (rdI s (blk s (s.size+1) p)).a (l+(rdI s (blk s (s.size+1) p)).d)).2.2)
  else(false,(rdI s (blk s (s.size+1) p)).a,[])
structure IN (s:ByteArray) (E:Bool×Nat×List Tk) (pre:List Tk) (p:Nat) (l:Int) (f:Nat):Prop where
 fu:s.size<p+f
 le:p<=s.size
 l0:0<=l
 l1:l<=(p:Int)+1
 cn:pre.length<=p
 eq:E=((FJ s f p l).1,(FJ s f p l).2.1,pre++(FJ s f p l).2.2)
theorem zw(s:ByteArray)(p:Nat)(a:p<s.size)(h:dJ (ae s p)=true):blk s (s.size+1) p=blk s (s.size+1) (p+1):=by
 rw[blk,if_neg (by omega),if_pos h];exact kF s _ _ _ (by omega) (by omega) (by omega)
theorem Ba(c:Int)(h:c=45):¬dJ c=true:=by subst h;decide
theorem Bb(s:ByteArray)(p:Nat)(h:ae s p=45)(b:ae s (p+1)=45):blk s (s.size+1) p=blk s (s.size+1) (Af s p):=by
 have c:=aS h (by omega);have d:=mT s p h;have a:=oh s p (by omega);rw[blk,if_neg (by omega),if_neg (Ba _ h),if_pos ⟨h,b⟩];exact kF s _ _ _ a.2 (by omega) (by omega)
theorem rA(s:ByteArray)(p:Nat)(b:¬dJ (ae s p)=true)(a:¬(ae s p=45/\ae s (p+1)=45)):blk s (s.size+1) p=p:=by
 rw[blk,if_neg b,if_neg a];split<;>rfl
theorem Ei(s:ByteArray)(p:Nat)(h:s.size<=p):blk s (s.size+1) p=p:=by rw[blk,if_pos h]
theorem IN.tok{s:ByteArray}{E:Bool×Nat×List Tk}{pre:List Tk}{p f:Nat}{l:Int}(h:IN s E pre p l f)(i:p<s.size)(j:¬dJ (ae s p)=true)(g:¬(ae s p=45/\ae s (p+1)=45))(b:(rdI s p).ok=true):
  IN s E (pre++[⟨(rdI s p).k,(p:Nat),((rdI s p).a:Nat),l,(rdI s p).n,(rdI s p).x⟩]) (rdI s p).a (l+(rdI s p).d) (f-1):=by
 have e:=fD s p i b;have m:=h.fu;obtain⟨f,rfl⟩:∃c,f=c+1:=⟨f-1,by omega⟩;refine⟨by omega,e.2.1,by have:=h.l0;omega,by have:=h.l1;omega,by have:=h.cn;simp;omega,?_⟩;rw[h.eq,FJ,rA s p j g,if_neg (by omega),if_pos b];simp
theorem IN.bad{s:ByteArray}{E:Bool×Nat×List Tk}{pre:List Tk}{p f:Nat}{l:Int}(h:IN s E pre p l f)(g:p<s.size)(d:¬dJ (ae s p)=true)(c:¬(ae s p=45/\ae s (p+1)=45))(e:(rdI s p).ok=false):
  E=(false,(rdI s p).a,pre):=by
 have i:=h.fu;obtain⟨f,rfl⟩:∃b,f=b+1:=⟨f-1,by omega⟩;rw[h.eq,FJ,rA s p d c,if_neg (by omega),if_neg (by rw[e];simp)];simp
end Go.Proofs.YtcbmoiabehpliaaGreatDoor
