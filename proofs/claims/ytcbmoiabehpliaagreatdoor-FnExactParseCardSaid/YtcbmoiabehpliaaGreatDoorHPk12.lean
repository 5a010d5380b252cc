import Derived.Test.YtcbmoiabehpliaaGreatDoorHPk01
import Derived.Test.YtcbmoiabehpliaaGreatDoorHPk09
import Derived.Test.YtcbmoiabehpliaaGreatDoorHPk04
set_option linter.unusedVariables false
set_option maxRecDepth 100000
set_option maxHeartbeats 3200000
namespace Go.Proofs.YtcbmoiabehpliaaGreatDoor
open Go.RowKit
def eV(k:Int):Bool:=decide (20<=k/\k<=37)
def fC(k:Int):Bool:=decide (1<=k/\k<=16)
def oc(k:Int):Bool:=decide (k=26\/k=32\/k=33)
theorem we(k:Int)(w:World):Calls Tryz.prog 155 #[.int .i64 k] w fun e c=>e= .returned (.bool (eV k))/\c=w:=by
 unfold eV;rcases(show(20<=k/\k<=37)\/(20<=k/\¬k<=37)\/¬20<=k by omega) with⟨h1,b⟩|⟨h1,b⟩|h1
 ·rw[decide_eq_true ⟨h1,b⟩];go_in;go_wp2;go_ret;exact⟨rfl,rfl⟩
 ·rw[decide_eq_false (fun a=>b a.2)];go_in;go_wp2;go_ret;exact⟨rfl,rfl⟩
 ·rw[decide_eq_false (fun a=>h1 a.1)];go_in;go_wp2;go_ret;exact⟨rfl,rfl⟩
theorem od(k:Int)(w:World):Calls Tryz.prog 51 #[.int .i64 k] w fun e c=>e= .returned (.bool (fC k))/\c=w:=by
 unfold fC;rcases(show(1<=k/\k<=16)\/(1<=k/\¬k<=16)\/¬1<=k by omega) with⟨h1,b⟩|⟨h1,b⟩|h1
 ·rw[decide_eq_true ⟨h1,b⟩];go_in;go_wp2;go_ret;exact⟨rfl,rfl⟩
 ·rw[decide_eq_false (fun a=>b a.2)];go_in;go_wp2;go_ret;exact⟨rfl,rfl⟩
 ·rw[decide_eq_false (fun a=>h1 a.1)];go_in;go_wp2;go_ret;exact⟨rfl,rfl⟩
theorem re(k:Int)(w:World):Calls Tryz.prog 110 #[.int .i64 k] w fun e d=>e= .returned (.bool (oc k))/\d=w:=by
 unfold oc;by_cases c:k=26
 ·subst c;go_in;go_wp2;go_ret;exact⟨rfl,rfl⟩
 have g:(k==26)=false:=by rw[beq_eq_false_iff_ne];exact c
 by_cases b:k=32
 ·subst b;go_in;go_wp2;go_ret;exact⟨rfl,rfl⟩
 have f:(k==32)=false:=by rw[beq_eq_false_iff_ne];exact b
 by_cases a:k=33
 ·subst a;go_in;go_wp2;go_ret;exact⟨rfl,rfl⟩
 have h:(k==33)=false:=by rw[beq_eq_false_iff_ne];exact a
 rw[decide_eq_false (by omega)];go_in;go_wp2;go_ret;exact⟨rfl,rfl⟩
theorem zh(w:World)(o:Value)(ns:List Nd)(N j:Nd)(vn vk:Value)(i:Nat)(z:Nat)(c:bf w o ns)(n:aH w vn N.nm)(f:aV w vk N.ks)(b:N.ks[i]?=some (z:Int))(a:ns[z]?=some j)(v:ns.length<=1048576)(y:N.ks.length<=1048576):
  Calls Tryz.prog 106 #[.agg #[o],bu N vn vk,.int .i64 i] w fun e r=>e= .returned (.int .i64 j.k)/\Below w.heap.size w r:=by
 have t:∀d g,Below w.heap.size w ((w.alloc d).alloc g):=fun d g=>((Below.refl _ w).alloc (Nat.le_refl _) d).alloc (by simp) g;obtain⟨C,ak,rfl⟩:=c.form;obtain⟨V,Q,rfl⟩:=n.form;obtain⟨H,K,rfl⟩:=f.form;obtain⟨T,rfl,R,O,m⟩:=c.get a;obtain⟨A,rfl,q⟩:=f.get b;have x:z<ns.length:=by rcases Nat.lt_or_ge z ns.length with h|h;exact h;rw[List.getElem?_eq_none h]at a;cases a
 have p:i<N.ks.length:=by rcases Nat.lt_or_ge i N.ks.length with h|h;exact h;rw[List.getElem?_eq_none h]at b;cases b
 have l:=m.c0;have al:=mP q;have B:=mP l;unfold bu;generalize ns.length=u at v x;generalize N.ks.length=s at y p;generalize N.nm.length=M;generalize j.k=Y at l;have W:(z:Int)<(u:Int):=by omega
 have am:(i:Int)<(s:Int):=by omega
 have af:(0:Int)<=(z:Int):=by omega
 have S:(0:Int)<=(i:Int):=by omega
 clear c n f b a m;obtain⟨X,U,G,L,J,F,I,Z,E⟩:=N;simp only;go_in;go_wp2_with fail;go_quiet (fail)
 go_wp2_with fail;go_ret;exact⟨rfl,dr (t _ _) _⟩
def ba(ns:List Nd)(N:Nd)(j:Nat):Int:=(ns.getD ((N.ks.getD j 0).toNat) za).k
def di(ns:List Nd)(N:Nd):Nat->Nat->Bool
 |0,_=>true
 |f+1,j=>eV (ba ns N j)&&di ns N f (j+1)
structure Gx (ns:List Nd) (N:Nd) (f j:Nat) (R:Bool):Prop where
 out:di ns N f j=R
structure lu (ns:List Nd) (N:Nd):Prop where
 ok:∀z∈N.ks,0<=z/\z<(ns.length:Int)
theorem lu.get{ns:List Nd}{N:Nd}(h:lu ns N){j:Nat}(c:j<N.ks.length):∃(z:Nat) (e:Nd),N.ks[j]?=some (z:Int)/\ns[z]?=some e/\ba ns N j=e.k/\z<ns.length:=by
 have b:N.ks[j]?=some N.ks[j]:=List.getElem?_eq_getElem c;obtain⟨f,g⟩:=h.ok N.ks[j] (List.getElem_mem c);obtain⟨z,d⟩:∃z:Nat,N.ks[j]=(z:Int):=⟨N.ks[j].toNat,by omega⟩;have a:z<ns.length:=by omega
 refine⟨z,ns[z],by rw[b,d],List.getElem?_eq_getElem a,?_,a⟩;unfold ba;rw[List.getD_eq_getElem?_getD,List.getD_eq_getElem?_getD,b,d];simp[a]
theorem aL(w:World)(L:Value)(ns:List Nd)(N:Nd)(vn vk:Value)(i k:Nat)(s:bf w L ns)(b:aH w vn N.nm)(B:aV w vk N.ks)(al:lu ns N)(an:k<=N.ks.length)(ap:ns.length<=1048576)(av:N.ks.length<=1048576):
  Calls Tryz.prog 109 #[.agg #[L],bu N vn vk,.int .i64 i,.int .i64 k] w fun e Z=>e= .returned (.bool (di ns N (k-i) i))/\Below w.heap.size w Z:=by
 obtain⟨F,u⟩:=ah (di ns N (k-i) i);rw[u];have am:Gx ns N (k-i) i F:=⟨u⟩;clear u;have M:∀z E,Below w.heap.size w ((w.alloc z).alloc E):=fun z E=>((Below.refl _ w).alloc (Nat.le_refl _) z).alloc (by simp) E;have q:=cK s B;obtain⟨r,G,rfl⟩:=s.form;obtain⟨T,R,rfl⟩:=b.form;obtain⟨v,y,rfl⟩:=B.form;clear s b B;unfold bu;obtain⟨o,b⟩:=ah ns.length;obtain⟨m,A⟩:=ah N.ks.length;have S:=cK b A;rw[b]at q ap⊢;rw[A]at q av an⊢;clear b A;generalize N.nm.length=O;go_in;go_wp2_with fail;obtain⟨g,d⟩:=ah ((w.alloc (.cells #[.slice r o G] 24)).alloc (.cells #[.int .i64 N.k,.int .i64 N.f,.int .i64 N.t,.int .i64 N.l,.int .i64 N.op,.int .i64 N.n,.string N.x,.slice T O R,.slice v m y] 69));have a0:g.cell? ⟨w.heap.size,0,none⟩=some (.slice r o G):=by
  rw[<-d,cell_of_row _ _ _ _ _ _ ((Below.heap_alloc _ _ _ (by simp)).trans (heap_alloc_new w _))];rfl
 have ak:g.cell? ⟨w.heap.size+1,8,none⟩=some (.slice v m y):=by
  have:=heap_alloc_new (w.alloc (.cells #[.slice r o G] 24)) (.cells #[.int .i64 N.k,.int .i64 N.f,.int .i64 N.t,.int .i64 N.l,.int .i64 N.op,.int .i64 N.n,.string N.x,.slice T O R,.slice v m y] 69);rw[World.size_alloc]at this;rw[<-d,cell_of_row _ _ _ _ _ _ this];rfl
 have V:Below w.heap.size w g:=by rw[<-d];exact M _ _
 rw[d];clear d M;go_loopw [9] (fun C wr=>∃(j:Nat),C= .int .i64 j/\i<=j/\(i<=k->j<=k)/\Gx ns N (k-j) j F/\Below g.heap.size g wr) (fun C _=>k-(intOf C).toNat)
 case atStart=>exact⟨i,rfl,Nat.le_refl _,fun X=>X,am,Below.refl _ _⟩
 case round=>
  obtain⟨j,rfl,bb,a7,Q,n⟩:=hrel;have p:=V.trans (n.mono V.size);by_cases a9:j<k
  ·obtain⟨J,W,H,K,U,Y⟩:=al.get (j:=j) (by rw[S.out.2];omega);rw[S.out.1]at Y;obtain⟨bh,rfl,bl,bd,I⟩:=(q.out.1.below p).get K;obtain⟨a4,rfl,a8⟩:=(q.out.2.below p).get H;have bo:=aa n a0;have bk:=aa n ak;have ar:=I.c0;have a:=Q.out;rw[show k-j=(k-(j+1))+1 by omega,di,U]at a;have af:(j:Int)<(k:Int):=by omega
   have a6:(j:Int)<(m:Int):=by omega
   have bn:(J:Int)<(o:Int):=by omega
   have br:(0:Int)<=(J:Int):=by omega
   have a5:(0:Int)<=(j:Int):=by omega
   have c:=fun w=>we W.k w;generalize W.k=ao at ar a c;clear H K U I;cases hx:eV ao with
   |true=>
    rw[hx,Bool.true_and]at a;rw[hx]at c;have h:Gx ns N (k-(j+1)) (j+1) F:=⟨a⟩;clear a hx;go_wp2_with fail;go_quiet ((go_at_call 155;exact Calls.quiet_of_same (c _)))
    go_wp2_with fail;exact⟨⟨j+1,by go_num,by omega,fun _=>by omega,h,dr n _⟩,by simp[intOf];omega⟩
   |false=>
    rw[hx,Bool.false_and]at a;rw[hx]at c;have h:=ab a;clear a hx;go_wp2_with fail;go_quiet ((go_at_call 155;exact Calls.quiet_of_same (c _)))
    go_wp2_with fail;go_ret;exact⟨by rw[<-h.out];rfl,dr p _⟩
  ·have a:=Q.out;rw[show k-j=0 by omega,di]at a;have h:=ab a;have af:¬(j:Int)<(k:Int):=by omega
   clear a;go_wp2_with fail;go_ret;exact⟨by rw[<-h.out];rfl,p⟩
end Go.Proofs.YtcbmoiabehpliaaGreatDoor
namespace Go.Proofs.YtcbmoiabehpliaaGreatDoor
open Go.RowKit Go.Maps Go.WideMaps
def jy(l:List ByteArray):Nat->Nat->Bool
 |0,_=>true
 |f+1,j=>fs (l.getD j ByteArray.empty)&&jy l f (j+1)
structure qx (l:List ByteArray) (f j:Nat) (R:Bool):Prop where
 out:jy l f j=R
def bF(N:Nd)(b a:Int):Bool:=decide (b<=(N.nm.length:Int)/\(N.nm.length:Int)<=a)&&jy N.nm N.nm.length 0
theorem da(w:World)(N:Nd)(vn vk:Value)(j r:Int)(u:aH w vn N.nm)(L:aV w vk N.ks)(Q:N.nm.length<=1048576)(I:∀s∈N.nm,s.size<=1048576):
  Calls Tryz.prog 108 #[bu N vn vk,.int .i64 j,.int .i64 r] w fun e O=>e= .returned (.bool (bF N j r))/\Below w.heap.size w O:=by
 have p:∀B,Below w.heap.size w (w.alloc B):=fun B=>(Below.refl _ w).alloc (Nat.le_refl _) B;have E:=cK u I;obtain⟨M,K,rfl⟩:=u.form;obtain⟨H,J,rfl⟩:=L.form;clear u L I;obtain⟨i,c⟩:=ah (bF N j r);rw[c];unfold bF at c;unfold bu;obtain⟨b,v⟩:=ah N.nm.length;have V:=ab v;rw[v]at E Q c⊢;clear v;generalize N.ks.length=F;by_cases X:(b:Int)<j
 ·have h:Hid (false=i):=by rw[decide_eq_false (by omega)]at c;exact c
  clear c;go_in;go_wp2;go_ret;exact⟨by rw[<-h.out];rfl,p _⟩
 by_cases W:r<(b:Int)
 ·have h:Hid (false=i):=by rw[decide_eq_false (by omega)]at c;exact c
  clear c;go_in;go_wp2;go_ret;exact⟨by rw[<-h.out];rfl,p _⟩
 have h:qx N.nm b 0 i:=⟨by rw[decide_eq_true (by omega)]at c;simpa using c⟩;clear c;go_in;go_wp2_with fail;have C:=p (.cells #[.int .i64 N.k,.int .i64 N.f,.int .i64 N.t,.int .i64 N.l,.int .i64 N.op,.int .i64 N.n,.string N.x,.slice M b K,.slice H F J] 69);generalize w.alloc (.cells #[.int .i64 N.k,.int .i64 N.f,.int .i64 N.t,.int .i64 N.l,.int .i64 N.op,.int .i64 N.n,.string N.x,.slice M b K,.slice H F J] 69)=G at C⊢;clear p;go_loopw [24,8] (fun z _ wr=>∃(a:Nat),z= .int .i64 a/\a<=b/\qx N.nm (b-a) a i/\Below G.heap.size G wr) (fun z _ _=>b-(intOf z).toNat)
 case atStart=>exact⟨0,rfl,by omega,h,Below.refl _ _⟩
 case round=>
  obtain⟨a,rfl,af,U,y⟩:=hrel;have q:=C.trans (y.mono C.size);have d:=U.out;by_cases T:a<b
  ·obtain⟨s,m⟩:=aF V.out T;have al:=E.out.2 s (List.mem_of_getElem? m);obtain⟨Y,rfl,ak⟩:=(E.out.1.below q).get m;rw[show b-a=(b-(a+1))+1 by omega,jy,List.getD_eq_getElem?_getD,m,Option.getD_some]at d;have R:(a:Int)<(b:Int):=by omega
   have Z:(0:Int)<=(a:Int):=by omega
   have o:=eH s (by omega) wr;clear m;cases hx:fs s with
   |true=>
    rw[hx,Bool.true_and]at d;rw[hx]at o;have g:qx N.nm (b-(a+1)) (a+1) i:=⟨d⟩;clear d hx;go_wp2_with (go_at_call 112;refine o.mono ?_;rintro e S ⟨rfl,A⟩);exact⟨⟨a+1,by go_num,by omega,g,y.trans (A.mono y.size)⟩,by simp[intOf];omega⟩
   |false=>
    rw[hx,Bool.false_and]at d;rw[hx]at o;have g:=ab d;clear d hx;go_wp2_with (go_at_call 112;refine o.mono ?_;rintro e S ⟨rfl,A⟩);go_ret;exact⟨by rw[<-g.out];rfl,q.trans (A.mono q.size)⟩
  ·rw[show b-a=0 by omega,jy]at d;have g:=ab d;have R:¬(a:Int)<(b:Int):=by omega
   clear d;go_wp2_with fail;go_ret;exact⟨by rw[<-g.out];rfl,q⟩
end Go.Proofs.YtcbmoiabehpliaaGreatDoor
namespace Go.Proofs.YtcbmoiabehpliaaGreatDoor
open Go.RowKit
def wB:Nat->ByteArray
 |0=>⟨#[115,116,97,116]⟩
 |1=>⟨#[98,108,111,99,107]⟩
 |2=>⟨#[101,108,115,101]⟩
 |3=>⟨#[101,120,112,114]⟩
 |4=>⟨#[98,97,115,101]⟩
 |5=>⟨#[116,97,114,103,101,116]⟩
 |6=>⟨#[99,97,108,108]⟩
 |7=>⟨#[109,97,110,121]⟩
 |8=>⟨#[102,110]⟩
 |_=>⟨#[101,110,116,114,121]⟩
def ms:Nat->Int->Bool
 |0,k=>fC k
 |1,k=>k==1
 |2,k=>k==1||k==7
 |3,k=>eV k
 |4,k=>eV k&&k !=27
 |5,k=>k==26||k==32||k==33
 |6,k=>k==34
 |7,k=>k==34||k==27
 |8,k=>k==36
 |_,k=>decide (40<=k/\k<=42)
theorem oe(k:Int)(w:World):Calls Tryz.prog 219 #[.int .i64 k] w fun e c=>e= .returned (.bool (eV k))/\c=w:=by
 unfold eV;rcases(show(20<=k/\k<=37)\/(20<=k/\¬k<=37)\/¬20<=k by omega) with⟨h1,b⟩|⟨h1,b⟩|h1
 ·rw[decide_eq_true ⟨h1,b⟩];go_in;go_wp2;go_ret;exact⟨rfl,rfl⟩
 ·rw[decide_eq_false (fun a=>b a.2)];go_in;go_wp2;go_ret;exact⟨rfl,rfl⟩
 ·rw[decide_eq_false (fun a=>h1 a.1)];go_in;go_wp2;go_ret;exact⟨rfl,rfl⟩
theorem zi(k:Int)(w:World):Calls Tryz.prog 202 #[.string ⟨#[115,116,97,116]⟩,.int .i64 k] w fun e b=>e= .returned (.bool (ms 0 k))/\b=w:=by
 rcases(show(1<=k/\k<=16)\/(1<=k/\¬k<=16)\/(¬1<=k) by omega) with⟨h0,a⟩|⟨h0,a⟩|h0
 ·rw[show ms 0 k=true from decide_eq_true (by omega)];go_in;go_wp2;go_ret;exact⟨rfl,rfl⟩
 ·rw[show ms 0 k=false from decide_eq_false (by omega)];go_in;go_wp2;go_ret;exact⟨rfl,rfl⟩
 ·rw[show ms 0 k=false from decide_eq_false (by omega)];go_in;go_wp2;go_ret;exact⟨rfl,rfl⟩
theorem zj(k:Int)(w:World):Calls Tryz.prog 202 #[.string ⟨#[98,108,111,99,107]⟩,.int .i64 k] w fun e a=>e= .returned (.bool (ms 1 k))/\a=w:=by
 unfold ms;go_in;go_wp2;go_ret;exact⟨rfl,rfl⟩
theorem zk(k:Int)(w:World):Calls Tryz.prog 202 #[.string ⟨#[101,108,115,101]⟩,.int .i64 k] w fun e a=>e= .returned (.bool (ms 2 k))/\a=w:=by
 unfold ms;rcases(show(k=1)\/(k=7)\/(¬k=1/\¬k=7) by omega) with rfl|rfl|⟨c,b⟩
 ·go_in;go_wp2;go_ret;exact⟨rfl,rfl⟩
 ·go_in;go_wp2;go_ret;exact⟨rfl,rfl⟩
 ·go_in;go_wp2;go_ret;exact⟨rfl,rfl⟩
theorem zl(k:Int)(w:World):Calls Tryz.prog 202 #[.string ⟨#[101,120,112,114]⟩,.int .i64 k] w fun e a=>e= .returned (.bool (ms 3 k))/\a=w:=by
 have b:=fun w=>oe k w;obtain⟨d,c⟩:=ah (eV k);show Calls _ _ _ _ fun e a=>e= .returned (.bool (eV k))/\a=w;rw[c]at b⊢;clear c;go_in;go_wp2_with (go_at_call 219;refine bc (b _) ?_);go_ret;exact⟨rfl,rfl⟩
theorem zm(k:Int)(w:World):Calls Tryz.prog 202 #[.string ⟨#[98,97,115,101]⟩,.int .i64 k] w fun e b=>e= .returned (.bool (ms 4 k))/\b=w:=by
 have a:=fun w=>oe k w;obtain⟨d,c⟩:=ah (eV k);show Calls _ _ _ _ fun e b=>e= .returned (.bool (eV k&&k !=27))/\b=w;rw[c]at a⊢;clear c;cases d
 ·rw[Bool.false_and];go_in;go_wp2_with (go_at_call 219;refine bc (a _) ?_);go_ret;exact⟨rfl,rfl⟩
 ·rw[Bool.true_and];go_in;go_wp2_with (go_at_call 219;refine bc (a _) ?_);go_ret;exact⟨rfl,rfl⟩
theorem zn(k:Int)(w:World):Calls Tryz.prog 202 #[.string ⟨#[116,97,114,103,101,116]⟩,.int .i64 k] w fun e a=>e= .returned (.bool (ms 5 k))/\a=w:=by
 unfold ms;rcases(show(k=26)\/(k=32)\/(k=33)\/(¬k=26/\¬k=32/\¬k=33) by omega) with rfl|rfl|rfl|⟨d,b,c⟩
 ·go_in;go_wp2;go_ret;exact⟨rfl,rfl⟩
 ·go_in;go_wp2;go_ret;exact⟨rfl,rfl⟩
 ·go_in;go_wp2;go_ret;exact⟨rfl,rfl⟩
 ·go_in;go_wp2;go_ret;exact⟨rfl,rfl⟩
theorem zo(k:Int)(w:World):Calls Tryz.prog 202 #[.string ⟨#[99,97,108,108]⟩,.int .i64 k] w fun e a=>e= .returned (.bool (ms 6 k))/\a=w:=by
 unfold ms;go_in;go_wp2;go_ret;exact⟨rfl,rfl⟩
theorem zq(k:Int)(w:World):Calls Tryz.prog 202 #[.string ⟨#[109,97,110,121]⟩,.int .i64 k] w fun e a=>e= .returned (.bool (ms 7 k))/\a=w:=by
 unfold ms;rcases(show(k=34)\/(k=27)\/(¬k=34/\¬k=27) by omega) with rfl|rfl|⟨c,b⟩
 ·go_in;go_wp2;go_ret;exact⟨rfl,rfl⟩
 ·go_in;go_wp2;go_ret;exact⟨rfl,rfl⟩
 ·go_in;go_wp2;go_ret;exact⟨rfl,rfl⟩
theorem zr(k:Int)(w:World):Calls Tryz.prog 202 #[.string ⟨#[102,110]⟩,.int .i64 k] w fun e a=>e= .returned (.bool (ms 8 k))/\a=w:=by
 unfold ms;go_in;go_wp2;go_ret;exact⟨rfl,rfl⟩
theorem zs(k:Int)(w:World):Calls Tryz.prog 202 #[.string ⟨#[101,110,116,114,121]⟩,.int .i64 k] w fun e b=>e= .returned (.bool (ms 9 k))/\b=w:=by
 rcases(show(40<=k/\k<=42)\/(40<=k/\¬k<=42)\/(¬40<=k) by omega) with⟨h0,a⟩|⟨h0,a⟩|h0
 ·rw[show ms 9 k=true from decide_eq_true (by omega)];go_in;go_wp2;go_ret;exact⟨rfl,rfl⟩
 ·rw[show ms 9 k=false from decide_eq_false (by omega)];go_in;go_wp2;go_ret;exact⟨rfl,rfl⟩
 ·rw[show ms 9 k=false from decide_eq_false (by omega)];go_in;go_wp2;go_ret;exact⟨rfl,rfl⟩
theorem rf(i:Nat)(a:i<10)(k:Int)(w:World):Calls Tryz.prog 202 #[.string (wB i),.int .i64 k] w fun e b=>e= .returned (.bool (ms i k))/\b=w:=by
 match i,a with
 |0,_=>exact zi k w
 |1,_=>exact zj k w
 |2,_=>exact zk k w
 |3,_=>exact zl k w
 |4,_=>exact zm k w
 |5,_=>exact zn k w
 |6,_=>exact zo k w
 |7,_=>exact zq k w
 |8,_=>exact zr k w
 |9,_=>exact zs k w
end Go.Proofs.YtcbmoiabehpliaaGreatDoor
