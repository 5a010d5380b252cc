import Derived.Test.YtoahhnnflblfaaaGreatDoorHVk04
import Derived.Test.YtoahhnnflblfaaaGreatDoorHVk03
set_option linter.all false
set_option maxRecDepth 100000
set_option maxHeartbeats 3200000
open Bool renaming false->M,true->U
open Go.Value renaming bool->O,int->V,string->X,slice->A1
open Go.Ending renaming returned->Q
open Go.Proofs.Tryz renaming prog->S
open Go renaming Calls->T,World->Y,Value->A0
open Go.IntKind renaming i64->W
open Go.RowKit renaming Below->Z,Hid->Ax
namespace Go.Proofs.YtoahhnnflblfaaaGreatDoor
open Go.RowKit Go.Maps Go.WideMaps
def sc(l:List ByteArray):Nat->Nat->Bool
 |0,_=>U
 |f+1,j=>jo (l.getD j ByteArray.empty)&&sc l f (j+1)
structure C3 (l:List ByteArray) (f j:Nat) (R:Bool):Prop where
 out:sc l f j=R
def ez(N:Nd)(least a:Int):Bool:=decide (least<=(N.nm.length:Int)/\(N.nm.length:Int)<=a)&&sc N.nm N.nm.length 0
theorem jy(w:Y)(N:Nd)(vn vk:A0)(least q:Int)(A:bF w vn N.nm)(K:aK w vk N.ks)(am:N.nm.length<=1048576)(L:∀s∈N.nm,s.size<=1048576):
  T S 98 #[dy N vn vk,V W least,V W q] w fun e ao=>e= Q (O (ez N least q))/\Z w.heap.size w ao:=by
 have j:∀B,Z w.heap.size w (w.alloc B):=fun B=>(ai _ w).alloc (ag _) B;have r:=eH A L;obtain⟨G,I,rfl⟩:=A.form;obtain⟨H,J,rfl⟩:=K.form;clear A K L;obtain⟨i,c⟩:=aA (ez N least q);rw[c];unfold ez at c;unfold dy;obtain⟨a,v⟩:=aA N.nm.length;have ak:=aj v;rw[v]at r am c⊢;clear v;generalize N.ks.length=E;by_cases av:(a:Int)<least
 ·have g:Ax (M=i):=by rw[az (by omega)]at c;exact c
  clear c;go_in;go_wp2;go_ret;exact⟨by rw[<-g.out];rfl,j _⟩
 by_cases a0:q<(a:Int)
 ·have g:Ax (M=i):=by rw[az (by omega)]at c;exact c
  clear c;go_in;go_wp2;go_ret;exact⟨by rw[<-g.out];rfl,j _⟩
 have g:C3 N.nm a 0 i:=⟨by rw[bg (by omega)]at c;simpa using c⟩;clear c;go_in;go_wp2_with fail;have u:=j (.cells #[V W N.k,V W N.f,V W N.t,V W N.l,V W N.op,V W N.n,X N.x,A1 G a I,A1 H E J] 36);generalize w.alloc (.cells #[V W N.k,V W N.f,V W N.t,V W N.l,V W N.op,V W N.n,X N.x,A1 G a I,A1 H E J] 36)=F at u⊢;clear j;go_loopw [24,8] (fun C _ wr=>∃(b:Nat),C= V W b/\b<=a/\C3 N.nm (a-b) b i/\Z F.heap.size F wr) (fun C _ _=>a-(intOf C).toNat)
 case atStart=>exact⟨0,rfl,by omega,g,ai _ _⟩
 case round=>
  obtain⟨b,rfl,a4,af,y⟩:=hrel;have m:=u.trans (y.mono u.size);have d:=af.out;by_cases an:b<a
  ·obtain⟨s,o⟩:=bH ak.out an;have a6:=r.out.2 s (dl o);obtain⟨a7,rfl,a1⟩:=(r.out.1.below m).get o;rw[show a-b=(a-(b+1))+1 by omega,sc,bc,o,ii]at d;have al:(b:Int)<(a:Int):=by omega
   have a5:(0:Int)<=(b:Int):=by omega
   have p:=oC s (by omega) wr;clear o;cases hx:jo s with
   |true=>
    rw[hx,fC]at d;rw[hx]at p;have h:C3 N.nm (a-(b+1)) (b+1) i:=⟨d⟩;clear d hx;go_wp2_with (go_at_call 102;refine p.mono ?_;rintro e ap ⟨rfl,z⟩);exact⟨⟨b+1,by go_num,by omega,h,y.trans (z.mono y.size)⟩,by simp[intOf];omega⟩
   |false=>
    rw[hx,eG]at d;rw[hx]at p;have h:=aj d;clear d hx;go_wp2_with (go_at_call 102;refine p.mono ?_;rintro e ap ⟨rfl,z⟩);go_ret;exact⟨by rw[<-h.out];rfl,m.trans (z.mono m.size)⟩
  ·rw[show a-b=0 by omega,sc]at d;have h:=aj d;have al:¬(b:Int)<(a:Int):=by omega
   clear d;go_wp2_with fail;go_ret;exact⟨by rw[<-h.out];rfl,m⟩
def oa(x:ByteArray):Bool:=decide (x.toList=[])
def aD(N:Nd)(op b c a:Bool):Bool:=(op||N.op==0)&&(b||N.n==0)&&(c||oa N.x)&&(a||decide (N.nm.length=0))
theorem de(w:Y)(N:Nd)(vn vk:A0)(l:bF w vn N.nm)(j:aK w vk N.ks)(k:N.nm.length<=1048576):
  T S 97 #[dy N vn vk,O M,O M,O M,O M] w fun e r=>e= Q (O (aD N M M M M))/\Z w.heap.size w r:=by
 have d:∀f,Z w.heap.size w (w.alloc f):=fun f=>(ai _ w).alloc (ag _) f;obtain⟨t,v,rfl⟩:=l.form;obtain⟨u,x,rfl⟩:=j.form;clear l j;obtain⟨c,a⟩:=aA (aD N M M M M);rw[a];unfold dy;generalize N.ks.length=s;obtain⟨z,y,C,B,p,n,q,o,A⟩:=N;simp only at k⊢;unfold aD oa at a;simp only at a;obtain⟨g,i⟩:=aA o.length;rw[i]at k a⊢;clear i;cases t1:(p==0) with
 |false=>
  rw[t1]at a;have b:Ax (M=c):=by first|exact a|simpa using a
  clear a;go_in;go_wp2;go_ret;exact⟨by rw[<-b.out];rfl,d _⟩
 |true=>
  rw[t1]at a;cases t2:(n==0) with
  |false=>
   rw[t2]at a;have b:Ax (M=c):=by first|exact a|simpa using a
   clear a;go_in;go_wp2;go_ret;exact⟨by rw[<-b.out];rfl,d _⟩
  |true=>
   rw[t2]at a;by_cases m:q.toList=[]
   case neg=>
    rw[az m]at a;have b:Ax (M=c):=by first|exact a|simpa using a
    clear a;go_in;go_wp2;go_ret;exact⟨by rw[<-b.out];rfl,d _⟩
   rw[bg m]at a;by_cases h:g=0
   ·subst h;have b:Ax (U=c):=by first|exact a|simpa using a
    clear a;go_in;go_wp2;go_ret;exact⟨by rw[<-b.out];rfl,d _⟩
   ·have E:((g:Int)==0)=M:=by rw[aL];omega
    rw[az h]at a;have b:Ax (M=c):=by first|exact a|simpa using a
    clear a;go_in;go_wp2;go_ret;exact⟨by rw[<-b.out];rfl,d _⟩
theorem lp(w:Y)(N:Nd)(vn vk:A0)(j:bF w vn N.nm)(h:aK w vk N.ks)(i:N.nm.length<=1048576):
  T S 97 #[dy N vn vk,O M,O M,O M,O U] w fun e p=>e= Q (O (aD N M M M U))/\Z w.heap.size w p:=by
 have d:∀f,Z w.heap.size w (w.alloc f):=fun f=>(ai _ w).alloc (ag _) f;obtain⟨s,u,rfl⟩:=j.form;obtain⟨t,v,rfl⟩:=h.form;clear j h;obtain⟨c,a⟩:=aA (aD N M M M U);rw[a];unfold dy;generalize N.ks.length=r;obtain⟨y,x,B,A,n,l,o,m,z⟩:=N;simp only at i⊢;unfold aD oa at a;simp only at a;obtain⟨q,g⟩:=aA m.length;rw[g]at i a⊢;clear g;cases t1:(n==0) with
 |false=>
  rw[t1]at a;have b:Ax (M=c):=by first|exact a|simpa using a
  clear a;go_in;go_wp2;go_ret;exact⟨by rw[<-b.out];rfl,d _⟩
 |true=>
  rw[t1]at a;cases t2:(l==0) with
  |false=>
   rw[t2]at a;have b:Ax (M=c):=by first|exact a|simpa using a
   clear a;go_in;go_wp2;go_ret;exact⟨by rw[<-b.out];rfl,d _⟩
  |true=>
   rw[t2]at a;by_cases k:o.toList=[]
   case neg=>
    rw[az k]at a;have b:Ax (M=c):=by first|exact a|simpa using a
    clear a;go_in;go_wp2;go_ret;exact⟨by rw[<-b.out];rfl,d _⟩
   rw[bg k]at a;have b:Ax (U=c):=by first|exact a|simpa using a
   clear a;go_in;go_wp2;go_ret;exact⟨by rw[<-b.out];rfl,d _⟩
theorem nc(w:Y)(N:Nd)(vn vk:A0)(l:bF w vn N.nm)(j:aK w vk N.ks)(k:N.nm.length<=1048576):
  T S 97 #[dy N vn vk,O M,O U,O M,O M] w fun e q=>e= Q (O (aD N M U M M))/\Z w.heap.size w q:=by
 have d:∀f,Z w.heap.size w (w.alloc f):=fun f=>(ai _ w).alloc (ag _) f;obtain⟨s,u,rfl⟩:=l.form;obtain⟨t,v,rfl⟩:=j.form;clear l j;obtain⟨c,a⟩:=aA (aD N M U M M);rw[a];unfold dy;generalize N.ks.length=r;obtain⟨y,x,C,A,o,B,p,n,z⟩:=N;simp only at k⊢;unfold aD oa at a;simp only at a;obtain⟨g,i⟩:=aA n.length;rw[i]at k a⊢;clear i;cases t1:(o==0) with
 |false=>
  rw[t1]at a;have b:Ax (M=c):=by first|exact a|simpa using a
  clear a;go_in;go_wp2;go_ret;exact⟨by rw[<-b.out];rfl,d _⟩
 |true=>
  rw[t1]at a;by_cases m:p.toList=[]
  case neg=>
   rw[az m]at a;have b:Ax (M=c):=by first|exact a|simpa using a
   clear a;go_in;go_wp2;go_ret;exact⟨by rw[<-b.out];rfl,d _⟩
  rw[bg m]at a;by_cases h:g=0
  ·subst h;have b:Ax (U=c):=by first|exact a|simpa using a
   clear a;go_in;go_wp2;go_ret;exact⟨by rw[<-b.out];rfl,d _⟩
  ·have E:((g:Int)==0)=M:=by rw[aL];omega
   rw[az h]at a;have b:Ax (M=c):=by first|exact a|simpa using a
   clear a;go_in;go_wp2;go_ret;exact⟨by rw[<-b.out];rfl,d _⟩
theorem ng(w:Y)(N:Nd)(vn vk:A0)(l:bF w vn N.nm)(j:aK w vk N.ks)(k:N.nm.length<=1048576):
  T S 97 #[dy N vn vk,O M,O M,O U,O M] w fun e p=>e= Q (O (aD N M M U M))/\Z w.heap.size w p:=by
 have d:∀f,Z w.heap.size w (w.alloc f):=fun f=>(ai _ w).alloc (ag _) f;obtain⟨r,t,rfl⟩:=l.form;obtain⟨s,u,rfl⟩:=j.form;clear l j;obtain⟨c,a⟩:=aA (aD N M M U M);rw[a];unfold dy;generalize N.ks.length=q;obtain⟨x,v,A,z,o,m,B,n,y⟩:=N;simp only at k⊢;unfold aD oa at a;simp only at a;obtain⟨g,i⟩:=aA n.length;rw[i]at k a⊢;clear i;cases t1:(o==0) with
 |false=>
  rw[t1]at a;have b:Ax (M=c):=by first|exact a|simpa using a
  clear a;go_in;go_wp2;go_ret;exact⟨by rw[<-b.out];rfl,d _⟩
 |true=>
  rw[t1]at a;cases t2:(m==0) with
  |false=>
   rw[t2]at a;have b:Ax (M=c):=by first|exact a|simpa using a
   clear a;go_in;go_wp2;go_ret;exact⟨by rw[<-b.out];rfl,d _⟩
  |true=>
   rw[t2]at a;by_cases h:g=0
   ·subst h;have b:Ax (U=c):=by first|exact a|simpa using a
    clear a;go_in;go_wp2;go_ret;exact⟨by rw[<-b.out];rfl,d _⟩
   ·have C:((g:Int)==0)=M:=by rw[aL];omega
    rw[az h]at a;have b:Ax (M=c):=by first|exact a|simpa using a
    clear a;go_in;go_wp2;go_ret;exact⟨by rw[<-b.out];rfl,d _⟩
theorem xI(w:Y)(N:Nd)(vn vk:A0)(l:bF w vn N.nm)(j:aK w vk N.ks)(k:N.nm.length<=1048576):
  T S 97 #[dy N vn vk,O U,O M,O M,O M] w fun e q=>e= Q (O (aD N U M M M))/\Z w.heap.size w q:=by
 have d:∀f,Z w.heap.size w (w.alloc f):=fun f=>(ai _ w).alloc (ag _) f;obtain⟨s,u,rfl⟩:=l.form;obtain⟨t,v,rfl⟩:=j.form;clear l j;obtain⟨c,a⟩:=aA (aD N U M M M);rw[a];unfold dy;generalize N.ks.length=r;obtain⟨y,x,C,A,B,n,p,o,z⟩:=N;simp only at k⊢;unfold aD oa at a;simp only at a;obtain⟨g,i⟩:=aA o.length;rw[i]at k a⊢;clear i;cases t2:(n==0) with
 |false=>
  rw[t2]at a;have b:Ax (M=c):=by first|exact a|simpa using a
  clear a;go_in;go_wp2;go_ret;exact⟨by rw[<-b.out];rfl,d _⟩
 |true=>
  rw[t2]at a;by_cases m:p.toList=[]
  case neg=>
   rw[az m]at a;have b:Ax (M=c):=by first|exact a|simpa using a
   clear a;go_in;go_wp2;go_ret;exact⟨by rw[<-b.out];rfl,d _⟩
  rw[bg m]at a;by_cases h:g=0
  ·subst h;have b:Ax (U=c):=by first|exact a|simpa using a
   clear a;go_in;go_wp2;go_ret;exact⟨by rw[<-b.out];rfl,d _⟩
  ·have E:((g:Int)==0)=M:=by rw[aL];omega
   rw[az h]at a;have b:Ax (M=c):=by first|exact a|simpa using a
   clear a;go_in;go_wp2;go_ret;exact⟨by rw[<-b.out];rfl,d _⟩
theorem Gk(w:Y)(N:Nd)(vn vk:A0)(j:bF w vn N.nm)(h:aK w vk N.ks)(i:N.nm.length<=1048576):
  T S 97 #[dy N vn vk,O U,O M,O M,O U] w fun e o=>e= Q (O (aD N U M M U))/\Z w.heap.size w o:=by
 have d:∀f,Z w.heap.size w (w.alloc f):=fun f=>(ai _ w).alloc (ag _) f;obtain⟨r,t,rfl⟩:=j.form;obtain⟨s,u,rfl⟩:=h.form;clear j h;obtain⟨c,a⟩:=aA (aD N U M M U);rw[a];unfold dy;generalize N.ks.length=q;obtain⟨x,v,B,z,A,l,n,m,y⟩:=N;simp only at i⊢;unfold aD oa at a;simp only at a;obtain⟨p,g⟩:=aA m.length;rw[g]at i a⊢;clear g;cases t2:(l==0) with
 |false=>
  rw[t2]at a;have b:Ax (M=c):=by first|exact a|simpa using a
  clear a;go_in;go_wp2;go_ret;exact⟨by rw[<-b.out];rfl,d _⟩
 |true=>
  rw[t2]at a;by_cases k:n.toList=[]
  case neg=>
   rw[az k]at a;have b:Ax (M=c):=by first|exact a|simpa using a
   clear a;go_in;go_wp2;go_ret;exact⟨by rw[<-b.out];rfl,d _⟩
  rw[bg k]at a;have b:Ax (U=c):=by first|exact a|simpa using a
  clear a;go_in;go_wp2;go_ret;exact⟨by rw[<-b.out];rfl,d _⟩
inductive D (tk:Nat->Tk) (n:Nat):Nat->List Int->Nat->Nat->Prop where
 |nil {i:Nat}:D tk n 0 [] i i
 |tok {m:Nat}{s:Int}{r:List Int}{i j:Nat}:s<100->(tk i).k=s->i<n->D tk n m r (i+1) j->D tk n (m+1) (s::r) i j
 |exp {m:Nat}{s:Int}{r:List Int}{i j:Nat}:100<=s->i<n->(xE s (tk i).k).2=true->D tk n m ((xE s (tk i).k).1++r) i j->D tk n (m+1) (s::r) i j
def wB:Nat->ByteArray
 |0=>⟨#[115,116,97,116]⟩
 |1=>⟨#[98,108,111,99,107]⟩
 |2=>⟨#[101,108,115,101]⟩
 |3=>⟨#[101,120,112,114]⟩
 |4=>⟨#[98,97,115,101]⟩
 |5=>⟨#[116,97,114,103,101,116]⟩
 |6=>⟨#[99,97,108,108]⟩
 |7=>⟨#[109,97,110,121]⟩
 |8=>⟨#[102,110]⟩
 |_=>⟨#[101,110,116,114,121]⟩
def ms:Nat->Int->Bool
 |0,k=>ja k
 |1,k=>k==1
 |2,k=>k==1||k==7
 |3,k=>eK k
 |4,k=>eK k&&k !=27
 |5,k=>k==26||k==32||k==33
 |6,k=>k==34
 |7,k=>k==34||k==27
 |8,k=>k==36
 |_,k=>decide (40<=k/\k<=42)
theorem Ak(k:Int)(w:Y):T S 164 #[V W k] w fun e c=>e= Q (O (eK k))/\c=w:=by
 unfold eK;rcases(show(20<=k/\k<=37)\/(20<=k/\¬k<=37)\/¬20<=k by omega) with⟨h1,b⟩|⟨h1,b⟩|h1
 ·rw[bg ⟨h1,b⟩];go_in;go_wp2;go_ret;exact⟨rfl,rfl⟩
 ·rw[az (fun a=>b a.2)];go_in;go_wp2;go_ret;exact⟨rfl,rfl⟩
 ·rw[az (fun a=>h1 a.1)];go_in;go_wp2;go_ret;exact⟨rfl,rfl⟩
theorem aa5(k:Int)(w:Y):T S 143 #[X ⟨#[115,116,97,116]⟩,V W k] w fun e b=>e= Q (O (ms 0 k))/\b=w:=by
 rcases(show(1<=k/\k<=16)\/(1<=k/\¬k<=16)\/(¬1<=k) by omega) with⟨h0,a⟩|⟨h0,a⟩|h0
 ·rw[show ms 0 k=U from bg (by omega)];go_in;go_wp2;go_ret;exact⟨rfl,rfl⟩
 ·rw[show ms 0 k=M from az (by omega)];go_in;go_wp2;go_ret;exact⟨rfl,rfl⟩
 ·rw[show ms 0 k=M from az (by omega)];go_in;go_wp2;go_ret;exact⟨rfl,rfl⟩
theorem aa6(k:Int)(w:Y):T S 143 #[X ⟨#[98,108,111,99,107]⟩,V W k] w fun e a=>e= Q (O (ms 1 k))/\a=w:=by
 unfold ms;go_in;go_wp2;go_ret;exact⟨rfl,rfl⟩
theorem aa7(k:Int)(w:Y):T S 143 #[X ⟨#[101,108,115,101]⟩,V W k] w fun e a=>e= Q (O (ms 2 k))/\a=w:=by
 unfold ms;rcases(show(k=1)\/(k=7)\/(¬k=1/\¬k=7) by omega) with rfl|rfl|⟨b,c⟩
 ·go_in;go_wp2;go_ret;exact⟨rfl,rfl⟩
 ·go_in;go_wp2;go_ret;exact⟨rfl,rfl⟩
 ·go_in;go_wp2;go_ret;exact⟨rfl,rfl⟩
theorem aa8(k:Int)(w:Y):T S 143 #[X ⟨#[101,120,112,114]⟩,V W k] w fun e a=>e= Q (O (ms 3 k))/\a=w:=by
 have c:=fun w=>Ak k w;obtain⟨d,b⟩:=aA (eK k);show T _ _ _ _ fun e a=>e= Q (O (eK k))/\a=w;rw[b]at c⊢;clear b;go_in;go_wp2_with (go_at_call 164;refine fc (c _) ?_);go_ret;exact⟨rfl,rfl⟩
theorem aa9(k:Int)(w:Y):T S 143 #[X ⟨#[98,97,115,101]⟩,V W k] w fun e b=>e= Q (O (ms 4 k))/\b=w:=by
 have a:=fun w=>Ak k w;obtain⟨d,c⟩:=aA (eK k);show T _ _ _ _ fun e b=>e= Q (O (eK k&&k !=27))/\b=w;rw[c]at a⊢;clear c;cases d
 ·rw[eG];go_in;go_wp2_with (go_at_call 164;refine fc (a _) ?_);go_ret;exact⟨rfl,rfl⟩
 ·rw[fC];go_in;go_wp2_with (go_at_call 164;refine fc (a _) ?_);go_ret;exact⟨rfl,rfl⟩
theorem aba(k:Int)(w:Y):T S 143 #[X ⟨#[116,97,114,103,101,116]⟩,V W k] w fun e a=>e= Q (O (ms 5 k))/\a=w:=by
 unfold ms;rcases(show(k=26)\/(k=32)\/(k=33)\/(¬k=26/\¬k=32/\¬k=33) by omega) with rfl|rfl|rfl|⟨b,c,d⟩
 ·go_in;go_wp2;go_ret;exact⟨rfl,rfl⟩
 ·go_in;go_wp2;go_ret;exact⟨rfl,rfl⟩
 ·go_in;go_wp2;go_ret;exact⟨rfl,rfl⟩
 ·go_in;go_wp2;go_ret;exact⟨rfl,rfl⟩
theorem abb(k:Int)(w:Y):T S 143 #[X ⟨#[99,97,108,108]⟩,V W k] w fun e a=>e= Q (O (ms 6 k))/\a=w:=by
 unfold ms;go_in;go_wp2;go_ret;exact⟨rfl,rfl⟩
theorem abc(k:Int)(w:Y):T S 143 #[X ⟨#[109,97,110,121]⟩,V W k] w fun e a=>e= Q (O (ms 7 k))/\a=w:=by
 unfold ms;rcases(show(k=34)\/(k=27)\/(¬k=34/\¬k=27) by omega) with rfl|rfl|⟨b,c⟩
 ·go_in;go_wp2;go_ret;exact⟨rfl,rfl⟩
 ·go_in;go_wp2;go_ret;exact⟨rfl,rfl⟩
 ·go_in;go_wp2;go_ret;exact⟨rfl,rfl⟩
theorem abd(k:Int)(w:Y):T S 143 #[X ⟨#[102,110]⟩,V W k] w fun e a=>e= Q (O (ms 8 k))/\a=w:=by
 unfold ms;go_in;go_wp2;go_ret;exact⟨rfl,rfl⟩
theorem abe(k:Int)(w:Y):T S 143 #[X ⟨#[101,110,116,114,121]⟩,V W k] w fun e b=>e= Q (O (ms 9 k))/\b=w:=by
 rcases(show(40<=k/\k<=42)\/(40<=k/\¬k<=42)\/(¬40<=k) by omega) with⟨h0,a⟩|⟨h0,a⟩|h0
 ·rw[show ms 9 k=U from bg (by omega)];go_in;go_wp2;go_ret;exact⟨rfl,rfl⟩
 ·rw[show ms 9 k=M from az (by omega)];go_in;go_wp2;go_ret;exact⟨rfl,rfl⟩
 ·rw[show ms 9 k=M from az (by omega)];go_in;go_wp2;go_ret;exact⟨rfl,rfl⟩
theorem Eg(i:Nat)(a:i<10)(k:Int)(w:Y):T S 143 #[X (wB i),V W k] w fun e b=>e= Q (O (ms i k))/\b=w:=by
 match i,a with
 |0,_=>exact aa5 k w
 |1,_=>exact aa6 k w
 |2,_=>exact aa7 k w
 |3,_=>exact aa8 k w
 |4,_=>exact aa9 k w
 |5,_=>exact aba k w
 |6,_=>exact abb k w
 |7,_=>exact abc k w
 |8,_=>exact abd k w
 |9,_=>exact abe k w
