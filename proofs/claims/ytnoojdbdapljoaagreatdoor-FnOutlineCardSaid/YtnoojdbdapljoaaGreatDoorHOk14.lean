import Derived.Test.YtnoojdbdapljoaaGreatDoorHOk07
import Derived.Test.YtnoojdbdapljoaaGreatDoorHOk03
set_option linter.all false
set_option maxRecDepth 100000
set_option maxHeartbeats 3200000
open Bool renaming false->M,true->U
open Go.Value renaming bool->O,int->V,string->X,slice->A1
open Go.Ending renaming returned->Q
open Go.Proofs.Tryz renaming prog->S
open Go renaming Calls->T,World->Y,Value->A0
open Go.IntKind renaming i64->W
open Go.RowKit renaming Below->Z,Hid->Ax
namespace Go.Proofs.YtnoojdbdapljoaaGreatDoor
open Go.RowKit Go.Maps Go.WideMaps
def qE(a:List ByteArray):Nat->Nat->Bool
 |0,_=>U
 |f+1,j=>mH (a.getD j ByteArray.empty)&&qE a f (j+1)
structure BL (l:List ByteArray) (f j:Nat) (R:Bool):Prop where
 out:qE l f j=R
def dD(N:Nd)(a b:Int):Bool:=decide (a<=(N.nm.length:Int)/\(N.nm.length:Int)<=b)&&qE N.nm N.nm.length 0
theorem iB(w:Y)(N:Nd)(vn vk:A0)(q r:Int)(B:bu w vn N.nm)(L:bi w vk N.ks)(an:N.nm.length<=1048576)(ad:∀s∈N.nm,s.size<=1048576):
  T S 104 #[dj N vn vk,V W q,V W r] w fun e ap=>e= Q (O (dD N q r))/\Z w.heap.size w ap:=by
 have j:∀C,Z w.heap.size w (w.alloc C):=fun C=>(aj _ w).alloc (ah _) C;have u:=dx B ad;obtain⟨H,J,rfl⟩:=B.form;obtain⟨I,K,rfl⟩:=L.form;clear B L ad;obtain⟨i,c⟩:=aA (dD N q r);rw[c];unfold dD at c;unfold dj;obtain⟨a,y⟩:=aA N.nm.length;have ak:=aq y;rw[y]at u an c⊢;clear y;generalize N.ks.length=F;by_cases av:(a:Int)<q
 ·have g:Ax (M=i):=by rw[aD (by omega)]at c;exact c
  clear c;go_in;go_wp2;go_ret;exact⟨by rw[<-g.out];rfl,j _⟩
 by_cases a0:r<(a:Int)
 ·have g:Ax (M=i):=by rw[aD (by omega)]at c;exact c
  clear c;go_in;go_wp2;go_ret;exact⟨by rw[<-g.out];rfl,j _⟩
 have g:BL N.nm a 0 i:=⟨by rw[bG (by omega)]at c;simpa using c⟩;clear c;go_in;go_wp2_with fail;have v:=j (.cells #[V W N.k,V W N.f,V W N.t,V W N.l,V W N.op,V W N.n,X N.x,A1 H a J,A1 I F K] 35);generalize w.alloc (.cells #[V W N.k,V W N.f,V W N.t,V W N.l,V W N.op,V W N.n,X N.x,A1 H a J,A1 I F K] 35)=G at v⊢;clear j;go_loopw [24,8] (fun E _ wr=>∃(b:Nat),E= V W b/\b<=a/\BL N.nm (a-b) b i/\Z G.heap.size G wr) (fun E _ _=>a-(intOf E).toNat)
 case atStart=>exact⟨0,rfl,by omega,g,aj _ _⟩
 case round=>
  obtain⟨b,rfl,a4,af,z⟩:=hrel;have m:=v.trans (z.mono v.size);have d:=af.out;by_cases ao:b<a
  ·obtain⟨s,o⟩:=bj ak.out ao;have a6:=u.out.2 s (bC o);obtain⟨a7,rfl,a1⟩:=(u.out.1.below m).get o;rw[show a-b=(a-(b+1))+1 by omega,qE,bm,o,gl]at d;have am:(b:Int)<(a:Int):=by omega
   have a5:(0:Int)<=(b:Int):=by omega
   have p:=mq s (by omega) wr;clear o;cases hx:mH s with
   |true=>
    rw[hx,eC]at d;rw[hx]at p;have h:BL N.nm (a-(b+1)) (b+1) i:=⟨d⟩;clear d hx;go_wp2_with (go_at_call 108;refine p.mono ?_;rintro e ar ⟨rfl,A⟩);exact⟨⟨b+1,by go_num,by omega,h,z.trans (A.mono z.size)⟩,by simp[intOf];omega⟩
   |false=>
    rw[hx,dK]at d;rw[hx]at p;have h:=aq d;clear d hx;go_wp2_with (go_at_call 108;refine p.mono ?_;rintro e ar ⟨rfl,A⟩);go_ret;exact⟨by rw[<-h.out];rfl,m.trans (A.mono m.size)⟩
  ·rw[show a-b=0 by omega,qE]at d;have h:=aq d;have am:¬(b:Int)<(a:Int):=by omega
   clear d;go_wp2_with fail;go_ret;exact⟨by rw[<-h.out];rfl,m⟩
def mJ(x:ByteArray):Bool:=decide (x.toList=[])
def aH(N:Nd)(op b c a:Bool):Bool:=(op||N.op==0)&&(b||N.n==0)&&(c||mJ N.x)&&(a||decide (N.nm.length=0))
theorem dc(w:Y)(N:Nd)(vn vk:A0)(l:bu w vn N.nm)(j:bi w vk N.ks)(k:N.nm.length<=1048576):
  T S 103 #[dj N vn vk,O M,O M,O M,O M] w fun e r=>e= Q (O (aH N M M M M))/\Z w.heap.size w r:=by
 have d:∀f,Z w.heap.size w (w.alloc f):=fun f=>(aj _ w).alloc (ah _) f;obtain⟨t,v,rfl⟩:=l.form;obtain⟨u,x,rfl⟩:=j.form;clear l j;obtain⟨c,a⟩:=aA (aH N M M M M);rw[a];unfold dj;generalize N.ks.length=s;obtain⟨z,y,C,B,p,n,q,o,A⟩:=N;simp only at k⊢;unfold aH mJ at a;simp only at a;obtain⟨g,i⟩:=aA o.length;rw[i]at k a⊢;clear i;cases t1:(p==0) with
 |false=>
  rw[t1]at a;have b:Ax (M=c):=by first|exact a|simpa using a
  clear a;go_in;go_wp2;go_ret;exact⟨by rw[<-b.out];rfl,d _⟩
 |true=>
  rw[t1]at a;cases t2:(n==0) with
  |false=>
   rw[t2]at a;have b:Ax (M=c):=by first|exact a|simpa using a
   clear a;go_in;go_wp2;go_ret;exact⟨by rw[<-b.out];rfl,d _⟩
  |true=>
   rw[t2]at a;by_cases m:q.toList=[]
   case neg=>
    rw[aD m]at a;have b:Ax (M=c):=by first|exact a|simpa using a
    clear a;go_in;go_wp2;go_ret;exact⟨by rw[<-b.out];rfl,d _⟩
   rw[bG m]at a;by_cases h:g=0
   ·subst h;have b:Ax (U=c):=by first|exact a|simpa using a
    clear a;go_in;go_wp2;go_ret;exact⟨by rw[<-b.out];rfl,d _⟩
   ·have E:((g:Int)==0)=M:=by rw[bg];omega
    rw[aD h]at a;have b:Ax (M=c):=by first|exact a|simpa using a
    clear a;go_in;go_wp2;go_ret;exact⟨by rw[<-b.out];rfl,d _⟩
theorem jp(w:Y)(N:Nd)(vn vk:A0)(j:bu w vn N.nm)(h:bi w vk N.ks)(i:N.nm.length<=1048576):
  T S 103 #[dj N vn vk,O M,O M,O M,O U] w fun e p=>e= Q (O (aH N M M M U))/\Z w.heap.size w p:=by
 have d:∀f,Z w.heap.size w (w.alloc f):=fun f=>(aj _ w).alloc (ah _) f;obtain⟨s,u,rfl⟩:=j.form;obtain⟨t,v,rfl⟩:=h.form;clear j h;obtain⟨c,a⟩:=aA (aH N M M M U);rw[a];unfold dj;generalize N.ks.length=r;obtain⟨y,x,B,A,n,l,o,m,z⟩:=N;simp only at i⊢;unfold aH mJ at a;simp only at a;obtain⟨q,g⟩:=aA m.length;rw[g]at i a⊢;clear g;cases t1:(n==0) with
 |false=>
  rw[t1]at a;have b:Ax (M=c):=by first|exact a|simpa using a
  clear a;go_in;go_wp2;go_ret;exact⟨by rw[<-b.out];rfl,d _⟩
 |true=>
  rw[t1]at a;cases t2:(l==0) with
  |false=>
   rw[t2]at a;have b:Ax (M=c):=by first|exact a|simpa using a
   clear a;go_in;go_wp2;go_ret;exact⟨by rw[<-b.out];rfl,d _⟩
  |true=>
   rw[t2]at a;by_cases k:o.toList=[]
   case neg=>
    rw[aD k]at a;have b:Ax (M=c):=by first|exact a|simpa using a
    clear a;go_in;go_wp2;go_ret;exact⟨by rw[<-b.out];rfl,d _⟩
   rw[bG k]at a;have b:Ax (U=c):=by first|exact a|simpa using a
   clear a;go_in;go_wp2;go_ret;exact⟨by rw[<-b.out];rfl,d _⟩
theorem ly(w:Y)(N:Nd)(vn vk:A0)(l:bu w vn N.nm)(j:bi w vk N.ks)(k:N.nm.length<=1048576):
  T S 103 #[dj N vn vk,O M,O U,O M,O M] w fun e q=>e= Q (O (aH N M U M M))/\Z w.heap.size w q:=by
 have d:∀f,Z w.heap.size w (w.alloc f):=fun f=>(aj _ w).alloc (ah _) f;obtain⟨s,u,rfl⟩:=l.form;obtain⟨t,v,rfl⟩:=j.form;clear l j;obtain⟨c,a⟩:=aA (aH N M U M M);rw[a];unfold dj;generalize N.ks.length=r;obtain⟨y,x,C,A,o,B,p,n,z⟩:=N;simp only at k⊢;unfold aH mJ at a;simp only at a;obtain⟨g,i⟩:=aA n.length;rw[i]at k a⊢;clear i;cases t1:(o==0) with
 |false=>
  rw[t1]at a;have b:Ax (M=c):=by first|exact a|simpa using a
  clear a;go_in;go_wp2;go_ret;exact⟨by rw[<-b.out];rfl,d _⟩
 |true=>
  rw[t1]at a;by_cases m:p.toList=[]
  case neg=>
   rw[aD m]at a;have b:Ax (M=c):=by first|exact a|simpa using a
   clear a;go_in;go_wp2;go_ret;exact⟨by rw[<-b.out];rfl,d _⟩
  rw[bG m]at a;by_cases h:g=0
  ·subst h;have b:Ax (U=c):=by first|exact a|simpa using a
   clear a;go_in;go_wp2;go_ret;exact⟨by rw[<-b.out];rfl,d _⟩
  ·have E:((g:Int)==0)=M:=by rw[bg];omega
   rw[aD h]at a;have b:Ax (M=c):=by first|exact a|simpa using a
   clear a;go_in;go_wp2;go_ret;exact⟨by rw[<-b.out];rfl,d _⟩
theorem lA(w:Y)(N:Nd)(vn vk:A0)(l:bu w vn N.nm)(j:bi w vk N.ks)(k:N.nm.length<=1048576):
  T S 103 #[dj N vn vk,O M,O M,O U,O M] w fun e p=>e= Q (O (aH N M M U M))/\Z w.heap.size w p:=by
 have d:∀f,Z w.heap.size w (w.alloc f):=fun f=>(aj _ w).alloc (ah _) f;obtain⟨r,t,rfl⟩:=l.form;obtain⟨s,u,rfl⟩:=j.form;clear l j;obtain⟨c,a⟩:=aA (aH N M M U M);rw[a];unfold dj;generalize N.ks.length=q;obtain⟨x,v,A,z,o,m,B,n,y⟩:=N;simp only at k⊢;unfold aH mJ at a;simp only at a;obtain⟨g,i⟩:=aA n.length;rw[i]at k a⊢;clear i;cases t1:(o==0) with
 |false=>
  rw[t1]at a;have b:Ax (M=c):=by first|exact a|simpa using a
  clear a;go_in;go_wp2;go_ret;exact⟨by rw[<-b.out];rfl,d _⟩
 |true=>
  rw[t1]at a;cases t2:(m==0) with
  |false=>
   rw[t2]at a;have b:Ax (M=c):=by first|exact a|simpa using a
   clear a;go_in;go_wp2;go_ret;exact⟨by rw[<-b.out];rfl,d _⟩
  |true=>
   rw[t2]at a;by_cases h:g=0
   ·subst h;have b:Ax (U=c):=by first|exact a|simpa using a
    clear a;go_in;go_wp2;go_ret;exact⟨by rw[<-b.out];rfl,d _⟩
   ·have C:((g:Int)==0)=M:=by rw[bg];omega
    rw[aD h]at a;have b:Ax (M=c):=by first|exact a|simpa using a
    clear a;go_in;go_wp2;go_ret;exact⟨by rw[<-b.out];rfl,d _⟩
theorem wF(w:Y)(N:Nd)(vn vk:A0)(l:bu w vn N.nm)(j:bi w vk N.ks)(k:N.nm.length<=1048576):
  T S 103 #[dj N vn vk,O U,O M,O M,O M] w fun e q=>e= Q (O (aH N U M M M))/\Z w.heap.size w q:=by
 have d:∀f,Z w.heap.size w (w.alloc f):=fun f=>(aj _ w).alloc (ah _) f;obtain⟨s,u,rfl⟩:=l.form;obtain⟨t,v,rfl⟩:=j.form;clear l j;obtain⟨c,a⟩:=aA (aH N U M M M);rw[a];unfold dj;generalize N.ks.length=r;obtain⟨y,x,C,A,B,n,p,o,z⟩:=N;simp only at k⊢;unfold aH mJ at a;simp only at a;obtain⟨g,i⟩:=aA o.length;rw[i]at k a⊢;clear i;cases t2:(n==0) with
 |false=>
  rw[t2]at a;have b:Ax (M=c):=by first|exact a|simpa using a
  clear a;go_in;go_wp2;go_ret;exact⟨by rw[<-b.out];rfl,d _⟩
 |true=>
  rw[t2]at a;by_cases m:p.toList=[]
  case neg=>
   rw[aD m]at a;have b:Ax (M=c):=by first|exact a|simpa using a
   clear a;go_in;go_wp2;go_ret;exact⟨by rw[<-b.out];rfl,d _⟩
  rw[bG m]at a;by_cases h:g=0
  ·subst h;have b:Ax (U=c):=by first|exact a|simpa using a
   clear a;go_in;go_wp2;go_ret;exact⟨by rw[<-b.out];rfl,d _⟩
  ·have E:((g:Int)==0)=M:=by rw[bg];omega
   rw[aD h]at a;have b:Ax (M=c):=by first|exact a|simpa using a
   clear a;go_in;go_wp2;go_ret;exact⟨by rw[<-b.out];rfl,d _⟩
theorem E3(w:Y)(N:Nd)(vn vk:A0)(j:bu w vn N.nm)(h:bi w vk N.ks)(i:N.nm.length<=1048576):
  T S 103 #[dj N vn vk,O U,O M,O M,O U] w fun e o=>e= Q (O (aH N U M M U))/\Z w.heap.size w o:=by
 have d:∀f,Z w.heap.size w (w.alloc f):=fun f=>(aj _ w).alloc (ah _) f;obtain⟨r,t,rfl⟩:=j.form;obtain⟨s,u,rfl⟩:=h.form;clear j h;obtain⟨c,a⟩:=aA (aH N U M M U);rw[a];unfold dj;generalize N.ks.length=q;obtain⟨x,v,B,z,A,l,n,m,y⟩:=N;simp only at i⊢;unfold aH mJ at a;simp only at a;obtain⟨p,g⟩:=aA m.length;rw[g]at i a⊢;clear g;cases t2:(l==0) with
 |false=>
  rw[t2]at a;have b:Ax (M=c):=by first|exact a|simpa using a
  clear a;go_in;go_wp2;go_ret;exact⟨by rw[<-b.out];rfl,d _⟩
 |true=>
  rw[t2]at a;by_cases k:n.toList=[]
  case neg=>
   rw[aD k]at a;have b:Ax (M=c):=by first|exact a|simpa using a
   clear a;go_in;go_wp2;go_ret;exact⟨by rw[<-b.out];rfl,d _⟩
  rw[bG k]at a;have b:Ax (U=c):=by first|exact a|simpa using a
  clear a;go_in;go_wp2;go_ret;exact⟨by rw[<-b.out];rfl,d _⟩
def wB:Nat->ByteArray
 |0=>⟨#[115,116,97,116]⟩
 |1=>⟨#[98,108,111,99,107]⟩
 |2=>⟨#[101,108,115,101]⟩
 |3=>⟨#[101,120,112,114]⟩
 |4=>⟨#[98,97,115,101]⟩
 |5=>⟨#[116,97,114,103,101,116]⟩
 |6=>⟨#[99,97,108,108]⟩
 |7=>⟨#[109,97,110,121]⟩
 |8=>⟨#[102,110]⟩
 |_=>⟨#[101,110,116,114,121]⟩
def ms:Nat->Int->Bool
 |0,k=>iw k
 |1,k=>k==1
 |2,k=>k==1||k==7
 |3,k=>eB k
 |4,k=>eB k&&k !=27
 |5,k=>k==26||k==32||k==33
 |6,k=>k==34
 |7,k=>k==34||k==27
 |8,k=>k==36
 |_,k=>decide (40<=k/\k<=42)
theorem zu(k:Int)(w:Y):T S 192 #[V W k] w fun e c=>e= Q (O (eB k))/\c=w:=by
 unfold eB;rcases(show(20<=k/\k<=37)\/(20<=k/\¬k<=37)\/¬20<=k by omega) with⟨h1,b⟩|⟨h1,b⟩|h1
 ·rw[bG ⟨h1,b⟩];go_in;go_wp2;go_ret;exact⟨rfl,rfl⟩
 ·rw[aD (fun a=>b a.2)];go_in;go_wp2;go_ret;exact⟨rfl,rfl⟩
 ·rw[aD (fun a=>h1 a.1)];go_in;go_wp2;go_ret;exact⟨rfl,rfl⟩
theorem KH(k:Int)(w:Y):T S 168 #[X ⟨#[115,116,97,116]⟩,V W k] w fun e b=>e= Q (O (ms 0 k))/\b=w:=by
 rcases(show(1<=k/\k<=16)\/(1<=k/\¬k<=16)\/(¬1<=k) by omega) with⟨h0,a⟩|⟨h0,a⟩|h0
 ·rw[show ms 0 k=U from bG (by omega)];go_in;go_wp2;go_ret;exact⟨rfl,rfl⟩
 ·rw[show ms 0 k=M from aD (by omega)];go_in;go_wp2;go_ret;exact⟨rfl,rfl⟩
 ·rw[show ms 0 k=M from aD (by omega)];go_in;go_wp2;go_ret;exact⟨rfl,rfl⟩
theorem KI(k:Int)(w:Y):T S 168 #[X ⟨#[98,108,111,99,107]⟩,V W k] w fun e a=>e= Q (O (ms 1 k))/\a=w:=by
 unfold ms;go_in;go_wp2;go_ret;exact⟨rfl,rfl⟩
theorem KJ(k:Int)(w:Y):T S 168 #[X ⟨#[101,108,115,101]⟩,V W k] w fun e a=>e= Q (O (ms 2 k))/\a=w:=by
 unfold ms;rcases(show(k=1)\/(k=7)\/(¬k=1/\¬k=7) by omega) with rfl|rfl|⟨b,c⟩
 ·go_in;go_wp2;go_ret;exact⟨rfl,rfl⟩
 ·go_in;go_wp2;go_ret;exact⟨rfl,rfl⟩
 ·go_in;go_wp2;go_ret;exact⟨rfl,rfl⟩
theorem KL(k:Int)(w:Y):T S 168 #[X ⟨#[101,120,112,114]⟩,V W k] w fun e a=>e= Q (O (ms 3 k))/\a=w:=by
 have c:=fun w=>zu k w;obtain⟨d,b⟩:=aA (eB k);show T _ _ _ _ fun e a=>e= Q (O (eB k))/\a=w;rw[b]at c⊢;clear b;go_in;go_wp2_with (go_at_call 192;refine ee (c _) ?_);go_ret;exact⟨rfl,rfl⟩
theorem K0(k:Int)(w:Y):T S 168 #[X ⟨#[98,97,115,101]⟩,V W k] w fun e b=>e= Q (O (ms 4 k))/\b=w:=by
 have a:=fun w=>zu k w;obtain⟨d,c⟩:=aA (eB k);show T _ _ _ _ fun e b=>e= Q (O (eB k&&k !=27))/\b=w;rw[c]at a⊢;clear c;cases d
 ·rw[dK];go_in;go_wp2_with (go_at_call 192;refine ee (a _) ?_);go_ret;exact⟨rfl,rfl⟩
 ·rw[eC];go_in;go_wp2_with (go_at_call 192;refine ee (a _) ?_);go_ret;exact⟨rfl,rfl⟩
theorem K4(k:Int)(w:Y):T S 168 #[X ⟨#[116,97,114,103,101,116]⟩,V W k] w fun e a=>e= Q (O (ms 5 k))/\a=w:=by
 unfold ms;rcases(show(k=26)\/(k=32)\/(k=33)\/(¬k=26/\¬k=32/\¬k=33) by omega) with rfl|rfl|rfl|⟨b,c,d⟩
 ·go_in;go_wp2;go_ret;exact⟨rfl,rfl⟩
 ·go_in;go_wp2;go_ret;exact⟨rfl,rfl⟩
 ·go_in;go_wp2;go_ret;exact⟨rfl,rfl⟩
 ·go_in;go_wp2;go_ret;exact⟨rfl,rfl⟩
theorem K7(k:Int)(w:Y):T S 168 #[X ⟨#[99,97,108,108]⟩,V W k] w fun e a=>e= Q (O (ms 6 k))/\a=w:=by
 unfold ms;go_in;go_wp2;go_ret;exact⟨rfl,rfl⟩
theorem K9(k:Int)(w:Y):T S 168 #[X ⟨#[109,97,110,121]⟩,V W k] w fun e a=>e= Q (O (ms 7 k))/\a=w:=by
 unfold ms;rcases(show(k=34)\/(k=27)\/(¬k=34/\¬k=27) by omega) with rfl|rfl|⟨b,c⟩
 ·go_in;go_wp2;go_ret;exact⟨rfl,rfl⟩
 ·go_in;go_wp2;go_ret;exact⟨rfl,rfl⟩
 ·go_in;go_wp2;go_ret;exact⟨rfl,rfl⟩
theorem Lc(k:Int)(w:Y):T S 168 #[X ⟨#[102,110]⟩,V W k] w fun e a=>e= Q (O (ms 8 k))/\a=w:=by
 unfold ms;go_in;go_wp2;go_ret;exact⟨rfl,rfl⟩
theorem Ld(k:Int)(w:Y):T S 168 #[X ⟨#[101,110,116,114,121]⟩,V W k] w fun e b=>e= Q (O (ms 9 k))/\b=w:=by
 rcases(show(40<=k/\k<=42)\/(40<=k/\¬k<=42)\/(¬40<=k) by omega) with⟨h0,a⟩|⟨h0,a⟩|h0
 ·rw[show ms 9 k=U from bG (by omega)];go_in;go_wp2;go_ret;exact⟨rfl,rfl⟩
 ·rw[show ms 9 k=M from aD (by omega)];go_in;go_wp2;go_ret;exact⟨rfl,rfl⟩
 ·rw[show ms 9 k=M from aD (by omega)];go_in;go_wp2;go_ret;exact⟨rfl,rfl⟩
theorem Dd(i:Nat)(a:i<10)(k:Int)(w:Y):T S 168 #[X (wB i),V W k] w fun e b=>e= Q (O (ms i k))/\b=w:=by
 match i,a with
 |0,_=>exact KH k w
 |1,_=>exact KI k w
 |2,_=>exact KJ k w
 |3,_=>exact KL k w
 |4,_=>exact K0 k w
 |5,_=>exact K4 k w
 |6,_=>exact K7 k w
 |7,_=>exact K9 k w
 |8,_=>exact Lc k w
 |9,_=>exact Ld k w
