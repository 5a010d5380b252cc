import Derived.Test.YtnoojdbdapljoaaGreatDoorHOk15
import Derived.Test.YtnoojdbdapljoaaGreatDoorHOk39
set_option linter.all false
set_option maxRecDepth 100000
set_option maxHeartbeats 3200000
open Go.Proofs.Tryz renaming prog->M
open Go.Value renaming pointer->O,int->Q,bool->Ax,slice->A1,iface->A2,string->A3
open Go.IntKind renaming i64->S
open Go.Ending renaming returned->T
open Option renaming some->U,none->X
open Bool renaming false->V,true->A4
open Go renaming Value->Y,World->Z,Calls->A0
namespace Go.Proofs.YtnoojdbdapljoaaGreatDoor
open Go.RowKit Go.Maps Go.WideMaps
theorem adr{w:Z}{y:Y}{f:List Nd}{N:Nd}{vn vk:Y}(d:fp w y f N vn vk)(h:N.k=33):
  A0 M 57 #[.agg #[y],dj N vn vk] w fun e g=>e= T (Ax (((N.ks.length:Int)==1)&&ik f N 1 0&&(dF f N 0 !=27)&&aH N V V A4 V&&mH N.x))/\Below w.heap.size w g:=by
 obtain⟨E,H,rfl⟩:=d.t.form;obtain⟨F,I,rfl⟩:=d.n.form;obtain⟨G,J,rfl⟩:=d.k.form;have b:=St.start d;have K:=d.lx;have C:Hid (N.x.size<=1100000):=by show _<=_;omega
 clear d;have L:=cC h;have ad:=jd h 33 rfl;clear h;cases t0:((N.ks.length:Int)==1)
 case' true=>
  have z:N.ks.length=1:=by have:=fh t0;omega
  have A:Hid (1<=N.ks.length):=by show _<=_;omega
  have B:Hid (0<N.ks.length):=by show _<_;omega
  clear z;cases t1:ik f N 1 0
  case' true=>
   cases t2:(dF f N 0 !=27)
   case' true=>
    cases t3:aH N V V A4 V
    case' true=>
     cases t4:mH N.x
 all_goals
  unfold dj;go_in;go_wp2_with (first|(go_at_call 105;refine(dt _ _ f N _ _ 0 1 b.a.t b.a.n b.a.k b.a.ok A.out b.a.ln b.a.l2).mono ?_;rintro e g ⟨rfl,c⟩;replace b:=b.below c;clear c;obtain⟨i,j,l,m,o,p,q,r,s,u⟩:=au b.bn;have v:=b.bt)|(go_at_call 102;refine(jm b.a 0 B.out).mono ?_;rintro e g ⟨rfl,c⟩;replace b:=b.below c;clear c;obtain⟨i,j,l,m,o,p,q,r,s,u⟩:=au b.bn;have v:=b.bt)|(go_at_call 103;refine(lA _ N _ _ b.a.n b.a.k b.a.l1).mono ?_;rintro e g ⟨rfl,c⟩;replace b:=b.below c;clear c;obtain⟨i,j,l,m,o,p,q,r,s,u⟩:=au b.bn;have v:=b.bt)|(go_at_call 108;refine(mq N.x C.out _).mono ?_;rintro e g ⟨rfl,c⟩;replace b:=b.below c;clear c;obtain⟨i,j,l,m,o,p,q,r,s,u⟩:=au b.bn;have v:=b.bt));go_ret;exact⟨rfl,b.bel⟩
theorem ads{w:Z}{i:Y}{f:List Nd}{N:Nd}{vn vk:Y}(d:fp w i f N vn vk)(h:N.k=34):
  A0 M 57 #[.agg #[i],dj N vn vk] w fun e g=>e= T (Ax (decide ((1:Int)<=(N.ks.length:Int))&&ik f N N.ks.length 0&&(dF f N 0 !=27)&&aH N V V V V))/\Below w.heap.size w g:=by
 obtain⟨B,F,rfl⟩:=d.t.form;obtain⟨C,G,rfl⟩:=d.n.form;obtain⟨E,H,rfl⟩:=d.k.form;have b:=St.start d;have I:=d.lx;have A:Hid (N.x.size<=1100000):=by show _<=_;omega
 clear d;have J:=cC h;have K:=jd h 34 rfl;clear h;cases t0:decide ((1:Int)<=(N.ks.length:Int))
 case' true=>
  have z:Hid (0<N.ks.length):=by show _<_;have:=bc t0;omega
  cases t1:ik f N N.ks.length 0
  case' true=>
   cases t2:(dF f N 0 !=27)
   case' true=>
    cases t3:aH N V V V V
 all_goals
  unfold dj;go_in;go_wp2_with (first|(go_at_call 105;refine(dt _ _ f N _ _ 0 N.ks.length b.a.t b.a.n b.a.k b.a.ok (ah _) b.a.ln b.a.l2).mono ?_;rintro e g ⟨rfl,c⟩;replace b:=b.below c;clear c;obtain⟨j,l,m,o,p,q,r,s,u,v⟩:=au b.bn;have y:=b.bt)|(go_at_call 102;refine(jm b.a 0 z.out).mono ?_;rintro e g ⟨rfl,c⟩;replace b:=b.below c;clear c;obtain⟨j,l,m,o,p,q,r,s,u,v⟩:=au b.bn;have y:=b.bt)|(go_at_call 103;refine(dc _ N _ _ b.a.n b.a.k b.a.l1).mono ?_;rintro e g ⟨rfl,c⟩;replace b:=b.below c;clear c;obtain⟨j,l,m,o,p,q,r,s,u,v⟩:=au b.bn;have y:=b.bt));go_ret;exact⟨rfl,b.bel⟩
def JC(a:List Nd)(N:Nd):Nat->Nat->Bool
 |0,_=>A4
 |f+1,j=>wA (dF a N j)&&JC a N f (j+1)
structure aiu (ns:List Nd) (N:Nd) (f j:Nat) (R:Bool):Prop where
 out:JC ns N f j=R
theorem ags{w:Z}{L:Y}{g:List Nd}{N:Nd}{vn vk:Y}(j:fp w L g N vn vk)(E:N.k=5):
  A0 M 56 #[.agg #[L],dj N vn vk] w fun e i=>e= T (Ax (aH N V A4 V V&&(decide (1<=N.n/\N.n<(N.ks.length:Int))&&(JC g N N.n.toNat 0&&ik g N (N.ks.length-N.n.toNat) N.n.toNat))))/\Below w.heap.size w i:=by
 obtain⟨am,ar,rfl⟩:=j.t.form;obtain⟨an,av,rfl⟩:=j.n.form;obtain⟨ao,a0,rfl⟩:=j.k.form;have b:=St.start j;have a8:=j.l2;clear j;have bd:=cC E;have bf:=jd E 5 rfl;clear E;unfold dj;cases t0:aH N V A4 V V with
 |false=>
  go_in;go_wp2_with (first|(go_at_call 103;refine(ly _ N _ _ b.a.n b.a.k b.a.l1).mono ?_;rintro e i ⟨rfl,c⟩;replace b:=b.below c;clear c;obtain⟨l,m,o,p,q,r,s,u,v,x⟩:=au b.bn;have y:=b.bt));go_ret;exact⟨rfl,b.bel⟩
 |true=>
  by_cases a5:N.n<1
  ·rw[aD (by omega)];go_in;go_wp2_with (first|(go_at_call 103;refine(ly _ N _ _ b.a.n b.a.k b.a.l1).mono ?_;rintro e i ⟨rfl,c⟩;replace b:=b.below c;clear c;obtain⟨l,m,o,p,q,r,s,u,v,x⟩:=au b.bn;have y:=b.bt));go_ret;exact⟨rfl,b.bel⟩
  by_cases a6:(N.ks.length:Int)<=N.n
  ·rw[aD (by omega)];go_in;go_wp2_with (first|(go_at_call 103;refine(ly _ N _ _ b.a.n b.a.k b.a.l1).mono ?_;rintro e i ⟨rfl,c⟩;replace b:=b.below c;clear c;obtain⟨l,m,o,p,q,r,s,u,v,x⟩:=au b.bn;have y:=b.bt));go_ret;exact⟨rfl,b.bel⟩
  rw[bG (by omega)];obtain⟨f,J⟩:∃f:Nat,N.n=(f:Int):=⟨N.n.toNat,by omega⟩;have K:N.n.toNat=f:=by omega
  rw[K];have bb:f<N.ks.length:=by omega
  have af:=aq J;obtain⟨C,F⟩:=aA (JC g N f 0);rw[F];have ak:aiu g N f 0 C:=⟨F⟩;clear F J K;go_in;go_wp2_with (first|(go_at_call 103;refine(ly _ N _ _ b.a.n b.a.k b.a.l1).mono ?_;rintro e i ⟨rfl,c⟩;replace b:=b.below c;clear c;obtain⟨l,m,o,p,q,r,s,u,v,x⟩:=au b.bn;have y:=b.bt));go_loopw [7] (fun I wr=>∃(d:Nat),I= Q S d/\d<=f/\aiu g N (f-d) d C/\St w (A1 am g.length ar) g N (A1 an N.nm.length av) (A1 ao N.ks.length a0) wr) (fun I _=>f-(intOf I).toNat)
  case atStart=>exact⟨0,rfl,by omega,ak,b⟩
  case round=>
   clear b;obtain⟨d,rfl,a7,ad,b⟩:=hrel;obtain⟨bl,bo,bp,br,bs,bw,bx,bA,bD,bE⟩:=au b.bn;have bF:=b.bt;have h:=ad.out;have G:=af.out;by_cases a9:d<f
   ·rw[show f-d=(f-(d+1))+1 by omega,JC]at h;have a4:(d:Int)<N.n:=by omega
    have B:=jm b.a d (by omega);unfold dj at B;have A:=fun w=>C1 (dF g N d) w;clear G;generalize dF g N d=ap at h B A;cases hx:wA ap with
    |false=>
     rw[hx,dK]at h;rw[hx]at A;have z:=aq h;clear h hx;go_wp2_with (first|(go_at_call 102;refine B.mono ?_;rintro e i ⟨rfl,c⟩;replace b:=b.below c;clear c;obtain⟨l,m,o,p,q,r,s,u,v,x⟩:=au b.bn;have y:=b.bt)|(go_at_call 106;refine ee (A _) ?_));go_ret;exact⟨by rw[<-z.out];rfl,b.bel⟩
    |true=>
     rw[hx,eC]at h;rw[hx]at A;have z:aiu g N (f-(d+1)) (d+1) C:=⟨h⟩;clear h hx;go_wp2_with (first|(go_at_call 102;refine B.mono ?_;rintro e i ⟨rfl,c⟩;replace b:=b.below c;clear c;obtain⟨l,m,o,p,q,r,s,u,v,x⟩:=au b.bn;have y:=b.bt)|(go_at_call 106;refine ee (A _) ?_));exact⟨⟨d+1,by go_num,by omega,z,b⟩,by simp[intOf];omega⟩
   ·rw[show f-d=0 by omega,JC]at h;have z:=aq h;have a4:¬(d:Int)<N.n:=by omega
    have H:=dt _ _ g N _ _ f N.ks.length b.a.t b.a.n b.a.k b.a.ok (ah _) b.a.ln b.a.l2;unfold dj at H;rw[<-G]at H;clear h G;go_wp2_with (go_at_call 105;refine H.mono ?_;rintro e i ⟨rfl,c⟩;replace b:=b.below c;clear c;obtain⟨l,m,o,p,q,r,s,u,v,x⟩:=au b.bn;have y:=b.bt);go_ret;exact⟨by rw[<-z.out];rfl,b.bel⟩
structure Lk (W:Z) (lb mb:Nat) (vs:Y):Prop where
 b:W.heap[lb]?=U (.cells #[.map (U mb),vs] 93 (0,0))
 m:W.ownsMap M 9 (plainElem (H:=Unit) M 3) mb 22 (GE 22)
 e:nI W
theorem qa{a b:Z}{mb n:Nat}{D:DataW Unit}(h:a.ownsMap M 9 (plainElem (H:=Unit) M 3) mb n D)(e:b.heap[mb]?=a.heap[mb]?):b.ownsMap M 9 (plainElem (H:=Unit) M 3) mb n D:=by
 obtain⟨d,c,f,g⟩:=h;exact⟨d,c,e.trans f,g⟩
theorem nI.keep{a b:Z}(h:nI a)(c:Below a.heap.size a b):nI b:=by
 obtain⟨⟨d,e,i⟩,⟨f,g,j⟩⟩:=h;exact⟨⟨d,e,cell_kept c i⟩,⟨f,g,cell_kept c j⟩⟩
theorem Lk.below{a d:Z}{lb mb:Nat}{f:Y}(h:Lk a lb mb f)(c:Below a.heap.size a d):Lk d lb mb f:=
 ⟨(c.block _ (ax h.b)).trans h.b,qa h.m (c.block _ h.m.lt),h.e.keep c⟩
theorem qL(w:Z)(lb mb:Nat)(k:Y)(s:ByteArray)(j:s.size<=1100000)(h:Lk w lb mb k):
  A0 M 161 #[O (U ⟨lb,0,X⟩),A3 s] w fun e g=>e= T (Ax (mH s))/\g=w:=by
 have n:w.cell? ⟨lb,0,X⟩=U (.map (U mb)):=by rw[az _ _ _ _ _ _ h.b];rfl
 have c:=GF s j mb w h.m;by_cases f:s.size<=40
 ·have e:decide (cK (aK s 0)=A4/\qk s (s.size+1) 0=s.size/\qw s=V)=mH s:=by
   unfold mH;by_cases a:cK (aK s 0)=A4/\qk s (s.size+1) 0=s.size/\qw s=V
   ·rw[bG a,bG ⟨f,a⟩]
   ·rw[aD a,aD (fun d=>a d.2)]
  rw[e]at c;generalize mH s=l at c⊢;clear e h;have i:(s.size:Int)<=40:=by omega
  go_in;go_wp2_with (go_at_call 182;refine c.mono ?_;rintro e g ⟨rfl,rfl⟩);go_ret;exact⟨rfl,rfl⟩
 ·have e:mH s=V:=by unfold mH;rw[aD (fun d=>f d.1)]
  rw[e];have i:¬(s.size:Int)<=40:=by omega
  clear c;go_in;go_wp2;go_ret;exact⟨rfl,rfl⟩
theorem uD(w:Z)(lb mb:Nat)(q:Y)(vn:Y)(c:List ByteArray)(h:Lk w lb mb q)(n:bu w vn c)(x:c.length<=1048576)(p:∀s∈c,s.size<=1048576):
  A0 M 128 #[O (U ⟨lb,0,X⟩),vn] w fun e z=>e= T (Ax (qE c c.length 0))/\z=w:=by
 have g:=gD n p h;obtain⟨B,C,rfl⟩:=n.form;obtain⟨l,i⟩:=aA (qE c c.length 0);rw[i];obtain⟨b,m⟩:=aA c.length;have t:=aq m;rw[m]at g x i⊢;have u:BL c b 0 l:=⟨i⟩;clear m n p h i;go_in;go_wp2_with fail;go_loop [9] (fun o=>∃(a:Nat),o= Q S a/\a<=b/\BL c (b-a) a l) (fun o=>b-(intOf o).toNat)
 case atStart=>exact⟨0,rfl,by omega,u⟩
 case round=>
  obtain⟨a,rfl,F,r⟩:=hrel;have d:=r.out;by_cases y:a<b
  ·obtain⟨s,j⟩:=bj t.out y;have H:=g.out.2.1 s (bC j);obtain⟨I,rfl,E⟩:=g.out.1.get j;rw[show b-a=(b-(a+1))+1 by omega,qE,bm,j,gl]at d;have v:(a:Int)<(b:Int):=by omega
   have G:(0:Int)<=(a:Int):=by omega
   have k:=qL w lb mb q s (by omega) g.out.2.2;clear j;cases hx:mH s with
   |true=>
    rw[hx,eC]at d;rw[hx]at k;have f:BL c (b-(a+1)) (a+1) l:=⟨d⟩;clear d hx;go_wp2_with (go_at_call 161;refine k.mono ?_;rintro e A ⟨rfl,rfl⟩);go_round
    case rel=>exact⟨a+1,by go_num,by omega,f⟩
    case measure=>simp[intOf];omega
   |false=>
    rw[hx,dK]at d;rw[hx]at k;have f:=aq d;clear d hx;go_wp2_with (go_at_call 161;refine k.mono ?_;rintro e A ⟨rfl,rfl⟩);go_ret;exact⟨by rw[<-f.out];rfl,rfl⟩
  ·rw[show b-a=0 by omega,qE]at d;have f:=aq d;have v:¬(a:Int)<(b:Int):=by omega
   clear d;go_wp2_with fail;go_ret;exact⟨by rw[<-f.out];rfl,rfl⟩
def txB(k:Int)(x:ByteArray):Bool:=if k=24 then fok x else if k=25 then decide ((x.size:Int)<=4000) else mH x
theorem Dr(w:Z)(lb mb:Nat)(j:Y)(k:Int)(s:ByteArray)(i:s.size<=1100000)(h:Lk w lb mb j):
  A0 M 129 #[O (U ⟨lb,0,X⟩),Q S k,A3 s] w fun e d=>e= T (Ax (txB k s))/\Below w.heap.size w d:=by
 have b:=qL w lb mb j s i h;have a:=EB s i w h.e;unfold txB;by_cases c:k=24
 ·subst c;rw[ab rfl];unfold fok;by_cases g:s.size<=40
  ·have n:(s.size:Int)<=40:=by omega
   rw[bG g,eC];generalize oB s=l at a⊢;clear b h;go_in;go_wp2_with (go_at_call 162;refine a.mono ?_;rintro e d ⟨rfl,m⟩);go_ret;exact⟨rfl,m⟩
  ·have n:¬(s.size:Int)<=40:=by omega
   rw[aD g,dK];clear b a h;go_in;go_wp2;go_ret;exact⟨rfl,aj _ _⟩
 by_cases f:k=25
 ·subst f;rw[aa (by decide),ab rfl];clear b a h c;go_in;go_wp2;go_ret;exact⟨rfl,aj _ _⟩
 rw[aa c,aa f];generalize mH s=l at b⊢;clear a h;go_in;go_wp2_with (go_at_call 161;refine b.mono ?_;rintro e d ⟨rfl,rfl⟩);go_ret;exact⟨rfl,aj _ _⟩
def zK(k:Int):Int:=if k=2\/k=10 then 200 else if k=14 then 2 else 1
theorem xx(k:Int)(w:Z):A0 M 127 #[Q S k] w fun e b=>e= T (.tuple #[Q S 1,Q S (zK k)])/\b=w:=by
 unfold zK;rcases(show k=2\/k=10\/k=14\/(¬k=2/\¬k=10/\¬k=14) by omega) with rfl|rfl|rfl|⟨c,d,a⟩
 ·rw[ab (by decide)];go_in;go_wp2;go_ret2;exact⟨rfl,rfl⟩
 ·rw[ab (by decide)];go_in;go_wp2;go_ret2;exact⟨rfl,rfl⟩
 ·rw[aa (by decide),ab rfl];go_in;go_wp2;go_ret2;exact⟨rfl,rfl⟩
 ·rw[aa (by omega),aa a];go_in;go_wp2;go_ret2;exact⟨rfl,rfl⟩
theorem ff0(w:Z)(lb mb:Nat)(p:Y)(h:Lk w lb mb p)(b:Nat)(d x z y A:Int)(vk:Y)(vn:Y)(a:List ByteArray)(j:bu w vn a)(m:a.length<=1048576)(n:∀s∈a,s.size<=1048576)
  (i:w.heap[b]?=U (.cells #[Q S d,Q S x,Q S z,Q S y,Q S A,vk,vn] 99 (0,0))):
  A0 M 67 #[O (U ⟨lb,0,X⟩),A2 96 (O (U ⟨b,0,X⟩))] w fun e q=>e= T (Ax (decide (1<=(a.length:Int)/\(a.length:Int)<=zK d)&&qE a a.length 0))/\q=w:=by
 have E:=fun w=>asT b w;have F:=fun w=>Ic b w;have f:=fun w=>xx d w;have c:=uD w lb mb p vn a h j m n;obtain⟨t,v,rfl⟩:=j.form;have C:w.cell? ⟨b,0,X⟩=U (Q S d):=by rw[az _ _ _ _ _ _ i];rfl
 have u:w.cell? ⟨b,6,X⟩=U (A1 t a.length v):=by rw[az _ _ _ _ _ _ i];rfl
 generalize qE a a.length 0=B at c⊢;generalize a.length=o at m c u⊢;generalize zK d=r at f⊢;clear i j n h;by_cases k:1<=(o:Int)
 ·by_cases l:(o:Int)<=r
  ·rw[bG ⟨k,l⟩,eC];go_in;go_wp2_with (first|(go_at_call 127;refine ee (f _) ?_)|(go_at_call 128;refine c.mono ?_;rintro e q ⟨rfl,rfl⟩));go_ret;exact⟨rfl,rfl⟩
  ·rw[aD (fun g=>l g.2),dK];clear c;go_in;go_wp2_with (go_at_call 127;refine ee (f _) ?_);go_ret;exact⟨rfl,rfl⟩
 ·rw[aD (fun g=>k g.1),dK];clear c;go_in;go_wp2_with (go_at_call 127;refine ee (f _) ?_);go_ret;exact⟨rfl,rfl⟩
theorem ff1(w:Z)(lb:Nat)(b:Nat)(l k n m o a:Int)(i:Option Addr)(c ck:Nat)(s:c<=1048576)
  (h:w.heap[b]?=U (.cells #[Q S l,Q S k,Q S n,Q S m,Q S o,A1 i c ck,Q S a] 169 (0,0))):
  A0 M 67 #[O (U ⟨lb,0,X⟩),A2 167 (O (U ⟨b,0,X⟩))] w fun e p=>e= T (Ax (decide (1<=a/\a<(c:Int))))/\Below w.heap.size w p:=by
 have t:=fun w=>asT b w;have v:=fun w=>Ic b w;have q:w.cell? ⟨b,5,X⟩=U (A1 i c ck):=by rw[az _ _ _ _ _ _ h];rfl
 have r:w.cell? ⟨b,6,X⟩=U (Q S a):=by rw[az _ _ _ _ _ _ h];rfl
 clear h;by_cases f:1<=a
 ·by_cases g:a<(c:Int)
  ·rw[bG ⟨f,g⟩];go_in;go_wp2_with fail;go_quiet (fail)
   go_wp2_with fail;go_ret;exact⟨rfl,lu (aj _ _) _⟩
  ·rw[aD (fun d=>g d.2)];have j:=aq g;go_in;go_wp2_with fail;go_quiet (fail)
   go_wp2_with fail;go_ret;exact⟨by show Ending.returned (Ax (decide (a<(c:Int))))=_;rw[aD (by have:=j.out;omega)],lu (aj _ _) _⟩
 ·rw[aD (fun d=>f d.1)];have u:decide ((1:Int)<=a)=V:=aD f;go_in;go_wp2_with fail;go_quiet (fail)
  go_wp2_with fail;go_ret;exact⟨rfl,lu (aj _ _) _⟩
theorem ff2(w:Z)(lb:Nat)(b:Nat):
  A0 M 67 #[O (U ⟨lb,0,X⟩),A2 170 (O (U ⟨b,0,X⟩))] w fun e a=>e= T (Ax A4)/\a=w:=by
 have c:=fun w=>asT b w;have d:=fun w=>Ic b w;go_in;go_wp2;go_ret;exact⟨rfl,rfl⟩
theorem ff6(w:Z)(lb:Nat)(b:Nat):
  A0 M 67 #[O (U ⟨lb,0,X⟩),A2 182 (O (U ⟨b,0,X⟩))] w fun e a=>e= T (Ax A4)/\a=w:=by
 have c:=fun w=>asT b w;have d:=fun w=>Ic b w;go_in;go_wp2;go_ret;exact⟨rfl,rfl⟩
theorem ff3(w:Z)(lb mb:Nat)(i:Y)(h:Lk w lb mb i)(b:Nat)(a m o n p:Int)(vk:Y)(x:ByteArray)(l:x.size<=1100000)
  (d:w.heap[b]?=U (.cells #[Q S a,Q S m,Q S o,Q S n,Q S p,vk,A3 x] 175 (0,0))):
  A0 M 67 #[O (U ⟨lb,0,X⟩),A2 173 (O (U ⟨b,0,X⟩))] w fun e c=>e= T (Ax (txB a x))/\Below w.heap.size w c:=by
 have r:=fun w=>asT b w;have s:=fun w=>Ic b w;have g:=Dr w.drew lb mb i a x l (h.below (aL (aj _ w)));have j:w.cell? ⟨b,0,X⟩=U (Q S a):=by rw[az _ _ _ _ _ _ d];rfl
 have k:w.cell? ⟨b,6,X⟩=U (A3 x):=by rw[az _ _ _ _ _ _ d];rfl
 generalize txB a x=q at g⊢;clear d h;go_in;go_wp2_with fail;go_region_held3 (fun c=>c.cell? ⟨b,0,X⟩=U (Q S a)/\c.cell? ⟨b,6,X⟩=U (A3 x)) (first|go_keep|exact⟨cell_kept f j,cell_kept f k⟩) ((go_at_call 129;refine g.mono ?_;rintro e t ⟨rfl,f⟩))
 go_wp2_with fail;go_ret;exact⟨rfl,(aL (aj _ w)).trans f⟩
theorem ff4(w:Z)(lb:Nat)(b:Nat)(d h j i k a:Int)(vk:Y)
  (f:w.heap[b]?=U (.cells #[Q S d,Q S h,Q S j,Q S i,Q S k,vk,Q S a] 178 (0,0))):
  A0 M 67 #[O (U ⟨lb,0,X⟩),A2 176 (O (U ⟨b,0,X⟩))] w fun e l=>e= T (Ax (if d=30 then(decide ((19:Int)<=a)&&decide (a<=22)) else(decide ((1:Int)<=a)&&decide (a<=18))))/\l=w:=by
 have o:=fun w=>asT b w;have p:=fun w=>Ic b w;have m:w.cell? ⟨b,0,X⟩=U (Q S d):=by rw[az _ _ _ _ _ _ f];rfl
 have n:w.cell? ⟨b,6,X⟩=U (Q S a):=by rw[az _ _ _ _ _ _ f];rfl
 clear f;by_cases g:d=30
 ·rw[ab g];by_cases c:(19:Int)<=a
  ·rw[bG c,eC];go_in;go_wp2;go_ret;exact⟨rfl,rfl⟩
  ·rw[aD c,dK];go_in;go_wp2;go_ret;exact⟨rfl,rfl⟩
 ·rw[aa g];by_cases c:(1:Int)<=a
  ·rw[bG c,eC];go_in;go_wp2;go_ret;exact⟨rfl,rfl⟩
  ·rw[aD c,dK];go_in;go_wp2;go_ret;exact⟨rfl,rfl⟩
theorem ff5(w:Z)(lb mb:Nat)(j:Y)(h:Lk w lb mb j)(b:Nat)(q p t r u:Int)(vk:Y)(vn:Y)(m:Bool)(a:List ByteArray)(c:bu w vn a)(g:a.length<=1048576)(i:∀s∈a,s.size<=1048576)
  (f:w.heap[b]?=U (.cells #[Q S q,Q S p,Q S t,Q S r,Q S u,vk,vn,Ax m] 181 (0,0))):
  A0 M 67 #[O (U ⟨lb,0,X⟩),A2 179 (O (U ⟨b,0,X⟩))] w fun e k=>e= T (Ax (qE a a.length 0))/\k=w:=by
 have x:=fun w=>asT b w;have y:=fun w=>Ic b w;have d:=uD w lb mb j vn a h c g i;obtain⟨l,o,rfl⟩:=c.form;have n:w.cell? ⟨b,6,X⟩=U (A1 l a.length o):=by rw[az _ _ _ _ _ _ f];rfl
 generalize qE a a.length 0=v at d⊢;generalize a.length=z at g d n⊢;clear f c i h;go_in;go_wp2_with (go_at_call 128;refine d.mono ?_;rintro e k ⟨rfl,rfl⟩);go_ret;exact⟨rfl,rfl⟩
