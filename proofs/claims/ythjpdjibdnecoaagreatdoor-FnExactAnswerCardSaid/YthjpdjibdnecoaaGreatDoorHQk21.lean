import Derived.Test.YthjpdjibdnecoaaGreatDoorHQk13
import Derived.Test.YthjpdjibdnecoaaGreatDoorHQk11
set_option linter.all false
set_option maxRecDepth 100000
set_option maxHeartbeats 3200000
open Go.Proofs.Tryz renaming prog->M
open Go.Value renaming pointer->O,int->Q,bool->Z,iface->A0,string->A1,slice->A2
open Go.IntKind renaming i64->R
open Option renaming some->S,none->U
open Go.Ending renaming returned->T
open Go renaming Value->V,World->Y,Calls->Ax
open Bool renaming false->X,true->A3
namespace Go.Proofs.YthjpdjibdnecoaaGreatDoor
open Go.RowKit Go.Maps Go.WideMaps
theorem adt{w:Y}{v:V}{ns:List Nd}{N:Nd}{vn vk:V}(d:fI w v ns N vn vk)(g:N.k=10):
  Ax M 66 #[.agg #[v],eC N vn vk] w fun e f=>e= T (Z (aI N X X X A3&&fh N 1 200&&((N.ks.length:Int)==2)&&jk ns N 1 0&&(dH ns N 1==1)))/\Below w.heap.size w f:=by
 obtain⟨E,H,rfl⟩:=d.t.form;obtain⟨F,I,rfl⟩:=d.n.form;obtain⟨G,J,rfl⟩:=d.k.form;have b:=St.start d;have K:=d.lx;have C:Hid (N.x.size<=1100000):=by show _<=_;omega
 clear d;have L:=nF g;have ad:=sn g 10 rfl;clear g;cases t0:aI N X X X A3
 case' true=>
  cases t1:fh N 1 200
  case' true=>
   cases t2:((N.ks.length:Int)==2)
   case' true=>
    have y:N.ks.length=2:=by have:=ft t2;omega
    have z:Hid (1<=N.ks.length):=by show _<=_;omega
    have B:Hid (0<N.ks.length):=by show _<_;omega
    have A:Hid (1<N.ks.length):=by show _<_;omega
    clear y;cases t3:jk ns N 1 0
    case' true=>
     cases t4:(dH ns N 1==1)
 all_goals
  unfold eC;go_in;go_wp2_with (first|(go_at_call 114;refine(jE _ N _ _ b.a.n b.a.k b.a.l1).mono ?_;rintro e f ⟨rfl,c⟩;replace b:=b.below c;clear c;obtain⟨h,i,j,l,m,o,p,q,r,s⟩:=ax b.bn;have u:=b.bt)|(go_at_call 115;refine(iK _ N _ _ 1 200 b.a.n b.a.k b.a.l1 b.a.ls).mono ?_;rintro e f ⟨rfl,c⟩;replace b:=b.below c;clear c;obtain⟨h,i,j,l,m,o,p,q,r,s⟩:=ax b.bn;have u:=b.bt)|(go_at_call 116;refine(db _ _ ns N _ _ 0 1 b.a.t b.a.n b.a.k b.a.ok z.out b.a.ln b.a.l2).mono ?_;rintro e f ⟨rfl,c⟩;replace b:=b.below c;clear c;obtain⟨h,i,j,l,m,o,p,q,r,s⟩:=ax b.bn;have u:=b.bt)|(go_at_call 113;with_reducible refine(xy b.a A.out).mono ?_;rintro e f ⟨rfl,c⟩;replace b:=b.below c;clear c;obtain⟨h,i,j,l,m,o,p,q,r,s⟩:=ax b.bn;have u:=b.bt));go_ret;exact⟨rfl,b.bel⟩
theorem adu{w:Y}{h:V}{ns:List Nd}{N:Nd}{vn vk:V}(c:fI w h ns N vn vk)(f:N.k=13):
  Ax M 66 #[.agg #[h],eC N vn vk] w fun e g=>e= T (Z (aI N X X X X&&jk ns N N.ks.length 0))/\Below w.heap.size w g:=by
 obtain⟨z,C,rfl⟩:=c.t.form;obtain⟨A,E,rfl⟩:=c.n.form;obtain⟨B,F,rfl⟩:=c.k.form;have b:=St.start c;have G:=c.lx;have y:Hid (N.x.size<=1100000):=by show _<=_;omega
 clear c;have H:=nF f;have I:=sn f 13 rfl;clear f;cases t0:aI N X X X X
 case' true=>
  cases t1:jk ns N N.ks.length 0
 all_goals
  unfold eC;go_in;go_wp2_with (first|(go_at_call 114;refine(cE _ N _ _ b.a.n b.a.k b.a.l1).mono ?_;rintro e g ⟨rfl,d⟩;replace b:=b.below d;clear d;obtain⟨i,j,l,m,o,p,q,r,s,u⟩:=ax b.bn;have v:=b.bt)|(go_at_call 116;refine(db _ _ ns N _ _ 0 N.ks.length b.a.t b.a.n b.a.k b.a.ok (ae _) b.a.ln b.a.l2).mono ?_;rintro e g ⟨rfl,d⟩;replace b:=b.below d;clear d;obtain⟨i,j,l,m,o,p,q,r,s,u⟩:=ax b.bn;have v:=b.bt));go_ret;exact⟨rfl,b.bel⟩
structure Lk (W:Y) (lb mb:Nat) (vs:V):Prop where
 b:W.heap[lb]?=S (.cells #[.map (S mb),vs] 165 (0,0))
 m:W.ownsMap M 9 (plainElem (H:=Unit) M 3) mb 22 (yl 22)
 e:mI W
theorem rz{W a:Y}{mb n:Nat}{D:DataW Unit}(h:W.ownsMap M 9 (plainElem (H:=Unit) M 3) mb n D)(d:a.heap[mb]?=W.heap[mb]?):a.ownsMap M 9 (plainElem (H:=Unit) M 3) mb n D:=by
 obtain⟨c,b,e,f⟩:=h;exact⟨c,b,d.trans e,f⟩
theorem mI.keep{W a:Y}(h:mI W)(b:Below W.heap.size W a):mI a:=by
 obtain⟨⟨c,d,g⟩,⟨e,f,i⟩⟩:=h;exact⟨⟨c,d,ai b g⟩,⟨e,f,ai b i⟩⟩
theorem Lk.below{W c:Y}{lb mb:Nat}{d:V}(h:Lk W lb mb d)(a:Below W.heap.size W c):Lk c lb mb d:=
 ⟨(a.block _ (ah h.b)).trans h.b,rz h.m (a.block _ h.m.lt),h.e.keep a⟩
theorem sE(w:Y)(lb mb:Nat)(k:V)(s:ByteArray)(j:s.size<=1100000)(h:Lk w lb mb k):
  Ax M 222 #[O (S ⟨lb,0,U⟩),A1 s] w fun e g=>e= T (Z (oz s))/\g=w:=by
 have n:w.cell? ⟨lb,0,U⟩=S (.map (S mb)):=by rw[aq _ _ _ _ _ _ h.b];rfl
 have c:=Jr s j mb w h.m;by_cases f:s.size<=40
 ·have e:decide (cd (az s 0)=A3/\mo s (s.size+1) 0=s.size/\rL s=X)=oz s:=by
   unfold oz;by_cases a:cd (az s 0)=A3/\mo s (s.size+1) 0=s.size/\rL s=X
   ·rw[bC a,bC ⟨f,a⟩]
   ·rw[aB a,aB (fun d=>a d.2)]
  rw[e]at c;generalize oz s=l at c⊢;clear e h;have i:(s.size:Int)<=40:=by omega
  go_in;go_wp2_with (go_at_call 241;refine c.mono ?_;rintro e g ⟨rfl,rfl⟩);go_ret;exact⟨rfl,rfl⟩
 ·have e:oz s=X:=by unfold oz;rw[aB (fun d=>f d.1)]
  rw[e];have i:¬(s.size:Int)<=40:=by omega
  clear c;go_in;go_wp2;go_ret;exact⟨rfl,rfl⟩
theorem xC(w:Y)(lb mb:Nat)(q:V)(vn:V)(l:List ByteArray)(h:Lk w lb mb q)(n:cH w vn l)(x:l.length<=1048576)(p:∀s∈l,s.size<=1048576):
  Ax M 189 #[O (S ⟨lb,0,U⟩),vn] w fun e z=>e= T (Z (vG l l.length 0))/\z=w:=by
 have f:=iD n p h;obtain⟨B,C,rfl⟩:=n.form;obtain⟨k,g⟩:=ay (vG l l.length 0);rw[g];obtain⟨b,m⟩:=ay l.length;have t:=aw m;rw[m]at f x g⊢;have u:Dz l b 0 k:=⟨g⟩;clear m n p h g;go_in;go_wp2_with fail;go_loop [9] (fun o=>∃(a:Nat),o= Q R a/\a<=b/\Dz l (b-a) a k) (fun o=>b-(intOf o).toNat)
 case atStart=>exact⟨0,rfl,by omega,u⟩
 case round=>
  obtain⟨a,rfl,F,r⟩:=hrel;have c:=r.out;by_cases y:a<b
  ·obtain⟨s,i⟩:=bL t.out y;have H:=f.out.2.1 s (cJ i);obtain⟨I,rfl,E⟩:=f.out.1.get i;rw[show b-a=(b-(a+1))+1 by omega,vG,cp,i,ig]at c;have v:(a:Int)<(b:Int):=by omega
   have G:(0:Int)<=(a:Int):=by omega
   have j:=sE w lb mb q s (by omega) f.out.2.2;clear i;cases hx:oz s with
   |true=>
    rw[hx,eG]at c;rw[hx]at j;have d:Dz l (b-(a+1)) (a+1) k:=⟨c⟩;clear c hx;go_wp2_with (go_at_call 222;refine j.mono ?_;rintro e A ⟨rfl,rfl⟩);go_round
    case rel=>exact⟨a+1,by go_num,by omega,d⟩
    case measure=>simp[intOf];omega
   |false=>
    rw[hx,dJ]at c;rw[hx]at j;have d:=aw c;clear c hx;go_wp2_with (go_at_call 222;refine j.mono ?_;rintro e A ⟨rfl,rfl⟩);go_ret;exact⟨by rw[<-d.out];rfl,rfl⟩
  ·rw[show b-a=0 by omega,vG]at c;have d:=aw c;have v:¬(a:Int)<(b:Int):=by omega
   clear c;go_wp2_with fail;go_ret;exact⟨by rw[<-d.out];rfl,rfl⟩
def txB(k:Int)(x:ByteArray):Bool:=if k=24 then fok x else if k=25 then decide ((x.size:Int)<=4000) else oz x
theorem Fb(w:Y)(lb mb:Nat)(j:V)(k:Int)(s:ByteArray)(i:s.size<=1100000)(h:Lk w lb mb j):
  Ax M 190 #[O (S ⟨lb,0,U⟩),Q R k,A1 s] w fun e d=>e= T (Z (txB k s))/\Below w.heap.size w d:=by
 have b:=sE w lb mb j s i h;have a:=G9 s i w h.e;unfold txB;by_cases c:k=24
 ·subst c;rw[ab rfl];unfold fok;by_cases g:s.size<=40
  ·have n:(s.size:Int)<=40:=by omega
   rw[bC g,eG];generalize qc s=l at a⊢;clear b h;go_in;go_wp2_with (go_at_call 223;refine a.mono ?_;rintro e d ⟨rfl,m⟩);go_ret;exact⟨rfl,m⟩
  ·have n:¬(s.size:Int)<=40:=by omega
   rw[aB g,dJ];clear b a h;go_in;go_wp2;go_ret;exact⟨rfl,ag _ _⟩
 by_cases f:k=25
 ·subst f;rw[aa (by decide),ab rfl];clear b a h c;go_in;go_wp2;go_ret;exact⟨rfl,ag _ _⟩
 rw[aa c,aa f];generalize oz s=l at b⊢;clear a h;go_in;go_wp2_with (go_at_call 222;refine b.mono ?_;rintro e d ⟨rfl,rfl⟩);go_ret;exact⟨rfl,ag _ _⟩
def BE(k:Int):Int:=if k=2\/k=10 then 200 else if k=14 then 2 else 1
theorem Ad(k:Int)(w:Y):Ax M 188 #[Q R k] w fun e b=>e= T (.tuple #[Q R 1,Q R (BE k)])/\b=w:=by
 unfold BE;rcases(show k=2\/k=10\/k=14\/(¬k=2/\¬k=10/\¬k=14) by omega) with rfl|rfl|rfl|⟨c,d,a⟩
 ·rw[ab (by decide)];go_in;go_wp2;go_ret2;exact⟨rfl,rfl⟩
 ·rw[ab (by decide)];go_in;go_wp2;go_ret2;exact⟨rfl,rfl⟩
 ·rw[aa (by decide),ab rfl];go_in;go_wp2;go_ret2;exact⟨rfl,rfl⟩
 ·rw[aa (by omega),aa a];go_in;go_wp2;go_ret2;exact⟨rfl,rfl⟩
theorem ff0(w:Y)(lb mb:Nat)(o:V)(h:Lk w lb mb o)(b:Nat)(nk v y x z:Int)(vk:V)(vn:V)(l:List ByteArray)(g:cH w vn l)(k:l.length<=1048576)(m:∀s∈l,s.size<=1048576)
  (f:w.heap[b]?=S (.cells #[Q R nk,Q R v,Q R y,Q R x,Q R z,vk,vn] 209 (0,0))):
  Ax M 139 #[O (S ⟨lb,0,U⟩),A0 207 (O (S ⟨b,0,U⟩))] w fun e p=>e= T (Z (decide (1<=(l.length:Int)/\(l.length:Int)<=BE nk)&&vG l l.length 0))/\p=w:=by
 have C:=fun w=>asT b w;have E:=fun w=>asF b w;have c:=fun w=>Ad nk w;have a:=xC w lb mb o vn l h g k m;obtain⟨r,u,rfl⟩:=g.form;have B:w.cell? ⟨b,0,U⟩=S (Q R nk):=by rw[aq _ _ _ _ _ _ f];rfl
 have t:w.cell? ⟨b,6,U⟩=S (A2 r l.length u):=by rw[aq _ _ _ _ _ _ f];rfl
 generalize vG l l.length 0=A at a⊢;generalize l.length=n at k a t⊢;generalize BE nk=q at c⊢;clear f g m h;by_cases i:1<=(n:Int)
 ·by_cases j:(n:Int)<=q
  ·rw[bC ⟨i,j⟩,eG];go_in;go_wp2_with (first|(go_at_call 188;refine dK (c _) ?_)|(go_at_call 189;refine a.mono ?_;rintro e p ⟨rfl,rfl⟩));go_ret;exact⟨rfl,rfl⟩
  ·rw[aB (fun d=>j d.2),dJ];clear a;go_in;go_wp2_with (go_at_call 188;refine dK (c _) ?_);go_ret;exact⟨rfl,rfl⟩
 ·rw[aB (fun d=>i d.1),dJ];clear a;go_in;go_wp2_with (go_at_call 188;refine dK (c _) ?_);go_ret;exact⟨rfl,rfl⟩
theorem ff1(w:Y)(lb:Nat)(b:Nat)(nk l n m o a:Int)(i:Option Addr)(c j:Nat)(s:c<=1048576)
  (h:w.heap[b]?=S (.cells #[Q R nk,Q R l,Q R n,Q R m,Q R o,A2 i c j,Q R a] 212 (0,0))):
  Ax M 139 #[O (S ⟨lb,0,U⟩),A0 210 (O (S ⟨b,0,U⟩))] w fun e p=>e= T (Z (decide (1<=a/\a<(c:Int))))/\Below w.heap.size w p:=by
 have t:=fun w=>asT b w;have v:=fun w=>asF b w;have q:w.cell? ⟨b,5,U⟩=S (A2 i c j):=by rw[aq _ _ _ _ _ _ h];rfl
 have r:w.cell? ⟨b,6,U⟩=S (Q R a):=by rw[aq _ _ _ _ _ _ h];rfl
 clear h;by_cases f:1<=a
 ·by_cases g:a<(c:Int)
  ·rw[bC ⟨f,g⟩];go_in;go_wp2_with fail;go_quiet (fail)
   go_wp2_with fail;go_ret;exact⟨rfl,my (ag _ _) _⟩
  ·rw[aB (fun d=>g d.2)];have k:=aw g;go_in;go_wp2_with fail;go_quiet (fail)
   go_wp2_with fail;go_ret;exact⟨by show Ending.returned (Z (decide (a<(c:Int))))=_;rw[aB (by have:=k.out;omega)],my (ag _ _) _⟩
 ·rw[aB (fun d=>f d.1)];have u:decide ((1:Int)<=a)=X:=aB f;go_in;go_wp2_with fail;go_quiet (fail)
  go_wp2_with fail;go_ret;exact⟨rfl,my (ag _ _) _⟩
theorem ff2(w:Y)(lb:Nat)(b:Nat):
  Ax M 139 #[O (S ⟨lb,0,U⟩),A0 213 (O (S ⟨b,0,U⟩))] w fun e a=>e= T (Z A3)/\a=w:=by
 have c:=fun w=>asT b w;have d:=fun w=>asF b w;go_in;go_wp2;go_ret;exact⟨rfl,rfl⟩
theorem ff6(w:Y)(lb:Nat)(b:Nat):
  Ax M 139 #[O (S ⟨lb,0,U⟩),A0 160 (O (S ⟨b,0,U⟩))] w fun e a=>e= T (Z A3)/\a=w:=by
 have c:=fun w=>asT b w;have d:=fun w=>asF b w;go_in;go_wp2;go_ret;exact⟨rfl,rfl⟩
theorem ff3(w:Y)(lb mb:Nat)(g:V)(h:Lk w lb mb g)(b:Nat)(nk l n m o:Int)(vk:V)(x:ByteArray)(k:x.size<=1100000)
  (c:w.heap[b]?=S (.cells #[Q R nk,Q R l,Q R n,Q R m,Q R o,vk,A1 x] 218 (0,0))):
  Ax M 139 #[O (S ⟨lb,0,U⟩),A0 216 (O (S ⟨b,0,U⟩))] w fun e a=>e= T (Z (txB nk x))/\Below w.heap.size w a:=by
 have q:=fun w=>asT b w;have r:=fun w=>asF b w;have f:=Fb w.drew lb mb g nk x k (h.below (cj (ag _ w)));have i:w.cell? ⟨b,0,U⟩=S (Q R nk):=by rw[aq _ _ _ _ _ _ c];rfl
 have j:w.cell? ⟨b,6,U⟩=S (A1 x):=by rw[aq _ _ _ _ _ _ c];rfl
 generalize txB nk x=p at f⊢;clear c h;go_in;go_wp2_with fail;go_region_held3 (fun a=>a.cell? ⟨b,0,U⟩=S (Q R nk)/\a.cell? ⟨b,6,U⟩=S (A1 x)) (first|go_keep|exact⟨ai d i,ai d j⟩) ((go_at_call 190;refine f.mono ?_;rintro e s ⟨rfl,d⟩))
 go_wp2_with fail;go_ret;exact⟨rfl,(cj (ag _ w)).trans d⟩
theorem ff4(w:Y)(lb:Nat)(b:Nat)(nk g i h j a:Int)(vk:V)
  (d:w.heap[b]?=S (.cells #[Q R nk,Q R g,Q R i,Q R h,Q R j,vk,Q R a] 221 (0,0))):
  Ax M 139 #[O (S ⟨lb,0,U⟩),A0 219 (O (S ⟨b,0,U⟩))] w fun e k=>e= T (Z (if nk=30 then(decide ((19:Int)<=a)&&decide (a<=22)) else(decide ((1:Int)<=a)&&decide (a<=18))))/\k=w:=by
 have n:=fun w=>asT b w;have o:=fun w=>asF b w;have l:w.cell? ⟨b,0,U⟩=S (Q R nk):=by rw[aq _ _ _ _ _ _ d];rfl
 have m:w.cell? ⟨b,6,U⟩=S (Q R a):=by rw[aq _ _ _ _ _ _ d];rfl
 clear d;by_cases f:nk=30
 ·rw[ab f];by_cases c:(19:Int)<=a
  ·rw[bC c,eG];go_in;go_wp2;go_ret;exact⟨rfl,rfl⟩
  ·rw[aB c,dJ];go_in;go_wp2;go_ret;exact⟨rfl,rfl⟩
 ·rw[aa f];by_cases c:(1:Int)<=a
  ·rw[bC c,eG];go_in;go_wp2;go_ret;exact⟨rfl,rfl⟩
  ·rw[aB c,dJ];go_in;go_wp2;go_ret;exact⟨rfl,rfl⟩
theorem ff5(w:Y)(lb mb:Nat)(i:V)(h:Lk w lb mb i)(b:Nat)(nk p r q t:Int)(vk:V)(vn:V)(m:Bool)(l:List ByteArray)(a:cH w vn l)(f:l.length<=1048576)(g:∀s∈l,s.size<=1048576)
  (d:w.heap[b]?=S (.cells #[Q R nk,Q R p,Q R r,Q R q,Q R t,vk,vn,Z m] 224 (0,0))):
  Ax M 139 #[O (S ⟨lb,0,U⟩),A0 222 (O (S ⟨b,0,U⟩))] w fun e j=>e= T (Z (vG l l.length 0))/\j=w:=by
 have v:=fun w=>asT b w;have x:=fun w=>asF b w;have c:=xC w lb mb i vn l h a f g;obtain⟨k,o,rfl⟩:=a.form;have n:w.cell? ⟨b,6,U⟩=S (A2 k l.length o):=by rw[aq _ _ _ _ _ _ d];rfl
 generalize vG l l.length 0=u at c⊢;generalize l.length=y at f c n⊢;clear d a g h;go_in;go_wp2_with (go_at_call 189;refine c.mono ?_;rintro e j ⟨rfl,rfl⟩);go_ret;exact⟨rfl,rfl⟩
