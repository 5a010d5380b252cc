import Derived.Test.YtjeamjdieofoeaaGreatDoorHZk10
import Derived.Test.YtjeamjdieofoeaaGreatDoorHZk16
set_option linter.all false
set_option maxRecDepth 100000
set_option maxHeartbeats 12800000
open Go.Proofs.Tryz renaming prog->M
open Option renaming some->O,none->U
open Go.Value renaming pointer->Q,string->Y,int->Z,slice->A2,bool->B0,iface->B3,tuple->B6,string->Cb,slice->C2,ownBlock->Er,agg->E0
open Go.Ending renaming returned->S
open Go renaming World->V,Value->A0,Calls->A5
open Go.IntKind renaming i64->Ax
open Go.RowKit renaming intOf->A9,Below->Bs,Hid->B7
open Bool renaming false->Br,true->B4
open Go.Obj renaming cells->B1
namespace Go.Proofs.YtjeamjdieofoeaaGreatDoor
open Go.RowKit Go.Maps Go.WideMaps
variable{W W':World}{ks:List Int}
def tgB(a:List Nd)(N:Nd):Nat->Nat->Bool
 |0,_=>B4
 |f+1,j=>zJ (fh a N j)&&tgB a N f (j+1)
structure alC (ns:List Nd) (N:Nd) (f j:Nat) (R:Bool):Prop where
 out:tgB ns N f j=R
theorem ajn{w:V}{L:A0}{f:List Nd}{N:Nd}{vn vk:A0}(i:NArg w L f N vn vk)(E:N.k=5):
  A5 M 96 #[E0 #[L],jf N vn vk] w fun e w'=>e= S (B0 (bC N Br B4 Br Br&&(decide (1<=N.n/\N.n<(N.ks.length:Int))&&(tgB f N N.n.toNat 0&&lg f N (N.ks.length-N.n.toNat) N.n.toNat))))/\Bs w.heap.size w w':=by
 obtain⟨al,ap,rfl⟩:=i.t.form;obtain⟨am,ar,rfl⟩:=i.n.form;obtain⟨an,av,rfl⟩:=i.k.form;have b:=St.start i;have a7:=i.l2;clear i;have ba:=kqf E;have bb:=kqt E 5 rfl;clear E;unfold jf;cases t0:bC N Br B4 Br Br with
 |false=>
  go_in;go_wp2_with (first|(go_at_call 170;refine b.bare fun C b=>?_;obtain⟨j,l,m,o,p,q,r,s,u,v⟩:=cd b.bn;have x:=b.bt));go_ret;exact⟨rfl,b.bel⟩
 |true=>
  by_cases a4:N.n<1
  ·rw[aC (by omega)];go_in;go_wp2_with (first|(go_at_call 170;refine b.bare fun C b=>?_;obtain⟨j,l,m,o,p,q,r,s,u,v⟩:=cd b.bn;have x:=b.bt));go_ret;exact⟨rfl,b.bel⟩
  by_cases a5:(N.ks.length:Int)<=N.n
  ·rw[aC (by omega)];go_in;go_wp2_with (first|(go_at_call 170;refine b.bare fun C b=>?_;obtain⟨j,l,m,o,p,q,r,s,u,v⟩:=cd b.bn;have x:=b.bt));go_ret;exact⟨rfl,b.bel⟩
  rw[bH (by omega)];obtain⟨d,J⟩:∃d:Nat,N.n=(d:Int):=⟨N.n.toNat,by omega⟩;have K:N.n.toNat=d:=by omega
  rw[K];have a9:d<N.ks.length:=by omega
  have af:=aq J;obtain⟨B,F⟩:=az (tgB f N d 0);rw[F];have ak:alC f N d 0 B:=⟨F⟩;clear F J K;go_in;go_wp2_with (first|(go_at_call 170;refine b.bare fun C b=>?_;obtain⟨j,l,m,o,p,q,r,s,u,v⟩:=cd b.bn;have x:=b.bt));go_loopw [7] (fun I wr=>∃(c:Nat),I= Z Ax c/\c<=d/\alC f N (d-c) c B/\St w (A2 al f.length ap) f N (A2 am N.nm.length ar) (A2 an N.ks.length av) wr) (fun I _=>d-(A9 I).toNat)
  case atStart=>exact⟨0,rfl,by omega,ak,b⟩
  case round=>
   clear b;obtain⟨c,rfl,a6,ad,b⟩:=hrel;obtain⟨bc,bd,bf,bh,bk,bl,bo,br,bs,bw⟩:=cd b.bn;have bx:=b.bt;have g:=ad.out;have G:=af.out;by_cases a8:c<d
   ·rw[show d-c=(d-(c+1))+1 by omega,tgB]at g;have a0:(c:Int)<N.n:=by omega
    have A:=qj b.a c (by omega);unfold jf at A;have z:=fun w=>Ge (fh f N c) w;clear G;generalize fh f N c=ao at g A z;cases hx:zJ ao with
    |false=>
     rw[hx,eo]at g;rw[hx]at z;have y:=aq g;clear g hx;go_wp2_with (first|(go_at_call 169;refine A.mono ?_;rintro e w' ⟨rfl,h⟩;replace b:=b.below h;clear h;obtain⟨j,l,m,o,p,q,r,s,u,v⟩:=cd b.bn;have x:=b.bt)|(go_at_call 173;refine dB (z _) ?_));go_ret;exact⟨by rw[<-y.out];rfl,b.bel⟩
    |true=>
     rw[hx,eI]at g;rw[hx]at z;have y:alC f N (d-(c+1)) (c+1) B:=⟨g⟩;clear g hx;go_wp2_with (first|(go_at_call 169;refine A.mono ?_;rintro e w' ⟨rfl,h⟩;replace b:=b.below h;clear h;obtain⟨j,l,m,o,p,q,r,s,u,v⟩:=cd b.bn;have x:=b.bt)|(go_at_call 173;refine dB (z _) ?_));exact⟨⟨c+1,by go_num,by omega,y,b⟩,by simp[A9];omega⟩
   ·rw[show d-c=0 by omega,tgB]at g;have y:=aq g;have a0:¬(c:Int)<N.n:=by omega
    have H:=lu _ _ f N _ _ d N.ks.length b.a.t b.a.n b.a.k b.a.ok (ag _) b.a.ln b.a.l2;unfold jf at H;rw[<-G]at H;clear g G;go_wp2_with (go_at_call 172;refine H.mono ?_;rintro e w' ⟨rfl,h⟩;replace b:=b.below h;clear h;obtain⟨j,l,m,o,p,q,r,s,u,v⟩:=cd b.bn;have x:=b.bt);go_ret;exact⟨by rw[<-y.out];rfl,b.bel⟩
structure Lk (W:V) (lb mb:Nat) (vs:A0):Prop where
 b:W.heap[lb]?=O (.cells #[.map (O mb),vs] 95 (0,0))
 m:W.ownsMap M 9 (plainElem (H:=Unit) M 3) mb 22 (xF 22)
 e:nA W
theorem sF{mb n:Nat}{D:DataW Unit}(h:W.ownsMap M 9 (plainElem (H:=Unit) M 3) mb n D)(c:W'.heap[mb]?=W.heap[mb]?):W'.ownsMap M 9 (plainElem (H:=Unit) M 3) mb n D:=by
 obtain⟨b,a,d,e⟩:=h;exact⟨b,a,c.trans d,e⟩
theorem nA.keep(h:nA W)(a:Bs W.heap.size W W'):nA W':=by
 obtain⟨⟨b,c,f⟩,⟨d,e,g⟩⟩:=h;exact⟨⟨b,c,aj a f⟩,⟨d,e,aj a g⟩⟩
theorem Lk.below{lb mb:Nat}{c:A0}(h:Lk W lb mb c)(a:Bs W.heap.size W W'):Lk W' lb mb c:=
 ⟨(a.block _ (ai h.b)).trans h.b,sF h.m (a.block _ h.m.lt),h.e.keep a⟩
theorem uq(w:V)(lb mb:Nat)(j:A0)(s:ByteArray)(i:s.size<=1100000)(h:Lk w lb mb j):
  A5 M 229 #[Q (O ⟨lb,0,U⟩),Y s] w fun e w'=>e= S (B0 (oL s))/\w'=w:=by
 have l:w.cell? ⟨lb,0,U⟩=O (.map (O mb)):=by rw[au _ _ _ _ _ _ h.b];rfl
 have c:=KC s i mb w h.m;by_cases f:s.size<=40
 ·have e:decide (bJ (ax s 0)=B4/\mi s (s.size+1) 0=s.size/\ti s=Br)=oL s:=by
   unfold oL;by_cases a:bJ (ax s 0)=B4/\mi s (s.size+1) 0=s.size/\ti s=Br
   ·rw[bH a,bH ⟨f,a⟩]
   ·rw[aC a,aC (fun d=>a d.2)]
  rw[e]at c;generalize oL s=k at c⊢;clear e h;have g:(s.size:Int)<=40:=by omega
  go_in;go_wp2_with (go_at_call 261;refine c.mono ?_;rintro e w' ⟨rfl,rfl⟩);go_ret;exact⟨rfl,rfl⟩
 ·have e:oL s=Br:=by unfold oL;rw[aC (fun d=>f d.1)]
  rw[e];have g:¬(s.size:Int)<=40:=by omega
  clear c;go_in;go_wp2;go_ret;exact⟨rfl,rfl⟩
theorem yo(w:V)(lb mb:Nat)(q:A0)(vn:A0)(l:List ByteArray)(h:Lk w lb mb q)(n:cu w vn l)(x:l.length<=1048576)(p:∀s∈l,s.size<=1048576):
  A5 M 184 #[Q (O ⟨lb,0,U⟩),vn] w fun e w'=>e= S (B0 (uf l l.length 0))/\w'=w:=by
 have f:=lD n p h;obtain⟨A,B,rfl⟩:=n.form;obtain⟨k,g⟩:=az (uf l l.length 0);rw[g];obtain⟨b,m⟩:=az l.length;have t:=aq m;rw[m]at f x g⊢;have u:Ey l b 0 k:=⟨g⟩;clear m n p h g;go_in;go_wp2_with fail;go_loop [9] (fun o=>∃(a:Nat),o= Z Ax a/\a<=b/\Ey l (b-a) a k) (fun o=>b-(A9 o).toNat)
 case atStart=>exact⟨0,rfl,by omega,u⟩
 case round=>
  obtain⟨a,rfl,E,r⟩:=hrel;have c:=r.out;by_cases y:a<b
  ·obtain⟨s,i⟩:=cy t.out y;have G:=f.2.1 s (cH i);obtain⟨H,rfl,C⟩:=f.1.get i;rw[show b-a=(b-(a+1))+1 by omega,uf,be,i,gl]at c;have v:(a:Int)<(b:Int):=by omega
   have F:(0:Int)<=(a:Int):=by omega
   have j:=uq w lb mb q s (by omega) f.2.2;clear i;cases hx:oL s with
   |true=>
    rw[hx,eI]at c;rw[hx]at j;have d:Ey l (b-(a+1)) (a+1) k:=⟨c⟩;clear c hx;go_wp2_with (go_at_call 229;refine j.mono ?_;rintro e z ⟨rfl,rfl⟩);go_round
    case rel=>exact⟨a+1,by go_num,by omega,d⟩
    case measure=>simp[A9];omega
   |false=>
    rw[hx,eo]at c;rw[hx]at j;have d:=aq c;clear c hx;go_wp2_with (go_at_call 229;refine j.mono ?_;rintro e z ⟨rfl,rfl⟩);go_ret;exact⟨by rw[<-d.out];rfl,rfl⟩
  ·rw[show b-a=0 by omega,uf]at c;have d:=aq c;have v:¬(a:Int)<(b:Int):=by omega
   clear c;go_wp2_with fail;go_ret;exact⟨by rw[<-d.out];rfl,rfl⟩
def txB(k:Int)(x:ByteArray):Bool:=if k=24 then fok x else if k=25 then decide ((x.size:Int)<=4000) else oL x
theorem G8(w:V)(lb mb:Nat)(i:A0)(k:Int)(s:ByteArray)(g:s.size<=1100000)(h:Lk w lb mb i):
  A5 M 185 #[Q (O ⟨lb,0,U⟩),Z Ax k,Y s] w fun e w'=>e= S (B0 (txB k s))/\Bs w.heap.size w w':=by
 have b:=uq w lb mb i s g h;have a:=IK s g w h.e;unfold txB;by_cases c:k=24
 ·subst c;rw[ab rfl];unfold fok;by_cases f:s.size<=40
  ·have m:(s.size:Int)<=40:=by omega
   rw[bH f,eI];generalize qy s=j at a⊢;clear b h;go_in;go_wp2_with (go_at_call 230;refine a.mono ?_;rintro e w' ⟨rfl,l⟩);go_ret;exact⟨rfl,l⟩
  ·have m:¬(s.size:Int)<=40:=by omega
   rw[aC f,eo];clear b a h;go_in;go_wp2;go_ret;exact⟨rfl,ah _ _⟩
 by_cases d:k=25
 ·subst d;rw[aa (by decide),ab rfl];clear b a h c;go_in;go_wp2;go_ret;exact⟨rfl,ah _ _⟩
 rw[aa c,aa d];generalize oL s=j at b⊢;clear a h;go_in;go_wp2_with (go_at_call 229;refine b.mono ?_;rintro e w' ⟨rfl,rfl⟩);go_ret;exact⟨rfl,ah _ _⟩
def C8(k:Int):Int:=if k=2\/k=10 then 200 else if k=14 then 2 else 1
theorem AD(k:Int)(w:V):A5 M 183 #[Z Ax k] w fun e w'=>e= S (B6 #[Z Ax 1,Z Ax (C8 k)])/\w'=w:=by
 unfold C8;rcases(show k=2\/k=10\/k=14\/(¬k=2/\¬k=10/\¬k=14) by omega) with rfl|rfl|rfl|⟨b,c,a⟩
 ·rw[ab (by decide)];go_in;go_wp2;go_ret2;exact⟨rfl,rfl⟩
 ·rw[ab (by decide)];go_in;go_wp2;go_ret2;exact⟨rfl,rfl⟩
 ·rw[aa (by decide),ab rfl];go_in;go_wp2;go_ret2;exact⟨rfl,rfl⟩
 ·rw[aa (by omega),aa a];go_in;go_wp2;go_ret2;exact⟨rfl,rfl⟩
theorem ff0(w:V)(lb mb:Nat)(o:A0)(h:Lk w lb mb o)(b:Nat)(nk u x v y:Int)(vk:A0)(vn:A0)(l:List ByteArray)(g:cu w vn l)(k:l.length<=1048576)(m:∀s∈l,s.size<=1048576)
  (f:w.heap[b]?=O (B1 #[Z Ax nk,Z Ax u,Z Ax x,Z Ax v,Z Ax y,vk,vn] 196 (0,0))):
  A5 M 108 #[Q (O ⟨lb,0,U⟩),B3 194 (Q (O ⟨b,0,U⟩))] w fun e w'=>e= S (B0 (decide (1<=(l.length:Int)/\(l.length:Int)<=C8 nk)&&uf l l.length 0))/\w'=w:=by
 have B:=fun w=>asT b w;have C:=fun w=>asF b w;have c:=fun w=>AD nk w;have a:=yo w lb mb o vn l h g k m;obtain⟨q,t,rfl⟩:=g.form;have A:w.cell? ⟨b,0,U⟩=O (Z Ax nk):=by rw[au _ _ _ _ _ _ f];rfl
 have r:w.cell? ⟨b,6,U⟩=O (A2 q l.length t):=by rw[au _ _ _ _ _ _ f];rfl
 generalize uf l l.length 0=z at a⊢;generalize l.length=n at k a r⊢;generalize C8 nk=p at c⊢;clear f g m h;by_cases i:1<=(n:Int)
 ·by_cases j:(n:Int)<=p
  ·rw[bH ⟨i,j⟩,eI];go_in;go_wp2_with (first|(go_at_call 183;refine dB (c _) ?_)|(go_at_call 184;refine a.mono ?_;rintro e w' ⟨rfl,rfl⟩));go_ret;exact⟨rfl,rfl⟩
  ·rw[aC (fun d=>j d.2),eo];clear a;go_in;go_wp2_with (go_at_call 183;refine dB (c _) ?_);go_ret;exact⟨rfl,rfl⟩
 ·rw[aC (fun d=>i d.1),eo];clear a;go_in;go_wp2_with (go_at_call 183;refine dB (c _) ?_);go_ret;exact⟨rfl,rfl⟩
theorem ff1(w:V)(lb:Nat)(b:Nat)(nk l n m o a:Int)(i:Option Addr)(c j:Nat)(r:c<=1048576)
  (h:w.heap[b]?=O (B1 #[Z Ax nk,Z Ax l,Z Ax n,Z Ax m,Z Ax o,A2 i c j,Z Ax a] 157 (0,0))):
  A5 M 108 #[Q (O ⟨lb,0,U⟩),B3 154 (Q (O ⟨b,0,U⟩))] w fun e w'=>e= S (B0 (decide (1<=a/\a<(c:Int))))/\Bs w.heap.size w w':=by
 have s:=fun w=>asT b w;have u:=fun w=>asF b w;have p:w.cell? ⟨b,5,U⟩=O (A2 i c j):=by rw[au _ _ _ _ _ _ h];rfl
 have q:w.cell? ⟨b,6,U⟩=O (Z Ax a):=by rw[au _ _ _ _ _ _ h];rfl
 clear h;by_cases f:1<=a
 ·by_cases g:a<(c:Int)
  ·rw[bH ⟨f,g⟩];go_in;go_wp2_with fail;go_quiet (fail)
   go_wp2_with fail;go_ret;exact⟨rfl,nB (ah _ _) _⟩
  ·rw[aC (fun d=>g d.2)];have k:=aq g;go_in;go_wp2_with fail;go_quiet (fail)
   go_wp2_with fail;go_ret;exact⟨by show Ending.returned (B0 (decide (a<(c:Int))))=_;rw[aC (by have:=k.out;omega)],nB (ah _ _) _⟩
 ·rw[aC (fun d=>f d.1)];have t:decide ((1:Int)<=a)=Br:=aC f;go_in;go_wp2_with fail;go_quiet (fail)
  go_wp2_with fail;go_ret;exact⟨rfl,nB (ah _ _) _⟩
theorem ff2(w:V)(lb:Nat)(b:Nat):
  A5 M 108 #[Q (O ⟨lb,0,U⟩),B3 163 (Q (O ⟨b,0,U⟩))] w fun e w'=>e= S (B0 B4)/\w'=w:=by
 have a:=fun w=>asT b w;have c:=fun w=>asF b w;go_in;go_wp2;go_ret;exact⟨rfl,rfl⟩
theorem ff6(w:V)(lb:Nat)(b:Nat):
  A5 M 108 #[Q (O ⟨lb,0,U⟩),B3 124 (Q (O ⟨b,0,U⟩))] w fun e w'=>e= S (B0 B4)/\w'=w:=by
 have a:=fun w=>asT b w;have c:=fun w=>asF b w;go_in;go_wp2;go_ret;exact⟨rfl,rfl⟩
theorem ff3(w:V)(lb mb:Nat)(f:A0)(h:Lk w lb mb f)(b:Nat)(nk k m l n:Int)(vk:A0)(x:ByteArray)(j:x.size<=1100000)
  (a:w.heap[b]?=O (B1 #[Z Ax nk,Z Ax k,Z Ax m,Z Ax l,Z Ax n,vk,Y x] 165 (0,0))):
  A5 M 108 #[Q (O ⟨lb,0,U⟩),B3 166 (Q (O ⟨b,0,U⟩))] w fun e w'=>e= S (B0 (txB nk x))/\Bs w.heap.size w w':=by
 have p:=fun w=>asT b w;have q:=fun w=>asF b w;have d:=G8 w.drew lb mb f nk x j (h.below (aw (ah _ w)));have g:w.cell? ⟨b,0,U⟩=O (Z Ax nk):=by rw[au _ _ _ _ _ _ a];rfl
 have i:w.cell? ⟨b,6,U⟩=O (Y x):=by rw[au _ _ _ _ _ _ a];rfl
 generalize txB nk x=o at d⊢;clear a h;go_in;go_wp2_with fail;go_region_held3 (fun w'=>w'.cell? ⟨b,0,U⟩=O (Z Ax nk)/\w'.cell? ⟨b,6,U⟩=O (Y x)) (first|go_keep|exact⟨aj c g,aj c i⟩) ((go_at_call 185;refine d.mono ?_;rintro e r ⟨rfl,c⟩))
 go_wp2_with fail;go_ret;exact⟨rfl,(aw (ah _ w)).trans c⟩
theorem ff4(w:V)(lb:Nat)(b:Nat)(nk g i h j a:Int)(vk:A0)
  (d:w.heap[b]?=O (B1 #[Z Ax nk,Z Ax g,Z Ax i,Z Ax h,Z Ax j,vk,Z Ax a] 174 (0,0))):
  A5 M 108 #[Q (O ⟨lb,0,U⟩),B3 172 (Q (O ⟨b,0,U⟩))] w fun e w'=>e= S (B0 (if nk=30 then(decide ((19:Int)<=a)&&decide (a<=22)) else(decide ((1:Int)<=a)&&decide (a<=18))))/\w'=w:=by
 have m:=fun w=>asT b w;have n:=fun w=>asF b w;have k:w.cell? ⟨b,0,U⟩=O (Z Ax nk):=by rw[au _ _ _ _ _ _ d];rfl
 have l:w.cell? ⟨b,6,U⟩=O (Z Ax a):=by rw[au _ _ _ _ _ _ d];rfl
 clear d;by_cases f:nk=30
 ·rw[ab f];by_cases c:(19:Int)<=a
  ·rw[bH c,eI];go_in;go_wp2;go_ret;exact⟨rfl,rfl⟩
  ·rw[aC c,eo];go_in;go_wp2;go_ret;exact⟨rfl,rfl⟩
 ·rw[aa f];by_cases c:(1:Int)<=a
  ·rw[bH c,eI];go_in;go_wp2;go_ret;exact⟨rfl,rfl⟩
  ·rw[aC c,eo];go_in;go_wp2;go_ret;exact⟨rfl,rfl⟩
theorem ff5(w:V)(lb mb:Nat)(i:A0)(h:Lk w lb mb i)(b:Nat)(nk o q p r:Int)(vk:A0)(vn:A0)(k:Bool)(l:List ByteArray)(a:cu w vn l)(f:l.length<=1048576)(g:∀s∈l,s.size<=1048576)
  (d:w.heap[b]?=O (B1 #[Z Ax nk,Z Ax o,Z Ax q,Z Ax p,Z Ax r,vk,vn,B0 k] 199 (0,0))):
  A5 M 108 #[Q (O ⟨lb,0,U⟩),B3 197 (Q (O ⟨b,0,U⟩))] w fun e w'=>e= S (B0 (uf l l.length 0))/\w'=w:=by
 have u:=fun w=>asT b w;have v:=fun w=>asF b w;have c:=yo w lb mb i vn l h a f g;obtain⟨j,n,rfl⟩:=a.form;have m:w.cell? ⟨b,6,U⟩=O (A2 j l.length n):=by rw[au _ _ _ _ _ _ d];rfl
 generalize uf l l.length 0=t at c⊢;generalize l.length=x at f c m⊢;clear d a g h;go_in;go_wp2_with (go_at_call 184;refine c.mono ?_;rintro e w' ⟨rfl,rfl⟩);go_ret;exact⟨rfl,rfl⟩
theorem C9(k:Int):de k=0\/de k=1\/de k=2\/de k=3\/de k=4\/de k=5\/de k=6:=by
 unfold de
 repeat' split
 all_goals simp
theorem rB(k:Int)(b:Nat)(w:V):(method 443 (jy (de k)) (Q (O ⟨b,0,U⟩)) "loop.example/warp/impl.head").run M w= .ok (336,Q (O ⟨b,0,U⟩)) w:=ru _ b w
def Ai(i f:Nat):List UInt8:=(wB i).data.toList++(if f=1 then [42] else if f=2 then [63] else [])
def wS(i f:Nat):ByteArray:=⟨(Ai i f).toArray⟩
def wS1(i f:Nat):ByteArray:=⟨((wB i).data.toList++(if f=2 then [63] else [])).toArray⟩
theorem aoF:∀i f,i<10->f<3->(⟨(Lib.trimSuffix (wS i f).data.toList [42]).toArray⟩:ByteArray)=wS1 i f/\Lib.hasSuffix (wS i f).data.toList [42]=(f==1)
 |0,0,_,_=>⟨rfl,rfl⟩
 |0,1,_,_=>⟨rfl,rfl⟩
 |0,2,_,_=>⟨rfl,rfl⟩
 |1,0,_,_=>⟨rfl,rfl⟩
 |1,1,_,_=>⟨rfl,rfl⟩
 |1,2,_,_=>⟨rfl,rfl⟩
 |2,0,_,_=>⟨rfl,rfl⟩
 |2,1,_,_=>⟨rfl,rfl⟩
 |2,2,_,_=>⟨rfl,rfl⟩
 |3,0,_,_=>⟨rfl,rfl⟩
 |3,1,_,_=>⟨rfl,rfl⟩
 |3,2,_,_=>⟨rfl,rfl⟩
 |4,0,_,_=>⟨rfl,rfl⟩
 |4,1,_,_=>⟨rfl,rfl⟩
 |4,2,_,_=>⟨rfl,rfl⟩
 |5,0,_,_=>⟨rfl,rfl⟩
 |5,1,_,_=>⟨rfl,rfl⟩
 |5,2,_,_=>⟨rfl,rfl⟩
 |6,0,_,_=>⟨rfl,rfl⟩
 |6,1,_,_=>⟨rfl,rfl⟩
 |6,2,_,_=>⟨rfl,rfl⟩
 |7,0,_,_=>⟨rfl,rfl⟩
 |7,1,_,_=>⟨rfl,rfl⟩
 |7,2,_,_=>⟨rfl,rfl⟩
 |8,0,_,_=>⟨rfl,rfl⟩
 |8,1,_,_=>⟨rfl,rfl⟩
 |8,2,_,_=>⟨rfl,rfl⟩
 |9,0,_,_=>⟨rfl,rfl⟩
 |9,1,_,_=>⟨rfl,rfl⟩
 |9,2,_,_=>⟨rfl,rfl⟩
theorem aoG:∀i f,i<10->f<3->(⟨(Lib.trimSuffix (wS1 i f).data.toList [63]).toArray⟩:ByteArray)=wB i/\Lib.hasSuffix (wS1 i f).data.toList [63]=(f==2)
 |0,0,_,_=>⟨rfl,rfl⟩
 |0,1,_,_=>⟨rfl,rfl⟩
 |0,2,_,_=>⟨rfl,rfl⟩
 |1,0,_,_=>⟨rfl,rfl⟩
 |1,1,_,_=>⟨rfl,rfl⟩
 |1,2,_,_=>⟨rfl,rfl⟩
 |2,0,_,_=>⟨rfl,rfl⟩
 |2,1,_,_=>⟨rfl,rfl⟩
 |2,2,_,_=>⟨rfl,rfl⟩
 |3,0,_,_=>⟨rfl,rfl⟩
 |3,1,_,_=>⟨rfl,rfl⟩
 |3,2,_,_=>⟨rfl,rfl⟩
 |4,0,_,_=>⟨rfl,rfl⟩
 |4,1,_,_=>⟨rfl,rfl⟩
 |4,2,_,_=>⟨rfl,rfl⟩
 |5,0,_,_=>⟨rfl,rfl⟩
 |5,1,_,_=>⟨rfl,rfl⟩
 |5,2,_,_=>⟨rfl,rfl⟩
 |6,0,_,_=>⟨rfl,rfl⟩
 |6,1,_,_=>⟨rfl,rfl⟩
 |6,2,_,_=>⟨rfl,rfl⟩
 |7,0,_,_=>⟨rfl,rfl⟩
 |7,1,_,_=>⟨rfl,rfl⟩
 |7,2,_,_=>⟨rfl,rfl⟩
 |8,0,_,_=>⟨rfl,rfl⟩
 |8,1,_,_=>⟨rfl,rfl⟩
 |8,2,_,_=>⟨rfl,rfl⟩
 |9,0,_,_=>⟨rfl,rfl⟩
 |9,1,_,_=>⟨rfl,rfl⟩
 |9,2,_,_=>⟨rfl,rfl⟩
theorem abK:∀i f,i<10->f<3->(wS i f).size<=10/\(wS1 i f).size<=10
 |0,0,_,_=>by decide
 |0,1,_,_=>by decide
 |0,2,_,_=>by decide
 |1,0,_,_=>by decide
 |1,1,_,_=>by decide
 |1,2,_,_=>by decide
 |2,0,_,_=>by decide
 |2,1,_,_=>by decide
 |2,2,_,_=>by decide
 |3,0,_,_=>by decide
 |3,1,_,_=>by decide
 |3,2,_,_=>by decide
 |4,0,_,_=>by decide
 |4,1,_,_=>by decide
 |4,2,_,_=>by decide
 |5,0,_,_=>by decide
 |5,1,_,_=>by decide
 |5,2,_,_=>by decide
 |6,0,_,_=>by decide
 |6,1,_,_=>by decide
 |6,2,_,_=>by decide
 |7,0,_,_=>by decide
 |7,1,_,_=>by decide
 |7,2,_,_=>by decide
 |8,0,_,_=>by decide
 |8,1,_,_=>by decide
 |8,2,_,_=>by decide
 |9,0,_,_=>by decide
 |9,1,_,_=>by decide
 |9,2,_,_=>by decide
theorem aoH(i f:Nat)(b:i<10)(a:f<3)(w:V):A5 M 237 #[Y (wS i f),Y ⟨#[42]⟩] w fun e w'=>e= S (B6 #[Y (wS1 i f),B0 (f==1)])/\w'=w:=by
 refine dB (Tryz.strings_CutSuffix (wS i f) ⟨#[42]⟩ w (by have:=(abK i f b a).1;omega)) ?_;obtain⟨c,d⟩:=aoF i f b a;refine⟨?_,rfl⟩;rw[<-c,<-d]
theorem aoI(i f:Nat)(b:i<10)(a:f<3)(w:V):A5 M 237 #[Y (wS1 i f),Y ⟨#[63]⟩] w fun e w'=>e= S (B6 #[Y (wB i),B0 (f==2)])/\w'=w:=by
 refine dB (Tryz.strings_CutSuffix (wS1 i f) ⟨#[63]⟩ w (by have:=(abK i f b a).2;omega)) ?_;obtain⟨c,d⟩:=aoG i f b a;refine⟨?_,rfl⟩;rw[<-c,<-d]
def gJ(W:V)(v:A0)(ks:List Int):Prop:=
 (ks=[]/\∃a b,v= A2 a 0 b)\/∃a b,v= A2 (O a) ks.length b/\ks.length<=b/\∀e c,ks[e]?=O c->∃d,W.cell? (a.add e)=O (er c d)/\W.cell? ⟨d,0,U⟩=O (Z Ax c)
theorem gJ.below{v:A0}(h:gJ W v ks)(a:Bs W.heap.size W W'):gJ W' v ks:=by
 rcases h with h|⟨b,d,g,i,j⟩
 ·exact .inl h
 ·exact .inr ⟨b,d,g,i,fun l m k=>by obtain⟨c,e,f⟩:=j l m k;exact⟨c,aj a e,aj a f⟩⟩
theorem gJ.form{v:A0}(h:gJ W v ks):∃a c,v= A2 a ks.length c:=by
 rcases h with⟨rfl,a,c,h⟩|⟨a,c,b,d⟩
 ·exact⟨a,c,h⟩
 ·exact⟨_,_,b⟩
theorem gJ.get{a:Option Addr}{n c:Nat}(h:gJ W (A2 a n c) ks){j:Nat}{k:Int}(e:ks[j]?=O k):∃d b,a=O d/\W.cell? (d.add j)=O (er k b)/\W.cell? ⟨b,0,U⟩=O (Z Ax k):=by
 rcases h with⟨rfl,_⟩|⟨d,m,f,_,l⟩
 ·simp at e
 ·cases f;obtain⟨b,g,i⟩:=l j k e;exact⟨d,b,rfl,g,i⟩
def Id(i f:Nat)(ks:List Int):Nat:=if f=1 then(ks.takeWhile (ms i)).length else min 1 (ks.takeWhile (ms i)).length
def eH:List (Nat×Nat)->List Int->Bool
 |[],ks=>ks.isEmpty
 |(i,f)::a,ks=>if Id i f ks=0/\f=0 then Br else eH a (ks.drop (Id i f ks))
structure Da (ws:List (Nat×Nat)) (ks:List Int) (R:Bool):Prop where
 out:eH ws ks=R
theorem agd(p:Int->Bool):∀(ks:List Int)(t:Nat),t<=(ks.takeWhile p).length->(t<(ks.takeWhile p).length↔∃k,ks[t]?=O k/\p k=B4)
 |[],t,h=>by simp at h;subst h;simp
 |a::r,t,h=>by
  cases hp:p a with
  |false=>
   rw[Fl (by simp[hp])]at h⊢;simp at h;subst h;simp[hp]
  |true=>
   rw[Fp (by simp[hp])]at h⊢;cases t with
   |zero=>simp[hp]
   |succ t=>
    simp only[bB]at h⊢;have b:=agd p r t (by omega);rw[show(t+1<(r.takeWhile p).length+1)↔t<(r.takeWhile p).length by omega,b];simp
theorem anp(p:Int->Bool)(ks:List Int):(ks.takeWhile p).length<=ks.length:=(List.takeWhile_sublist p).length_le
theorem alD(i f:Nat)(ks:List Int):Id i f ks<=ks.length:=by
 have:=anp (ms i) ks;unfold Id;split<;>omega
theorem alE(i f:Nat)(ks:List Int)(t:Nat)(h:t<=Id i f ks):t<Id i f ks↔(f=1\/t=0)/\∃k,ks[t]?=O k/\ms i k=B4:=by
 unfold Id at h⊢;by_cases a:f=1
 ·rw[ab a]at h⊢;rw[agd _ ks t h];simp[a]
 ·rw[aa a]at h⊢;by_cases b:t=0
  ·subst b;have:=agd (ms i) ks 0 (aL _);rw[show(0<min 1 (ks.takeWhile (ms i)).length)↔0<(ks.takeWhile (ms i)).length by omega,this];simp
  ·constructor
   ·intro h2;omega
   ·rintro ⟨h2|h2,_⟩
    ·exact absurd h2 a
    ·exact absurd h2 b
theorem nE{i f:Nat}{a:List (Nat×Nat)}{R:Bool}(h:Da ((i,f)::a) ks R)(b:¬(Id i f ks=0/\f=0)):Da a (ks.drop (Id i f ks)) R:=by
 have:=h.out;rw[eH,aa b]at this;exact⟨this⟩
theorem Aj{i f:Nat}{b:List (Nat×Nat)}{R:Bool}(h:Da ((i,f)::b) ks R)(a:Id i f ks=0/\f=0):R=Br:=by
 have:=h.out;rw[eH,ab a]at this;exact this.symm
theorem adx{α:Type}{a:List α}{k:Nat}{x:α}(h:a[k]?=O x):a.drop k=x::a.drop (k+1):=by
 have b:=(List.getElem?_eq_some_iff.1 h);rw[jo b.1,b.2]
theorem gJ.sl{a:Option Addr}{b c t:Nat}(h:gJ W (A2 a b c) ks)(i:ks.length=b)(o:t<=b):gJ W (A2 (if c=t then a else Option.map (fun x=>x.add t) a) (b-t) (c-t)) (ks.drop t):=by
 subst i;rcases h with⟨rfl,d,g,e⟩|⟨d,g,e,m,j⟩
 ·exact .inl ⟨by simp,_,_,by rw[show([]:List Int).length-t=0 by simp]⟩
 ·cases e;by_cases n:t=ks.length
  ·exact .inl ⟨by rw[jE (by omega)],_,_,by rw[show ks.length-t=0 by omega]⟩
  ·refine .inr ⟨d.add t,c-t,?_,by rw[ep];omega,fun k l f=>?_⟩
   ·rw[aa (by omega),ep];rfl
   ·rw[pI]at f;rw[Addr.add_add];exact j (t+k) l f
theorem wh(w:V)(row:ByteArray)(m:List (Nat×Nat))(v:A0)(ks:List Int)(cb:Lib.fields row.data.toList=m.map fun x=>Ai x.1 x.2)(ch:∀x∈m,x.1<10/\x.2<3)(cc:row.size<4294967281)(b5:∀(j:Nat) b,row.data.toList[j]?=O b->b.toNat<128)(cf:Lib.TabIs M w "strings.asciiSpace" .u8 Lib.asciiSpaceTab)(bx:gJ w v ks)(b7:ks.length<=1048576)(cg:m.length<=1048576):
  A5 M 187 #[Y row,v] w fun e w'=>e= S (B0 (eH m ks))/\Bs w.heap.size w w':=by
 have a7:=Tryz.strings_Fields row w cc b5 cf;rw[cb]at a7;obtain⟨H,bs⟩:=az (eH m ks);rw[bs];have b3:Da m ks H:=⟨bs⟩;have ao:Bs w.heap.size w (w.alloc (B1 ((m.map fun x=>Ai x.1 x.2).map fun a3=>Cb ⟨a3.toArray⟩).toArray 9)):=(ah _ w).alloc (ag _) _;have br:=bx.below ao;have bo:∀g k p,m[g]?=O (k,p)->(w.alloc (B1 ((m.map fun x=>Ai x.1 x.2).map fun a3=>Cb ⟨a3.toArray⟩).toArray 9)).cell? ⟨w.heap.size,g,U⟩=O (Y (wS k p)):=fun g k p bA=>by
  rw[au _ _ _ _ _ _ (aA w _)];simp[bA,wS]
 obtain⟨a4,bd⟩:=az m.length;have bl:=aq bd;have b4:=aq ch;have b8:(m.map fun x=>Ai x.1 x.2).length=a4:=by rw[cj,bd]
 rw[b8]at a7;rw[bd]at cg;obtain⟨cr,cs,rfl⟩:=bx.form;have b2:=aq b7;generalize w.alloc (B1 ((m.map fun x=>Ai x.1 x.2).map fun a3=>Cb ⟨a3.toArray⟩).toArray 9)=cq at a7 ao br bo;have b1:=aq bo;have bk:=aq br;generalize cv:ks.length=lk at bk⊢;go_in;go_wp21
 refine a7.mono ?_;rintro e b0 ⟨rfl,rfl⟩;go_wp21
 go_loop [1,14] (fun ck bh=>∃(g:Nat) (d:List Int),g<=a4/\bh= Z Ax g/\B7 (gJ b0 ck d/\d.length<=1048576)/\Da (m.drop g) d H) (fun _ bh=>a4-(A9 bh).toNat)
 case atStart=>exact⟨0,ks,aL _,rfl,⟨bk,b2⟩,b3⟩
 case round=>
  obtain⟨g,d,bA,rfl,a8,a9⟩:=hrel;obtain⟨I,J,rfl⟩:=a8.1.form;by_cases b9:g<a4
  ·have ct:(0:Int)<=(g:Int):=by omega
   obtain⟨⟨k,p⟩,bf⟩:=cy bl.out b9;obtain⟨a6,bc⟩:=b4.out _ (cH bf);simp only at a6 bc;have b6:=b1.out g k p bf;have ad:B7 (Da ((k,p)::m.drop (g+1)) d H):=by rw[adx bf]at a9;exact a9
   have a2:=fun w=>aoH k p a6 bc w;have kB:=fun w=>aoI k p a6 bc w;have L:=fun c w=>Gf k a6 c w;obtain⟨f,ap⟩:=az d.length;have A:=aq ap;have bb:=a8.2;rw[ap]at bb;have z:B7 (gJ b0 (A2 I f J) d):=by rw[<-ap];exact a8.1
   rw[ap];have bF:=alD k p d;have bE:=alE k p d;obtain⟨C,bt⟩:=az (Id k p d);rw[bt]at bF bE;rw[ap]at bF;have B:=aq bt;have ba:=aq bE;generalize wS k p=cl at b6 a2;generalize wS1 k p=cm at a2 kB;generalize wB k=cn at kB L;rcases(show p=0\/p=1\/p=2 by omega) with rfl|rfl|rfl
   ·go_wp21
    refine(a2 _).mono ?_;rintro e q ⟨rfl,rfl⟩;go_wp2_with fail;refine(kB _).mono ?_;rintro e q ⟨rfl,rfl⟩;go_wp2_with fail;go_loop [10] (fun G=>∃a:Nat,G= Z Ax a/\a<=C) (fun G=>C-(A9 G).toNat)
    case atStart=>exact⟨0,rfl,aL _⟩
    case round=>
     obtain⟨a,rfl,av⟩:=hrel;have K:=ba.out a av;have bD:(0:Int)<=(a:Int):=by omega
     by_cases ar:a<C
     ·obtain⟨a5,c,n,t⟩:=K.1 ar;obtain⟨o,b,rfl,i,al⟩:=z.get n;have E:(a:Int)<(f:Int):=by omega
      obtain rfl:a=0:=by rcases a5 with h|h;exact absurd h (by decide);exact h
      rw[show o.add 0=o from by unfold Addr.add;rw[ab rfl]]at i;have l:=fun w=>L c w;rw[t]at l;have u:=fun w=>rB c b w;have y:=fun w=>da b w;unfold er at i;generalize jy (de c)=am at i u;go_wp2_with (first|(go_at_call 238;refine(l _).mono ?_;rintro e q ⟨rfl,rfl⟩)|(go_at_call 336;refine(y _).mono ?_;rintro e q ⟨rfl,rfl⟩));go_round
      case rel=>exact⟨0+1,by go_num,by omega⟩
      case measure=>simp[A9];omega
     ·obtain rfl:a=C:=by omega
      by_cases an:a=0
      ·subst an;by_cases E:0<f
       ·have F:(0:Int)<(f:Int):=by omega
        obtain⟨c,n⟩:=cy A.out E;have t:ms k c=Br:=by
         cases h:ms k c
         ·rfl
         ·exact absurd (K.2 ⟨.inr rfl,c,n,h⟩) (by omega)
        obtain⟨o,b,af,i,al⟩:=z.get n;subst af;rw[show o.add 0=o from by unfold Addr.add;rw[ab rfl]]at i;have l:=fun w=>L c w;rw[t]at l;have u:=fun w=>rB c b w;have y:=fun w=>da b w;unfold er at i;generalize jy (de c)=am at i u;go_wp2_with (first|(go_at_call 238;refine(l _).mono ?_;rintro e ak ⟨rfl,rfl⟩)|(go_at_call 336;refine(y _).mono ?_;rintro e ak ⟨rfl,rfl⟩));go_ret;exact⟨by rw[Aj ad.out ⟨B.out,rfl⟩];rfl,ao⟩
       ·have F:¬(0:Int)<(f:Int):=by omega
        go_wp2_with fail;go_ret;exact⟨by rw[Aj ad.out ⟨B.out,rfl⟩];rfl,ao⟩
      ·have s:B7 (Da (m.drop (g+1)) (d.drop a) H):=by
        have h:=nE ad.out (by rw[B.out];omega);rw[B.out]at h;exact h
       have r:B7 (gJ q (A2 (if J=a then I else Option.map (fun x=>x.add a) I) (f-a) (J-a)) (d.drop a)/\(d.drop a).length<=1048576):=⟨z.sl A (by omega),by rw[ep,A.out];omega⟩;by_cases E:a<f
       ·have F:(a:Int)<(f:Int):=by omega
        go_wp2_with fail;exact⟨⟨g+1,d.drop a,by omega,by go_num,r,s⟩,by simp[A9];omega⟩
       ·have F:¬(a:Int)<(f:Int):=by omega
        go_wp2_with fail;exact⟨⟨g+1,d.drop a,by omega,by go_num,r,s⟩,by simp[A9];omega⟩
   ·go_wp2_with fail;refine(a2 _).mono ?_;rintro e q ⟨rfl,rfl⟩;go_wp2_with fail;refine(kB _).mono ?_;rintro e q ⟨rfl,rfl⟩;go_wp2_with fail;go_loop [10] (fun G=>∃a:Nat,G= Z Ax a/\a<=C) (fun G=>C-(A9 G).toNat)
    case atStart=>exact⟨0,rfl,aL _⟩
    case round=>
     obtain⟨a,rfl,av⟩:=hrel;have K:=ba.out a av;have bD:(0:Int)<=(a:Int):=by omega
     by_cases ar:a<C
     ·obtain⟨a5,c,n,t⟩:=K.1 ar;obtain⟨o,b,rfl,i,al⟩:=z.get n;have E:(a:Int)<(f:Int):=by omega
      have l:=fun w=>L c w;rw[t]at l;have u:=fun w=>rB c b w;have y:=fun w=>da b w;unfold er at i;generalize jy (de c)=am at i u;go_wp2_with (first|(go_at_call 238;refine(l _).mono ?_;rintro e q ⟨rfl,rfl⟩)|(go_at_call 336;refine(y _).mono ?_;rintro e q ⟨rfl,rfl⟩));go_round
      case rel=>exact⟨a+1,by go_num,by omega⟩
      case measure=>simp[A9];omega
     ·obtain rfl:a=C:=by omega
      by_cases an:a=0
      ·subst an;have s:B7 (Da (m.drop (g+1)) d H):=by
        have h:=nE ad.out (by rw[B.out];omega);rw[B.out,ey]at h;exact h
       have r:B7 (gJ q (A2 I f J) d/\d.length<=1048576):=⟨z.out,by rw[A.out];exact bb⟩;by_cases E:0<f
       ·have F:(0:Int)<(f:Int):=by omega
        obtain⟨c,n⟩:=cy A.out E;have t:ms k c=Br:=by
         cases h:ms k c
         ·rfl
         ·exact absurd (K.2 ⟨.inl (by first|rfl|trivial),c,n,h⟩) (by omega)
        obtain⟨o,b,af,i,al⟩:=z.get n;subst af;rw[show o.add 0=o from by unfold Addr.add;rw[ab rfl]]at i;have l:=fun w=>L c w;rw[t]at l;have u:=fun w=>rB c b w;have y:=fun w=>da b w;unfold er at i;generalize jy (de c)=am at i u;go_wp2_with (first|(go_at_call 238;refine(l _).mono ?_;rintro e ak ⟨rfl,rfl⟩)|(go_at_call 336;refine(y _).mono ?_;rintro e ak ⟨rfl,rfl⟩));exact⟨⟨g+1,d,by omega,by go_num,r,s⟩,by simp[A9];omega⟩
       ·have F:¬(0:Int)<(f:Int):=by omega
        go_wp2_with fail;exact⟨⟨g+1,d,by omega,by go_num,r,s⟩,by simp[A9];omega⟩
      ·have s:B7 (Da (m.drop (g+1)) (d.drop a) H):=by
        have h:=nE ad.out (by rw[B.out];omega);rw[B.out]at h;exact h
       have r:B7 (gJ q (A2 (if J=a then I else Option.map (fun x=>x.add a) I) (f-a) (J-a)) (d.drop a)/\(d.drop a).length<=1048576):=⟨z.sl A (by omega),by rw[ep,A.out];omega⟩;by_cases E:a<f
       ·have F:(a:Int)<(f:Int):=by omega
        obtain⟨c,n⟩:=cy A.out E;have t:ms k c=Br:=by
         cases h:ms k c
         ·rfl
         ·exact absurd (K.2 ⟨.inl (by first|rfl|trivial),c,n,h⟩) (by omega)
        obtain⟨o,b,af,i,al⟩:=z.get n;subst af;have l:=fun w=>L c w;rw[t]at l;have u:=fun w=>rB c b w;have y:=fun w=>da b w;unfold er at i;generalize jy (de c)=am at i u;go_wp2_with (first|(go_at_call 238;refine(l _).mono ?_;rintro e ak ⟨rfl,rfl⟩)|(go_at_call 336;refine(y _).mono ?_;rintro e ak ⟨rfl,rfl⟩));exact⟨⟨g+1,d.drop a,by omega,by go_num,r,s⟩,by simp[A9];omega⟩
       ·have F:¬(a:Int)<(f:Int):=by omega
        go_wp2_with fail;exact⟨⟨g+1,d.drop a,by omega,by go_num,r,s⟩,by simp[A9];omega⟩
   ·go_wp2_with fail;refine(a2 _).mono ?_;rintro e q ⟨rfl,rfl⟩;go_wp2_with fail;refine(kB _).mono ?_;rintro e q ⟨rfl,rfl⟩;go_wp2_with fail;go_loop [10] (fun G=>∃a:Nat,G= Z Ax a/\a<=C) (fun G=>C-(A9 G).toNat)
    case atStart=>exact⟨0,rfl,aL _⟩
    case round=>
     obtain⟨a,rfl,av⟩:=hrel;have K:=ba.out a av;have bD:(0:Int)<=(a:Int):=by omega
     by_cases ar:a<C
     ·obtain⟨a5,c,n,t⟩:=K.1 ar;obtain⟨o,b,rfl,i,al⟩:=z.get n;have E:(a:Int)<(f:Int):=by omega
      obtain rfl:a=0:=by rcases a5 with h|h;exact absurd h (by decide);exact h
      rw[show o.add 0=o from by unfold Addr.add;rw[ab rfl]]at i;have l:=fun w=>L c w;rw[t]at l;have u:=fun w=>rB c b w;have y:=fun w=>da b w;unfold er at i;generalize jy (de c)=am at i u;go_wp2_with (first|(go_at_call 238;refine(l _).mono ?_;rintro e q ⟨rfl,rfl⟩)|(go_at_call 336;refine(y _).mono ?_;rintro e q ⟨rfl,rfl⟩));go_round
      case rel=>exact⟨0+1,by go_num,by omega⟩
      case measure=>simp[A9];omega
     ·obtain rfl:a=C:=by omega
      by_cases an:a=0
      ·subst an;have s:B7 (Da (m.drop (g+1)) d H):=by
        have h:=nE ad.out (by rw[B.out];omega);rw[B.out,ey]at h;exact h
       have r:B7 (gJ q (A2 I f J) d/\d.length<=1048576):=⟨z.out,by rw[A.out];exact bb⟩;by_cases E:0<f
       ·have F:(0:Int)<(f:Int):=by omega
        obtain⟨c,n⟩:=cy A.out E;have t:ms k c=Br:=by
         cases h:ms k c
         ·rfl
         ·exact absurd (K.2 ⟨.inr rfl,c,n,h⟩) (by omega)
        obtain⟨o,b,af,i,al⟩:=z.get n;subst af;rw[show o.add 0=o from by unfold Addr.add;rw[ab rfl]]at i;have l:=fun w=>L c w;rw[t]at l;have u:=fun w=>rB c b w;have y:=fun w=>da b w;unfold er at i;generalize jy (de c)=am at i u;go_wp2_with (first|(go_at_call 238;refine(l _).mono ?_;rintro e ak ⟨rfl,rfl⟩)|(go_at_call 336;refine(y _).mono ?_;rintro e ak ⟨rfl,rfl⟩));exact⟨⟨g+1,d,by omega,by go_num,r,s⟩,by simp[A9];omega⟩
       ·have F:¬(0:Int)<(f:Int):=by omega
        go_wp2_with fail;exact⟨⟨g+1,d,by omega,by go_num,r,s⟩,by simp[A9];omega⟩
      ·have s:B7 (Da (m.drop (g+1)) (d.drop a) H):=by
        have h:=nE ad.out (by rw[B.out];omega);rw[B.out]at h;exact h
       have r:B7 (gJ q (A2 (if J=a then I else Option.map (fun x=>x.add a) I) (f-a) (J-a)) (d.drop a)/\(d.drop a).length<=1048576):=⟨z.sl A (by omega),by rw[ep,A.out];omega⟩;by_cases E:a<f
       ·have F:(a:Int)<(f:Int):=by omega
        go_wp2_with fail;exact⟨⟨g+1,d.drop a,by omega,by go_num,r,s⟩,by simp[A9];omega⟩
       ·have F:¬(a:Int)<(f:Int):=by omega
        go_wp2_with fail;exact⟨⟨g+1,d.drop a,by omega,by go_num,r,s⟩,by simp[A9];omega⟩
  ·obtain rfl:g=a4:=by omega
   have bw:=a9.out;rw[jE (by rw[bl.out];exact ag _),eH]at bw;have ca:((d.length:Int)==0)=H:=by
    rw[<-bw];cases d with
    |nil=>rfl
    |cons x cw=>simp;omega
   have bn:=aq ca;generalize d.length=f at bn⊢;go_wp2_with fail;go_ret;exact⟨by rw[<-bn.out];rfl,ao⟩
open Go.Lib (strCells strCells_length wpList_append_own_string)
structure Pg (w0:V) (T:ByteArray) (W:V):Prop where
 bel:Bs w0.heap.size w0 W
 row:∃(o:A0) (X:ByteArray) (ov:Bool),W.heap[w0.heap.size]?=O (.cells #[o,.bool ov] 54 (0,0))/\W.ownsRow (w0.heap.size+1) 5 1 o X.size (strCells X)/\X.size<=65536/\(T.size<=65536->ov=Br/\X=T)/\(65536<T.size->ov=B4)
theorem Pg.lt{a:V}{T:ByteArray}(h:Pg a T W):a.heap.size<W.heap.size:=by
 obtain⟨e,c,f,b,d⟩:=h.row;exact ai b
theorem Pg.below{c:V}{T:ByteArray}(h:Pg c T W)(a:Bs W.heap.size W W'):Pg c T W':=by
 obtain⟨j,d,k,b,e,f,g,i⟩:=h.row;exact⟨h.bel.trans (a.mono h.bel.size),j,d,k,(a.block _ (ai b)).trans b,cJ e a,f,g,i⟩
theorem G9(a:V)(T s:ByteArray)(w:V)(h:Pg a T w)(a9:s.size<=100000000):
  A5 M 332 #[.pointer (O ⟨a.heap.size,0,U⟩),.string s] w fun e w'=>e= .returned (.tuple #[])/\Pg a (T++s) w'/\Kq a.heap.size w w':=by
 obtain⟨ba,m,q,j,p,F,C,E⟩:=h.row;have G:=h.bel;obtain⟨b,z⟩:∃b,m.size=b:=⟨_,rfl⟩;rw[z]at p F;obtain⟨g,i,rfl⟩:=bI p;obtain⟨an,ao,ap,ar,a0⟩:=du aeJ;have am:=ai j;have a1:w.cell? ⟨a.heap.size,0,U⟩=O (.slice g b i):=by rw[au _ _ _ _ _ _ j];rfl
 have a2:w.cell? ⟨a.heap.size,1,U⟩=O (.bool q):=by rw[au _ _ _ _ _ _ j];rfl
 have a5:∀H,w.frozen? ⟨a.heap.size,H,U⟩=Br:=fun H=>co _ _ _ _ _ j;have A:=I1 j (by decide) p;have c:B7 (w.ownsRow (a.heap.size+1) 5 1 (.slice g b i) b (strCells m)/\w.heap[a.heap.size]?=O (.cells #[.slice g b i,.bool q] 54 (0,0))/\m.size=b/\Bs a.heap.size a w):=⟨p,j,z,G⟩;have r:B7 ((T.size<=65536->q=Br/\m=T)/\(65536<T.size->q=B4)):=⟨C,E⟩;clear p j z h G C E;by_cases a7:b+s.size>65536
 ·have ak:((b:Int)+(s.size:Int))>65536:=by omega
  have y:Pg a (T++s) (w.setCell ⟨a.heap.size,1,U⟩ (.bool B4)):=by
   refine⟨c.out.2.2.2.setCell (ag _) _,.slice g b i,m,B4,bz _ _ 1 _ _ _ c.out.2.1,?_,by rw[c.out.2.2.1];exact F,fun f=>?_,fun _=>rfl⟩
   ·rw[c.out.2.2.1];exact c.out.1.kept (row:=O a.heap.size) ⟨rfl,rfl,rfl,by simp[World.setCell],fun l n o=>aB _ _ _ _ (fun e=>o (by rw[e]))⟩ (by
     cases hv:(C2 g b i).ownBlock with
     |none=>exact .inl rfl
     |some K=>exact .inr (fun e=>by cases e;exact(A _ hv).1 rfl))
   ·rw[ay]at f;obtain⟨_,d⟩:=r.out.1 (by omega);have:=c.out.2.2.1;rw[d]at this;omega
  go_enter Tryz.func332,Tryz.ntmps332;go_wp21
  exact aI (dJ rfl _ _ _) rfl ⟨rfl,y,Kq.putP _ _ _ _⟩
 ·have ak:¬((b:Int)+(s.size:Int))>65536:=by omega
  go_enter Tryz.func332,Tryz.ntmps332;go_wp2_with (at_builtin;refine wpList_append_own_string _ rfl _ _ 39 9 rfl (a.heap.size+1) 5 an Tryz.underlying39 Tryz.underlying9 ao ap ar a0 _ _ _ rfl c.out.1 s rfl (by unfold maxLen;omega) (by omega) (by omega) ?_;intro bb x B k a8;obtain⟨t,u,rfl⟩:=bI B;have v:=(k.block _ am (fun e=>(A _ e.symm).1 rfl)).trans c.out.2.1;have bc:x.cell? ⟨a.heap.size,0,U⟩=O (.slice g b i):=(by rw[au _ _ _ _ _ _ v];rfl);have a6:x.frozen? ⟨a.heap.size,0,U⟩=Br:=co _ _ _ _ _ v);have y:Pg a (T++s) (x.setCell ⟨a.heap.size,0,U⟩ (.slice t (b+s.size) u)):=by
   refine⟨(c.out.2.2.2.grown k (by omega) (fun l n=>by have:=(A l n).2;omega)).setCell (ag _) _,.slice t (b+s.size) u,m++s,q,bz _ _ 0 _ _ _ v,?_,by rw[ay,c.out.2.2.1];omega,fun f=>?_,fun f=>?_⟩
   ·rw[ay,c.out.2.2.1,yd];exact B.kept (row:=O a.heap.size) ⟨rfl,rfl,rfl,by simp[World.setCell],fun l n o=>aB _ _ _ _ (fun e=>o (by rw[e]))⟩ (by
     cases hv:(C2 t (b+s.size) u).ownBlock with
     |none=>exact .inl rfl
     |some K=>exact .inr (fun e=>by cases e;exact(I1 v (by decide) B _ hv).1 rfl))
   ·rw[ay]at f;obtain⟨I,d⟩:=r.out.1 (by omega);exact⟨I,by rw[d]⟩
   ·rw[ay]at f;by_cases ad:T.size<=65536
    ·obtain⟨_,d⟩:=r.out.1 ad;have:=c.out.2.2.1;rw[d]at this;omega
    ·exact r.out.2 (by omega)
  have J:Kq a.heap.size w (x.setCell ⟨a.heap.size,0,U⟩ (.slice t (b+s.size) u)):=by
   refine⟨k.os,k.tape,k.output,by simp[World.setCell];exact k.size,fun l n o al=>?_⟩;rw[aB _ _ _ _ o];refine k.block l n (fun e=>?_);have d:(C2 g b i).ownBlock=O l:=e.symm;rcases c.out.1.2 with⟨f,_⟩|⟨L,a3,a4,f,_,af,_⟩
   ·rw[f]at d;simp[Er]at d
   ·rw[f]at d;obtain rfl:L=l:=by simpa [Er] using d
    exact al _ _ af
  go_end0
  exact⟨rfl,y,J⟩
def na(a:V)(t:Nat):A0:= E0 #[Q (O ⟨a.heap.size,0,U⟩),Y (eB t)]
def gG(a:V)(t:Nat):A0:= B3 59 (na a t)
theorem pq(b:Nat)(s:ByteArray)(w:V):(method 443 59 (E0 #[Q (O ⟨b,0,U⟩),Y s]) "loop.example/warp/impl.put").run M w= .ok (335,E0 #[Q (O ⟨b,0,U⟩),Y s]) w:=by kernel_rfl
theorem Ha(b:Nat)(s:ByteArray)(w:V):(method 443 59 (E0 #[Q (O ⟨b,0,U⟩),Y s]) "loop.example/warp/impl.newLine").run M w= .ok (334,E0 #[Q (O ⟨b,0,U⟩),Y s]) w:=by kernel_rfl
theorem abL(b:Nat)(s:ByteArray)(w:V):(method 443 59 (E0 #[Q (O ⟨b,0,U⟩),Y s]) "loop.example/warp/impl.inner").run M w= .ok (333,E0 #[Q (O ⟨b,0,U⟩),Y s]) w:=by kernel_rfl
theorem ajo(a:V)(t:Nat)(T s:ByteArray)(w:V)(h:Pg a T w)(i:s.size<=100000000):
  A5 M 335 #[na a t,Y s] w fun e w'=>e= S (B6 #[])/\Pg a (T++s) w'/\Kq a.heap.size w w':=by
 have d:∀c,Bs w.heap.size w (w.alloc c):=fun c=>(ah _ w).alloc (ag _) c;have f:B7 (∀b,Bs w.heap.size w b->A5 M 332 #[Q (O ⟨a.heap.size,0,U⟩),Y s] b fun e w'=>e= S (B6 #[])/\Pg a (T++s) w'/\Kq a.heap.size b w'):=fun b g=>G9 a T s b (h.below g) i;unfold na;generalize eB t=k;clear h;go_enter Tryz.func335,Tryz.ntmps335;go_wp2_with (go_at_call 332;refine(f.out _ (d _)).mono ?_;rintro e l ⟨rfl,p2,j⟩);go_end0
 exact⟨rfl,p2,(Kq.of_below (d _)).trans j⟩
theorem JL(a:V)(t:Nat)(k:t<=1000000)(T:ByteArray)(w:V)(h:Pg a T w):
  A5 M 334 #[na a t] w fun e w'=>e= S (B6 #[])/\Pg a (T++gH t) w'/\Kq a.heap.size w w':=by
 have f:∀d,Bs w.heap.size w (w.alloc d):=fun d=>(ah _ w).alloc (ag _) d;have c:B7 (∀b,Bs w.heap.size w b->A5 M 332 #[Q (O ⟨a.heap.size,0,U⟩),Y (gH t)] b fun e w'=>e= S (B6 #[])/\Pg a (T++gH t) w'/\Kq a.heap.size b w'):=fun b g=>G9 a T (gH t) b (h.below g) (by rw[ld];omega);have i:=rf t;unfold na;unfold gH at c⊢;generalize eB t=l at c i;clear h;go_enter Tryz.func334,Tryz.ntmps334;go_wp2_with (go_at_call 332;refine(c.out _ (f _)).mono ?_;rintro e m ⟨rfl,p2,j⟩);go_end0
 exact⟨rfl,p2,(Kq.of_below (f _)).trans j⟩
theorem ady(c:V)(t:Nat)(g:t<=1000000)(w:V):
  A5 M 333 #[na c t] w fun e w'=>e= S (gG c (t+1))/\Bs w.heap.size w w':=by
 have d:∀a,Bs w.heap.size w (w.alloc a):=fun a=>(ah _ w).alloc (ag _) a;have f:=rf t;have b:eB (t+1)=eB t++⟨#[9]⟩:=rfl;unfold gG na;rw[b];generalize eB t=h at f;clear b;go_enter Tryz.func333,Tryz.ntmps333;go_wp2_with fail;go_ret;exact⟨rfl,d _⟩
