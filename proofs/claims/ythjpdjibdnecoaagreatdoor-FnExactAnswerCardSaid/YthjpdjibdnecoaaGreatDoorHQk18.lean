import Derived.Test.YthjpdjibdnecoaaGreatDoorHQk13
set_option linter.all false
set_option maxRecDepth 100000
set_option maxHeartbeats 3200000
open Bool renaming false->M,true->U
open Go.Proofs.Tryz renaming prog->O
open Go.Ending renaming returned->Q
open Go renaming Value->R,World->S,Calls->T
namespace Go.Proofs.YthjpdjibdnecoaaGreatDoor
open Go.RowKit Go.Maps Go.WideMaps
theorem adm{w:S}{h:R}{ns:List Nd}{N:Nd}{vn vk:R}(c:fI w h ns N vn vk)(f:N.k=40):
  T O 67 #[.agg #[h],eC N vn vk] w fun e g=>e= Q (.bool (((N.ks.length:Int)==1)&&jk ns N 1 0&&aI N M M M M))/\Below w.heap.size w g:=by
 obtain⟨C,G,rfl⟩:=c.t.form;obtain⟨E,H,rfl⟩:=c.n.form;obtain⟨F,I,rfl⟩:=c.k.form;have b:=St.start c;have J:=c.lx;have B:Hid (N.x.size<=1100000):=by show _<=_;omega
 clear c;have K:=nF f;have L:=sn f 40 rfl;clear f;cases t0:((N.ks.length:Int)==1)
 case' true=>
  have i:N.ks.length=1:=by have:=ft t0;omega
  have j:Hid (1<=N.ks.length):=by show _<=_;omega
  have A:Hid (0<N.ks.length):=by show _<_;omega
  clear i;cases t1:jk ns N 1 0
  case' true=>
   cases t2:aI N M M M M
 all_goals
  unfold eC;go_in;go_wp2_with (first|(go_at_call 116;refine(db _ _ ns N _ _ 0 1 b.a.t b.a.n b.a.k b.a.ok j.out b.a.ln b.a.l2).mono ?_;rintro e g ⟨rfl,d⟩;replace b:=b.below d;clear d;obtain⟨l,m,o,p,q,r,s,u,v,y⟩:=ax b.bn;have z:=b.bt)|(go_at_call 114;refine(cE _ N _ _ b.a.n b.a.k b.a.l1).mono ?_;rintro e g ⟨rfl,d⟩;replace b:=b.below d;clear d;obtain⟨l,m,o,p,q,r,s,u,v,y⟩:=ax b.bn;have z:=b.bt));go_ret;exact⟨rfl,b.bel⟩
theorem adn{w:S}{h:R}{ns:List Nd}{N:Nd}{vn vk:R}(c:fI w h ns N vn vk)(f:N.k=41):
  T O 67 #[.agg #[h],eC N vn vk] w fun e g=>e= Q (.bool (((N.ks.length:Int)==2)&&jk ns N 2 0&&aI N M M M M))/\Below w.heap.size w g:=by
 obtain⟨E,H,rfl⟩:=c.t.form;obtain⟨F,I,rfl⟩:=c.n.form;obtain⟨G,J,rfl⟩:=c.k.form;have b:=St.start c;have K:=c.lx;have C:Hid (N.x.size<=1100000):=by show _<=_;omega
 clear c;have L:=nF f;have ad:=sn f 41 rfl;clear f;cases t0:((N.ks.length:Int)==2)
 case' true=>
  have i:N.ks.length=2:=by have:=ft t0;omega
  have j:Hid (2<=N.ks.length):=by show _<=_;omega
  have A:Hid (0<N.ks.length):=by show _<_;omega
  have B:Hid (1<N.ks.length):=by show _<_;omega
  clear i;cases t1:jk ns N 2 0
  case' true=>
   cases t2:aI N M M M M
 all_goals
  unfold eC;go_in;go_wp2_with (first|(go_at_call 116;refine(db _ _ ns N _ _ 0 2 b.a.t b.a.n b.a.k b.a.ok j.out b.a.ln b.a.l2).mono ?_;rintro e g ⟨rfl,d⟩;replace b:=b.below d;clear d;obtain⟨l,m,o,p,q,r,s,u,v,y⟩:=ax b.bn;have z:=b.bt)|(go_at_call 114;refine(cE _ N _ _ b.a.n b.a.k b.a.l1).mono ?_;rintro e g ⟨rfl,d⟩;replace b:=b.below d;clear d;obtain⟨l,m,o,p,q,r,s,u,v,y⟩:=ax b.bn;have z:=b.bt));go_ret;exact⟨rfl,b.bel⟩
theorem ado{w:S}{h:R}{ns:List Nd}{N:Nd}{vn vk:R}(d:fI w h ns N vn vk)(g:N.k=42):
  T O 67 #[.agg #[h],eC N vn vk] w fun e f=>e= Q (.bool (((N.ks.length:Int)==1)&&jk ns N 1 0&&aI N M M U M&&oz N.x))/\Below w.heap.size w f:=by
 obtain⟨C,G,rfl⟩:=d.t.form;obtain⟨E,H,rfl⟩:=d.n.form;obtain⟨F,I,rfl⟩:=d.k.form;have b:=St.start d;have J:=d.lx;have A:Hid (N.x.size<=1100000):=by show _<=_;omega
 clear d;have K:=nF g;have L:=sn g 42 rfl;clear g;cases t0:((N.ks.length:Int)==1)
 case' true=>
  have y:N.ks.length=1:=by have:=ft t0;omega
  have z:Hid (1<=N.ks.length):=by show _<=_;omega
  have B:Hid (0<N.ks.length):=by show _<_;omega
  clear y;cases t1:jk ns N 1 0
  case' true=>
   cases t2:aI N M M U M
   case' true=>
    cases t3:oz N.x
 all_goals
  unfold eC;go_in;go_wp2_with (first|(go_at_call 116;refine(db _ _ ns N _ _ 0 1 b.a.t b.a.n b.a.k b.a.ok z.out b.a.ln b.a.l2).mono ?_;rintro e f ⟨rfl,c⟩;replace b:=b.below c;clear c;obtain⟨i,j,l,m,o,p,q,r,s,u⟩:=ax b.bn;have v:=b.bt)|(go_at_call 114;refine(mA _ N _ _ b.a.n b.a.k b.a.l1).mono ?_;rintro e f ⟨rfl,c⟩;replace b:=b.below c;clear c;obtain⟨i,j,l,m,o,p,q,r,s,u⟩:=ax b.bn;have v:=b.bt)|(go_at_call 119;refine(nE N.x A.out _).mono ?_;rintro e f ⟨rfl,c⟩;replace b:=b.below c;clear c;obtain⟨i,j,l,m,o,p,q,r,s,u⟩:=ax b.bn;have v:=b.bt));go_ret;exact⟨rfl,b.bel⟩
theorem Hn{s t:ByteArray}(h:s≠t):(s.toList==t.toList)=M:=by
 rw[aK];intro a;apply h;rw[fj,fj]at a;cases s;cases t;simp only at a
 congr 1
 exact Array.toList_inj.1 a
theorem adp{s t:ByteArray}(h:s=t):(s.toList==t.toList)=U:=by subst h;simp
theorem JL(w:S)(E F:R)(c d:List ByteArray)(n:cH w E c)(o:cH w F d)(x:c.length<=1048576)(y:d.length<=1048576):
  T O 187 #[E,F] w fun e ak=>e= Q (.bool (decide (c=d)))/\Below w.heap.size w ak:=by
 obtain⟨J,L,rfl⟩:=n.form;obtain⟨K,ad,rfl⟩:=o.form;by_cases q:c.length=d.length
 ·obtain⟨m,r⟩:=ay (decide (c=d));rw[r];obtain⟨f,k⟩:=ay c.length;have p:d.length=f:=by rw[<-q];exact k
  have h:=iD k p r;have u:Hid (cH w (.slice J f L) c/\cH w (.slice K f ad) d):=⟨by rw[<-k];exact n,by rw[<-p];exact o⟩;rw[k]at x⊢;rw[p];clear n o k p r q y;go_in;go_wp2_with fail;go_loopw [13] (fun t wr=>∃b:Nat,b<=f/\t= .int .i64 b/\Hid (∀a,a<b->c[a]?=d[a]?)/\Below w.heap.size w wr) (fun t _=>f-(intOf t).toNat)
  case atStart=>exact⟨0,by omega,rfl,fun a af=>by omega,ag _ _⟩
  case round=>
   obtain⟨b,ar,rfl,v,j⟩:=hrel;by_cases z:b<f
   ·obtain⟨B,i⟩:=bL h.out.1 z;obtain⟨C,l⟩:=bL h.out.2.1 z;obtain⟨al,rfl,an⟩:=(u.out.1.below j).get i;obtain⟨am,rfl,ao⟩:=(u.out.2.below j).get l;have a0:(b:Int)<(f:Int):=by omega
    have av:(0:Int)<=(b:Int):=by omega
    by_cases s:B=C
    ·subst s;have G:Hid (∀a,a<b+1->c[a]?=d[a]?):=fun a af=>by
      rcases co a b with g|g
      ·exact v.out a g
      ·obtain rfl:a=b:=by omega
       rw[i,l]
     clear i l;go_wp2_with fail;go_quiet (fail)
     go_wp2_with fail;exact⟨⟨b+1,by omega,by go_num,G,my j _⟩,by simp[intOf];omega⟩
    ·have H:Hid (m=M):=by
      show m=M;rw[<-h.out.2.2];refine aB fun e=>s ?_;rw[e,l]at i;exact(bu i).symm
     have ap:(B.toList==C.toList)=M:=Hn s;clear i l;go_wp2_with fail;go_quiet (fail)
     go_wp2_with fail;go_ret;exact⟨by rw[H.out];rfl,my j _⟩
   ·obtain rfl:b=f:=by omega
    have I:Hid (m=U):=by
     show m=U;rw[<-h.out.2.2];refine bC (List.ext_getElem? fun a=>?_);rcases co a b with g|g
     ·exact v.out a g
     ·rw[jL (by rw[h.out.1];exact g),jL (by rw[h.out.2.1];exact g)]
    go_wp2_with fail;go_ret;exact⟨by rw[I.out];rfl,j⟩
 ·rw[aB (fun e=>q (by rw[e]))];have A:¬(c.length:Int)=(d.length:Int):=by omega
  generalize c.length=a3 at A x⊢;generalize d.length=a4 at A y⊢;clear n o q;go_in;go_wp2;go_ret;exact⟨rfl,ag _ _⟩
def zn(a N:Nd):Bool:=decide (a.op=N.op/\a.n=N.n/\a.x=N.x/\a.nm=N.nm)
theorem BD(w:S)(b N:Nd)(L ad vn vk:R)(l:cH w L b.nm)(m:cH w vn N.nm)(al:∃a n c,ad= .slice a n c)(ak:∃a n c,vk= .slice a n c)(am:b.nm.length<=1048576)(an:N.nm.length<=1048576):
  T O 138 #[eC b L ad,eC N vn vk] w fun e ao=>e= Q (.bool (zn b N))/\Below w.heap.size w ao:=by
 have k:∀g h,Below w.heap.size w ((w.alloc g).alloc h):=fun g h=>((ag _ w).alloc (ae _) g).alloc (by simp) h;have f:=fun g h=>JL ((w.alloc g).alloc h) L vn b.nm N.nm (l.below (k g h)) (m.below (k g h)) am an;obtain⟨a0,a8,rfl⟩:=l.form;obtain⟨a5,a9,rfl⟩:=m.form;obtain⟨a6,bh,bb,rfl⟩:=al;obtain⟨a7,bk,bd,rfl⟩:=ak;unfold eC zn;generalize b.nm.length=ap at f⊢;generalize N.nm.length=ar at f⊢;by_cases i:b.op=N.op
 ·by_cases o:b.n=N.n
  ·by_cases j:b.x=N.x
   ·have e:decide (b.op=N.op/\b.n=N.n/\b.x=N.x/\b.nm=N.nm)=decide (b.nm=N.nm):=by
     by_cases p:b.nm=N.nm
     ·rw[bC p,bC ⟨i,o,j,p⟩]
     ·rw[aB p,aB (fun d=>p d.2.2.2)]
    rw[e];have K:=adp j;generalize decide (b.nm=N.nm)=av at f⊢;clear e j l m;obtain⟨r,q,y,s,v,t,z,u,mks⟩:=b;obtain⟨B,A,I,E,H,F,J,G,C⟩:=N;simp only at i o K⊢;go_in;go_wp2_with (go_at_call 187;refine(f _ _).mono ?_;rintro e bl ⟨rfl,af⟩);go_ret;exact⟨rfl,(k _ _).trans (af.mono (by simp;omega))⟩
   ·rw[aB (fun d=>j d.2.2.1)];have K:=Hn j;clear j l m f;obtain⟨r,q,y,s,v,t,z,u,mks⟩:=b;obtain⟨B,A,I,E,H,F,J,G,C⟩:=N;simp only at i o K⊢;go_in;go_wp2;go_ret;exact⟨rfl,k _ _⟩
  ·rw[aB (fun d=>o d.2.1)];clear l m f;obtain⟨r,q,y,s,v,t,z,u,mks⟩:=b;obtain⟨B,A,I,E,H,F,J,G,C⟩:=N;simp only at i o⊢;go_in;go_wp2;go_ret;exact⟨rfl,k _ _⟩
 ·rw[aB (fun d=>i d.1)];clear l m f;obtain⟨r,q,y,s,v,t,z,u,mks⟩:=b;obtain⟨B,A,I,E,H,F,J,G,C⟩:=N;simp only at i⊢;go_in;go_wp2;go_ret;exact⟨rfl,k _ _⟩
