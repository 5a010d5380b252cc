import Derived.Test.YthjpdjibdnecoaaGreatDoorHQk13
set_option linter.all false
set_option maxRecDepth 100000
set_option maxHeartbeats 3200000
open Bool renaming false->M,true->V
open Go renaming Value->O,World->T,Calls->U
open Go.Proofs.Tryz renaming prog->Q
open Go.Ending renaming returned->S
namespace Go.Proofs.YthjpdjibdnecoaaGreatDoor
open Go.RowKit Go.Maps Go.WideMaps
theorem agy{w:T}{h:O}{ns:List Nd}{N:Nd}{vn vk:O}(d:fI w h ns N vn vk)(g:N.k=3):
  U Q 66 #[.agg #[h],eC N vn vk] w fun e f=>e= S (.bool (aI N M M M V&&fh N 1 1&&((N.ks.length:Int)==1)&&jk ns N 1 0))/\Below w.heap.size w f:=by
 obtain⟨C,G,rfl⟩:=d.t.form;obtain⟨E,H,rfl⟩:=d.n.form;obtain⟨F,I,rfl⟩:=d.k.form;have b:=St.start d;have J:=d.lx;have B:Hid (N.x.size<=1100000):=by show _<=_;omega
 clear d;have K:=nF g;have L:=sn g 3 rfl;clear g;cases t0:aI N M M M V
 case' true=>
  cases t1:fh N 1 1
  case' true=>
   cases t2:((N.ks.length:Int)==1)
   case' true=>
    have y:N.ks.length=1:=by have:=ft t2;omega
    have z:Hid (1<=N.ks.length):=by show _<=_;omega
    have A:Hid (0<N.ks.length):=by show _<_;omega
    clear y;cases t3:jk ns N 1 0
 all_goals
  unfold eC;go_in;go_wp2_with (first|(go_at_call 114;refine(jE _ N _ _ b.a.n b.a.k b.a.l1).mono ?_;rintro e f ⟨rfl,c⟩;replace b:=b.below c;clear c;obtain⟨i,j,l,m,o,p,q,r,s,u⟩:=ax b.bn;have v:=b.bt)|(go_at_call 115;refine(iK _ N _ _ 1 1 b.a.n b.a.k b.a.l1 b.a.ls).mono ?_;rintro e f ⟨rfl,c⟩;replace b:=b.below c;clear c;obtain⟨i,j,l,m,o,p,q,r,s,u⟩:=ax b.bn;have v:=b.bt)|(go_at_call 116;refine(db _ _ ns N _ _ 0 1 b.a.t b.a.n b.a.k b.a.ok z.out b.a.ln b.a.l2).mono ?_;rintro e f ⟨rfl,c⟩;replace b:=b.below c;clear c;obtain⟨i,j,l,m,o,p,q,r,s,u⟩:=ax b.bn;have v:=b.bt));go_ret;exact⟨rfl,b.bel⟩
theorem agz{w:T}{h:O}{ns:List Nd}{N:Nd}{vn vk:O}(d:fI w h ns N vn vk)(g:N.k=8):
  U Q 66 #[.agg #[h],eC N vn vk] w fun e f=>e= S (.bool (aI N M M M M&&((N.ks.length:Int)==2)&&jk ns N 1 0&&(dH ns N 1==1)))/\Below w.heap.size w f:=by
 obtain⟨E,H,rfl⟩:=d.t.form;obtain⟨F,I,rfl⟩:=d.n.form;obtain⟨G,J,rfl⟩:=d.k.form;have b:=St.start d;have K:=d.lx;have C:Hid (N.x.size<=1100000):=by show _<=_;omega
 clear d;have L:=nF g;have ad:=sn g 8 rfl;clear g;cases t0:aI N M M M M
 case' true=>
  cases t1:((N.ks.length:Int)==2)
  case' true=>
   have y:N.ks.length=2:=by have:=ft t1;omega
   have z:Hid (1<=N.ks.length):=by show _<=_;omega
   have B:Hid (0<N.ks.length):=by show _<_;omega
   have A:Hid (1<N.ks.length):=by show _<_;omega
   clear y;cases t2:jk ns N 1 0
   case' true=>
    cases t3:(dH ns N 1==1)
 all_goals
  unfold eC;go_in;go_wp2_with (first|(go_at_call 114;refine(cE _ N _ _ b.a.n b.a.k b.a.l1).mono ?_;rintro e f ⟨rfl,c⟩;replace b:=b.below c;clear c;obtain⟨i,j,l,m,o,p,q,r,s,u⟩:=ax b.bn;have v:=b.bt)|(go_at_call 116;refine(db _ _ ns N _ _ 0 1 b.a.t b.a.n b.a.k b.a.ok z.out b.a.ln b.a.l2).mono ?_;rintro e f ⟨rfl,c⟩;replace b:=b.below c;clear c;obtain⟨i,j,l,m,o,p,q,r,s,u⟩:=ax b.bn;have v:=b.bt)|(go_at_call 113;with_reducible refine(xy b.a A.out).mono ?_;rintro e f ⟨rfl,c⟩;replace b:=b.below c;clear c;obtain⟨i,j,l,m,o,p,q,r,s,u⟩:=ax b.bn;have v:=b.bt));go_ret;exact⟨rfl,b.bel⟩
theorem adq{w:T}{g:O}{ns:List Nd}{N:Nd}{vn vk:O}(c:fI w g ns N vn vk)(d:N.k=11):
  U Q 66 #[.agg #[g],eC N vn vk] w fun e h=>e= S (.bool (aI N M M M M&&((N.ks.length:Int)==0)))/\Below w.heap.size w h:=by
 obtain⟨j,o,rfl⟩:=c.t.form;obtain⟨l,p,rfl⟩:=c.n.form;obtain⟨m,q,rfl⟩:=c.k.form;have b:=St.start c;have r:=c.lx;have i:Hid (N.x.size<=1100000):=by show _<=_;omega
 clear c;have s:=nF d;have u:=sn d 11 rfl;clear d;cases t0:aI N M M M M
 case' true=>
  cases t1:((N.ks.length:Int)==0)
 all_goals
  unfold eC;go_in;go_wp2_with (first|(go_at_call 114;refine(cE _ N _ _ b.a.n b.a.k b.a.l1).mono ?_;rintro e h ⟨rfl,f⟩;replace b:=b.below f;clear f;obtain⟨v,y,z,A,B,C,E,F,G,H⟩:=ax b.bn;have I:=b.bt));go_ret;exact⟨rfl,b.bel⟩
theorem adr{w:T}{g:O}{ns:List Nd}{N:Nd}{vn vk:O}(c:fI w g ns N vn vk)(d:N.k=12):
  U Q 66 #[.agg #[g],eC N vn vk] w fun e h=>e= S (.bool (aI N M M M M&&((N.ks.length:Int)==0)))/\Below w.heap.size w h:=by
 obtain⟨j,o,rfl⟩:=c.t.form;obtain⟨l,p,rfl⟩:=c.n.form;obtain⟨m,q,rfl⟩:=c.k.form;have b:=St.start c;have r:=c.lx;have i:Hid (N.x.size<=1100000):=by show _<=_;omega
 clear c;have s:=nF d;have u:=sn d 12 rfl;clear d;cases t0:aI N M M M M
 case' true=>
  cases t1:((N.ks.length:Int)==0)
 all_goals
  unfold eC;go_in;go_wp2_with (first|(go_at_call 114;refine(cE _ N _ _ b.a.n b.a.k b.a.l1).mono ?_;rintro e h ⟨rfl,f⟩;replace b:=b.below f;clear f;obtain⟨v,y,z,A,B,C,E,F,G,H⟩:=ax b.bn;have I:=b.bt));go_ret;exact⟨rfl,b.bel⟩
def tgB(ns:List Nd)(N:Nd):Nat->Nat->Bool
 |0,_=>V
 |f+1,j=>By (dH ns N j)&&tgB ns N f (j+1)
structure ai3 (ns:List Nd) (N:Nd) (f j:Nat) (R:Bool):Prop where
 out:tgB ns N f j=R
theorem agA{w:T}{K:O}{ns:List Nd}{N:Nd}{vn vk:O}(i:fI w K ns N vn vk)(C:N.k=5):
  U Q 66 #[.agg #[K],eC N vn vk] w fun e h=>e= S (.bool (aI N M V M M&&(decide (1<=N.n/\N.n<(N.ks.length:Int))&&(tgB ns N N.n.toNat 0&&jk ns N (N.ks.length-N.n.toNat) N.n.toNat))))/\Below w.heap.size w h:=by
 obtain⟨ak,ao,rfl⟩:=i.t.form;obtain⟨al,ap,rfl⟩:=i.n.form;obtain⟨am,ar,rfl⟩:=i.k.form;have b:=St.start i;have a6:=i.l2;clear i;have a9:=nF C;have bb:=sn C 5 rfl;clear C;unfold eC;cases t0:aI N M V M M with
 |false=>
  go_in;go_wp2_with (first|(go_at_call 114;refine(mz _ N _ _ b.a.n b.a.k b.a.l1).mono ?_;rintro e h ⟨rfl,c⟩;replace b:=b.below c;clear c;obtain⟨j,l,m,o,p,q,r,s,u,v⟩:=ax b.bn;have x:=b.bt));go_ret;exact⟨rfl,b.bel⟩
 |true=>
  by_cases a0:N.n<1
  ·rw[aB (by omega)];go_in;go_wp2_with (first|(go_at_call 114;refine(mz _ N _ _ b.a.n b.a.k b.a.l1).mono ?_;rintro e h ⟨rfl,c⟩;replace b:=b.below c;clear c;obtain⟨j,l,m,o,p,q,r,s,u,v⟩:=ax b.bn;have x:=b.bt));go_ret;exact⟨rfl,b.bel⟩
  by_cases a4:(N.ks.length:Int)<=N.n
  ·rw[aB (by omega)];go_in;go_wp2_with (first|(go_at_call 114;refine(mz _ N _ _ b.a.n b.a.k b.a.l1).mono ?_;rintro e h ⟨rfl,c⟩;replace b:=b.below c;clear c;obtain⟨j,l,m,o,p,q,r,s,u,v⟩:=ax b.bn;have x:=b.bt));go_ret;exact⟨rfl,b.bel⟩
  rw[bC (by omega)];obtain⟨f,I⟩:∃f:Nat,N.n=(f:Int):=⟨N.n.toNat,by omega⟩;have J:N.n.toNat=f:=by omega
  rw[J];have a8:f<N.ks.length:=by omega
  have ad:=aw I;obtain⟨B,E⟩:=ay (tgB ns N f 0);rw[E];have af:ai3 ns N f 0 B:=⟨E⟩;clear E I J;go_in;go_wp2_with (first|(go_at_call 114;refine(mz _ N _ _ b.a.n b.a.k b.a.l1).mono ?_;rintro e h ⟨rfl,c⟩;replace b:=b.below c;clear c;obtain⟨j,l,m,o,p,q,r,s,u,v⟩:=ax b.bn;have x:=b.bt));go_loopw [7] (fun H wr=>∃(d:Nat),H= .int .i64 d/\d<=f/\ai3 ns N (f-d) d B/\St w (.slice ak ns.length ao) ns N (.slice al N.nm.length ap) (.slice am N.ks.length ar) wr) (fun H _=>f-(intOf H).toNat)
  case atStart=>exact⟨0,rfl,by omega,af,b⟩
  case round=>
   clear b;obtain⟨d,rfl,a5,L,b⟩:=hrel;obtain⟨bd,bh,bk,bl,bo,br,bs,bw,bx,bA⟩:=ax b.bn;have bD:=b.bt;have g:=L.out;have F:=ad.out;by_cases a7:d<f
   ·rw[show f-d=(f-(d+1))+1 by omega,tgB]at g;have av:(d:Int)<N.n:=by omega
    have A:=jz b.a d (by omega);unfold eC at A;have z:=fun w=>EI (dH ns N d) w;clear F;generalize dH ns N d=an at g A z;cases hx:By an with
    |false=>
     rw[hx,dJ]at g;rw[hx]at z;have y:=aw g;clear g hx;go_wp2_with (first|(go_at_call 113;refine A.mono ?_;rintro e h ⟨rfl,c⟩;replace b:=b.below c;clear c;obtain⟨j,l,m,o,p,q,r,s,u,v⟩:=ax b.bn;have x:=b.bt)|(go_at_call 117;refine dK (z _) ?_));go_ret;exact⟨by rw[<-y.out];rfl,b.bel⟩
    |true=>
     rw[hx,eG]at g;rw[hx]at z;have y:ai3 ns N (f-(d+1)) (d+1) B:=⟨g⟩;clear g hx;go_wp2_with (first|(go_at_call 113;refine A.mono ?_;rintro e h ⟨rfl,c⟩;replace b:=b.below c;clear c;obtain⟨j,l,m,o,p,q,r,s,u,v⟩:=ax b.bn;have x:=b.bt)|(go_at_call 117;refine dK (z _) ?_));exact⟨⟨d+1,by go_num,by omega,y,b⟩,by simp[intOf];omega⟩
   ·rw[show f-d=0 by omega,tgB]at g;have y:=aw g;have av:¬(d:Int)<N.n:=by omega
    have G:=db _ _ ns N _ _ f N.ks.length b.a.t b.a.n b.a.k b.a.ok (ae _) b.a.ln b.a.l2;unfold eC at G;rw[<-F]at G;clear g F;go_wp2_with (go_at_call 116;refine G.mono ?_;rintro e h ⟨rfl,c⟩;replace b:=b.below c;clear c;obtain⟨j,l,m,o,p,q,r,s,u,v⟩:=ax b.bn;have x:=b.bt);go_ret;exact⟨by rw[<-y.out];rfl,b.bel⟩
