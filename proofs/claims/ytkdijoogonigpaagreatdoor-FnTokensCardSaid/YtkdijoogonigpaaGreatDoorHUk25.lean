import Derived.Test.YtkdijoogonigpaaGreatDoorHUk21
set_option linter.all false
set_option maxRecDepth 100000
set_option maxHeartbeats 3200000
open Bool renaming false->M,true->O
namespace Go.Proofs.YtkdijoogonigpaaGreatDoor
open Go.RowKit Go.Maps Go.WideMaps
theorem JC{w:World}{v:Value}{ns:List Nd}{N:Nd}{vn vk:Value}(d:ez w v ns N vn vk)(g:N.k=33):
  Calls Tryz.prog 136 #[.agg #[v],cE N vn vk] w fun e f=>e= .returned (.bool (((N.ks.length:Int)==1)&&gc ns N 1 0&&(dm ns N 0 !=27)&&aA N M M O M&&iu N.x))/\Below w.heap.size w f:=by
 obtain⟨C,G,rfl⟩:=d.t.form;obtain⟨E,H,rfl⟩:=d.n.form;obtain⟨F,I,rfl⟩:=d.k.form;have b:=St.start d;have J:=d.lx;have B:Hid (N.x.size<=1100000):=by show _<=_;omega
 clear d;have K:=bu g;have L:=gE g 33 rfl;clear g;cases t0:((N.ks.length:Int)==1)
 case' true=>
  have y:N.ks.length=1:=by have:=eu t0;omega
  have z:Hid (1<=N.ks.length):=by show _<=_;omega
  have A:Hid (0<N.ks.length):=by show _<_;omega
  clear y;cases t1:gc ns N 1 0
  case' true=>
   cases t2:(dm ns N 0 !=27)
   case' true=>
    cases t3:aA N M M O M
    case' true=>
     cases t4:iu N.x
 all_goals
  unfold cE;go_in;go_wp2_with (first|(go_at_call 158;refine(cx _ _ ns N _ _ 0 1 b.a.t b.a.n b.a.k b.a.ok z.out b.a.ln b.a.l2).mono ?_;rintro e f ⟨rfl,c⟩;replace b:=b.below c;clear c;obtain⟨h,i,j,l,m,o,p,q,r,s⟩:=aj b.bn;have u:=b.bt)|(go_at_call 155;refine(gL b.a 0 A.out).mono ?_;rintro e f ⟨rfl,c⟩;replace b:=b.below c;clear c;obtain⟨h,i,j,l,m,o,p,q,r,s⟩:=aj b.bn;have u:=b.bt)|(go_at_call 156;refine(jx _ N _ _ b.a.n b.a.k b.a.l1).mono ?_;rintro e f ⟨rfl,c⟩;replace b:=b.below c;clear c;obtain⟨h,i,j,l,m,o,p,q,r,s⟩:=aj b.bn;have u:=b.bt)|(go_at_call 23;refine(iw N.x B.out _).mono ?_;rintro e f ⟨rfl,c⟩;replace b:=b.below c;clear c;obtain⟨h,i,j,l,m,o,p,q,r,s⟩:=aj b.bn;have u:=b.bt));go_ret;exact⟨rfl,b.bel⟩
theorem JD{w:World}{h:Value}{ns:List Nd}{N:Nd}{vn vk:Value}(d:ez w h ns N vn vk)(g:N.k=34):
  Calls Tryz.prog 136 #[.agg #[h],cE N vn vk] w fun e f=>e= .returned (.bool (decide ((1:Int)<=(N.ks.length:Int))&&gc ns N N.ks.length 0&&(dm ns N 0 !=27)&&aA N M M M M))/\Below w.heap.size w f:=by
 obtain⟨A,E,rfl⟩:=d.t.form;obtain⟨B,F,rfl⟩:=d.n.form;obtain⟨C,G,rfl⟩:=d.k.form;have b:=St.start d;have H:=d.lx;have z:Hid (N.x.size<=1100000):=by show _<=_;omega
 clear d;have I:=bu g;have q34:=gE g 34 rfl;clear g;cases t0:decide ((1:Int)<=(N.ks.length:Int))
 case' true=>
  have y:Hid (0<N.ks.length):=by show _<_;have:=aI t0;omega
  cases t1:gc ns N N.ks.length 0
  case' true=>
   cases t2:(dm ns N 0 !=27)
   case' true=>
    cases t3:aA N M M M M
 all_goals
  unfold cE;go_in;go_wp2_with (first|(go_at_call 158;refine(cx _ _ ns N _ _ 0 N.ks.length b.a.t b.a.n b.a.k b.a.ok (ag _) b.a.ln b.a.l2).mono ?_;rintro e f ⟨rfl,c⟩;replace b:=b.below c;clear c;obtain⟨i,j,l,m,o,p,q,r,s,u⟩:=aj b.bn;have v:=b.bt)|(go_at_call 155;refine(gL b.a 0 y.out).mono ?_;rintro e f ⟨rfl,c⟩;replace b:=b.below c;clear c;obtain⟨i,j,l,m,o,p,q,r,s,u⟩:=aj b.bn;have v:=b.bt)|(go_at_call 156;refine(bJ _ N _ _ b.a.n b.a.k b.a.l1).mono ?_;rintro e f ⟨rfl,c⟩;replace b:=b.below c;clear c;obtain⟨i,j,l,m,o,p,q,r,s,u⟩:=aj b.bn;have v:=b.bt));go_ret;exact⟨rfl,b.bel⟩
def tgB(ns:List Nd)(N:Nd):Nat->Nat->Bool
 |0,_=>O
 |f+1,j=>BA (dm ns N j)&&tgB ns N f (j+1)
structure adC (ns:List Nd) (N:Nd) (f j:Nat) (R:Bool):Prop where
 out:tgB ns N f j=R
theorem abe{w:World}{K:Value}{ns:List Nd}{N:Nd}{vn vk:Value}(i:ez w K ns N vn vk)(C:N.k=5):
  Calls Tryz.prog 135 #[.agg #[K],cE N vn vk] w fun e h=>e= .returned (.bool (aA N M O M M&&(decide (1<=N.n/\N.n<(N.ks.length:Int))&&(tgB ns N N.n.toNat 0&&gc ns N (N.ks.length-N.n.toNat) N.n.toNat))))/\Below w.heap.size w h:=by
 obtain⟨al,av,rfl⟩:=i.t.form;obtain⟨am,a0,rfl⟩:=i.n.form;obtain⟨an,a4,rfl⟩:=i.k.form;have b:=St.start i;have a9:=i.l2;clear i;have bf:=bu C;have bj:=gE C 5 rfl;clear C;unfold cE;cases t0:aA N M O M M with
 |false=>
  go_in;go_wp2_with (first|(go_at_call 156;refine(jw _ N _ _ b.a.n b.a.k b.a.l1).mono ?_;rintro e h ⟨rfl,c⟩;replace b:=b.below c;clear c;obtain⟨j,l,m,o,p,q,r,s,u,v⟩:=aj b.bn;have x:=b.bt));go_ret;exact⟨rfl,b.bel⟩
 |true=>
  by_cases a6:N.n<1
  ·rw[bk (by omega)];go_in;go_wp2_with (first|(go_at_call 156;refine(jw _ N _ _ b.a.n b.a.k b.a.l1).mono ?_;rintro e h ⟨rfl,c⟩;replace b:=b.below c;clear c;obtain⟨j,l,m,o,p,q,r,s,u,v⟩:=aj b.bn;have x:=b.bt));go_ret;exact⟨rfl,b.bel⟩
  by_cases a7:(N.ks.length:Int)<=N.n
  ·rw[bk (by omega)];go_in;go_wp2_with (first|(go_at_call 156;refine(jw _ N _ _ b.a.n b.a.k b.a.l1).mono ?_;rintro e h ⟨rfl,c⟩;replace b:=b.below c;clear c;obtain⟨j,l,m,o,p,q,r,s,u,v⟩:=aj b.bn;have x:=b.bt));go_ret;exact⟨rfl,b.bel⟩
  rw[cG (by omega)];obtain⟨f,I⟩:∃f:Nat,N.n=(f:Int):=⟨N.n.toNat,by omega⟩;have J:N.n.toNat=f:=by omega
  rw[J];have bd:f<N.ks.length:=by omega
  have af:=ar I;obtain⟨B,E⟩:=aD (tgB ns N f 0);rw[E];have ak:adC ns N f 0 B:=⟨E⟩;clear E I J;go_in;go_wp2_with (first|(go_at_call 156;refine(jw _ N _ _ b.a.n b.a.k b.a.l1).mono ?_;rintro e h ⟨rfl,c⟩;replace b:=b.below c;clear c;obtain⟨j,l,m,o,p,q,r,s,u,v⟩:=aj b.bn;have x:=b.bt));go_loopw [7] (fun H wr=>∃(d:Nat),H= .int .i64 d/\d<=f/\adC ns N (f-d) d B/\St w (.slice al ns.length av) ns N (.slice am N.nm.length a0) (.slice an N.ks.length a4) wr) (fun H _=>f-(intOf H).toNat)
  case atStart=>exact⟨0,rfl,by omega,ak,b⟩
  case round=>
   clear b;obtain⟨d,rfl,a8,L,b⟩:=hrel;obtain⟨bl,bo,bp,br,bs,bw,bx,bE,b0,b1⟩:=aj b.bn;have b2:=b.bt;have g:=L.out;have F:=af.out;by_cases bb:d<f
   ·rw[show f-d=(f-(d+1))+1 by omega,tgB]at g;have a5:(d:Int)<N.n:=by omega
    have A:=gL b.a d (by omega);unfold cE at A;have z:=fun w=>zC (dm ns N d) w;clear F;generalize dm ns N d=ap at g A z;cases hx:BA ap with
    |false=>
     rw[hx,ip]at g;rw[hx]at z;have y:=ar g;clear g hx;go_wp2_with (first|(go_at_call 155;refine A.mono ?_;rintro e h ⟨rfl,c⟩;replace b:=b.below c;clear c;obtain⟨j,l,m,o,p,q,r,s,u,v⟩:=aj b.bn;have x:=b.bt)|(go_at_call 159;refine dz (z _) ?_));go_ret;exact⟨by rw[<-y.out];rfl,b.bel⟩
    |true=>
     rw[hx,jf]at g;rw[hx]at z;have y:adC ns N (f-(d+1)) (d+1) B:=⟨g⟩;clear g hx;go_wp2_with (first|(go_at_call 155;refine A.mono ?_;rintro e h ⟨rfl,c⟩;replace b:=b.below c;clear c;obtain⟨j,l,m,o,p,q,r,s,u,v⟩:=aj b.bn;have x:=b.bt)|(go_at_call 159;refine dz (z _) ?_));exact⟨⟨d+1,by go_num,by omega,y,b⟩,by simp[intOf];omega⟩
   ·rw[show f-d=0 by omega,tgB]at g;have y:=ar g;have a5:¬(d:Int)<N.n:=by omega
    have G:=cx _ _ ns N _ _ f N.ks.length b.a.t b.a.n b.a.k b.a.ok (ag _) b.a.ln b.a.l2;unfold cE at G;rw[<-F]at G;clear g F;go_wp2_with (go_at_call 158;refine G.mono ?_;rintro e h ⟨rfl,c⟩;replace b:=b.below c;clear c;obtain⟨j,l,m,o,p,q,r,s,u,v⟩:=aj b.bn;have x:=b.bt);go_ret;exact⟨by rw[<-y.out];rfl,b.bel⟩
