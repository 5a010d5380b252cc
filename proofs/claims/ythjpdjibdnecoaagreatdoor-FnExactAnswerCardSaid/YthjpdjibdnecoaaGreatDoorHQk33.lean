import Derived.Test.YthjpdjibdnecoaaGreatDoorHQk13
import Derived.Test.YthjpdjibdnecoaaGreatDoorHQk11
import Derived.Test.YthjpdjibdnecoaaGreatDoorHQk26
set_option linter.all false
set_option maxRecDepth 100000
set_option maxHeartbeats 12800000
open Bool renaming false->M
namespace Go.Proofs.YthjpdjibdnecoaaGreatDoor
open Go.RowKit Go.Maps Go.WideMaps
theorem aer{w:World}{v:Value}{ns:List Nd}{N:Nd}{vn vk:Value}(d:fI w v ns N vn vk)(g:N.k=33):
  Calls Tryz.prog 67 #[.agg #[v],eC N vn vk] w fun e f=>e= .returned (.bool (((N.ks.length:Int)==1)&&jk ns N 1 0&&(dH ns N 0 !=27)&&aI N M M true M&&oz N.x))/\Below w.heap.size w f:=by
 obtain⟨C,G,rfl⟩:=d.t.form;obtain⟨E,H,rfl⟩:=d.n.form;obtain⟨F,I,rfl⟩:=d.k.form;have b:=St.start d;have J:=d.lx;have B:Hid (N.x.size<=1100000):=by show _<=_;omega
 clear d;have K:=nF g;have L:=sn g 33 rfl;clear g;cases t0:((N.ks.length:Int)==1)
 case' true=>
  have y:N.ks.length=1:=by have:=ft t0;omega
  have z:Hid (1<=N.ks.length):=by show _<=_;omega
  have A:Hid (0<N.ks.length):=by show _<_;omega
  clear y;cases t1:jk ns N 1 0
  case' true=>
   cases t2:(dH ns N 0 !=27)
   case' true=>
    cases t3:aI N M M true M
    case' true=>
     cases t4:oz N.x
 all_goals
  unfold eC;go_in;go_wp2_with (first|(go_at_call 116;refine(db _ _ ns N _ _ 0 1 b.a.t b.a.n b.a.k b.a.ok z.out b.a.ln b.a.l2).mono ?_;rintro e f ⟨rfl,c⟩;replace b:=b.below c;clear c;obtain⟨h,i,j,l,m,o,p,q,r,s⟩:=ax b.bn;have u:=b.bt)|(go_at_call 113;refine(jz b.a 0 A.out).mono ?_;rintro e f ⟨rfl,c⟩;replace b:=b.below c;clear c;obtain⟨h,i,j,l,m,o,p,q,r,s⟩:=ax b.bn;have u:=b.bt)|(go_at_call 114;refine(mA _ N _ _ b.a.n b.a.k b.a.l1).mono ?_;rintro e f ⟨rfl,c⟩;replace b:=b.below c;clear c;obtain⟨h,i,j,l,m,o,p,q,r,s⟩:=ax b.bn;have u:=b.bt)|(go_at_call 119;refine(nE N.x B.out _).mono ?_;rintro e f ⟨rfl,c⟩;replace b:=b.below c;clear c;obtain⟨h,i,j,l,m,o,p,q,r,s⟩:=ax b.bn;have u:=b.bt));go_ret;exact⟨rfl,b.bel⟩
theorem aes{w:World}{h:Value}{ns:List Nd}{N:Nd}{vn vk:Value}(d:fI w h ns N vn vk)(g:N.k=34):
  Calls Tryz.prog 67 #[.agg #[h],eC N vn vk] w fun e f=>e= .returned (.bool (decide ((1:Int)<=(N.ks.length:Int))&&jk ns N N.ks.length 0&&(dH ns N 0 !=27)&&aI N M M M M))/\Below w.heap.size w f:=by
 obtain⟨A,E,rfl⟩:=d.t.form;obtain⟨B,F,rfl⟩:=d.n.form;obtain⟨C,G,rfl⟩:=d.k.form;have b:=St.start d;have H:=d.lx;have z:Hid (N.x.size<=1100000):=by show _<=_;omega
 clear d;have I:=nF g;have J:=sn g 34 rfl;clear g;cases t0:decide ((1:Int)<=(N.ks.length:Int))
 case' true=>
  have y:Hid (0<N.ks.length):=by show _<_;have:=aC t0;omega
  cases t1:jk ns N N.ks.length 0
  case' true=>
   cases t2:(dH ns N 0 !=27)
   case' true=>
    cases t3:aI N M M M M
 all_goals
  unfold eC;go_in;go_wp2_with (first|(go_at_call 116;refine(db _ _ ns N _ _ 0 N.ks.length b.a.t b.a.n b.a.k b.a.ok (ae _) b.a.ln b.a.l2).mono ?_;rintro e f ⟨rfl,c⟩;replace b:=b.below c;clear c;obtain⟨i,j,l,m,o,p,q,r,s,u⟩:=ax b.bn;have v:=b.bt)|(go_at_call 113;refine(jz b.a 0 y.out).mono ?_;rintro e f ⟨rfl,c⟩;replace b:=b.below c;clear c;obtain⟨i,j,l,m,o,p,q,r,s,u⟩:=ax b.bn;have v:=b.bt)|(go_at_call 114;refine(cE _ N _ _ b.a.n b.a.k b.a.l1).mono ?_;rintro e f ⟨rfl,c⟩;replace b:=b.below c;clear c;obtain⟨i,j,l,m,o,p,q,r,s,u⟩:=ax b.bn;have v:=b.bt));go_ret;exact⟨rfl,b.bel⟩
theorem ajp(k:Int):dF k=0\/dF k=1\/dF k=2\/dF k=3\/dF k=4\/dF k=5\/dF k=6:=by
 unfold dF
 repeat' split
 all_goals simp
theorem D0(w:World)(b:Nat)(N:Nd)(vn y:Value)(z:Int)(u:∃a n c,vn= .slice a n c)(h:fy w b N vn z y):
  Calls Tryz.prog 75 #[ey N.k b] w fun e d=>e= .returned (eC (lE N (dF N.k)) (sa vn (dF N.k)) (.slice none 0 0))/\Below w.heap.size w d:=by
 obtain⟨A,K,B,rfl⟩:=u;unfold fy at h;unfold ey;have H:=fun w=>ah8 b w;have C:=fun w=>asT b w;have E:=fun w=>asF b w;have x:=fun w=>eA b w;have F:=ah h;have G:b<w.heap.size+1:=by omega
 have I:b≠w.heap.size:=by omega
 have J:b≠w.heap.size+1:=by omega
 have s:∀g i,Below w.heap.size w ((w.alloc g).alloc i).drew:=fun g i=>cj (((ag _ w).alloc (ae _) g).alloc (by simp) i);have c:=fun v=>aq w b v _ _ _ h;have j:=c 0;have m:=c 1;have o:=c 2;have p:=c 3;have q:=c 6;have r:=c 7;clear c h;unfold eC;rcases ajp N.k with hc|hc|hc|hc|hc|hc|hc;all_goals
  simp only[hc,LB,nH,lE,sa,ej,de]at j m o p q r⊢;simp at j m o p q r;go_in;go_wp2_with (go_at_call 301;refine dK (x _) ?_);all_goals
   go_region_held3 (fun d=>d.cell? ⟨b,0,none⟩=some (.int .i64 N.k)/\d.cell? ⟨b,1,none⟩=some (.int .i64 N.f)/\d.cell? ⟨b,2,none⟩=some (.int .i64 N.t)/\d.cell? ⟨b,3,none⟩=some (.int .i64 N.l)) (go_keep) (fail)
   go_wp2_with fail;all_goals exact ba (eu rfl _ _ w.heap.size _ _ _ _ rfl ((bm _ _ _ (by simp)).trans (aj w _)) Tryz.underlying53 rfl (by kernel_rfl)) rfl ⟨by simp[*],s _ _⟩
