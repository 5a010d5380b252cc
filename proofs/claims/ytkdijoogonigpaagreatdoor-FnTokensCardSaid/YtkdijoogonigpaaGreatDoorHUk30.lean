import Derived.Test.YtkdijoogonigpaaGreatDoorHUk21
set_option linter.all false
set_option maxRecDepth 100000
set_option maxHeartbeats 3200000
open Bool renaming false->M
namespace Go.Proofs.YtkdijoogonigpaaGreatDoor
open Go.RowKit Go.Maps Go.WideMaps
theorem J0{w:World}{v:Value}{ns:List Nd}{N:Nd}{vn vk:Value}(d:ez w v ns N vn vk)(g:N.k=10):
  Calls Tryz.prog 135 #[.agg #[v],cE N vn vk] w fun e f=>e= .returned (.bool (aA N M M M true&&dw N 1 200&&((N.ks.length:Int)==2)&&gc ns N 1 0&&(dm ns N 1==1)))/\Below w.heap.size w f:=by
 obtain⟨E,H,rfl⟩:=d.t.form;obtain⟨F,I,rfl⟩:=d.n.form;obtain⟨G,J,rfl⟩:=d.k.form;have b:=St.start d;have K:=d.lx;have C:Hid (N.x.size<=1100000):=by show _<=_;omega
 clear d;have L:=bu g;have af:=gE g 10 rfl;clear g;cases t0:aA N M M M true
 case' true=>
  cases t1:dw N 1 200
  case' true=>
   cases t2:((N.ks.length:Int)==2)
   case' true=>
    have y:N.ks.length=2:=by have:=eu t2;omega
    have z:Hid (1<=N.ks.length):=by show _<=_;omega
    have B:Hid (0<N.ks.length):=by show _<_;omega
    have A:Hid (1<N.ks.length):=by show _<_;omega
    clear y;cases t3:gc ns N 1 0
    case' true=>
     cases t4:(dm ns N 1==1)
 all_goals
  unfold cE;go_in;go_wp2_with (first|(go_at_call 156;refine(ig _ N _ _ b.a.n b.a.k b.a.l1).mono ?_;rintro e f ⟨rfl,c⟩;replace b:=b.below c;clear c;obtain⟨h,i,j,l,m,o,p,q,r,s⟩:=aj b.bn;have u:=b.bt)|(go_at_call 157;refine(gl _ N _ _ 1 200 b.a.n b.a.k b.a.l1 b.a.ls).mono ?_;rintro e f ⟨rfl,c⟩;replace b:=b.below c;clear c;obtain⟨h,i,j,l,m,o,p,q,r,s⟩:=aj b.bn;have u:=b.bt)|(go_at_call 158;refine(cx _ _ ns N _ _ 0 1 b.a.t b.a.n b.a.k b.a.ok z.out b.a.ln b.a.l2).mono ?_;rintro e f ⟨rfl,c⟩;replace b:=b.below c;clear c;obtain⟨h,i,j,l,m,o,p,q,r,s⟩:=aj b.bn;have u:=b.bt)|(go_at_call 155;with_reducible refine(rA b.a A.out).mono ?_;rintro e f ⟨rfl,c⟩;replace b:=b.below c;clear c;obtain⟨h,i,j,l,m,o,p,q,r,s⟩:=aj b.bn;have u:=b.bt));go_ret;exact⟨rfl,b.bel⟩
theorem J1{w:World}{h:Value}{ns:List Nd}{N:Nd}{vn vk:Value}(c:ez w h ns N vn vk)(f:N.k=13):
  Calls Tryz.prog 135 #[.agg #[h],cE N vn vk] w fun e g=>e= .returned (.bool (aA N M M M M&&gc ns N N.ks.length 0))/\Below w.heap.size w g:=by
 obtain⟨z,C,rfl⟩:=c.t.form;obtain⟨A,E,rfl⟩:=c.n.form;obtain⟨B,F,rfl⟩:=c.k.form;have b:=St.start c;have G:=c.lx;have y:Hid (N.x.size<=1100000):=by show _<=_;omega
 clear c;have H:=bu f;have I:=gE f 13 rfl;clear f;cases t0:aA N M M M M
 case' true=>
  cases t1:gc ns N N.ks.length 0
 all_goals
  unfold cE;go_in;go_wp2_with (first|(go_at_call 156;refine(bJ _ N _ _ b.a.n b.a.k b.a.l1).mono ?_;rintro e g ⟨rfl,d⟩;replace b:=b.below d;clear d;obtain⟨i,j,l,m,o,p,q,r,s,u⟩:=aj b.bn;have v:=b.bt)|(go_at_call 158;refine(cx _ _ ns N _ _ 0 N.ks.length b.a.t b.a.n b.a.k b.a.ok (ag _) b.a.ln b.a.l2).mono ?_;rintro e g ⟨rfl,d⟩;replace b:=b.below d;clear d;obtain⟨i,j,l,m,o,p,q,r,s,u⟩:=aj b.bn;have v:=b.bt));go_ret;exact⟨rfl,b.bel⟩
