import Derived.Test.YtkdijoogonigpaaGreatDoorHUk21
set_option linter.all false
set_option maxRecDepth 100000
set_option maxHeartbeats 3200000
open Bool renaming false->M
namespace Go.Proofs.YtkdijoogonigpaaGreatDoor
open Go.RowKit Go.Maps Go.WideMaps
theorem J2{w:World}{v:Value}{ns:List Nd}{N:Nd}{vn vk:Value}(d:ez w v ns N vn vk)(g:N.k=14):
  Calls Tryz.prog 135 #[.agg #[v],cE N vn vk] w fun e f=>e= .returned (.bool (aA N M M M true&&dw N 1 2&&((N.ks.length:Int)==2)&&(dm ns N 0==1)&&(dm ns N 1==1)))/\Below w.heap.size w f:=by
 obtain⟨E,H,rfl⟩:=d.t.form;obtain⟨F,I,rfl⟩:=d.n.form;obtain⟨G,J,rfl⟩:=d.k.form;have b:=St.start d;have K:=d.lx;have C:Hid (N.x.size<=1100000):=by show _<=_;omega
 clear d;have L:=bu g;have af:=gE g 14 rfl;clear g;cases t0:aA N M M M true
 case' true=>
  cases t1:dw N 1 2
  case' true=>
   cases t2:((N.ks.length:Int)==2)
   case' true=>
    have y:N.ks.length=2:=by have:=eu t2;omega
    have B:Hid (1<=N.ks.length):=by show _<=_;omega
    have z:Hid (0<N.ks.length):=by show _<_;omega
    have A:Hid (1<N.ks.length):=by show _<_;omega
    clear y;cases t3:(dm ns N 0==1)
    case' true=>
     cases t4:(dm ns N 1==1)
 all_goals
  unfold cE;go_in;go_wp2_with (first|(go_at_call 156;refine(ig _ N _ _ b.a.n b.a.k b.a.l1).mono ?_;rintro e f ⟨rfl,c⟩;replace b:=b.below c;clear c;obtain⟨h,i,j,l,m,o,p,q,r,s⟩:=aj b.bn;have u:=b.bt)|(go_at_call 157;refine(gl _ N _ _ 1 2 b.a.n b.a.k b.a.l1 b.a.ls).mono ?_;rintro e f ⟨rfl,c⟩;replace b:=b.below c;clear c;obtain⟨h,i,j,l,m,o,p,q,r,s⟩:=aj b.bn;have u:=b.bt)|(go_at_call 155;with_reducible refine(rz b.a z.out).mono ?_;rintro e f ⟨rfl,c⟩;replace b:=b.below c;clear c;obtain⟨h,i,j,l,m,o,p,q,r,s⟩:=aj b.bn;have u:=b.bt)|(go_at_call 155;with_reducible refine(rA b.a A.out).mono ?_;rintro e f ⟨rfl,c⟩;replace b:=b.below c;clear c;obtain⟨h,i,j,l,m,o,p,q,r,s⟩:=aj b.bn;have u:=b.bt));go_ret;exact⟨rfl,b.bel⟩
theorem J3{w:World}{h:Value}{ns:List Nd}{N:Nd}{vn vk:Value}(c:ez w h ns N vn vk)(f:N.k=15):
  Calls Tryz.prog 135 #[.agg #[h],cE N vn vk] w fun e g=>e= .returned (.bool (aA N M M M M&&((N.ks.length:Int)==1)&&gc ns N 1 0))/\Below w.heap.size w g:=by
 obtain⟨C,G,rfl⟩:=c.t.form;obtain⟨E,H,rfl⟩:=c.n.form;obtain⟨F,I,rfl⟩:=c.k.form;have b:=St.start c;have J:=c.lx;have B:Hid (N.x.size<=1100000):=by show _<=_;omega
 clear c;have K:=bu f;have L:=gE f 15 rfl;clear f;cases t0:aA N M M M M
 case' true=>
  cases t1:((N.ks.length:Int)==1)
  case' true=>
   have i:N.ks.length=1:=by have:=eu t1;omega
   have j:Hid (1<=N.ks.length):=by show _<=_;omega
   have A:Hid (0<N.ks.length):=by show _<_;omega
   clear i;cases t2:gc ns N 1 0
 all_goals
  unfold cE;go_in;go_wp2_with (first|(go_at_call 156;refine(bJ _ N _ _ b.a.n b.a.k b.a.l1).mono ?_;rintro e g ⟨rfl,d⟩;replace b:=b.below d;clear d;obtain⟨l,m,o,p,q,r,s,u,v,y⟩:=aj b.bn;have z:=b.bt)|(go_at_call 158;refine(cx _ _ ns N _ _ 0 1 b.a.t b.a.n b.a.k b.a.ok j.out b.a.ln b.a.l2).mono ?_;rintro e g ⟨rfl,d⟩;replace b:=b.below d;clear d;obtain⟨l,m,o,p,q,r,s,u,v,y⟩:=aj b.bn;have z:=b.bt));go_ret;exact⟨rfl,b.bel⟩
