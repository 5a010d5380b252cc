import Derived.Test.YtkdijoogonigpaaGreatDoorHUk21
set_option linter.all false
set_option maxRecDepth 100000
set_option maxHeartbeats 3200000
open Bool renaming false->M,true->O
namespace Go.Proofs.YtkdijoogonigpaaGreatDoor
open Go.RowKit Go.Maps Go.WideMaps
theorem JH{w:World}{h:Value}{ns:List Nd}{N:Nd}{vn vk:Value}(d:ez w h ns N vn vk)(g:N.k=36):
  Calls Tryz.prog 136 #[.agg #[h],cE N vn vk] w fun e f=>e= .returned (.bool (((N.ks.length:Int)==1)&&(dm ns N 0==1)&&aA N O M M O&&dw N 0 200&&(N.op==0||N.op==1)))/\Below w.heap.size w f:=by
 obtain⟨C,G,rfl⟩:=d.t.form;obtain⟨E,H,rfl⟩:=d.n.form;obtain⟨F,I,rfl⟩:=d.k.form;have b:=St.start d;have J:=d.lx;have B:Hid (N.x.size<=1100000):=by show _<=_;omega
 clear d;have K:=bu g;have L:=gE g 36 rfl;clear g;cases t0:((N.ks.length:Int)==1)
 case' true=>
  have y:N.ks.length=1:=by have:=eu t0;omega
  have A:Hid (1<=N.ks.length):=by show _<=_;omega
  have z:Hid (0<N.ks.length):=by show _<_;omega
  clear y;cases t1:(dm ns N 0==1)
  case' true=>
   cases t2:aA N O M M O
   case' true=>
    cases t3:dw N 0 200
    case' true=>
     cases u4:(N.op==0)
     case' false=>cases v4:(N.op==1)
 all_goals
  unfold cE;go_in;go_wp2_with (first|(go_at_call 155;refine(gL b.a 0 z.out).mono ?_;rintro e f ⟨rfl,c⟩;replace b:=b.below c;clear c;obtain⟨i,j,l,m,o,p,q,r,s,u⟩:=aj b.bn;have v:=b.bt)|(go_at_call 156;refine(Bw _ N _ _ b.a.n b.a.k b.a.l1).mono ?_;rintro e f ⟨rfl,c⟩;replace b:=b.below c;clear c;obtain⟨i,j,l,m,o,p,q,r,s,u⟩:=aj b.bn;have v:=b.bt)|(go_at_call 157;refine(gl _ N _ _ 0 200 b.a.n b.a.k b.a.l1 b.a.ls).mono ?_;rintro e f ⟨rfl,c⟩;replace b:=b.below c;clear c;obtain⟨i,j,l,m,o,p,q,r,s,u⟩:=aj b.bn;have v:=b.bt));go_ret;exact⟨rfl,b.bel⟩
theorem JI{w:World}{h:Value}{ns:List Nd}{N:Nd}{vn vk:Value}(c:ez w h ns N vn vk)(f:N.k=37):
  Calls Tryz.prog 136 #[.agg #[h],cE N vn vk] w fun e g=>e= .returned (.bool (((N.ks.length:Int)==1)&&(dm ns N 0==34||dm ns N 0==27)&&aA N M M M M))/\Below w.heap.size w g:=by
 obtain⟨C,G,rfl⟩:=c.t.form;obtain⟨E,H,rfl⟩:=c.n.form;obtain⟨F,I,rfl⟩:=c.k.form;have b:=St.start c;have J:=c.lx;have B:Hid (N.x.size<=1100000):=by show _<=_;omega
 clear c;have K:=bu f;have L:=gE f 37 rfl;clear f;cases t0:((N.ks.length:Int)==1)
 case' true=>
  have i:N.ks.length=1:=by have:=eu t0;omega
  have A:Hid (1<=N.ks.length):=by show _<=_;omega
  have j:Hid (0<N.ks.length):=by show _<_;omega
  clear i;cases u1:(dm ns N 0==34)
  case' false=>cases v1:(dm ns N 0==27)
  all_goals
   cases t2:aA N M M M M
 all_goals
  unfold cE;go_in;go_wp2_with (first|(go_at_call 155;refine(gL b.a 0 j.out).mono ?_;rintro e g ⟨rfl,d⟩;replace b:=b.below d;clear d;obtain⟨l,m,o,p,q,r,s,u,v,y⟩:=aj b.bn;have z:=b.bt)|(go_at_call 156;refine(bJ _ N _ _ b.a.n b.a.k b.a.l1).mono ?_;rintro e g ⟨rfl,d⟩;replace b:=b.below d;clear d;obtain⟨l,m,o,p,q,r,s,u,v,y⟩:=aj b.bn;have z:=b.bt));go_ret;exact⟨rfl,b.bel⟩
