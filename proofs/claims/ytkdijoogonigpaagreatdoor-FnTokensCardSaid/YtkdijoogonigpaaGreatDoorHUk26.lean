import Derived.Test.YtkdijoogonigpaaGreatDoorHUk21
set_option linter.all false
set_option maxRecDepth 100000
set_option maxHeartbeats 3200000
open Bool renaming false->M
namespace Go.Proofs.YtkdijoogonigpaaGreatDoor
open Go.RowKit Go.Maps Go.WideMaps
theorem JE{w:World}{h:Value}{ns:List Nd}{N:Nd}{vn vk:Value}(c:ez w h ns N vn vk)(f:N.k=40):
  Calls Tryz.prog 136 #[.agg #[h],cE N vn vk] w fun e g=>e= .returned (.bool (((N.ks.length:Int)==1)&&gc ns N 1 0&&aA N M M M M))/\Below w.heap.size w g:=by
 obtain⟨C,G,rfl⟩:=c.t.form;obtain⟨E,H,rfl⟩:=c.n.form;obtain⟨F,I,rfl⟩:=c.k.form;have b:=St.start c;have J:=c.lx;have B:Hid (N.x.size<=1100000):=by show _<=_;omega
 clear c;have K:=bu f;have L:=gE f 40 rfl;clear f;cases t0:((N.ks.length:Int)==1)
 case' true=>
  have i:N.ks.length=1:=by have:=eu t0;omega
  have j:Hid (1<=N.ks.length):=by show _<=_;omega
  have A:Hid (0<N.ks.length):=by show _<_;omega
  clear i;cases t1:gc ns N 1 0
  case' true=>
   cases t2:aA N M M M M
 all_goals
  unfold cE;go_in;go_wp2_with (first|(go_at_call 158;refine(cx _ _ ns N _ _ 0 1 b.a.t b.a.n b.a.k b.a.ok j.out b.a.ln b.a.l2).mono ?_;rintro e g ⟨rfl,d⟩;replace b:=b.below d;clear d;obtain⟨l,m,o,p,q,r,s,u,v,y⟩:=aj b.bn;have z:=b.bt)|(go_at_call 156;refine(bJ _ N _ _ b.a.n b.a.k b.a.l1).mono ?_;rintro e g ⟨rfl,d⟩;replace b:=b.below d;clear d;obtain⟨l,m,o,p,q,r,s,u,v,y⟩:=aj b.bn;have z:=b.bt));go_ret;exact⟨rfl,b.bel⟩
theorem JF{w:World}{h:Value}{ns:List Nd}{N:Nd}{vn vk:Value}(c:ez w h ns N vn vk)(f:N.k=41):
  Calls Tryz.prog 136 #[.agg #[h],cE N vn vk] w fun e g=>e= .returned (.bool (((N.ks.length:Int)==2)&&gc ns N 2 0&&aA N M M M M))/\Below w.heap.size w g:=by
 obtain⟨E,H,rfl⟩:=c.t.form;obtain⟨F,I,rfl⟩:=c.n.form;obtain⟨G,J,rfl⟩:=c.k.form;have b:=St.start c;have K:=c.lx;have C:Hid (N.x.size<=1100000):=by show _<=_;omega
 clear c;have L:=bu f;have af:=gE f 41 rfl;clear f;cases t0:((N.ks.length:Int)==2)
 case' true=>
  have i:N.ks.length=2:=by have:=eu t0;omega
  have j:Hid (2<=N.ks.length):=by show _<=_;omega
  have A:Hid (0<N.ks.length):=by show _<_;omega
  have B:Hid (1<N.ks.length):=by show _<_;omega
  clear i;cases t1:gc ns N 2 0
  case' true=>
   cases t2:aA N M M M M
 all_goals
  unfold cE;go_in;go_wp2_with (first|(go_at_call 158;refine(cx _ _ ns N _ _ 0 2 b.a.t b.a.n b.a.k b.a.ok j.out b.a.ln b.a.l2).mono ?_;rintro e g ⟨rfl,d⟩;replace b:=b.below d;clear d;obtain⟨l,m,o,p,q,r,s,u,v,y⟩:=aj b.bn;have z:=b.bt)|(go_at_call 156;refine(bJ _ N _ _ b.a.n b.a.k b.a.l1).mono ?_;rintro e g ⟨rfl,d⟩;replace b:=b.below d;clear d;obtain⟨l,m,o,p,q,r,s,u,v,y⟩:=aj b.bn;have z:=b.bt));go_ret;exact⟨rfl,b.bel⟩
theorem JG{w:World}{h:Value}{ns:List Nd}{N:Nd}{vn vk:Value}(d:ez w h ns N vn vk)(g:N.k=42):
  Calls Tryz.prog 136 #[.agg #[h],cE N vn vk] w fun e f=>e= .returned (.bool (((N.ks.length:Int)==1)&&gc ns N 1 0&&aA N M M true M&&iu N.x))/\Below w.heap.size w f:=by
 obtain⟨C,G,rfl⟩:=d.t.form;obtain⟨E,H,rfl⟩:=d.n.form;obtain⟨F,I,rfl⟩:=d.k.form;have b:=St.start d;have J:=d.lx;have A:Hid (N.x.size<=1100000):=by show _<=_;omega
 clear d;have K:=bu g;have L:=gE g 42 rfl;clear g;cases t0:((N.ks.length:Int)==1)
 case' true=>
  have y:N.ks.length=1:=by have:=eu t0;omega
  have z:Hid (1<=N.ks.length):=by show _<=_;omega
  have B:Hid (0<N.ks.length):=by show _<_;omega
  clear y;cases t1:gc ns N 1 0
  case' true=>
   cases t2:aA N M M true M
   case' true=>
    cases t3:iu N.x
 all_goals
  unfold cE;go_in;go_wp2_with (first|(go_at_call 158;refine(cx _ _ ns N _ _ 0 1 b.a.t b.a.n b.a.k b.a.ok z.out b.a.ln b.a.l2).mono ?_;rintro e f ⟨rfl,c⟩;replace b:=b.below c;clear c;obtain⟨i,j,l,m,o,p,q,r,s,u⟩:=aj b.bn;have v:=b.bt)|(go_at_call 156;refine(jx _ N _ _ b.a.n b.a.k b.a.l1).mono ?_;rintro e f ⟨rfl,c⟩;replace b:=b.below c;clear c;obtain⟨i,j,l,m,o,p,q,r,s,u⟩:=aj b.bn;have v:=b.bt)|(go_at_call 23;refine(iw N.x A.out _).mono ?_;rintro e f ⟨rfl,c⟩;replace b:=b.below c;clear c;obtain⟨i,j,l,m,o,p,q,r,s,u⟩:=aj b.bn;have v:=b.bt));go_ret;exact⟨rfl,b.bel⟩
