import Derived.Test.YtkdijoogonigpaaGreatDoorHUk21
set_option linter.all false
set_option maxRecDepth 100000
set_option maxHeartbeats 3200000
open Bool renaming false->M,true->S
open Go renaming Value->O,World->Q,Calls->R
namespace Go.Proofs.YtkdijoogonigpaaGreatDoor
open Go.RowKit Go.Maps Go.WideMaps
theorem abh{w:Q}{h:O}{ns:List Nd}{N:Nd}{vn vk:O}(d:ez w h ns N vn vk)(g:N.k=2):
  R Tryz.prog 135 #[.agg #[h],cE N vn vk] w fun e f=>e= .returned (.bool (aA N M M M S&&dw N 1 200&&gc ns N N.ks.length 0))/\Below w.heap.size w f:=by
 obtain⟨z,C,rfl⟩:=d.t.form;obtain⟨A,E,rfl⟩:=d.n.form;obtain⟨B,F,rfl⟩:=d.k.form;have b:=St.start d;have G:=d.lx;have y:Hid (N.x.size<=1100000):=by show _<=_;omega
 clear d;have H:=bu g;have I:=gE g 2 rfl;clear g;cases t0:aA N M M M S
 case' true=>
  cases t1:dw N 1 200
  case' true=>
   cases t2:gc ns N N.ks.length 0
 all_goals
  unfold cE;go_in;go_wp2_with (first|(go_at_call 156;refine(ig _ N _ _ b.a.n b.a.k b.a.l1).mono ?_;rintro e f ⟨rfl,c⟩;replace b:=b.below c;clear c;obtain⟨i,j,l,m,o,p,q,r,s,u⟩:=aj b.bn;have v:=b.bt)|(go_at_call 157;refine(gl _ N _ _ 1 200 b.a.n b.a.k b.a.l1 b.a.ls).mono ?_;rintro e f ⟨rfl,c⟩;replace b:=b.below c;clear c;obtain⟨i,j,l,m,o,p,q,r,s,u⟩:=aj b.bn;have v:=b.bt)|(go_at_call 158;refine(cx _ _ ns N _ _ 0 N.ks.length b.a.t b.a.n b.a.k b.a.ok (ag _) b.a.ln b.a.l2).mono ?_;rintro e f ⟨rfl,c⟩;replace b:=b.below c;clear c;obtain⟨i,j,l,m,o,p,q,r,s,u⟩:=aj b.bn;have v:=b.bt));go_ret;exact⟨rfl,b.bel⟩
theorem abi{w:Q}{h:O}{ns:List Nd}{N:Nd}{vn vk:O}(d:ez w h ns N vn vk)(g:N.k=4):
  R Tryz.prog 135 #[.agg #[h],cE N vn vk] w fun e f=>e= .returned (.bool (aA N M M M S&&dw N 1 1&&((N.ks.length:Int)==1)&&(dm ns N 0==36)))/\Below w.heap.size w f:=by
 obtain⟨C,G,rfl⟩:=d.t.form;obtain⟨E,H,rfl⟩:=d.n.form;obtain⟨F,I,rfl⟩:=d.k.form;have b:=St.start d;have J:=d.lx;have B:Hid (N.x.size<=1100000):=by show _<=_;omega
 clear d;have K:=bu g;have L:=gE g 4 rfl;clear g;cases t0:aA N M M M S
 case' true=>
  cases t1:dw N 1 1
  case' true=>
   cases t2:((N.ks.length:Int)==1)
   case' true=>
    have y:N.ks.length=1:=by have:=eu t2;omega
    have A:Hid (1<=N.ks.length):=by show _<=_;omega
    have z:Hid (0<N.ks.length):=by show _<_;omega
    clear y;cases t3:(dm ns N 0==36)
 all_goals
  unfold cE;go_in;go_wp2_with (first|(go_at_call 156;refine(ig _ N _ _ b.a.n b.a.k b.a.l1).mono ?_;rintro e f ⟨rfl,c⟩;replace b:=b.below c;clear c;obtain⟨i,j,l,m,o,p,q,r,s,u⟩:=aj b.bn;have v:=b.bt)|(go_at_call 157;refine(gl _ N _ _ 1 1 b.a.n b.a.k b.a.l1 b.a.ls).mono ?_;rintro e f ⟨rfl,c⟩;replace b:=b.below c;clear c;obtain⟨i,j,l,m,o,p,q,r,s,u⟩:=aj b.bn;have v:=b.bt)|(go_at_call 155;with_reducible refine(rz b.a z.out).mono ?_;rintro e f ⟨rfl,c⟩;replace b:=b.below c;clear c;obtain⟨i,j,l,m,o,p,q,r,s,u⟩:=aj b.bn;have v:=b.bt));go_ret;exact⟨rfl,b.bel⟩
theorem abj{w:Q}{h:O}{ns:List Nd}{N:Nd}{vn vk:O}(c:ez w h ns N vn vk)(f:N.k=6):
  R Tryz.prog 135 #[.agg #[h],cE N vn vk] w fun e g=>e= .returned (.bool (aA N M M M M&&((N.ks.length:Int)==1)&&(dm ns N 0==34)))/\Below w.heap.size w g:=by
 obtain⟨C,G,rfl⟩:=c.t.form;obtain⟨E,H,rfl⟩:=c.n.form;obtain⟨F,I,rfl⟩:=c.k.form;have b:=St.start c;have J:=c.lx;have B:Hid (N.x.size<=1100000):=by show _<=_;omega
 clear c;have K:=bu f;have L:=gE f 6 rfl;clear f;cases t0:aA N M M M M
 case' true=>
  cases t1:((N.ks.length:Int)==1)
  case' true=>
   have i:N.ks.length=1:=by have:=eu t1;omega
   have A:Hid (1<=N.ks.length):=by show _<=_;omega
   have j:Hid (0<N.ks.length):=by show _<_;omega
   clear i;cases t2:(dm ns N 0==34)
 all_goals
  unfold cE;go_in;go_wp2_with (first|(go_at_call 156;refine(bJ _ N _ _ b.a.n b.a.k b.a.l1).mono ?_;rintro e g ⟨rfl,d⟩;replace b:=b.below d;clear d;obtain⟨l,m,o,p,q,r,s,u,v,y⟩:=aj b.bn;have z:=b.bt)|(go_at_call 155;with_reducible refine(rz b.a j.out).mono ?_;rintro e g ⟨rfl,d⟩;replace b:=b.below d;clear d;obtain⟨l,m,o,p,q,r,s,u,v,y⟩:=aj b.bn;have z:=b.bt));go_ret;exact⟨rfl,b.bel⟩
theorem JL{w:Q}{h:O}{ns:List Nd}{N:Nd}{vn vk:O}(c:ez w h ns N vn vk)(f:N.k=16):
  R Tryz.prog 135 #[.agg #[h],cE N vn vk] w fun e g=>e= .returned (.bool (aA N M M M M&&((N.ks.length:Int)==1)&&(dm ns N 0==34)))/\Below w.heap.size w g:=by
 obtain⟨C,G,rfl⟩:=c.t.form;obtain⟨E,H,rfl⟩:=c.n.form;obtain⟨F,I,rfl⟩:=c.k.form;have b:=St.start c;have J:=c.lx;have B:Hid (N.x.size<=1100000):=by show _<=_;omega
 clear c;have K:=bu f;have L:=gE f 16 rfl;clear f;cases t0:aA N M M M M
 case' true=>
  cases t1:((N.ks.length:Int)==1)
  case' true=>
   have i:N.ks.length=1:=by have:=eu t1;omega
   have A:Hid (1<=N.ks.length):=by show _<=_;omega
   have j:Hid (0<N.ks.length):=by show _<_;omega
   clear i;cases t2:(dm ns N 0==34)
 all_goals
  unfold cE;go_in;go_wp2_with (first|(go_at_call 156;refine(bJ _ N _ _ b.a.n b.a.k b.a.l1).mono ?_;rintro e g ⟨rfl,d⟩;replace b:=b.below d;clear d;obtain⟨l,m,o,p,q,r,s,u,v,y⟩:=aj b.bn;have z:=b.bt)|(go_at_call 155;with_reducible refine(rz b.a j.out).mono ?_;rintro e g ⟨rfl,d⟩;replace b:=b.below d;clear d;obtain⟨l,m,o,p,q,r,s,u,v,y⟩:=aj b.bn;have z:=b.bt));go_ret;exact⟨rfl,b.bel⟩
