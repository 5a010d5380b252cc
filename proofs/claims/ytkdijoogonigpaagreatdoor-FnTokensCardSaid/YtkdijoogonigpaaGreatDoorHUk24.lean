import Derived.Test.YtkdijoogonigpaaGreatDoorHUk21
set_option linter.all false
set_option maxRecDepth 100000
set_option maxHeartbeats 3200000
open Bool renaming false->M,true->W
open Go renaming Value->O,World->T,Calls->U
open Go.Proofs.Tryz renaming prog->Q
open Go.Ending renaming returned->R
open Go.RowKit renaming Hid->S,Below->V
namespace Go.Proofs.YtkdijoogonigpaaGreatDoor
open Go.RowKit Go.Maps Go.WideMaps
theorem Jx{w:T}{h:O}{ns:List Nd}{N:Nd}{vn vk:O}(c:ez w h ns N vn vk)(f:N.k=28):
  U Q 136 #[.agg #[h],cE N vn vk] w fun e g=>e= R (.bool (((N.ks.length:Int)==2)&&gc ns N 2 0&&aA N M M M M))/\V w.heap.size w g:=by
 obtain⟨E,H,rfl⟩:=c.t.form;obtain⟨F,I,rfl⟩:=c.n.form;obtain⟨G,J,rfl⟩:=c.k.form;have b:=St.start c;have K:=c.lx;have C:S (N.x.size<=1100000):=by show _<=_;omega
 clear c;have L:=bu f;have af:=gE f 28 rfl;clear f;cases t0:((N.ks.length:Int)==2)
 case' true=>
  have i:N.ks.length=2:=by have:=eu t0;omega
  have j:S (2<=N.ks.length):=by show _<=_;omega
  have A:S (0<N.ks.length):=by show _<_;omega
  have B:S (1<N.ks.length):=by show _<_;omega
  clear i;cases t1:gc ns N 2 0
  case' true=>
   cases t2:aA N M M M M
 all_goals
  unfold cE;go_in;go_wp2_with (first|(go_at_call 158;refine(cx _ _ ns N _ _ 0 2 b.a.t b.a.n b.a.k b.a.ok j.out b.a.ln b.a.l2).mono ?_;rintro e g ⟨rfl,d⟩;replace b:=b.below d;clear d;obtain⟨l,m,o,p,q,r,s,u,v,y⟩:=aj b.bn;have z:=b.bt)|(go_at_call 156;refine(bJ _ N _ _ b.a.n b.a.k b.a.l1).mono ?_;rintro e g ⟨rfl,d⟩;replace b:=b.below d;clear d;obtain⟨l,m,o,p,q,r,s,u,v,y⟩:=aj b.bn;have z:=b.bt));go_ret;exact⟨rfl,b.bel⟩
theorem Jy{w:T}{h:O}{ns:List Nd}{N:Nd}{vn vk:O}(c:ez w h ns N vn vk)(f:N.k=29):
  U Q 136 #[.agg #[h],cE N vn vk] w fun e g=>e= R (.bool (((N.ks.length:Int)==2)&&gc ns N 2 0&&aA N M M M M))/\V w.heap.size w g:=by
 obtain⟨E,H,rfl⟩:=c.t.form;obtain⟨F,I,rfl⟩:=c.n.form;obtain⟨G,J,rfl⟩:=c.k.form;have b:=St.start c;have K:=c.lx;have C:S (N.x.size<=1100000):=by show _<=_;omega
 clear c;have L:=bu f;have af:=gE f 29 rfl;clear f;cases t0:((N.ks.length:Int)==2)
 case' true=>
  have i:N.ks.length=2:=by have:=eu t0;omega
  have j:S (2<=N.ks.length):=by show _<=_;omega
  have A:S (0<N.ks.length):=by show _<_;omega
  have B:S (1<N.ks.length):=by show _<_;omega
  clear i;cases t1:gc ns N 2 0
  case' true=>
   cases t2:aA N M M M M
 all_goals
  unfold cE;go_in;go_wp2_with (first|(go_at_call 158;refine(cx _ _ ns N _ _ 0 2 b.a.t b.a.n b.a.k b.a.ok j.out b.a.ln b.a.l2).mono ?_;rintro e g ⟨rfl,d⟩;replace b:=b.below d;clear d;obtain⟨l,m,o,p,q,r,s,u,v,y⟩:=aj b.bn;have z:=b.bt)|(go_at_call 156;refine(bJ _ N _ _ b.a.n b.a.k b.a.l1).mono ?_;rintro e g ⟨rfl,d⟩;replace b:=b.below d;clear d;obtain⟨l,m,o,p,q,r,s,u,v,y⟩:=aj b.bn;have z:=b.bt));go_ret;exact⟨rfl,b.bel⟩
theorem Jz{w:T}{h:O}{ns:List Nd}{N:Nd}{vn vk:O}(d:ez w h ns N vn vk)(g:N.k=32):
  U Q 136 #[.agg #[h],cE N vn vk] w fun e f=>e= R (.bool (((N.ks.length:Int)==2)&&gc ns N 2 0&&(dm ns N 0 !=27)&&aA N M M M M))/\V w.heap.size w f:=by
 obtain⟨E,H,rfl⟩:=d.t.form;obtain⟨F,I,rfl⟩:=d.n.form;obtain⟨G,J,rfl⟩:=d.k.form;have b:=St.start d;have K:=d.lx;have C:S (N.x.size<=1100000):=by show _<=_;omega
 clear d;have L:=bu g;have af:=gE g 32 rfl;clear g;cases t0:((N.ks.length:Int)==2)
 case' true=>
  have y:N.ks.length=2:=by have:=eu t0;omega
  have z:S (2<=N.ks.length):=by show _<=_;omega
  have A:S (0<N.ks.length):=by show _<_;omega
  have B:S (1<N.ks.length):=by show _<_;omega
  clear y;cases t1:gc ns N 2 0
  case' true=>
   cases t2:(dm ns N 0 !=27)
   case' true=>
    cases t3:aA N M M M M
 all_goals
  unfold cE;go_in;go_wp2_with (first|(go_at_call 158;refine(cx _ _ ns N _ _ 0 2 b.a.t b.a.n b.a.k b.a.ok z.out b.a.ln b.a.l2).mono ?_;rintro e f ⟨rfl,c⟩;replace b:=b.below c;clear c;obtain⟨i,j,l,m,o,p,q,r,s,u⟩:=aj b.bn;have v:=b.bt)|(go_at_call 155;refine(gL b.a 0 A.out).mono ?_;rintro e f ⟨rfl,c⟩;replace b:=b.below c;clear c;obtain⟨i,j,l,m,o,p,q,r,s,u⟩:=aj b.bn;have v:=b.bt)|(go_at_call 156;refine(bJ _ N _ _ b.a.n b.a.k b.a.l1).mono ?_;rintro e f ⟨rfl,c⟩;replace b:=b.below c;clear c;obtain⟨i,j,l,m,o,p,q,r,s,u⟩:=aj b.bn;have v:=b.bt));go_ret;exact⟨rfl,b.bel⟩
theorem JA{w:T}{h:O}{ns:List Nd}{N:Nd}{vn vk:O}(c:ez w h ns N vn vk)(f:N.k=30):
  U Q 136 #[.agg #[h],cE N vn vk] w fun e g=>e= R (.bool (((N.ks.length:Int)==1)&&gc ns N 1 0&&aA N W M M M&&decide ((19:Int)<=N.op)&&decide (N.op<=22)))/\V w.heap.size w g:=by
 obtain⟨C,G,rfl⟩:=c.t.form;obtain⟨E,H,rfl⟩:=c.n.form;obtain⟨F,I,rfl⟩:=c.k.form;have b:=St.start c;have J:=c.lx;have B:S (N.x.size<=1100000):=by show _<=_;omega
 clear c;have K:=bu f;have L:=gE f 30 rfl;clear f;cases t0:((N.ks.length:Int)==1)
 case' true=>
  have i:N.ks.length=1:=by have:=eu t0;omega
  have j:S (1<=N.ks.length):=by show _<=_;omega
  have A:S (0<N.ks.length):=by show _<_;omega
  clear i;cases t1:gc ns N 1 0
  case' true=>
   cases t2:aA N W M M M
   case' true=>
    cases t3:decide ((19:Int)<=N.op)
    case' true=>
     cases t4:decide (N.op<=22)
 all_goals
  unfold cE;go_in;go_wp2_with (first|(go_at_call 158;refine(cx _ _ ns N _ _ 0 1 b.a.t b.a.n b.a.k b.a.ok j.out b.a.ln b.a.l2).mono ?_;rintro e g ⟨rfl,d⟩;replace b:=b.below d;clear d;obtain⟨l,m,o,p,q,r,s,u,v,y⟩:=aj b.bn;have z:=b.bt)|(go_at_call 156;refine(ty _ N _ _ b.a.n b.a.k b.a.l1).mono ?_;rintro e g ⟨rfl,d⟩;replace b:=b.below d;clear d;obtain⟨l,m,o,p,q,r,s,u,v,y⟩:=aj b.bn;have z:=b.bt));go_ret;exact⟨rfl,b.bel⟩
theorem JB{w:T}{h:O}{ns:List Nd}{N:Nd}{vn vk:O}(c:ez w h ns N vn vk)(f:N.k=31):
  U Q 136 #[.agg #[h],cE N vn vk] w fun e g=>e= R (.bool (((N.ks.length:Int)==2)&&gc ns N 2 0&&aA N W M M M&&decide ((1:Int)<=N.op)&&decide (N.op<=18)))/\V w.heap.size w g:=by
 obtain⟨E,H,rfl⟩:=c.t.form;obtain⟨F,I,rfl⟩:=c.n.form;obtain⟨G,J,rfl⟩:=c.k.form;have b:=St.start c;have K:=c.lx;have C:S (N.x.size<=1100000):=by show _<=_;omega
 clear c;have L:=bu f;have af:=gE f 31 rfl;clear f;cases t0:((N.ks.length:Int)==2)
 case' true=>
  have i:N.ks.length=2:=by have:=eu t0;omega
  have j:S (2<=N.ks.length):=by show _<=_;omega
  have A:S (0<N.ks.length):=by show _<_;omega
  have B:S (1<N.ks.length):=by show _<_;omega
  clear i;cases t1:gc ns N 2 0
  case' true=>
   cases t2:aA N W M M M
   case' true=>
    cases t3:decide ((1:Int)<=N.op)
    case' true=>
     cases t4:decide (N.op<=18)
 all_goals
  unfold cE;go_in;go_wp2_with (first|(go_at_call 158;refine(cx _ _ ns N _ _ 0 2 b.a.t b.a.n b.a.k b.a.ok j.out b.a.ln b.a.l2).mono ?_;rintro e g ⟨rfl,d⟩;replace b:=b.below d;clear d;obtain⟨l,m,o,p,q,r,s,u,v,y⟩:=aj b.bn;have z:=b.bt)|(go_at_call 156;refine(ty _ N _ _ b.a.n b.a.k b.a.l1).mono ?_;rintro e g ⟨rfl,d⟩;replace b:=b.below d;clear d;obtain⟨l,m,o,p,q,r,s,u,v,y⟩:=aj b.bn;have z:=b.bt));go_ret;exact⟨rfl,b.bel⟩
