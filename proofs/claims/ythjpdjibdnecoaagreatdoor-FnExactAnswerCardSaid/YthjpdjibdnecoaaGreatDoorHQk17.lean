import Derived.Test.YthjpdjibdnecoaaGreatDoorHQk13
set_option linter.all false
set_option maxRecDepth 100000
set_option maxHeartbeats 3200000
open Bool renaming false->M,true->W
open Go renaming Value->O,World->T,Calls->U
open Go.Proofs.Tryz renaming prog->Q
open Go.Ending renaming returned->R
open Go.RowKit renaming Hid->S,Below->V
namespace Go.Proofs.YthjpdjibdnecoaaGreatDoor
open Go.RowKit Go.Maps Go.WideMaps
theorem adh{w:T}{h:O}{ns:List Nd}{N:Nd}{vn vk:O}(c:fI w h ns N vn vk)(f:N.k=28):
  U Q 67 #[.agg #[h],eC N vn vk] w fun e g=>e= R (.bool (((N.ks.length:Int)==2)&&jk ns N 2 0&&aI N M M M M))/\V w.heap.size w g:=by
 obtain⟨E,H,rfl⟩:=c.t.form;obtain⟨F,I,rfl⟩:=c.n.form;obtain⟨G,J,rfl⟩:=c.k.form;have b:=St.start c;have K:=c.lx;have C:S (N.x.size<=1100000):=by show _<=_;omega
 clear c;have L:=nF f;have ad:=sn f 28 rfl;clear f;cases t0:((N.ks.length:Int)==2)
 case' true=>
  have i:N.ks.length=2:=by have:=ft t0;omega
  have j:S (2<=N.ks.length):=by show _<=_;omega
  have A:S (0<N.ks.length):=by show _<_;omega
  have B:S (1<N.ks.length):=by show _<_;omega
  clear i;cases t1:jk ns N 2 0
  case' true=>
   cases t2:aI N M M M M
 all_goals
  unfold eC;go_in;go_wp2_with (first|(go_at_call 116;refine(db _ _ ns N _ _ 0 2 b.a.t b.a.n b.a.k b.a.ok j.out b.a.ln b.a.l2).mono ?_;rintro e g ⟨rfl,d⟩;replace b:=b.below d;clear d;obtain⟨l,m,o,p,q,r,s,u,v,y⟩:=ax b.bn;have z:=b.bt)|(go_at_call 114;refine(cE _ N _ _ b.a.n b.a.k b.a.l1).mono ?_;rintro e g ⟨rfl,d⟩;replace b:=b.below d;clear d;obtain⟨l,m,o,p,q,r,s,u,v,y⟩:=ax b.bn;have z:=b.bt));go_ret;exact⟨rfl,b.bel⟩
theorem adi{w:T}{h:O}{ns:List Nd}{N:Nd}{vn vk:O}(c:fI w h ns N vn vk)(f:N.k=29):
  U Q 67 #[.agg #[h],eC N vn vk] w fun e g=>e= R (.bool (((N.ks.length:Int)==2)&&jk ns N 2 0&&aI N M M M M))/\V w.heap.size w g:=by
 obtain⟨E,H,rfl⟩:=c.t.form;obtain⟨F,I,rfl⟩:=c.n.form;obtain⟨G,J,rfl⟩:=c.k.form;have b:=St.start c;have K:=c.lx;have C:S (N.x.size<=1100000):=by show _<=_;omega
 clear c;have L:=nF f;have ad:=sn f 29 rfl;clear f;cases t0:((N.ks.length:Int)==2)
 case' true=>
  have i:N.ks.length=2:=by have:=ft t0;omega
  have j:S (2<=N.ks.length):=by show _<=_;omega
  have A:S (0<N.ks.length):=by show _<_;omega
  have B:S (1<N.ks.length):=by show _<_;omega
  clear i;cases t1:jk ns N 2 0
  case' true=>
   cases t2:aI N M M M M
 all_goals
  unfold eC;go_in;go_wp2_with (first|(go_at_call 116;refine(db _ _ ns N _ _ 0 2 b.a.t b.a.n b.a.k b.a.ok j.out b.a.ln b.a.l2).mono ?_;rintro e g ⟨rfl,d⟩;replace b:=b.below d;clear d;obtain⟨l,m,o,p,q,r,s,u,v,y⟩:=ax b.bn;have z:=b.bt)|(go_at_call 114;refine(cE _ N _ _ b.a.n b.a.k b.a.l1).mono ?_;rintro e g ⟨rfl,d⟩;replace b:=b.below d;clear d;obtain⟨l,m,o,p,q,r,s,u,v,y⟩:=ax b.bn;have z:=b.bt));go_ret;exact⟨rfl,b.bel⟩
theorem adj{w:T}{h:O}{ns:List Nd}{N:Nd}{vn vk:O}(d:fI w h ns N vn vk)(g:N.k=32):
  U Q 67 #[.agg #[h],eC N vn vk] w fun e f=>e= R (.bool (((N.ks.length:Int)==2)&&jk ns N 2 0&&(dH ns N 0 !=27)&&aI N M M M M))/\V w.heap.size w f:=by
 obtain⟨E,H,rfl⟩:=d.t.form;obtain⟨F,I,rfl⟩:=d.n.form;obtain⟨G,J,rfl⟩:=d.k.form;have b:=St.start d;have K:=d.lx;have C:S (N.x.size<=1100000):=by show _<=_;omega
 clear d;have L:=nF g;have ad:=sn g 32 rfl;clear g;cases t0:((N.ks.length:Int)==2)
 case' true=>
  have y:N.ks.length=2:=by have:=ft t0;omega
  have z:S (2<=N.ks.length):=by show _<=_;omega
  have A:S (0<N.ks.length):=by show _<_;omega
  have B:S (1<N.ks.length):=by show _<_;omega
  clear y;cases t1:jk ns N 2 0
  case' true=>
   cases t2:(dH ns N 0 !=27)
   case' true=>
    cases t3:aI N M M M M
 all_goals
  unfold eC;go_in;go_wp2_with (first|(go_at_call 116;refine(db _ _ ns N _ _ 0 2 b.a.t b.a.n b.a.k b.a.ok z.out b.a.ln b.a.l2).mono ?_;rintro e f ⟨rfl,c⟩;replace b:=b.below c;clear c;obtain⟨i,j,l,m,o,p,q,r,s,u⟩:=ax b.bn;have v:=b.bt)|(go_at_call 113;refine(jz b.a 0 A.out).mono ?_;rintro e f ⟨rfl,c⟩;replace b:=b.below c;clear c;obtain⟨i,j,l,m,o,p,q,r,s,u⟩:=ax b.bn;have v:=b.bt)|(go_at_call 114;refine(cE _ N _ _ b.a.n b.a.k b.a.l1).mono ?_;rintro e f ⟨rfl,c⟩;replace b:=b.below c;clear c;obtain⟨i,j,l,m,o,p,q,r,s,u⟩:=ax b.bn;have v:=b.bt));go_ret;exact⟨rfl,b.bel⟩
theorem adk{w:T}{h:O}{ns:List Nd}{N:Nd}{vn vk:O}(c:fI w h ns N vn vk)(f:N.k=30):
  U Q 67 #[.agg #[h],eC N vn vk] w fun e g=>e= R (.bool (((N.ks.length:Int)==1)&&jk ns N 1 0&&aI N W M M M&&decide ((19:Int)<=N.op)&&decide (N.op<=22)))/\V w.heap.size w g:=by
 obtain⟨C,G,rfl⟩:=c.t.form;obtain⟨E,H,rfl⟩:=c.n.form;obtain⟨F,I,rfl⟩:=c.k.form;have b:=St.start c;have J:=c.lx;have B:S (N.x.size<=1100000):=by show _<=_;omega
 clear c;have K:=nF f;have L:=sn f 30 rfl;clear f;cases t0:((N.ks.length:Int)==1)
 case' true=>
  have i:N.ks.length=1:=by have:=ft t0;omega
  have j:S (1<=N.ks.length):=by show _<=_;omega
  have A:S (0<N.ks.length):=by show _<_;omega
  clear i;cases t1:jk ns N 1 0
  case' true=>
   cases t2:aI N W M M M
   case' true=>
    cases t3:decide ((19:Int)<=N.op)
    case' true=>
     cases t4:decide (N.op<=22)
 all_goals
  unfold eC;go_in;go_wp2_with (first|(go_at_call 116;refine(db _ _ ns N _ _ 0 1 b.a.t b.a.n b.a.k b.a.ok j.out b.a.ln b.a.l2).mono ?_;rintro e g ⟨rfl,d⟩;replace b:=b.below d;clear d;obtain⟨l,m,o,p,q,r,s,u,v,y⟩:=ax b.bn;have z:=b.bt)|(go_at_call 114;refine(zm _ N _ _ b.a.n b.a.k b.a.l1).mono ?_;rintro e g ⟨rfl,d⟩;replace b:=b.below d;clear d;obtain⟨l,m,o,p,q,r,s,u,v,y⟩:=ax b.bn;have z:=b.bt));go_ret;exact⟨rfl,b.bel⟩
theorem adl{w:T}{h:O}{ns:List Nd}{N:Nd}{vn vk:O}(c:fI w h ns N vn vk)(f:N.k=31):
  U Q 67 #[.agg #[h],eC N vn vk] w fun e g=>e= R (.bool (((N.ks.length:Int)==2)&&jk ns N 2 0&&aI N W M M M&&decide ((1:Int)<=N.op)&&decide (N.op<=18)))/\V w.heap.size w g:=by
 obtain⟨E,H,rfl⟩:=c.t.form;obtain⟨F,I,rfl⟩:=c.n.form;obtain⟨G,J,rfl⟩:=c.k.form;have b:=St.start c;have K:=c.lx;have C:S (N.x.size<=1100000):=by show _<=_;omega
 clear c;have L:=nF f;have ad:=sn f 31 rfl;clear f;cases t0:((N.ks.length:Int)==2)
 case' true=>
  have i:N.ks.length=2:=by have:=ft t0;omega
  have j:S (2<=N.ks.length):=by show _<=_;omega
  have A:S (0<N.ks.length):=by show _<_;omega
  have B:S (1<N.ks.length):=by show _<_;omega
  clear i;cases t1:jk ns N 2 0
  case' true=>
   cases t2:aI N W M M M
   case' true=>
    cases t3:decide ((1:Int)<=N.op)
    case' true=>
     cases t4:decide (N.op<=18)
 all_goals
  unfold eC;go_in;go_wp2_with (first|(go_at_call 116;refine(db _ _ ns N _ _ 0 2 b.a.t b.a.n b.a.k b.a.ok j.out b.a.ln b.a.l2).mono ?_;rintro e g ⟨rfl,d⟩;replace b:=b.below d;clear d;obtain⟨l,m,o,p,q,r,s,u,v,y⟩:=ax b.bn;have z:=b.bt)|(go_at_call 114;refine(zm _ N _ _ b.a.n b.a.k b.a.l1).mono ?_;rintro e g ⟨rfl,d⟩;replace b:=b.below d;clear d;obtain⟨l,m,o,p,q,r,s,u,v,y⟩:=ax b.bn;have z:=b.bt));go_ret;exact⟨rfl,b.bel⟩
