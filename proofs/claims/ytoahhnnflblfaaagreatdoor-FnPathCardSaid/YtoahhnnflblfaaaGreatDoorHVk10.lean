import Derived.Test.YtoahhnnflblfaaaGreatDoorHVk07
set_option linter.all false
set_option maxRecDepth 100000
set_option maxHeartbeats 3200000
open Bool renaming false->M,true->U
open Go renaming Value->O,World->S,Calls->T
open Go.Proofs.Tryz renaming prog->Q
open Go.Ending renaming returned->R
namespace Go.Proofs.YtoahhnnflblfaaaGreatDoor
open Go.RowKit Go.Maps Go.WideMaps
theorem adk{w:S}{h:O}{ns:List Nd}{N:Nd}{vn vk:O}(c:gn w h ns N vn vk)(f:N.k=40):
  T Q 46 #[.agg #[h],dy N vn vk] w fun e g=>e= R (.bool (((N.ks.length:Int)==1)&&iF ns N 1 0&&aD N M M M M))/\Below w.heap.size w g:=by
 obtain⟨C,G,rfl⟩:=c.t.form;obtain⟨E,H,rfl⟩:=c.n.form;obtain⟨F,I,rfl⟩:=c.k.form;have b:=St.start c;have J:=c.lx;have B:Hid (N.x.size<=1100000):=by show _<=_;omega
 clear c;have K:=ci f;have L:=kH f 40 rfl;clear f;cases t0:((N.ks.length:Int)==1)
 case' true=>
  have i:N.ks.length=1:=by have:=ga t0;omega
  have j:Hid (1<=N.ks.length):=by show _<=_;omega
  have A:Hid (0<N.ks.length):=by show _<_;omega
  clear i;cases t1:iF ns N 1 0
  case' true=>
   cases t2:aD N M M M M
 all_goals
  unfold dy;go_in;go_wp2_with (first|(go_at_call 99;refine(dz _ _ ns N _ _ 0 1 b.a.t b.a.n b.a.k b.a.ok j.out b.a.ln b.a.l2).mono ?_;rintro e g ⟨rfl,d⟩;replace b:=b.below d;clear d;obtain⟨l,m,o,p,q,r,s,u,v,y⟩:=aq b.bn;have z:=b.bt)|(go_at_call 97;refine(de _ N _ _ b.a.n b.a.k b.a.l1).mono ?_;rintro e g ⟨rfl,d⟩;replace b:=b.below d;clear d;obtain⟨l,m,o,p,q,r,s,u,v,y⟩:=aq b.bn;have z:=b.bt));go_ret;exact⟨rfl,b.bel⟩
theorem adl{w:S}{h:O}{ns:List Nd}{N:Nd}{vn vk:O}(c:gn w h ns N vn vk)(f:N.k=41):
  T Q 46 #[.agg #[h],dy N vn vk] w fun e g=>e= R (.bool (((N.ks.length:Int)==2)&&iF ns N 2 0&&aD N M M M M))/\Below w.heap.size w g:=by
 obtain⟨E,H,rfl⟩:=c.t.form;obtain⟨F,I,rfl⟩:=c.n.form;obtain⟨G,J,rfl⟩:=c.k.form;have b:=St.start c;have K:=c.lx;have C:Hid (N.x.size<=1100000):=by show _<=_;omega
 clear c;have L:=ci f;have af:=kH f 41 rfl;clear f;cases t0:((N.ks.length:Int)==2)
 case' true=>
  have i:N.ks.length=2:=by have:=ga t0;omega
  have j:Hid (2<=N.ks.length):=by show _<=_;omega
  have A:Hid (0<N.ks.length):=by show _<_;omega
  have B:Hid (1<N.ks.length):=by show _<_;omega
  clear i;cases t1:iF ns N 2 0
  case' true=>
   cases t2:aD N M M M M
 all_goals
  unfold dy;go_in;go_wp2_with (first|(go_at_call 99;refine(dz _ _ ns N _ _ 0 2 b.a.t b.a.n b.a.k b.a.ok j.out b.a.ln b.a.l2).mono ?_;rintro e g ⟨rfl,d⟩;replace b:=b.below d;clear d;obtain⟨l,m,o,p,q,r,s,u,v,y⟩:=aq b.bn;have z:=b.bt)|(go_at_call 97;refine(de _ N _ _ b.a.n b.a.k b.a.l1).mono ?_;rintro e g ⟨rfl,d⟩;replace b:=b.below d;clear d;obtain⟨l,m,o,p,q,r,s,u,v,y⟩:=aq b.bn;have z:=b.bt));go_ret;exact⟨rfl,b.bel⟩
theorem adm{w:S}{h:O}{ns:List Nd}{N:Nd}{vn vk:O}(d:gn w h ns N vn vk)(g:N.k=42):
  T Q 46 #[.agg #[h],dy N vn vk] w fun e f=>e= R (.bool (((N.ks.length:Int)==1)&&iF ns N 1 0&&aD N M M U M&&jo N.x))/\Below w.heap.size w f:=by
 obtain⟨C,G,rfl⟩:=d.t.form;obtain⟨E,H,rfl⟩:=d.n.form;obtain⟨F,I,rfl⟩:=d.k.form;have b:=St.start d;have J:=d.lx;have A:Hid (N.x.size<=1100000):=by show _<=_;omega
 clear d;have K:=ci g;have L:=kH g 42 rfl;clear g;cases t0:((N.ks.length:Int)==1)
 case' true=>
  have y:N.ks.length=1:=by have:=ga t0;omega
  have z:Hid (1<=N.ks.length):=by show _<=_;omega
  have B:Hid (0<N.ks.length):=by show _<_;omega
  clear y;cases t1:iF ns N 1 0
  case' true=>
   cases t2:aD N M M U M
   case' true=>
    cases t3:jo N.x
 all_goals
  unfold dy;go_in;go_wp2_with (first|(go_at_call 99;refine(dz _ _ ns N _ _ 0 1 b.a.t b.a.n b.a.k b.a.ok z.out b.a.ln b.a.l2).mono ?_;rintro e f ⟨rfl,c⟩;replace b:=b.below c;clear c;obtain⟨i,j,l,m,o,p,q,r,s,u⟩:=aq b.bn;have v:=b.bt)|(go_at_call 97;refine(ng _ N _ _ b.a.n b.a.k b.a.l1).mono ?_;rintro e f ⟨rfl,c⟩;replace b:=b.below c;clear c;obtain⟨i,j,l,m,o,p,q,r,s,u⟩:=aq b.bn;have v:=b.bt)|(go_at_call 102;refine(oC N.x A.out _).mono ?_;rintro e f ⟨rfl,c⟩;replace b:=b.below c;clear c;obtain⟨i,j,l,m,o,p,q,r,s,u⟩:=aq b.bn;have v:=b.bt));go_ret;exact⟨rfl,b.bel⟩
theorem adn{w:S}{v:O}{ns:List Nd}{N:Nd}{vn vk:O}(d:gn w v ns N vn vk)(g:N.k=10):
  T Q 45 #[.agg #[v],dy N vn vk] w fun e f=>e= R (.bool (aD N M M M U&&ez N 1 200&&((N.ks.length:Int)==2)&&iF ns N 1 0&&(eu ns N 1==1)))/\Below w.heap.size w f:=by
 obtain⟨E,H,rfl⟩:=d.t.form;obtain⟨F,I,rfl⟩:=d.n.form;obtain⟨G,J,rfl⟩:=d.k.form;have b:=St.start d;have K:=d.lx;have C:Hid (N.x.size<=1100000):=by show _<=_;omega
 clear d;have L:=ci g;have af:=kH g 10 rfl;clear g;cases t0:aD N M M M U
 case' true=>
  cases t1:ez N 1 200
  case' true=>
   cases t2:((N.ks.length:Int)==2)
   case' true=>
    have y:N.ks.length=2:=by have:=ga t2;omega
    have z:Hid (1<=N.ks.length):=by show _<=_;omega
    have B:Hid (0<N.ks.length):=by show _<_;omega
    have A:Hid (1<N.ks.length):=by show _<_;omega
    clear y;cases t3:iF ns N 1 0
    case' true=>
     cases t4:(eu ns N 1==1)
 all_goals
  unfold dy;go_in;go_wp2_with (first|(go_at_call 97;refine(lp _ N _ _ b.a.n b.a.k b.a.l1).mono ?_;rintro e f ⟨rfl,c⟩;replace b:=b.below c;clear c;obtain⟨h,i,j,l,m,o,p,q,r,s⟩:=aq b.bn;have u:=b.bt)|(go_at_call 98;refine(jy _ N _ _ 1 200 b.a.n b.a.k b.a.l1 b.a.ls).mono ?_;rintro e f ⟨rfl,c⟩;replace b:=b.below c;clear c;obtain⟨h,i,j,l,m,o,p,q,r,s⟩:=aq b.bn;have u:=b.bt)|(go_at_call 99;refine(dz _ _ ns N _ _ 0 1 b.a.t b.a.n b.a.k b.a.ok z.out b.a.ln b.a.l2).mono ?_;rintro e f ⟨rfl,c⟩;replace b:=b.below c;clear c;obtain⟨h,i,j,l,m,o,p,q,r,s⟩:=aq b.bn;have u:=b.bt)|(go_at_call 96;with_reducible refine(vG b.a A.out).mono ?_;rintro e f ⟨rfl,c⟩;replace b:=b.below c;clear c;obtain⟨h,i,j,l,m,o,p,q,r,s⟩:=aq b.bn;have u:=b.bt));go_ret;exact⟨rfl,b.bel⟩
theorem ado{w:S}{h:O}{ns:List Nd}{N:Nd}{vn vk:O}(c:gn w h ns N vn vk)(f:N.k=13):
  T Q 45 #[.agg #[h],dy N vn vk] w fun e g=>e= R (.bool (aD N M M M M&&iF ns N N.ks.length 0))/\Below w.heap.size w g:=by
 obtain⟨z,C,rfl⟩:=c.t.form;obtain⟨A,E,rfl⟩:=c.n.form;obtain⟨B,F,rfl⟩:=c.k.form;have b:=St.start c;have G:=c.lx;have y:Hid (N.x.size<=1100000):=by show _<=_;omega
 clear c;have H:=ci f;have I:=kH f 13 rfl;clear f;cases t0:aD N M M M M
 case' true=>
  cases t1:iF ns N N.ks.length 0
 all_goals
  unfold dy;go_in;go_wp2_with (first|(go_at_call 97;refine(de _ N _ _ b.a.n b.a.k b.a.l1).mono ?_;rintro e g ⟨rfl,d⟩;replace b:=b.below d;clear d;obtain⟨i,j,l,m,o,p,q,r,s,u⟩:=aq b.bn;have v:=b.bt)|(go_at_call 99;refine(dz _ _ ns N _ _ 0 N.ks.length b.a.t b.a.n b.a.k b.a.ok (ag _) b.a.ln b.a.l2).mono ?_;rintro e g ⟨rfl,d⟩;replace b:=b.below d;clear d;obtain⟨i,j,l,m,o,p,q,r,s,u⟩:=aq b.bn;have v:=b.bt));go_ret;exact⟨rfl,b.bel⟩
