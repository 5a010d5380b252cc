import Derived.Test.YtoahhnnflblfaaaGreatDoorHVk07
set_option linter.all false
set_option maxRecDepth 100000
set_option maxHeartbeats 3200000
open Bool renaming false->M,true->W
open Go renaming Value->O,World->T,Calls->U
open Go.Proofs.Tryz renaming prog->Q
open Go.Ending renaming returned->R
open Go.RowKit renaming Hid->S,Below->V
namespace Go.Proofs.YtoahhnnflblfaaaGreatDoor
open Go.RowKit Go.Maps Go.WideMaps
theorem ag4{w:T}{h:O}{ns:List Nd}{N:Nd}{vn vk:O}(d:gn w h ns N vn vk)(g:N.k=3):
  U Q 45 #[.agg #[h],dy N vn vk] w fun e f=>e= R (.bool (aD N M M M W&&ez N 1 1&&((N.ks.length:Int)==1)&&iF ns N 1 0))/\V w.heap.size w f:=by
 obtain⟨C,G,rfl⟩:=d.t.form;obtain⟨E,H,rfl⟩:=d.n.form;obtain⟨F,I,rfl⟩:=d.k.form;have b:=St.start d;have J:=d.lx;have B:S (N.x.size<=1100000):=by show _<=_;omega
 clear d;have K:=ci g;have L:=kH g 3 rfl;clear g;cases t0:aD N M M M W
 case' true=>
  cases t1:ez N 1 1
  case' true=>
   cases t2:((N.ks.length:Int)==1)
   case' true=>
    have y:N.ks.length=1:=by have:=ga t2;omega
    have z:S (1<=N.ks.length):=by show _<=_;omega
    have A:S (0<N.ks.length):=by show _<_;omega
    clear y;cases t3:iF ns N 1 0
 all_goals
  unfold dy;go_in;go_wp2_with (first|(go_at_call 97;refine(lp _ N _ _ b.a.n b.a.k b.a.l1).mono ?_;rintro e f ⟨rfl,c⟩;replace b:=b.below c;clear c;obtain⟨i,j,l,m,o,p,q,r,s,u⟩:=aq b.bn;have v:=b.bt)|(go_at_call 98;refine(jy _ N _ _ 1 1 b.a.n b.a.k b.a.l1 b.a.ls).mono ?_;rintro e f ⟨rfl,c⟩;replace b:=b.below c;clear c;obtain⟨i,j,l,m,o,p,q,r,s,u⟩:=aq b.bn;have v:=b.bt)|(go_at_call 99;refine(dz _ _ ns N _ _ 0 1 b.a.t b.a.n b.a.k b.a.ok z.out b.a.ln b.a.l2).mono ?_;rintro e f ⟨rfl,c⟩;replace b:=b.below c;clear c;obtain⟨i,j,l,m,o,p,q,r,s,u⟩:=aq b.bn;have v:=b.bt));go_ret;exact⟨rfl,b.bel⟩
theorem ag5{w:T}{h:O}{ns:List Nd}{N:Nd}{vn vk:O}(d:gn w h ns N vn vk)(g:N.k=8):
  U Q 45 #[.agg #[h],dy N vn vk] w fun e f=>e= R (.bool (aD N M M M M&&((N.ks.length:Int)==2)&&iF ns N 1 0&&(eu ns N 1==1)))/\V w.heap.size w f:=by
 obtain⟨E,H,rfl⟩:=d.t.form;obtain⟨F,I,rfl⟩:=d.n.form;obtain⟨G,J,rfl⟩:=d.k.form;have b:=St.start d;have K:=d.lx;have C:S (N.x.size<=1100000):=by show _<=_;omega
 clear d;have L:=ci g;have af:=kH g 8 rfl;clear g;cases t0:aD N M M M M
 case' true=>
  cases t1:((N.ks.length:Int)==2)
  case' true=>
   have y:N.ks.length=2:=by have:=ga t1;omega
   have z:S (1<=N.ks.length):=by show _<=_;omega
   have B:S (0<N.ks.length):=by show _<_;omega
   have A:S (1<N.ks.length):=by show _<_;omega
   clear y;cases t2:iF ns N 1 0
   case' true=>
    cases t3:(eu ns N 1==1)
 all_goals
  unfold dy;go_in;go_wp2_with (first|(go_at_call 97;refine(de _ N _ _ b.a.n b.a.k b.a.l1).mono ?_;rintro e f ⟨rfl,c⟩;replace b:=b.below c;clear c;obtain⟨i,j,l,m,o,p,q,r,s,u⟩:=aq b.bn;have v:=b.bt)|(go_at_call 99;refine(dz _ _ ns N _ _ 0 1 b.a.t b.a.n b.a.k b.a.ok z.out b.a.ln b.a.l2).mono ?_;rintro e f ⟨rfl,c⟩;replace b:=b.below c;clear c;obtain⟨i,j,l,m,o,p,q,r,s,u⟩:=aq b.bn;have v:=b.bt)|(go_at_call 96;with_reducible refine(vG b.a A.out).mono ?_;rintro e f ⟨rfl,c⟩;replace b:=b.below c;clear c;obtain⟨i,j,l,m,o,p,q,r,s,u⟩:=aq b.bn;have v:=b.bt));go_ret;exact⟨rfl,b.bel⟩
theorem adp{w:T}{g:O}{ns:List Nd}{N:Nd}{vn vk:O}(c:gn w g ns N vn vk)(d:N.k=11):
  U Q 45 #[.agg #[g],dy N vn vk] w fun e h=>e= R (.bool (aD N M M M M&&((N.ks.length:Int)==0)))/\V w.heap.size w h:=by
 obtain⟨j,o,rfl⟩:=c.t.form;obtain⟨l,p,rfl⟩:=c.n.form;obtain⟨m,q,rfl⟩:=c.k.form;have b:=St.start c;have r:=c.lx;have i:S (N.x.size<=1100000):=by show _<=_;omega
 clear c;have s:=ci d;have u:=kH d 11 rfl;clear d;cases t0:aD N M M M M
 case' true=>
  cases t1:((N.ks.length:Int)==0)
 all_goals
  unfold dy;go_in;go_wp2_with (first|(go_at_call 97;refine(de _ N _ _ b.a.n b.a.k b.a.l1).mono ?_;rintro e h ⟨rfl,f⟩;replace b:=b.below f;clear f;obtain⟨v,y,z,A,B,C,E,F,G,H⟩:=aq b.bn;have I:=b.bt));go_ret;exact⟨rfl,b.bel⟩
theorem adq{w:T}{g:O}{ns:List Nd}{N:Nd}{vn vk:O}(c:gn w g ns N vn vk)(d:N.k=12):
  U Q 45 #[.agg #[g],dy N vn vk] w fun e h=>e= R (.bool (aD N M M M M&&((N.ks.length:Int)==0)))/\V w.heap.size w h:=by
 obtain⟨j,o,rfl⟩:=c.t.form;obtain⟨l,p,rfl⟩:=c.n.form;obtain⟨m,q,rfl⟩:=c.k.form;have b:=St.start c;have r:=c.lx;have i:S (N.x.size<=1100000):=by show _<=_;omega
 clear c;have s:=ci d;have u:=kH d 12 rfl;clear d;cases t0:aD N M M M M
 case' true=>
  cases t1:((N.ks.length:Int)==0)
 all_goals
  unfold dy;go_in;go_wp2_with (first|(go_at_call 97;refine(de _ N _ _ b.a.n b.a.k b.a.l1).mono ?_;rintro e h ⟨rfl,f⟩;replace b:=b.below f;clear f;obtain⟨v,y,z,A,B,C,E,F,G,H⟩:=aq b.bn;have I:=b.bt));go_ret;exact⟨rfl,b.bel⟩
theorem adr{w:T}{v:O}{ns:List Nd}{N:Nd}{vn vk:O}(d:gn w v ns N vn vk)(g:N.k=14):
  U Q 45 #[.agg #[v],dy N vn vk] w fun e f=>e= R (.bool (aD N M M M W&&ez N 1 2&&((N.ks.length:Int)==2)&&(eu ns N 0==1)&&(eu ns N 1==1)))/\V w.heap.size w f:=by
 obtain⟨E,H,rfl⟩:=d.t.form;obtain⟨F,I,rfl⟩:=d.n.form;obtain⟨G,J,rfl⟩:=d.k.form;have b:=St.start d;have K:=d.lx;have C:S (N.x.size<=1100000):=by show _<=_;omega
 clear d;have L:=ci g;have af:=kH g 14 rfl;clear g;cases t0:aD N M M M W
 case' true=>
  cases t1:ez N 1 2
  case' true=>
   cases t2:((N.ks.length:Int)==2)
   case' true=>
    have y:N.ks.length=2:=by have:=ga t2;omega
    have B:S (1<=N.ks.length):=by show _<=_;omega
    have z:S (0<N.ks.length):=by show _<_;omega
    have A:S (1<N.ks.length):=by show _<_;omega
    clear y;cases t3:(eu ns N 0==1)
    case' true=>
     cases t4:(eu ns N 1==1)
 all_goals
  unfold dy;go_in;go_wp2_with (first|(go_at_call 97;refine(lp _ N _ _ b.a.n b.a.k b.a.l1).mono ?_;rintro e f ⟨rfl,c⟩;replace b:=b.below c;clear c;obtain⟨h,i,j,l,m,o,p,q,r,s⟩:=aq b.bn;have u:=b.bt)|(go_at_call 98;refine(jy _ N _ _ 1 2 b.a.n b.a.k b.a.l1 b.a.ls).mono ?_;rintro e f ⟨rfl,c⟩;replace b:=b.below c;clear c;obtain⟨h,i,j,l,m,o,p,q,r,s⟩:=aq b.bn;have u:=b.bt)|(go_at_call 96;with_reducible refine(vF b.a z.out).mono ?_;rintro e f ⟨rfl,c⟩;replace b:=b.below c;clear c;obtain⟨h,i,j,l,m,o,p,q,r,s⟩:=aq b.bn;have u:=b.bt)|(go_at_call 96;with_reducible refine(vG b.a A.out).mono ?_;rintro e f ⟨rfl,c⟩;replace b:=b.below c;clear c;obtain⟨h,i,j,l,m,o,p,q,r,s⟩:=aq b.bn;have u:=b.bt));go_ret;exact⟨rfl,b.bel⟩
theorem ads{w:T}{h:O}{ns:List Nd}{N:Nd}{vn vk:O}(c:gn w h ns N vn vk)(f:N.k=15):
  U Q 45 #[.agg #[h],dy N vn vk] w fun e g=>e= R (.bool (aD N M M M M&&((N.ks.length:Int)==1)&&iF ns N 1 0))/\V w.heap.size w g:=by
 obtain⟨C,G,rfl⟩:=c.t.form;obtain⟨E,H,rfl⟩:=c.n.form;obtain⟨F,I,rfl⟩:=c.k.form;have b:=St.start c;have J:=c.lx;have B:S (N.x.size<=1100000):=by show _<=_;omega
 clear c;have K:=ci f;have L:=kH f 15 rfl;clear f;cases t0:aD N M M M M
 case' true=>
  cases t1:((N.ks.length:Int)==1)
  case' true=>
   have i:N.ks.length=1:=by have:=ga t1;omega
   have j:S (1<=N.ks.length):=by show _<=_;omega
   have A:S (0<N.ks.length):=by show _<_;omega
   clear i;cases t2:iF ns N 1 0
 all_goals
  unfold dy;go_in;go_wp2_with (first|(go_at_call 97;refine(de _ N _ _ b.a.n b.a.k b.a.l1).mono ?_;rintro e g ⟨rfl,d⟩;replace b:=b.below d;clear d;obtain⟨l,m,o,p,q,r,s,u,v,y⟩:=aq b.bn;have z:=b.bt)|(go_at_call 99;refine(dz _ _ ns N _ _ 0 1 b.a.t b.a.n b.a.k b.a.ok j.out b.a.ln b.a.l2).mono ?_;rintro e g ⟨rfl,d⟩;replace b:=b.below d;clear d;obtain⟨l,m,o,p,q,r,s,u,v,y⟩:=aq b.bn;have z:=b.bt));go_ret;exact⟨rfl,b.bel⟩
