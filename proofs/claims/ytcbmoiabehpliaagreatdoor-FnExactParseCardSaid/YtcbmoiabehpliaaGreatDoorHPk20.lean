import Derived.Test.YtcbmoiabehpliaaGreatDoorHPk13
import Derived.Test.YtcbmoiabehpliaaGreatDoorHPk08
set_option linter.unusedVariables false
set_option maxRecDepth 100000
set_option maxHeartbeats 3200000
namespace Go.Proofs.YtcbmoiabehpliaaGreatDoor
open Go.RowKit Go.Maps Go.WideMaps
theorem En{w:World}{v:Value}{ns:List Nd}{N:Nd}{vn vk:Value}(d:bP w v ns N vn vk)(g:N.k=2):
  Calls Tryz.prog 52 #[.agg #[v],bu N vn vk] w fun e f=>e= .returned (.bool (aq N false false false true&&bF N 1 200&&di ns N N.ks.length 0))/\Below w.heap.size w f:=by
 obtain⟨z,H,rfl⟩:=d.t.form;obtain⟨C,A,rfl⟩:=d.n.form;obtain⟨F,I,rfl⟩:=d.k.form;have b:=St.start d;have y:=d.lx;have B:Hid (N.x.size<=1100000):=by show _<=_;omega
 clear d;have E:=eI g;have G:=gZ g 2 rfl;clear g;cases t0:aq N false false false true
 case' true=>
  cases t1:bF N 1 200
  case' true=>
   cases t2:di ns N N.ks.length 0
 all_goals
  unfold bu;go_in;go_wp2_with (first|(go_at_call 107;refine(dD _ N _ _ b.a.n b.a.k b.a.l1).mono ?_;rintro e f ⟨rfl,c⟩;replace b:=b.below c;clear c;obtain⟨u,i,h,r,s,q,p,o,j,l⟩:=ad b.bn;have m:=b.bt)|(go_at_call 108;refine(da _ N _ _ 1 200 b.a.n b.a.k b.a.l1 b.a.ls).mono ?_;rintro e f ⟨rfl,c⟩;replace b:=b.below c;clear c;obtain⟨u,i,h,r,s,q,p,o,j,l⟩:=ad b.bn;have m:=b.bt)|(go_at_call 109;refine(aL _ _ ns N _ _ 0 N.ks.length b.a.t b.a.n b.a.k b.a.ok (Nat.le_refl _) b.a.ln b.a.l2).mono ?_;rintro e f ⟨rfl,c⟩;replace b:=b.below c;clear c;obtain⟨u,i,h,r,s,q,p,o,j,l⟩:=ad b.bn;have m:=b.bt));go_ret;exact⟨rfl,b.bel⟩
theorem Eo{w:World}{v:Value}{ns:List Nd}{N:Nd}{vn vk:Value}(d:bP w v ns N vn vk)(g:N.k=4):
  Calls Tryz.prog 52 #[.agg #[v],bu N vn vk] w fun e f=>e= .returned (.bool (aq N false false false true&&bF N 1 1&&((N.ks.length:Int)==1)&&(ba ns N 0==36)))/\Below w.heap.size w f:=by
 obtain⟨B,K,rfl⟩:=d.t.form;obtain⟨F,C,rfl⟩:=d.n.form;obtain⟨I,L,rfl⟩:=d.k.form;have b:=St.start d;have A:=d.lx;have E:Hid (N.x.size<=1100000):=by show _<=_;omega
 clear d;have H:=eI g;have J:=gZ g 4 rfl;clear g;cases t0:aq N false false false true
 case' true=>
  cases t1:bF N 1 1
  case' true=>
   cases t2:((N.ks.length:Int)==1)
   case' true=>
    have y:N.ks.length=1:=by have:=eq_of_beq t2;omega
    have G:Hid (1<=N.ks.length):=by show _<=_;omega
    have z:Hid (0<N.ks.length):=by show _<_;omega
    clear y;cases t3:(ba ns N 0==36)
 all_goals
  unfold bu;go_in;go_wp2_with (first|(go_at_call 107;refine(dD _ N _ _ b.a.n b.a.k b.a.l1).mono ?_;rintro e f ⟨rfl,c⟩;replace b:=b.below c;clear c;obtain⟨u,i,h,r,s,p,q,o,j,l⟩:=ad b.bn;have m:=b.bt)|(go_at_call 108;refine(da _ N _ _ 1 1 b.a.n b.a.k b.a.l1 b.a.ls).mono ?_;rintro e f ⟨rfl,c⟩;replace b:=b.below c;clear c;obtain⟨u,i,h,r,s,p,q,o,j,l⟩:=ad b.bn;have m:=b.bt)|(go_at_call 106;with_reducible refine(kC b.a z.out).mono ?_;rintro e f ⟨rfl,c⟩;replace b:=b.below c;clear c;obtain⟨u,i,h,r,s,p,q,o,j,l⟩:=ad b.bn;have m:=b.bt));go_ret;exact⟨rfl,b.bel⟩
theorem Ep{w:World}{h:Value}{ns:List Nd}{N:Nd}{vn vk:Value}(c:bP w h ns N vn vk)(f:N.k=6):
  Calls Tryz.prog 52 #[.agg #[h],bu N vn vk] w fun e g=>e= .returned (.bool (aq N false false false false&&((N.ks.length:Int)==1)&&(ba ns N 0==34)))/\Below w.heap.size w g:=by
 obtain⟨B,K,rfl⟩:=c.t.form;obtain⟨G,C,rfl⟩:=c.n.form;obtain⟨J,L,rfl⟩:=c.k.form;have b:=St.start c;have A:=c.lx;have E:Hid (N.x.size<=1100000):=by show _<=_;omega
 clear c;have I:=eI f;have F:=gZ f 6 rfl;clear f;cases t0:aq N false false false false
 case' true=>
  cases t1:((N.ks.length:Int)==1)
  case' true=>
   have q:N.ks.length=1:=by have:=eq_of_beq t1;omega
   have H:Hid (1<=N.ks.length):=by show _<=_;omega
   have u:Hid (0<N.ks.length):=by show _<_;omega
   clear q;cases t2:(ba ns N 0==34)
 all_goals
  unfold bu;go_in;go_wp2_with (first|(go_at_call 107;refine(aJ _ N _ _ b.a.n b.a.k b.a.l1).mono ?_;rintro e g ⟨rfl,d⟩;replace b:=b.below d;clear d;obtain⟨z,j,i,v,y,r,s,p,l,m⟩:=ad b.bn;have o:=b.bt)|(go_at_call 106;with_reducible refine(kC b.a u.out).mono ?_;rintro e g ⟨rfl,d⟩;replace b:=b.below d;clear d;obtain⟨z,j,i,v,y,r,s,p,l,m⟩:=ad b.bn;have o:=b.bt));go_ret;exact⟨rfl,b.bel⟩
theorem BA{w:World}{h:Value}{ns:List Nd}{N:Nd}{vn vk:Value}(c:bP w h ns N vn vk)(f:N.k=16):
  Calls Tryz.prog 52 #[.agg #[h],bu N vn vk] w fun e g=>e= .returned (.bool (aq N false false false false&&((N.ks.length:Int)==1)&&(ba ns N 0==34)))/\Below w.heap.size w g:=by
 obtain⟨B,K,rfl⟩:=c.t.form;obtain⟨G,C,rfl⟩:=c.n.form;obtain⟨J,L,rfl⟩:=c.k.form;have b:=St.start c;have A:=c.lx;have E:Hid (N.x.size<=1100000):=by show _<=_;omega
 clear c;have I:=eI f;have F:=gZ f 16 rfl;clear f;cases t0:aq N false false false false
 case' true=>
  cases t1:((N.ks.length:Int)==1)
  case' true=>
   have q:N.ks.length=1:=by have:=eq_of_beq t1;omega
   have H:Hid (1<=N.ks.length):=by show _<=_;omega
   have u:Hid (0<N.ks.length):=by show _<_;omega
   clear q;cases t2:(ba ns N 0==34)
 all_goals
  unfold bu;go_in;go_wp2_with (first|(go_at_call 107;refine(aJ _ N _ _ b.a.n b.a.k b.a.l1).mono ?_;rintro e g ⟨rfl,d⟩;replace b:=b.below d;clear d;obtain⟨z,j,i,v,y,r,s,p,l,m⟩:=ad b.bn;have o:=b.bt)|(go_at_call 106;with_reducible refine(kC b.a u.out).mono ?_;rintro e g ⟨rfl,d⟩;replace b:=b.below d;clear d;obtain⟨z,j,i,v,y,r,s,p,l,m⟩:=ad b.bn;have o:=b.bt));go_ret;exact⟨rfl,b.bel⟩
end Go.Proofs.YtcbmoiabehpliaaGreatDoor
