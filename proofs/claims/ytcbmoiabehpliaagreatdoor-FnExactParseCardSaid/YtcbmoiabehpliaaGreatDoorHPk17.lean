import Derived.Test.YtcbmoiabehpliaaGreatDoorHPk13
import Derived.Test.YtcbmoiabehpliaaGreatDoorHPk08
set_option linter.unusedVariables false
set_option maxRecDepth 100000
set_option maxHeartbeats 3200000
namespace Go.Proofs.YtcbmoiabehpliaaGreatDoor
open Go.RowKit Go.Maps Go.WideMaps
theorem Br{w:World}{h:Value}{ns:List Nd}{N:Nd}{vn vk:Value}(c:bP w h ns N vn vk)(f:N.k=40):
  Calls Tryz.prog 53 #[.agg #[h],bu N vn vk] w fun e g=>e= .returned (.bool (((N.ks.length:Int)==1)&&di ns N 1 0&&aq N false false false false))/\Below w.heap.size w g:=by
 obtain⟨B,J,rfl⟩:=c.t.form;obtain⟨H,C,rfl⟩:=c.n.form;obtain⟨I,L,rfl⟩:=c.k.form;have b:=St.start c;have A:=c.lx;have E:Hid (N.x.size<=1100000):=by show _<=_;omega
 clear c;have F:=eI f;have K:=gZ f 40 rfl;clear f;cases t0:((N.ks.length:Int)==1)
 case' true=>
  have q:N.ks.length=1:=by have:=eq_of_beq t0;omega
  have u:Hid (1<=N.ks.length):=by show _<=_;omega
  have G:Hid (0<N.ks.length):=by show _<_;omega
  clear q;cases t1:di ns N 1 0
  case' true=>
   cases t2:aq N false false false false
 all_goals
  unfold bu;go_in;go_wp2_with (first|(go_at_call 109;refine(aL _ _ ns N _ _ 0 1 b.a.t b.a.n b.a.k b.a.ok u.out b.a.ln b.a.l2).mono ?_;rintro e g ⟨rfl,d⟩;replace b:=b.below d;clear d;obtain⟨z,j,i,v,y,r,s,p,l,m⟩:=ad b.bn;have o:=b.bt)|(go_at_call 107;refine(aJ _ N _ _ b.a.n b.a.k b.a.l1).mono ?_;rintro e g ⟨rfl,d⟩;replace b:=b.below d;clear d;obtain⟨z,j,i,v,y,r,s,p,l,m⟩:=ad b.bn;have o:=b.bt));go_ret;exact⟨rfl,b.bel⟩
theorem Bt{w:World}{h:Value}{ns:List Nd}{N:Nd}{vn vk:Value}(c:bP w h ns N vn vk)(f:N.k=41):
  Calls Tryz.prog 53 #[.agg #[h],bu N vn vk] w fun e g=>e= .returned (.bool (((N.ks.length:Int)==2)&&di ns N 2 0&&aq N false false false false))/\Below w.heap.size w g:=by
 obtain⟨B,L,rfl⟩:=c.t.form;obtain⟨J,F,rfl⟩:=c.n.form;obtain⟨K,M,rfl⟩:=c.k.form;have b:=St.start c;have A:=c.lx;have G:Hid (N.x.size<=1100000):=by show _<=_;omega
 clear c;have H:=eI f;have C:=gZ f 41 rfl;clear f;cases t0:((N.ks.length:Int)==2)
 case' true=>
  have q:N.ks.length=2:=by have:=eq_of_beq t0;omega
  have u:Hid (2<=N.ks.length):=by show _<=_;omega
  have I:Hid (0<N.ks.length):=by show _<_;omega
  have E:Hid (1<N.ks.length):=by show _<_;omega
  clear q;cases t1:di ns N 2 0
  case' true=>
   cases t2:aq N false false false false
 all_goals
  unfold bu;go_in;go_wp2_with (first|(go_at_call 109;refine(aL _ _ ns N _ _ 0 2 b.a.t b.a.n b.a.k b.a.ok u.out b.a.ln b.a.l2).mono ?_;rintro e g ⟨rfl,d⟩;replace b:=b.below d;clear d;obtain⟨z,j,i,v,y,r,s,o,l,m⟩:=ad b.bn;have p:=b.bt)|(go_at_call 107;refine(aJ _ N _ _ b.a.n b.a.k b.a.l1).mono ?_;rintro e g ⟨rfl,d⟩;replace b:=b.below d;clear d;obtain⟨z,j,i,v,y,r,s,o,l,m⟩:=ad b.bn;have p:=b.bt));go_ret;exact⟨rfl,b.bel⟩
theorem Bv{w:World}{v:Value}{ns:List Nd}{N:Nd}{vn vk:Value}(d:bP w v ns N vn vk)(g:N.k=42):
  Calls Tryz.prog 53 #[.agg #[v],bu N vn vk] w fun e f=>e= .returned (.bool (((N.ks.length:Int)==1)&&di ns N 1 0&&aq N false false true false&&fs N.x))/\Below w.heap.size w f:=by
 obtain⟨C,K,rfl⟩:=d.t.form;obtain⟨I,E,rfl⟩:=d.n.form;obtain⟨J,L,rfl⟩:=d.k.form;have b:=St.start d;have B:=d.lx;have y:Hid (N.x.size<=1100000):=by show _<=_;omega
 clear d;have F:=eI g;have G:=gZ g 42 rfl;clear g;cases t0:((N.ks.length:Int)==1)
 case' true=>
  have z:N.ks.length=1:=by have:=eq_of_beq t0;omega
  have A:Hid (1<=N.ks.length):=by show _<=_;omega
  have H:Hid (0<N.ks.length):=by show _<_;omega
  clear z;cases t1:di ns N 1 0
  case' true=>
   cases t2:aq N false false true false
   case' true=>
    cases t3:fs N.x
 all_goals
  unfold bu;go_in;go_wp2_with (first|(go_at_call 109;refine(aL _ _ ns N _ _ 0 1 b.a.t b.a.n b.a.k b.a.ok A.out b.a.ln b.a.l2).mono ?_;rintro e f ⟨rfl,c⟩;replace b:=b.below c;clear c;obtain⟨u,i,h,r,s,p,q,m,j,l⟩:=ad b.bn;have o:=b.bt)|(go_at_call 107;refine(eA _ N _ _ b.a.n b.a.k b.a.l1).mono ?_;rintro e f ⟨rfl,c⟩;replace b:=b.below c;clear c;obtain⟨u,i,h,r,s,p,q,m,j,l⟩:=ad b.bn;have o:=b.bt)|(go_at_call 112;refine(eH N.x y.out _).mono ?_;rintro e f ⟨rfl,c⟩;replace b:=b.below c;clear c;obtain⟨u,i,h,r,s,p,q,m,j,l⟩:=ad b.bn;have o:=b.bt));go_ret;exact⟨rfl,b.bel⟩
end Go.Proofs.YtcbmoiabehpliaaGreatDoor
