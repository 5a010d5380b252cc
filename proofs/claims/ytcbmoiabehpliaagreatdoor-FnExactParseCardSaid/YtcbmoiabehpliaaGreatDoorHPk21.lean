import Derived.Test.YtcbmoiabehpliaaGreatDoorHPk13
import Derived.Test.YtcbmoiabehpliaaGreatDoorHPk08
set_option linter.unusedVariables false
set_option maxRecDepth 100000
set_option maxHeartbeats 3200000
namespace Go.Proofs.YtcbmoiabehpliaaGreatDoor
open Go.RowKit Go.Maps Go.WideMaps
theorem BB{w:World}{v:Value}{ns:List Nd}{N:Nd}{vn vk:Value}(d:bP w v ns N vn vk)(l:N.k=14):
  Calls Tryz.prog 52 #[.agg #[v],bu N vn vk] w fun e f=>e= .returned (.bool (aq N false false false true&&bF N 1 2&&((N.ks.length:Int)==2)&&(ba ns N 0==1)&&(ba ns N 1==1)))/\Below w.heap.size w f:=by
 obtain⟨C,L,rfl⟩:=d.t.form;obtain⟨G,E,rfl⟩:=d.n.form;obtain⟨J,M,rfl⟩:=d.k.form;have b:=St.start d;have B:=d.lx;have F:Hid (N.x.size<=1100000):=by show _<=_;omega
 clear d;have I:=eI l;have K:=gZ l 14 rfl;clear l;cases t0:aq N false false false true
 case' true=>
  cases t1:bF N 1 2
  case' true=>
   cases t2:((N.ks.length:Int)==2)
   case' true=>
    have z:N.ks.length=2:=by have:=eq_of_beq t2;omega
    have H:Hid (1<=N.ks.length):=by show _<=_;omega
    have A:Hid (0<N.ks.length):=by show _<_;omega
    have y:Hid (1<N.ks.length):=by show _<_;omega
    clear z;cases t3:(ba ns N 0==1)
    case' true=>
     cases t4:(ba ns N 1==1)
 all_goals
  unfold bu;go_in;go_wp2_with (first|(go_at_call 107;refine(dD _ N _ _ b.a.n b.a.k b.a.l1).mono ?_;rintro e f ⟨rfl,c⟩;replace b:=b.below c;clear c;obtain⟨u,h,g,r,s,p,q,o,i,j⟩:=ad b.bn;have m:=b.bt)|(go_at_call 108;refine(da _ N _ _ 1 2 b.a.n b.a.k b.a.l1 b.a.ls).mono ?_;rintro e f ⟨rfl,c⟩;replace b:=b.below c;clear c;obtain⟨u,h,g,r,s,p,q,o,i,j⟩:=ad b.bn;have m:=b.bt)|(go_at_call 106;with_reducible refine(kC b.a A.out).mono ?_;rintro e f ⟨rfl,c⟩;replace b:=b.below c;clear c;obtain⟨u,h,g,r,s,p,q,o,i,j⟩:=ad b.bn;have m:=b.bt)|(go_at_call 106;with_reducible refine(kD b.a y.out).mono ?_;rintro e f ⟨rfl,c⟩;replace b:=b.below c;clear c;obtain⟨u,h,g,r,s,p,q,o,i,j⟩:=ad b.bn;have m:=b.bt));go_ret;exact⟨rfl,b.bel⟩
theorem BC{w:World}{h:Value}{ns:List Nd}{N:Nd}{vn vk:Value}(c:bP w h ns N vn vk)(f:N.k=15):
  Calls Tryz.prog 52 #[.agg #[h],bu N vn vk] w fun e g=>e= .returned (.bool (aq N false false false false&&((N.ks.length:Int)==1)&&di ns N 1 0))/\Below w.heap.size w g:=by
 obtain⟨B,K,rfl⟩:=c.t.form;obtain⟨H,C,rfl⟩:=c.n.form;obtain⟨J,L,rfl⟩:=c.k.form;have b:=St.start c;have A:=c.lx;have E:Hid (N.x.size<=1100000):=by show _<=_;omega
 clear c;have I:=eI f;have G:=gZ f 15 rfl;clear f;cases t0:aq N false false false false
 case' true=>
  cases t1:((N.ks.length:Int)==1)
  case' true=>
   have q:N.ks.length=1:=by have:=eq_of_beq t1;omega
   have u:Hid (1<=N.ks.length):=by show _<=_;omega
   have F:Hid (0<N.ks.length):=by show _<_;omega
   clear q;cases t2:di ns N 1 0
 all_goals
  unfold bu;go_in;go_wp2_with (first|(go_at_call 107;refine(aJ _ N _ _ b.a.n b.a.k b.a.l1).mono ?_;rintro e g ⟨rfl,d⟩;replace b:=b.below d;clear d;obtain⟨z,j,i,v,y,r,s,p,l,m⟩:=ad b.bn;have o:=b.bt)|(go_at_call 109;refine(aL _ _ ns N _ _ 0 1 b.a.t b.a.n b.a.k b.a.ok u.out b.a.ln b.a.l2).mono ?_;rintro e g ⟨rfl,d⟩;replace b:=b.below d;clear d;obtain⟨z,j,i,v,y,r,s,p,l,m⟩:=ad b.bn;have o:=b.bt));go_ret;exact⟨rfl,b.bel⟩
end Go.Proofs.YtcbmoiabehpliaaGreatDoor
