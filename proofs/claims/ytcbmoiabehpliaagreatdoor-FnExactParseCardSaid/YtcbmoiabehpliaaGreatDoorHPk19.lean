import Derived.Test.YtcbmoiabehpliaaGreatDoorHPk13
import Derived.Test.YtcbmoiabehpliaaGreatDoorHPk08
set_option linter.unusedVariables false
set_option maxRecDepth 100000
set_option maxHeartbeats 3200000
namespace Go.Proofs.YtcbmoiabehpliaaGreatDoor
open Go.RowKit Go.Maps Go.WideMaps
theorem El{w:World}{v:Value}{ns:List Nd}{N:Nd}{vn vk:Value}(d:bP w v ns N vn vk)(g:N.k=3):
  Calls Tryz.prog 52 #[.agg #[v],bu N vn vk] w fun e f=>e= .returned (.bool (aq N false false false true&&bF N 1 1&&((N.ks.length:Int)==1)&&di ns N 1 0))/\Below w.heap.size w f:=by
 obtain⟨B,K,rfl⟩:=d.t.form;obtain⟨H,C,rfl⟩:=d.n.form;obtain⟨J,L,rfl⟩:=d.k.form;have b:=St.start d;have A:=d.lx;have E:Hid (N.x.size<=1100000):=by show _<=_;omega
 clear d;have I:=eI g;have F:=gZ g 3 rfl;clear g;cases t0:aq N false false false true
 case' true=>
  cases t1:bF N 1 1
  case' true=>
   cases t2:((N.ks.length:Int)==1)
   case' true=>
    have y:N.ks.length=1:=by have:=eq_of_beq t2;omega
    have z:Hid (1<=N.ks.length):=by show _<=_;omega
    have G:Hid (0<N.ks.length):=by show _<_;omega
    clear y;cases t3:di ns N 1 0
 all_goals
  unfold bu;go_in;go_wp2_with (first|(go_at_call 107;refine(dD _ N _ _ b.a.n b.a.k b.a.l1).mono ?_;rintro e f ⟨rfl,c⟩;replace b:=b.below c;clear c;obtain⟨u,i,h,r,s,p,q,o,j,l⟩:=ad b.bn;have m:=b.bt)|(go_at_call 108;refine(da _ N _ _ 1 1 b.a.n b.a.k b.a.l1 b.a.ls).mono ?_;rintro e f ⟨rfl,c⟩;replace b:=b.below c;clear c;obtain⟨u,i,h,r,s,p,q,o,j,l⟩:=ad b.bn;have m:=b.bt)|(go_at_call 109;refine(aL _ _ ns N _ _ 0 1 b.a.t b.a.n b.a.k b.a.ok z.out b.a.ln b.a.l2).mono ?_;rintro e f ⟨rfl,c⟩;replace b:=b.below c;clear c;obtain⟨u,i,h,r,s,p,q,o,j,l⟩:=ad b.bn;have m:=b.bt));go_ret;exact⟨rfl,b.bel⟩
theorem Em{w:World}{v:Value}{ns:List Nd}{N:Nd}{vn vk:Value}(d:bP w v ns N vn vk)(g:N.k=8):
  Calls Tryz.prog 52 #[.agg #[v],bu N vn vk] w fun e f=>e= .returned (.bool (aq N false false false false&&((N.ks.length:Int)==2)&&di ns N 1 0&&(ba ns N 1==1)))/\Below w.heap.size w f:=by
 obtain⟨C,L,rfl⟩:=d.t.form;obtain⟨I,E,rfl⟩:=d.n.form;obtain⟨K,M,rfl⟩:=d.k.form;have b:=St.start d;have B:=d.lx;have F:Hid (N.x.size<=1100000):=by show _<=_;omega
 clear d;have J:=eI g;have G:=gZ g 8 rfl;clear g;cases t0:aq N false false false false
 case' true=>
  cases t1:((N.ks.length:Int)==2)
  case' true=>
   have z:N.ks.length=2:=by have:=eq_of_beq t1;omega
   have A:Hid (1<=N.ks.length):=by show _<=_;omega
   have H:Hid (0<N.ks.length):=by show _<_;omega
   have y:Hid (1<N.ks.length):=by show _<_;omega
   clear z;cases t2:di ns N 1 0
   case' true=>
    cases t3:(ba ns N 1==1)
 all_goals
  unfold bu;go_in;go_wp2_with (first|(go_at_call 107;refine(aJ _ N _ _ b.a.n b.a.k b.a.l1).mono ?_;rintro e f ⟨rfl,c⟩;replace b:=b.below c;clear c;obtain⟨u,i,h,r,s,p,q,o,j,l⟩:=ad b.bn;have m:=b.bt)|(go_at_call 109;refine(aL _ _ ns N _ _ 0 1 b.a.t b.a.n b.a.k b.a.ok A.out b.a.ln b.a.l2).mono ?_;rintro e f ⟨rfl,c⟩;replace b:=b.below c;clear c;obtain⟨u,i,h,r,s,p,q,o,j,l⟩:=ad b.bn;have m:=b.bt)|(go_at_call 106;with_reducible refine(kD b.a y.out).mono ?_;rintro e f ⟨rfl,c⟩;replace b:=b.below c;clear c;obtain⟨u,i,h,r,s,p,q,o,j,l⟩:=ad b.bn;have m:=b.bt));go_ret;exact⟨rfl,b.bel⟩
theorem By{w:World}{h:Value}{ns:List Nd}{N:Nd}{vn vk:Value}(c:bP w h ns N vn vk)(d:N.k=11):
  Calls Tryz.prog 52 #[.agg #[h],bu N vn vk] w fun e f=>e= .returned (.bool (aq N false false false false&&((N.ks.length:Int)==0)))/\Below w.heap.size w f:=by
 obtain⟨m,H,rfl⟩:=c.t.form;obtain⟨A,q,rfl⟩:=c.n.form;obtain⟨C,I,rfl⟩:=c.k.form;have b:=St.start c;have l:=c.lx;have r:Hid (N.x.size<=1100000):=by show _<=_;omega
 clear c;have B:=eI d;have z:=gZ d 11 rfl;clear d;cases t0:aq N false false false false
 case' true=>
  cases t1:((N.ks.length:Int)==0)
 all_goals
  unfold bu;go_in;go_wp2_with (first|(go_at_call 107;refine(aJ _ N _ _ b.a.n b.a.k b.a.l1).mono ?_;rintro e f ⟨rfl,g⟩;replace b:=b.below g;clear g;obtain⟨G,j,i,E,F,y,v,u,o,p⟩:=ad b.bn;have s:=b.bt));go_ret;exact⟨rfl,b.bel⟩
theorem Bz{w:World}{h:Value}{ns:List Nd}{N:Nd}{vn vk:Value}(c:bP w h ns N vn vk)(d:N.k=12):
  Calls Tryz.prog 52 #[.agg #[h],bu N vn vk] w fun e f=>e= .returned (.bool (aq N false false false false&&((N.ks.length:Int)==0)))/\Below w.heap.size w f:=by
 obtain⟨m,H,rfl⟩:=c.t.form;obtain⟨A,q,rfl⟩:=c.n.form;obtain⟨C,I,rfl⟩:=c.k.form;have b:=St.start c;have l:=c.lx;have r:Hid (N.x.size<=1100000):=by show _<=_;omega
 clear c;have B:=eI d;have z:=gZ d 12 rfl;clear d;cases t0:aq N false false false false
 case' true=>
  cases t1:((N.ks.length:Int)==0)
 all_goals
  unfold bu;go_in;go_wp2_with (first|(go_at_call 107;refine(aJ _ N _ _ b.a.n b.a.k b.a.l1).mono ?_;rintro e f ⟨rfl,g⟩;replace b:=b.below g;clear g;obtain⟨G,j,i,E,F,y,v,u,o,p⟩:=ad b.bn;have s:=b.bt));go_ret;exact⟨rfl,b.bel⟩
end Go.Proofs.YtcbmoiabehpliaaGreatDoor
