import Derived.Test.YtcbmoiabehpliaaGreatDoorHPk13
import Derived.Test.YtcbmoiabehpliaaGreatDoorHPk08
set_option linter.unusedVariables false
set_option maxRecDepth 100000
set_option maxHeartbeats 3200000
namespace Go.Proofs.YtcbmoiabehpliaaGreatDoor
open Go.RowKit Go.Maps Go.WideMaps
theorem Bw{w:World}{v:Value}{ns:List Nd}{N:Nd}{vn vk:Value}(d:bP w v ns N vn vk)(g:N.k=36):
  Calls Tryz.prog 53 #[.agg #[v],bu N vn vk] w fun e f=>e= .returned (.bool (((N.ks.length:Int)==1)&&(ba ns N 0==1)&&aq N true false false true&&bF N 0 200&&(N.op==0||N.op==1)))/\Below w.heap.size w f:=by
 obtain⟨B,K,rfl⟩:=d.t.form;obtain⟨H,C,rfl⟩:=d.n.form;obtain⟨J,L,rfl⟩:=d.k.form;have b:=St.start d;have A:=d.lx;have E:Hid (N.x.size<=1100000):=by show _<=_;omega
 clear d;have F:=eI g;have G:=gZ g 36 rfl;clear g;cases t0:((N.ks.length:Int)==1)
 case' true=>
  have y:N.ks.length=1:=by have:=eq_of_beq t0;omega
  have I:Hid (1<=N.ks.length):=by show _<=_;omega
  have z:Hid (0<N.ks.length):=by show _<_;omega
  clear y;cases t1:(ba ns N 0==1)
  case' true=>
   cases t2:aq N true false false true
   case' true=>
    cases t3:bF N 0 200
    case' true=>
     cases u4:(N.op==0)
     case' false=>cases v4:(N.op==1)
 all_goals
  unfold bu;go_in;go_wp2_with (first|(go_at_call 106;refine(dw b.a 0 z.out).mono ?_;rintro e f ⟨rfl,c⟩;replace b:=b.below c;clear c;obtain⟨u,i,h,r,s,p,q,m,j,l⟩:=ad b.bn;have o:=b.bt)|(go_at_call 107;refine(tH _ N _ _ b.a.n b.a.k b.a.l1).mono ?_;rintro e f ⟨rfl,c⟩;replace b:=b.below c;clear c;obtain⟨u,i,h,r,s,p,q,m,j,l⟩:=ad b.bn;have o:=b.bt)|(go_at_call 108;refine(da _ N _ _ 0 200 b.a.n b.a.k b.a.l1 b.a.ls).mono ?_;rintro e f ⟨rfl,c⟩;replace b:=b.below c;clear c;obtain⟨u,i,h,r,s,p,q,m,j,l⟩:=ad b.bn;have o:=b.bt));go_ret;exact⟨rfl,b.bel⟩
theorem Bx{w:World}{h:Value}{ns:List Nd}{N:Nd}{vn vk:Value}(c:bP w h ns N vn vk)(f:N.k=37):
  Calls Tryz.prog 53 #[.agg #[h],bu N vn vk] w fun e g=>e= .returned (.bool (((N.ks.length:Int)==1)&&(ba ns N 0==34||ba ns N 0==27)&&aq N false false false false))/\Below w.heap.size w g:=by
 obtain⟨C,K,rfl⟩:=c.t.form;obtain⟨H,E,rfl⟩:=c.n.form;obtain⟨J,L,rfl⟩:=c.k.form;have b:=St.start c;have A:=c.lx;have F:Hid (N.x.size<=1100000):=by show _<=_;omega
 clear c;have G:=eI f;have B:=gZ f 37 rfl;clear f;cases t0:((N.ks.length:Int)==1)
 case' true=>
  have q:N.ks.length=1:=by have:=eq_of_beq t0;omega
  have I:Hid (1<=N.ks.length):=by show _<=_;omega
  have u:Hid (0<N.ks.length):=by show _<_;omega
  clear q;cases u1:(ba ns N 0==34)
  case' false=>cases v1:(ba ns N 0==27)
  all_goals
   cases t2:aq N false false false false
 all_goals
  unfold bu;go_in;go_wp2_with (first|(go_at_call 106;refine(dw b.a 0 u.out).mono ?_;rintro e g ⟨rfl,d⟩;replace b:=b.below d;clear d;obtain⟨z,j,i,v,y,r,s,p,l,m⟩:=ad b.bn;have o:=b.bt)|(go_at_call 107;refine(aJ _ N _ _ b.a.n b.a.k b.a.l1).mono ?_;rintro e g ⟨rfl,d⟩;replace b:=b.below d;clear d;obtain⟨z,j,i,v,y,r,s,p,l,m⟩:=ad b.bn;have o:=b.bt));go_ret;exact⟨rfl,b.bel⟩
end Go.Proofs.YtcbmoiabehpliaaGreatDoor
