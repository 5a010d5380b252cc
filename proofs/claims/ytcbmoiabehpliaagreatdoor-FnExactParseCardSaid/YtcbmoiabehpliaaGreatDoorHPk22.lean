import Derived.Test.YtcbmoiabehpliaaGreatDoorHPk13
import Derived.Test.YtcbmoiabehpliaaGreatDoorHPk08
set_option linter.unusedVariables false
set_option maxRecDepth 100000
set_option maxHeartbeats 3200000
namespace Go.Proofs.YtcbmoiabehpliaaGreatDoor
open Go.RowKit Go.Maps Go.WideMaps
theorem BD{w:World}{a:Value}{ns:List Nd}{N:Nd}{vn vk:Value}(d:bP w a ns N vn vk)(c:2<N.ks.length):
  Calls Tryz.prog 106 #[.agg #[a],.agg #[.int .i64 N.k,.int .i64 N.f,.int .i64 N.t,.int .i64 N.l,.int .i64 N.op,.int .i64 N.n,.string N.x,vn,vk],.int .i64 2] w fun e b=>e= .returned (.int .i64 (ba ns N 2))/\Below w.heap.size w b:=dw d 2 c
theorem Er{w:World}{v:Value}{ns:List Nd}{N:Nd}{vn vk:Value}(d:bP w v ns N vn vk)(j:N.k=7):
  Calls Tryz.prog 52 #[.agg #[v],bu N vn vk] w fun e f=>e= .returned (.bool (aq N false false false false&&(decide (2<=N.ks.length/\N.ks.length<=3)&&(di ns N 1 0&&(!(ba ns N 1 !=1)&&((N.ks.length:Int)==2||(ba ns N 2==1||ba ns N 2==7)))))))/\Below w.heap.size w f:=by
 obtain⟨C,J,rfl⟩:=d.t.form;obtain⟨G,F,rfl⟩:=d.n.form;obtain⟨I,L,rfl⟩:=d.k.form;have b:=St.start d;have K:=d.l2;clear d;have H:=eI j;have E:=gZ j 7 rfl;clear j;unfold bu;cases t0:aq N false false false false
 case' true=>
  by_cases B:(N.ks.length:Int)<2
  case' pos=>rw[decide_eq_false (by omega)]
  case' neg=>
   by_cases A:(3:Int)<(N.ks.length:Int)
   case' pos=>rw[decide_eq_false (by omega)]
   case' neg=>
    rw[decide_eq_true (by omega)];have y:Hid (1<=N.ks.length):=by show _<=_;omega
    have x:Hid (1<N.ks.length):=by show _<_;omega
    cases t1:di ns N 1 0
    case' true=>
     cases t2:(ba ns N 1 !=1)
     case' false=>
      cases t3:((N.ks.length:Int)==2)
      case' false=>
       have z:Hid (2<N.ks.length):=by show _<_;have:=ne_of_beq_false t3;omega
       cases t4:(ba ns N 2==1)
       case' false=>cases t5:(ba ns N 2==7)
 all_goals
  go_in;go_wp2_with (first|(go_at_call 107;refine(aJ _ N _ _ b.a.n b.a.k b.a.l1).mono ?_;rintro e f ⟨rfl,c⟩;replace b:=b.below c;clear c;obtain⟨u,h,g,r,s,q,p,o,i,l⟩:=ad b.bn;have m:=b.bt)|(go_at_call 109;refine(aL _ _ ns N _ _ 0 1 b.a.t b.a.n b.a.k b.a.ok y.out b.a.ln b.a.l2).mono ?_;rintro e f ⟨rfl,c⟩;replace b:=b.below c;clear c;obtain⟨u,h,g,r,s,q,p,o,i,l⟩:=ad b.bn;have m:=b.bt)|(go_at_call 106;with_reducible refine(kD b.a x.out).mono ?_;rintro e f ⟨rfl,c⟩;replace b:=b.below c;clear c;obtain⟨u,h,g,r,s,q,p,o,i,l⟩:=ad b.bn;have m:=b.bt)|(go_at_call 106;with_reducible refine(BD b.a z.out).mono ?_;rintro e f ⟨rfl,c⟩;replace b:=b.below c;clear c;obtain⟨u,h,g,r,s,q,p,o,i,l⟩:=ad b.bn;have m:=b.bt));go_ret;exact⟨rfl,b.bel⟩
end Go.Proofs.YtcbmoiabehpliaaGreatDoor
