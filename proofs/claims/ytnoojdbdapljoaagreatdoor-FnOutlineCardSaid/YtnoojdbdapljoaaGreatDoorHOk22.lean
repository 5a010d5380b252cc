import Derived.Test.YtnoojdbdapljoaaGreatDoorHOk15
set_option linter.all false
set_option maxRecDepth 100000
set_option maxHeartbeats 3200000
open Bool renaming false->M
namespace Go.Proofs.YtnoojdbdapljoaaGreatDoor
open Go.RowKit Go.Maps Go.WideMaps
theorem acw{w:World}{b:Value}{a:List Nd}{N:Nd}{vn vk:Value}(c:fp w b a N vn vk)(d:2<N.ks.length):
  Calls Tryz.prog 102 #[.agg #[b],.agg #[.int .i64 N.k,.int .i64 N.f,.int .i64 N.t,.int .i64 N.l,.int .i64 N.op,.int .i64 N.n,.string N.x,vn,vk],.int .i64 2] w fun e g=>e= .returned (.int .i64 (dF a N 2))/\Below w.heap.size w g:=jm c 2 d
theorem af0{w:World}{x:Value}{d:List Nd}{N:Nd}{vn vk:Value}(f:fp w x d N vn vk)(h:N.k=7):
  Calls Tryz.prog 56 #[.agg #[x],dj N vn vk] w fun e g=>e= .returned (.bool (aH N M M M M&&(decide (2<=N.ks.length/\N.ks.length<=3)&&(ik d N 1 0&&(!(dF d N 1 !=1)&&((N.ks.length:Int)==2||(dF d N 2==1||dF d N 2==7)))))))/\Below w.heap.size w g:=by
 obtain⟨B,F,rfl⟩:=f.t.form;obtain⟨C,G,rfl⟩:=f.n.form;obtain⟨E,H,rfl⟩:=f.k.form;have b:=St.start f;have K:=f.l2;clear f;have L:=cC h;have ad:=jd h 7 rfl;clear h;unfold dj;cases t0:aH N M M M M
 case' true=>
  by_cases I:(N.ks.length:Int)<2
  case' pos=>rw[aD (by omega)]
  case' neg=>
   by_cases J:(3:Int)<(N.ks.length:Int)
   case' pos=>rw[aD (by omega)]
   case' neg=>
    rw[bG (by omega)];have y:Hid (1<=N.ks.length):=by show _<=_;omega
    have z:Hid (1<N.ks.length):=by show _<_;omega
    cases t1:ik d N 1 0
    case' true=>
     cases t2:(dF d N 1 !=1)
     case' false=>
      cases t3:((N.ks.length:Int)==2)
      case' false=>
       have A:Hid (2<N.ks.length):=by show _<_;have:=ne_of_beq_false t3;omega
       cases t4:(dF d N 2==1)
       case' false=>cases t5:(dF d N 2==7)
 all_goals
  go_in;go_wp2_with (first|(go_at_call 103;refine(dc _ N _ _ b.a.n b.a.k b.a.l1).mono ?_;rintro e g ⟨rfl,c⟩;replace b:=b.below c;clear c;obtain⟨i,j,l,m,o,p,q,r,s,u⟩:=au b.bn;have v:=b.bt)|(go_at_call 105;refine(dt _ _ d N _ _ 0 1 b.a.t b.a.n b.a.k b.a.ok y.out b.a.ln b.a.l2).mono ?_;rintro e g ⟨rfl,c⟩;replace b:=b.below c;clear c;obtain⟨i,j,l,m,o,p,q,r,s,u⟩:=au b.bn;have v:=b.bt)|(go_at_call 102;with_reducible refine(uw b.a z.out).mono ?_;rintro e g ⟨rfl,c⟩;replace b:=b.below c;clear c;obtain⟨i,j,l,m,o,p,q,r,s,u⟩:=au b.bn;have v:=b.bt)|(go_at_call 102;with_reducible refine(acw b.a A.out).mono ?_;rintro e g ⟨rfl,c⟩;replace b:=b.below c;clear c;obtain⟨i,j,l,m,o,p,q,r,s,u⟩:=au b.bn;have v:=b.bt));go_ret;exact⟨rfl,b.bel⟩
