import Derived.Test.YtkdijoogonigpaaGreatDoorHUk21
set_option linter.all false
set_option maxRecDepth 100000
set_option maxHeartbeats 3200000
open Bool renaming false->M
namespace Go.Proofs.YtkdijoogonigpaaGreatDoor
open Go.RowKit Go.Maps Go.WideMaps
theorem J4{w:World}{a:Value}{ns:List Nd}{N:Nd}{vn vk:Value}(b:ez w a ns N vn vk)(c:2<N.ks.length):
  Calls Tryz.prog 155 #[.agg #[a],.agg #[.int .i64 N.k,.int .i64 N.f,.int .i64 N.t,.int .i64 N.l,.int .i64 N.op,.int .i64 N.n,.string N.x,vn,vk],.int .i64 2] w fun e d=>e= .returned (.int .i64 (dm ns N 2))/\Below w.heap.size w d:=gL b 2 c
theorem abk{w:World}{v:Value}{ns:List Nd}{N:Nd}{vn vk:Value}(d:ez w v ns N vn vk)(g:N.k=7):
  Calls Tryz.prog 135 #[.agg #[v],cE N vn vk] w fun e f=>e= .returned (.bool (aA N M M M M&&(decide (2<=N.ks.length/\N.ks.length<=3)&&(gc ns N 1 0&&(!(dm ns N 1 !=1)&&((N.ks.length:Int)==2||(dm ns N 2==1||dm ns N 2==7)))))))/\Below w.heap.size w f:=by
 obtain⟨A,E,rfl⟩:=d.t.form;obtain⟨B,F,rfl⟩:=d.n.form;obtain⟨C,G,rfl⟩:=d.k.form;have b:=St.start d;have J:=d.l2;clear d;have K:=bu g;have L:=gE g 7 rfl;clear g;unfold cE;cases t0:aA N M M M M
 case' true=>
  by_cases H:(N.ks.length:Int)<2
  case' pos=>rw[bk (by omega)]
  case' neg=>
   by_cases I:(3:Int)<(N.ks.length:Int)
   case' pos=>rw[bk (by omega)]
   case' neg=>
    rw[cG (by omega)];have x:Hid (1<=N.ks.length):=by show _<=_;omega
    have y:Hid (1<N.ks.length):=by show _<_;omega
    cases t1:gc ns N 1 0
    case' true=>
     cases t2:(dm ns N 1 !=1)
     case' false=>
      cases t3:((N.ks.length:Int)==2)
      case' false=>
       have z:Hid (2<N.ks.length):=by show _<_;have:=ne_of_beq_false t3;omega
       cases t4:(dm ns N 2==1)
       case' false=>cases t5:(dm ns N 2==7)
 all_goals
  go_in;go_wp2_with (first|(go_at_call 156;refine(bJ _ N _ _ b.a.n b.a.k b.a.l1).mono ?_;rintro e f ⟨rfl,c⟩;replace b:=b.below c;clear c;obtain⟨h,i,j,l,m,o,p,q,r,s⟩:=aj b.bn;have u:=b.bt)|(go_at_call 158;refine(cx _ _ ns N _ _ 0 1 b.a.t b.a.n b.a.k b.a.ok x.out b.a.ln b.a.l2).mono ?_;rintro e f ⟨rfl,c⟩;replace b:=b.below c;clear c;obtain⟨h,i,j,l,m,o,p,q,r,s⟩:=aj b.bn;have u:=b.bt)|(go_at_call 155;with_reducible refine(rA b.a y.out).mono ?_;rintro e f ⟨rfl,c⟩;replace b:=b.below c;clear c;obtain⟨h,i,j,l,m,o,p,q,r,s⟩:=aj b.bn;have u:=b.bt)|(go_at_call 155;with_reducible refine(J4 b.a z.out).mono ?_;rintro e f ⟨rfl,c⟩;replace b:=b.below c;clear c;obtain⟨h,i,j,l,m,o,p,q,r,s⟩:=aj b.bn;have u:=b.bt));go_ret;exact⟨rfl,b.bel⟩
