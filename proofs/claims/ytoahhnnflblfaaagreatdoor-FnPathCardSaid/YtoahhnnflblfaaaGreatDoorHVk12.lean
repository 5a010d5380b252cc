import Derived.Test.YtoahhnnflblfaaaGreatDoorHVk07
set_option linter.all false
set_option maxRecDepth 100000
set_option maxHeartbeats 3200000
open Bool renaming false->M
namespace Go.Proofs.YtoahhnnflblfaaaGreatDoor
open Go.RowKit Go.Maps Go.WideMaps
theorem adt{w:World}{a:Value}{ns:List Nd}{N:Nd}{vn vk:Value}(b:gn w a ns N vn vk)(c:2<N.ks.length):
  Calls Tryz.prog 96 #[.agg #[a],.agg #[.int .i64 N.k,.int .i64 N.f,.int .i64 N.t,.int .i64 N.l,.int .i64 N.op,.int .i64 N.n,.string N.x,vn,vk],.int .i64 2] w fun e d=>e= .returned (.int .i64 (eu ns N 2))/\Below w.heap.size w d:=lg b 2 c
theorem ag6{w:World}{v:Value}{ns:List Nd}{N:Nd}{vn vk:Value}(d:gn w v ns N vn vk)(g:N.k=7):
  Calls Tryz.prog 45 #[.agg #[v],dy N vn vk] w fun e f=>e= .returned (.bool (aD N M M M M&&(decide (2<=N.ks.length/\N.ks.length<=3)&&(iF ns N 1 0&&(!(eu ns N 1 !=1)&&((N.ks.length:Int)==2||(eu ns N 2==1||eu ns N 2==7)))))))/\Below w.heap.size w f:=by
 obtain⟨A,E,rfl⟩:=d.t.form;obtain⟨B,F,rfl⟩:=d.n.form;obtain⟨C,G,rfl⟩:=d.k.form;have b:=St.start d;have J:=d.l2;clear d;have K:=ci g;have L:=kH g 7 rfl;clear g;unfold dy;cases t0:aD N M M M M
 case' true=>
  by_cases H:(N.ks.length:Int)<2
  case' pos=>rw[az (by omega)]
  case' neg=>
   by_cases I:(3:Int)<(N.ks.length:Int)
   case' pos=>rw[az (by omega)]
   case' neg=>
    rw[bg (by omega)];have x:Hid (1<=N.ks.length):=by show _<=_;omega
    have y:Hid (1<N.ks.length):=by show _<_;omega
    cases t1:iF ns N 1 0
    case' true=>
     cases t2:(eu ns N 1 !=1)
     case' false=>
      cases t3:((N.ks.length:Int)==2)
      case' false=>
       have z:Hid (2<N.ks.length):=by show _<_;have:=ne_of_beq_false t3;omega
       cases t4:(eu ns N 2==1)
       case' false=>cases t5:(eu ns N 2==7)
 all_goals
  go_in;go_wp2_with (first|(go_at_call 97;refine(de _ N _ _ b.a.n b.a.k b.a.l1).mono ?_;rintro e f ⟨rfl,c⟩;replace b:=b.below c;clear c;obtain⟨h,i,j,l,m,o,p,q,r,s⟩:=aq b.bn;have u:=b.bt)|(go_at_call 99;refine(dz _ _ ns N _ _ 0 1 b.a.t b.a.n b.a.k b.a.ok x.out b.a.ln b.a.l2).mono ?_;rintro e f ⟨rfl,c⟩;replace b:=b.below c;clear c;obtain⟨h,i,j,l,m,o,p,q,r,s⟩:=aq b.bn;have u:=b.bt)|(go_at_call 96;with_reducible refine(vG b.a y.out).mono ?_;rintro e f ⟨rfl,c⟩;replace b:=b.below c;clear c;obtain⟨h,i,j,l,m,o,p,q,r,s⟩:=aq b.bn;have u:=b.bt)|(go_at_call 96;with_reducible refine(adt b.a z.out).mono ?_;rintro e f ⟨rfl,c⟩;replace b:=b.below c;clear c;obtain⟨h,i,j,l,m,o,p,q,r,s⟩:=aq b.bn;have u:=b.bt));go_ret;exact⟨rfl,b.bel⟩
