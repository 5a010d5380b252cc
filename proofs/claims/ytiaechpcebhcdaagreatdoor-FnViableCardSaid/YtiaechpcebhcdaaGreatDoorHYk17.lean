import Derived.Test.YtiaechpcebhcdaaGreatDoorHYk13
set_option linter.all false
set_option maxRecDepth 100000
set_option maxHeartbeats 3200000
open Bool renaming false->M
namespace Go.Proofs.YtiaechpcebhcdaaGreatDoor
open Go.RowKit Go.Maps Go.WideMaps
def air{w:World}{a:Value}{ns:List Nd}{N:Nd}{vn vk:Value}(b:NArg w a ns N vn vk)(c:2<N.ks.length):
  Calls Tryz.prog 156 #[.agg #[a],.agg #[.int .i64 N.k,.int .i64 N.f,.int .i64 N.t,.int .i64 N.l,.int .i64 N.op,.int .i64 N.n,.string N.x,vn,vk],.int .i64 2] w λe d=>e= .returned (.int .i64 (gq ns N 2))/\Below w.heap.size w d:=rD b 2 c
def amb{w:World}{v:Value}{ns:List Nd}{N:Nd}{vn vk:Value}(d:NArg w v ns N vn vk)(g:N.k=7):
  Calls Tryz.prog 96 #[.agg #[v],jA N vn vk] w λe f=>e= .returned (.bool (bK N M M M M&&(decide (2<=N.ks.length/\N.ks.length<=3)&&(mD ns N 1 0&&(!(gq ns N 1 !=1)&&((N.ks.length:Int)==2||(gq ns N 2==1||gq ns N 2==7)))))))/\Below w.heap.size w f:=by
 obtain⟨B,F,rfl⟩:=d.t.form;obtain⟨C,G,rfl⟩:=d.n.form;obtain⟨E,H,rfl⟩:=d.k.form;have b:=St.start d;have ad:=d.l2;clear d;have af:=kqf g;have ag:=kqt g 7 rfl;clear g;unfold jA;cases t0:bK N M M M M
 case' true=>
  by_cases K:(N.ks.length:Int)<2
  case' pos=>rw[aG O]
  case' neg=>
   by_cases L:(3:Int)<(N.ks.length:Int)
   case' pos=>rw[aG O]
   case' neg=>
    rw[dB O];have x:Hid (1<=N.ks.length):=by show _<=_;omega
    have y:Hid (1<N.ks.length):=U;cases t1:mD ns N 1 0
    case' true=>
     cases t2:(gq ns N 1 !=1)
     case' false=>
      cases t3:((N.ks.length:Int)==2)
      case' false=>
       have z:Hid (2<N.ks.length):=by show _<_;grind
       cases t4:(gq ns N 2==1)
       case' false=>cases t5:(gq ns N 2==7)
 all_goals
  go_in;go_wp2_with (first|(go_at_call 157;refine b.bare λA b=>?_;obtain⟨h,i,j,l,m,o,p,q,r,s⟩:=co b.bn;have u:=b.bt)|(go_at_call 159;refine(mE _ _ ns N _ _ 0 1 b.a.t b.a.n b.a.k b.a.ok x.out b.a.ln b.a.l2).mono ?_;rintro e f ⟨rfl,c⟩;replace b:=b.below c;clear c;obtain⟨h,i,j,l,m,o,p,q,r,s⟩:=co b.bn;have u:=b.bt)|(go_at_call 156;with_reducible refine(aif b.a y.out).mono ?_;rintro e f ⟨rfl,c⟩;replace b:=b.below c;clear c;obtain⟨h,i,j,l,m,o,p,q,r,s⟩:=co b.bn;have u:=b.bt)|(go_at_call 156;with_reducible refine(air b.a z.out).mono ?_;rintro e f ⟨rfl,c⟩;replace b:=b.below c;clear c;obtain⟨h,i,j,l,m,o,p,q,r,s⟩:=co b.bn;have u:=b.bt));go_ret;exact⟨rfl,b.bel⟩
