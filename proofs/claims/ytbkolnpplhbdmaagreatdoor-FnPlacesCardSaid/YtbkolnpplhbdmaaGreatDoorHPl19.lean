import Derived.Test.YtbkolnpplhbdmaaGreatDoorHPl07
set_option linter.all false
set_option maxRecDepth 100000
set_option maxHeartbeats 3200000
open Bool renaming false->M
namespace Go.Proofs.YtbkolnpplhbdmaaGreatDoor
open Go.RowKit Go.Maps Go.WideMaps
def aht{w:World}{a:Value}{ns:List Nd}{N:Nd}{vn vk:Value}(A:NArg w a ns N vn vk)(b:2<N.ks.length):
  Calls Tryz.prog 153 #[.agg #[a],.agg #[.int .i64 N.k,.int .i64 N.f,.int .i64 N.t,.int .i64 N.l,.int .i64 N.op,.int .i64 N.n,.string N.x,vn,vk],.int .i64 2] w (jf w (.int .i64 (fl ns N 2))):=rf A 2 b
def akH{w:World}{s:Value}{ns:List Nd}{N:Nd}{vn vk:Value}(A:NArg w s ns N vn vk)(d:N.k=7):
  Calls Tryz.prog 78 #[.agg #[s],jI N vn vk] w (jf w (.bool (bu N M M M M&&(decide (2<=N.ks.length/\N.ks.length<=3)&&(lj ns N 1 0&&(!(fl ns N 1 !=1)&&((N.ks.length:Int)==2||(fl ns N 2==1||fl ns N 2==7)))))))):=by
 obtain⟨B,F,rfl⟩:=A.t.form;obtain⟨C,G,rfl⟩:=A.n.form;obtain⟨E,H,rfl⟩:=A.k.form;have b:=St.start A;have K:=A.l2;clear A;have L:=kqf d;have ad:=kqt d 7 rfl;clear d;unfold jI;cases t0:bu N M M M M
 case' true=>
  by_cases I:(N.ks.length:Int)<2
  case' pos=>rw[az (by omega)]
  case' neg=>
   by_cases J:(3:Int)<(N.ks.length:Int)
   case' pos=>rw[az (by omega)]
   case' neg=>
    rw[be (by omega)];have v:Hid (1<=N.ks.length):=by show _<=_;omega
    have x:Hid (1<N.ks.length):=by show _<_;omega
    cases t1:lj ns N 1 0
    case' true=>
     cases t2:(fl ns N 1 !=1)
     case' false=>
      cases t3:((N.ks.length:Int)==2)
      case' false=>
       have y:Hid (2<N.ks.length):=by show _<_;have:=ne_of_beq_false t3;omega
       cases t4:(fl ns N 2==1)
       case' false=>cases t5:(fl ns N 2==7)
 all_goals
  go_in;go_wp2_with (first|(go_at_call 154;refine b.bare λz b=>?_;have⟨e,f,g,h,i,j,l,m,o,p⟩:=bK b.bn;have q:=b.bt)|(go_at_call 156;refine(mK _ _ ns N _ _ 0 1 b.a.t b.a.n b.a.k b.a.ok v.out b.a.ln b.a.l2).mono ?_;rintro r u ⟨rfl,c⟩;replace b:=b.below c;clear c;have⟨e,f,g,h,i,j,l,m,o,p⟩:=bK b.bn;have q:=b.bt)|(go_at_call 153;with_reducible refine(agn b.a x.out).mono ?_;rintro r u ⟨rfl,c⟩;replace b:=b.below c;clear c;have⟨e,f,g,h,i,j,l,m,o,p⟩:=bK b.bn;have q:=b.bt)|(go_at_call 153;with_reducible refine(aht b.a y.out).mono ?_;rintro r u ⟨rfl,c⟩;replace b:=b.below c;clear c;have⟨e,f,g,h,i,j,l,m,o,p⟩:=bK b.bn;have q:=b.bt));go_ret;exact⟨rfl,b.bel⟩
