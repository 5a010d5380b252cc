import Derived.Test.YtjeamjdieofoeaaGreatDoorHZk10
set_option linter.all false
set_option maxRecDepth 100000
set_option maxHeartbeats 3200000
open Bool renaming false->M
namespace Go.Proofs.YtjeamjdieofoeaaGreatDoor
open Go.RowKit Go.Maps Go.WideMaps
theorem afl{w:World}{b:Value}{a:List Nd}{N:Nd}{vn vk:Value}(c:NArg w b a N vn vk)(d:2<N.ks.length):
  Calls Tryz.prog 169 #[.agg #[b],.agg #[.int .i64 N.k,.int .i64 N.f,.int .i64 N.t,.int .i64 N.l,.int .i64 N.op,.int .i64 N.n,.string N.x,vn,vk],.int .i64 2] w fun e w'=>e= .returned (.int .i64 (fh a N 2))/\Below w.heap.size w w':=qj c 2 d
theorem aiE{w:World}{v:Value}{c:List Nd}{N:Nd}{vn vk:Value}(f:NArg w v c N vn vk)(g:N.k=7):
  Calls Tryz.prog 96 #[.agg #[v],jf N vn vk] w fun e w'=>e= .returned (.bool (bC N M M M M&&(decide (2<=N.ks.length/\N.ks.length<=3)&&(lg c N 1 0&&(!(fh c N 1 !=1)&&((N.ks.length:Int)==2||(fh c N 2==1||fh c N 2==7)))))))/\Below w.heap.size w w':=by
 obtain⟨B,F,rfl⟩:=f.t.form;obtain⟨C,G,rfl⟩:=f.n.form;obtain⟨E,H,rfl⟩:=f.k.form;have b:=St.start f;have K:=f.l2;clear f;have L:=kqf g;have ad:=kqt g 7 rfl;clear g;unfold jf;cases t0:bC N M M M M
 case' true=>
  by_cases I:(N.ks.length:Int)<2
  case' pos=>rw[aC (by omega)]
  case' neg=>
   by_cases J:(3:Int)<(N.ks.length:Int)
   case' pos=>rw[aC (by omega)]
   case' neg=>
    rw[bH (by omega)];have x:Hid (1<=N.ks.length):=by show _<=_;omega
    have y:Hid (1<N.ks.length):=by show _<_;omega
    cases t1:lg c N 1 0
    case' true=>
     cases t2:(fh c N 1 !=1)
     case' false=>
      cases t3:((N.ks.length:Int)==2)
      case' false=>
       have z:Hid (2<N.ks.length):=by show _<_;have:=ne_of_beq_false t3;omega
       cases t4:(fh c N 2==1)
       case' false=>cases t5:(fh c N 2==7)
 all_goals
  go_in;go_wp2_with (first|(go_at_call 170;refine b.bare fun A b=>?_;obtain⟨h,i,j,l,m,o,p,q,r,s⟩:=cd b.bn;have u:=b.bt)|(go_at_call 172;refine(lu _ _ c N _ _ 0 1 b.a.t b.a.n b.a.k b.a.ok x.out b.a.ln b.a.l2).mono ?_;rintro e w' ⟨rfl,d⟩;replace b:=b.below d;clear d;obtain⟨h,i,j,l,m,o,p,q,r,s⟩:=cd b.bn;have u:=b.bt)|(go_at_call 169;with_reducible refine(afc b.a y.out).mono ?_;rintro e w' ⟨rfl,d⟩;replace b:=b.below d;clear d;obtain⟨h,i,j,l,m,o,p,q,r,s⟩:=cd b.bn;have u:=b.bt)|(go_at_call 169;with_reducible refine(afl b.a z.out).mono ?_;rintro e w' ⟨rfl,d⟩;replace b:=b.below d;clear d;obtain⟨h,i,j,l,m,o,p,q,r,s⟩:=cd b.bn;have u:=b.bt));go_ret;exact⟨rfl,b.bel⟩
