import Derived.Test.YtkfgnpcanadjhaaGreatDoorHSk07
set_option linter.all false
set_option maxRecDepth 100000
set_option maxHeartbeats 3200000
namespace Go.Proofs.YtkfgnpcanadjhaaGreatDoor
open Go.RowKit Go.Maps Go.WideMaps
theorem abe{w:World}{b:Value}{a:List Nd}{N:Nd}{vn vk:Value}(c:NArg w b a N vn vk)(d:2<N.ks.length):
  Calls Tryz.prog 125 #[.agg #[b],.agg #[.int .i64 N.k,.int .i64 N.f,.int .i64 N.t,.int .i64 N.l,.int .i64 N.op,.int .i64 N.n,.string N.x,vn,vk],.int .i64 2] w fun e g=>e= .returned (.int .i64 (eC a N 2))/\Below w.heap.size w g:=nh c 2 d
theorem aee{w:World}{x:Value}{c:List Nd}{N:Nd}{vn vk:Value}(f:NArg w x c N vn vk)(h:N.k=7):
  Calls Tryz.prog 46 #[.agg #[x],gF N vn vk] w fun e g=>e= .returned (.bool (bj N false false false false&&(decide (2<=N.ks.length/\N.ks.length<=3)&&(jj c N 1 0&&(!(eC c N 1 !=1)&&((N.ks.length:Int)==2||(eC c N 2==1||eC c N 2==7)))))))/\Below w.heap.size w g:=by
 obtain⟨C,G,rfl⟩:=f.t.form
 obtain⟨E,H,rfl⟩:=f.n.form
 obtain⟨F,I,rfl⟩:=f.k.form
 have b:=St.start f
 have L:=f.l2
 clear f
 have ad:=Lj h
 have af:=kqt h 7 rfl
 clear h
 unfold gF
 cases t0:bj N false false false false
 case' true=>
  by_cases J:(N.ks.length:Int)<2
  case' pos=>rw[az (by omega)]
  case' neg=>
   by_cases K:(3:Int)<(N.ks.length:Int)
   case' pos=>rw[az (by omega)]
   case' neg=>
    rw[bB (by omega)]
    have y:Hid (1<=N.ks.length):=by show _<=_;omega
    have z:Hid (1<N.ks.length):=by show _<_;omega
    cases t1:jj c N 1 0
    case' true=>
     cases t2:(eC c N 1 !=1)
     case' false=>
      cases t3:((N.ks.length:Int)==2)
      case' false=>
       have A:Hid (2<N.ks.length):=by show _<_;have:=ne_of_beq_false t3;omega
       cases t4:(eC c N 2==1)
       case' false=>cases t5:(eC c N 2==7)
 all_goals
  go_in
  go_wp2_with (first|(go_at_call 126;refine b.bare fun B b=>?_;obtain⟨i,j,l,m,o,p,q,r,s,u⟩:=bz b.bn;have v:=b.bt)|(go_at_call 128;refine(jr _ _ c N _ _ 0 1 b.a.t b.a.n b.a.k b.a.ok y.out b.a.ln b.a.l2).mono ?_;rintro e g ⟨rfl,d⟩;replace b:=b.below d;clear d;obtain⟨i,j,l,m,o,p,q,r,s,u⟩:=bz b.bn;have v:=b.bt)|(go_at_call 125;with_reducible refine(aaB b.a z.out).mono ?_;rintro e g ⟨rfl,d⟩;replace b:=b.below d;clear d;obtain⟨i,j,l,m,o,p,q,r,s,u⟩:=bz b.bn;have v:=b.bt)|(go_at_call 125;with_reducible refine(abe b.a A.out).mono ?_;rintro e g ⟨rfl,d⟩;replace b:=b.below d;clear d;obtain⟨i,j,l,m,o,p,q,r,s,u⟩:=bz b.bn;have v:=b.bt))
  go_ret
  exact⟨rfl,b.bel⟩
