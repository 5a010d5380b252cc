import Derived.Test.YthkcmkmkapijkaaGreatDoorh10
set_option linter.all false
set_option maxRecDepth 100000
set_option maxHeartbeats 3200000
open Bool renaming false->H
namespace Go.Proofs.YthkcmkmkapijkaaGreatDoor
open Go.RowKit Go.Maps Go.WideMaps
def alC{w d a N c b}(f:NArg w d a N c b)(g:2<N.ks.length):
  Calls Tryz.prog 225 #[.agg #[d],.agg<|Jn N c b,zI 2] w λe h=>e= .returned (zI<|gC a N 2)/\Below w.heap.size w h:=tF f 2 g
def aqb{w z c N y x}(f:NArg w z c N y x)(h:N.k=7):
  Calls Tryz.prog 136 #[.agg #[z],jq N y x] w λe g=>e= .returned (.bool<|bC N H H H H&&(decide (2<=N.ks.length/\N.ks.length<=3)&&(mK c N 1 0&&(!(gC c N 1 !=1)&&((N.ks.length:Int)==2||(gC c N 2==1||gC c N 2==7))))))/\Below w.heap.size w g:=by
 obtain⟨_,_,rfl⟩:=f.t.form;obtain⟨_,_,rfl⟩:=f.n.form;obtain⟨_,_,rfl⟩:=f.k.form;have b:=St.start f;have E:=f.l2;clear f;have F:=kqf h;have G:=kqt h 7 R;clear h;unfold jq;cases t0:bC N H H H H
 case' true=>
  by_cases d:(N.ks.length:Int)<2
  case' pos=>rw[bq O]
  case' neg=>
   by_cases i:(3:Int)<(N.ks.length:Int)
   case' pos=>rw[bq O]
   case' neg=>
    rw[eI O];have A:Hid (1<=N.ks.length):=by show _<=_;omega
    have B:Hid (1<N.ks.length):=U;cases t1:mK c N 1 0
    case' true=>
     cases t2:(gC c N 1 !=1)
     case' false=>
      cases t3:((N.ks.length:Int)==2)
      case' false=>
       have C:Hid (2<N.ks.length):=by show _<_;grind
       cases t4:(gC c N 2==1)
       case' false=>cases t5:(gC c N 2==7)
 all_goals
  go_in;go_wp2_with (first|(go_at_call 226;refine b.bare λ_ b=>?_;have⟨i,j,l,m,o,p,q,r,s,u⟩:=aE b.bn;have v:=b.bt)|(go_at_call 228;apply(oz _ _ _ N _ _ 0 1 b.a.t b.a.n b.a.k b.a.ok A.out b.a.ln b.a.l2).mono;rintro e g ⟨rfl,d⟩;replace b:=b.below d;clear d;have⟨i,j,l,m,o,p,q,r,s,u⟩:=aE b.bn;have v:=b.bt)|(go_at_call 225;with_reducible refine(alA b.a B.out).mono ?_;rintro e g ⟨rfl,d⟩;replace b:=b.below d;clear d;have⟨i,j,l,m,o,p,q,r,s,u⟩:=aE b.bn;have v:=b.bt)|(go_at_call 225;with_reducible apply(alC b.a C.out).mono;rintro e g ⟨rfl,d⟩;replace b:=b.below d;clear d;have⟨i,j,l,m,o,p,q,r,s,u⟩:=aE b.bn;have v:=b.bt));go_ret;exact⟨R,b.bel⟩
