import Derived.Test.YthkcmkmkapijkaaGreatDoorh18
import Derived.Test.YthkcmkmkapijkaaGreatDoorh19
set_option linter.all false
set_option maxRecDepth 100000
set_option maxHeartbeats 25600000
open List renaming length->C
open Bool renaming false->E,true->F
open Go.RowKit renaming Hid->G
namespace Go.Proofs.YthkcmkmkapijkaaGreatDoor
open Go.RowKit Go.Maps Go.WideMaps
def stB(a:zLD)(N:Nd):Bool:=
 if N.k=1 then(sbB a N (C N.ks) 0&&bC N E E E E)
 else if N.k=2 then(bC N E E E F&&gi N 1 200&&mK a N (C N.ks) 0)
 else if N.k=3 then(bC N E E E F&&gi N 1 1&&((C N.ks:Int)==1)&&mK a N 1 0)
 else if N.k=4 then(bC N E E E F&&gi N 1 1&&((C N.ks:Int)==1)&&(gC a N 0==36))
 else if N.k=5 then(bC N E F E E&&(decide (1<=N.n/\N.n<(C N.ks:Int))&&(tgB a N N.n.toNat 0&&mK a N (C N.ks-N.n.toNat) N.n.toNat)))
 else if N.k=6 then(bC N E E E E&&((C N.ks:Int)==1)&&(gC a N 0==34))
 else if N.k=7 then(bC N E E E E&&(decide (2<=C N.ks/\C N.ks<=3)&&(mK a N 1 0&&(!(gC a N 1 !=1)&&((C N.ks:Int)==2||(gC a N 2==1||gC a N 2==7))))))
 else if N.k=8 then(bC N E E E E&&((C N.ks:Int)==2)&&mK a N 1 0&&(gC a N 1==1))
 else if N.k=9 then(bC N E E E F&&(gi N 1 1&&(((C N.ks:Int)==3||(C N.ks:Int)==4)&&(mK a N (C N.ks-1) 0&&(gC a N (C N.ks-1)==1)))))
 else if N.k=10 then(bC N E E E F&&gi N 1 200&&((C N.ks:Int)==2)&&mK a N 1 0&&(gC a N 1==1))
 else if N.k=11 then(bC N E E E E&&((C N.ks:Int)==0))
 else if N.k=12 then(bC N E E E E&&((C N.ks:Int)==0))
 else if N.k=13 then(bC N E E E E&&mK a N (C N.ks) 0)
 else if N.k=14 then(bC N E E E F&&gi N 1 2&&((C N.ks:Int)==2)&&(gC a N 0==1)&&(gC a N 1==1))
 else if N.k=15 then(bC N E E E E&&((C N.ks:Int)==1)&&mK a N 1 0)
 else if N.k=16 then(bC N E E E E&&((C N.ks:Int)==1)&&(gC a N 0==34))
 else E
def aur{w A c N z y}(h:NArg w A c N z y)(hK:N.k=3\/N.k=8\/N.k=11\/N.k=12\/N.k=2\/N.k=4\/N.k=6\/N.k=16\/N.k=10\/N.k=13\/N.k=14\/N.k=15):
  Calls Tryz.prog 136 #[.agg #[A],jq N z y] w λe a=>e= .returned (.bool<|stB c N)/\Below w.heap.size w a:=by
 obtain⟨_,_,rfl⟩:=h.t.form;obtain⟨_,_,rfl⟩:=h.n.form;obtain⟨_,_,rfl⟩:=h.k.form;have a:=St.start h;have B:G (N.x.size<=1100000):=bK h.lx Z;clear h;obtain hK|hK|hK|hK|hK|hK|hK|hK|hK|hK|hK|hK:=hK;all_goals
  unfold stB;simp only[hK,reduceIte,Int.reduceEq];have l:=kqf hK;have j:=kqs hK;first
  |(have b:N.k=3:=hK
    clear b hK;cases t0:bC N E E E F
    case' true=>
     cases t1:gi N 1 1
     case' true=>
      cases t2:((C N.ks:Int)==1)
      case' true=>
       have d:C N.ks=1:=U;have f:G (1<=C N.ks):=by show _<=_;omega
       have g:G (0<C N.ks):=U;clear d;cases t3:mK c N 1 0)
  |(have b:N.k=8:=hK
    clear b hK;cases t0:bC N E E E E
    case' true=>
     cases t1:((C N.ks:Int)==2)
     case' true=>
      have d:C N.ks=2:=U;have f:G (1<=C N.ks):=by show _<=_;omega
      have g:G (0<C N.ks):=U;have i:G (1<C N.ks):=U;clear d;cases t2:mK c N 1 0
      case' true=>
       cases t3:(gC c N 1==1))
  |(have b:N.k=11\/N.k=12:=by first|exact .inl hK|exact .inr (hK)
    clear b hK;cases t0:bC N E E E E
    case' true=>
     cases t1:((C N.ks:Int)==0))
  |(have b:N.k=2:=hK
    clear b hK;cases t0:bC N E E E F
    case' true=>
     cases t1:gi N 1 200
     case' true=>
      cases t2:mK c N (C N.ks) 0)
  |(have b:N.k=4:=hK
    clear b hK;cases t0:bC N E E E F
    case' true=>
     cases t1:gi N 1 1
     case' true=>
      cases t2:((C N.ks:Int)==1)
      case' true=>
       have d:C N.ks=1:=U;have f:G (1<=C N.ks):=by show _<=_;omega
       have g:G (0<C N.ks):=U;clear d;cases t3:(gC c N 0==36))
  |(have b:N.k=6\/N.k=16:=by first|exact .inl hK|exact .inr (hK)
    clear b hK;cases t0:bC N E E E E
    case' true=>
     cases t1:((C N.ks:Int)==1)
     case' true=>
      have d:C N.ks=1:=U;have f:G (1<=C N.ks):=by show _<=_;omega
      have g:G (0<C N.ks):=U;clear d;cases t2:(gC c N 0==34))
  |(have b:N.k=10:=hK
    clear b hK;cases t0:bC N E E E F
    case' true=>
     cases t1:gi N 1 200
     case' true=>
      cases t2:((C N.ks:Int)==2)
      case' true=>
       have d:C N.ks=2:=U;have f:G (1<=C N.ks):=by show _<=_;omega
       have g:G (0<C N.ks):=U;have i:G (1<C N.ks):=U;clear d;cases t3:mK c N 1 0
       case' true=>
        cases t4:(gC c N 1==1))
  |(have b:N.k=13:=hK
    clear b hK;cases t0:bC N E E E E
    case' true=>
     cases t1:mK c N (C N.ks) 0)
  |(have b:N.k=14:=hK
    clear b hK;cases t0:bC N E E E F
    case' true=>
     cases t1:gi N 1 2
     case' true=>
      cases t2:((C N.ks:Int)==2)
      case' true=>
       have d:C N.ks=2:=U;have f:G (1<=C N.ks):=by show _<=_;omega
       have g:G (0<C N.ks):=U;have i:G (1<C N.ks):=U;clear d;cases t3:(gC c N 0==1)
       case' true=>
        cases t4:(gC c N 1==1))
  |(have b:N.k=15:=hK
    clear b hK;cases t0:bC N E E E E
    case' true=>
     cases t1:((C N.ks:Int)==1)
     case' true=>
      have d:C N.ks=1:=U;have f:G (1<=C N.ks):=by show _<=_;omega
      have g:G (0<C N.ks):=U;clear d;cases t2:mK c N 1 0)
 all_goals
  unfold jq;go_in;go_wp2_with (first|(go_at_call 226;with_reducible refine a.bare λb a=>?_;have⟨d,j,l,m,o,p,q,r,s,u⟩:=aE a.bn;have v:=a.bt)|(go_at_call 227;with_reducible refine a.named λb a=>?_;have⟨d,j,l,m,o,p,q,r,s,u⟩:=aE a.bn;have v:=a.bt)|(go_at_call 228;(first|with_reducible refine a.ex1 f.out λb a=>?_|with_reducible refine a.ex2 f.out λb a=>?_|refine a.exL λb a=>?_);have⟨d,j,l,m,o,p,q,r,s,u⟩:=aE a.bn;have v:=a.bt)|(go_at_call 225;(first|with_reducible refine a.kid0 g.out λb a=>?_|refine a.kid1 i.out λb a=>?_);have⟨d,j,l,m,o,p,q,r,s,u⟩:=aE a.bn;have v:=a.bt));go_ret;exact⟨R,a.bel⟩
