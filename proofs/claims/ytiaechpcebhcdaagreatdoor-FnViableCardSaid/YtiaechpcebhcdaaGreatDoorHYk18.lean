import Derived.Test.YtiaechpcebhcdaaGreatDoorHYk17
import Derived.Test.YtiaechpcebhcdaaGreatDoorHYk15
set_option linter.all false
set_option maxRecDepth 100000
set_option maxHeartbeats 25600000
open List renaming length->M
open Bool renaming false->Q,true->R
open Go.RowKit renaming Hid->S
namespace Go.Proofs.YtiaechpcebhcdaaGreatDoor
open Go.RowKit Go.Maps Go.WideMaps
def stB(ns:List Nd)(N:Nd):Bool:=
 if N.k=1 then(sbB ns N (M N.ks) 0&&bK N Q Q Q Q)
 else if N.k=2 then(bK N Q Q Q R&&gg N 1 200&&mD ns N (M N.ks) 0)
 else if N.k=3 then(bK N Q Q Q R&&gg N 1 1&&((M N.ks:Int)==1)&&mD ns N 1 0)
 else if N.k=4 then(bK N Q Q Q R&&gg N 1 1&&((M N.ks:Int)==1)&&(gq ns N 0==36))
 else if N.k=5 then(bK N Q R Q Q&&(decide (1<=N.n/\N.n<(M N.ks:Int))&&(tgB ns N N.n.toNat 0&&mD ns N (M N.ks-N.n.toNat) N.n.toNat)))
 else if N.k=6 then(bK N Q Q Q Q&&((M N.ks:Int)==1)&&(gq ns N 0==34))
 else if N.k=7 then(bK N Q Q Q Q&&(decide (2<=M N.ks/\M N.ks<=3)&&(mD ns N 1 0&&(!(gq ns N 1 !=1)&&((M N.ks:Int)==2||(gq ns N 2==1||gq ns N 2==7))))))
 else if N.k=8 then(bK N Q Q Q Q&&((M N.ks:Int)==2)&&mD ns N 1 0&&(gq ns N 1==1))
 else if N.k=9 then(bK N Q Q Q R&&(gg N 1 1&&(((M N.ks:Int)==3||(M N.ks:Int)==4)&&(mD ns N (M N.ks-1) 0&&(gq ns N (M N.ks-1)==1)))))
 else if N.k=10 then(bK N Q Q Q R&&gg N 1 200&&((M N.ks:Int)==2)&&mD ns N 1 0&&(gq ns N 1==1))
 else if N.k=11 then(bK N Q Q Q Q&&((M N.ks:Int)==0))
 else if N.k=12 then(bK N Q Q Q Q&&((M N.ks:Int)==0))
 else if N.k=13 then(bK N Q Q Q Q&&mD ns N (M N.ks) 0)
 else if N.k=14 then(bK N Q Q Q R&&gg N 1 2&&((M N.ks:Int)==2)&&(gq ns N 0==1)&&(gq ns N 1==1))
 else if N.k=15 then(bK N Q Q Q Q&&((M N.ks:Int)==1)&&mD ns N 1 0)
 else if N.k=16 then(bK N Q Q Q Q&&((M N.ks:Int)==1)&&(gq ns N 0==34))
 else Q
def apd{w:World}{z:Value}{ns:List Nd}{N:Nd}{vn vk:Value}(g:NArg w z ns N vn vk)(hK:N.k=3\/N.k=8\/N.k=11\/N.k=12\/N.k=2\/N.k=4\/N.k=6\/N.k=16\/N.k=10\/N.k=13\/N.k=14\/N.k=15):
  Calls Tryz.prog 96 #[.agg #[z],jA N vn vk] w λe A=>e= .returned (.bool (stB ns N))/\Below w.heap.size w A:=by
 obtain⟨C,G,rfl⟩:=g.t.form;obtain⟨E,H,rfl⟩:=g.n.form;obtain⟨F,K,rfl⟩:=g.k.form;have a:=St.start g;have B:S (N.x.size<=1100000):=aK g.lx Z;clear g;rcases hK with hK|hK|hK|hK|hK|hK|hK|hK|hK|hK|hK|hK;all_goals
  unfold stB;simp only[hK,reduceIte,Int.reduceEq];have ad:=kqf hK;have L:=kqs hK;first
  |(have b:N.k=3:=hK
    clear b hK;cases t0:bK N Q Q Q R
    case' true=>
     cases t1:gg N 1 1
     case' true=>
      cases t2:((M N.ks:Int)==1)
      case' true=>
       have c:M N.ks=1:=U;have d:S (1<=M N.ks):=by show _<=_;omega
       have f:S (0<M N.ks):=U;clear c;cases t3:mD ns N 1 0)
  |(have b:N.k=8:=hK
    clear b hK;cases t0:bK N Q Q Q Q
    case' true=>
     cases t1:((M N.ks:Int)==2)
     case' true=>
      have c:M N.ks=2:=U;have d:S (1<=M N.ks):=by show _<=_;omega
      have f:S (0<M N.ks):=U;have i:S (1<M N.ks):=U;clear c;cases t2:mD ns N 1 0
      case' true=>
       cases t3:(gq ns N 1==1))
  |(have b:N.k=11\/N.k=12:=by first|exact .inl hK|exact .inr (hK)
    clear b hK;cases t0:bK N Q Q Q Q
    case' true=>
     cases t1:((M N.ks:Int)==0))
  |(have b:N.k=2:=hK
    clear b hK;cases t0:bK N Q Q Q R
    case' true=>
     cases t1:gg N 1 200
     case' true=>
      cases t2:mD ns N (M N.ks) 0)
  |(have b:N.k=4:=hK
    clear b hK;cases t0:bK N Q Q Q R
    case' true=>
     cases t1:gg N 1 1
     case' true=>
      cases t2:((M N.ks:Int)==1)
      case' true=>
       have c:M N.ks=1:=U;have d:S (1<=M N.ks):=by show _<=_;omega
       have f:S (0<M N.ks):=U;clear c;cases t3:(gq ns N 0==36))
  |(have b:N.k=6\/N.k=16:=by first|exact .inl hK|exact .inr (hK)
    clear b hK;cases t0:bK N Q Q Q Q
    case' true=>
     cases t1:((M N.ks:Int)==1)
     case' true=>
      have c:M N.ks=1:=U;have d:S (1<=M N.ks):=by show _<=_;omega
      have f:S (0<M N.ks):=U;clear c;cases t2:(gq ns N 0==34))
  |(have b:N.k=10:=hK
    clear b hK;cases t0:bK N Q Q Q R
    case' true=>
     cases t1:gg N 1 200
     case' true=>
      cases t2:((M N.ks:Int)==2)
      case' true=>
       have c:M N.ks=2:=U;have d:S (1<=M N.ks):=by show _<=_;omega
       have f:S (0<M N.ks):=U;have i:S (1<M N.ks):=U;clear c;cases t3:mD ns N 1 0
       case' true=>
        cases t4:(gq ns N 1==1))
  |(have b:N.k=13:=hK
    clear b hK;cases t0:bK N Q Q Q Q
    case' true=>
     cases t1:mD ns N (M N.ks) 0)
  |(have b:N.k=14:=hK
    clear b hK;cases t0:bK N Q Q Q R
    case' true=>
     cases t1:gg N 1 2
     case' true=>
      cases t2:((M N.ks:Int)==2)
      case' true=>
       have c:M N.ks=2:=U;have d:S (1<=M N.ks):=by show _<=_;omega
       have f:S (0<M N.ks):=U;have i:S (1<M N.ks):=U;clear c;cases t3:(gq ns N 0==1)
       case' true=>
        cases t4:(gq ns N 1==1))
  |(have b:N.k=15:=hK
    clear b hK;cases t0:bK N Q Q Q Q
    case' true=>
     cases t1:((M N.ks:Int)==1)
     case' true=>
      have c:M N.ks=1:=U;have d:S (1<=M N.ks):=by show _<=_;omega
      have f:S (0<M N.ks):=U;clear c;cases t2:mD ns N 1 0)
 all_goals
  unfold jA;go_in;go_wp2_with (first|(go_at_call 157;with_reducible refine a.bare λh a=>?_;obtain⟨j,l,m,o,p,q,r,s,u,v⟩:=co a.bn;have y:=a.bt)|(go_at_call 158;with_reducible refine a.named λh a=>?_;obtain⟨j,l,m,o,p,q,r,s,u,v⟩:=co a.bn;have y:=a.bt)|(go_at_call 159;(first|with_reducible refine a.ex1 d.out λh a=>?_|with_reducible refine a.ex2 d.out λh a=>?_|with_reducible refine a.exL λh a=>?_);obtain⟨j,l,m,o,p,q,r,s,u,v⟩:=co a.bn;have y:=a.bt)|(go_at_call 156;(first|with_reducible refine a.kid0 f.out λh a=>?_|with_reducible refine a.kid1 i.out λh a=>?_);obtain⟨j,l,m,o,p,q,r,s,u,v⟩:=co a.bn;have y:=a.bt));go_ret;exact⟨rfl,a.bel⟩
