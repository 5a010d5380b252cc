import Derived.Test.YtiaechpcebhcdaaGreatDoorHYk13
set_option linter.all false
set_option maxRecDepth 100000
set_option maxHeartbeats 25600000
open List renaming length->M
open Bool renaming false->Q,true->R
open Go.RowKit renaming Hid->S
namespace Go.Proofs.YtiaechpcebhcdaaGreatDoor
open Go.RowKit Go.Maps Go.WideMaps
def kI(ns:List Nd)(N:Nd):Bool:=
 if N.k=20 then(((M N.ks:Int)==0)&&bK N Q Q Q Q)
 else if N.k=21 then(((M N.ks:Int)==0)&&bK N Q Q Q Q)
 else if N.k=22 then(((M N.ks:Int)==0)&&bK N Q Q Q Q)
 else if N.k=27 then(((M N.ks:Int)==0)&&bK N Q Q Q Q)
 else if N.k=23 then(((M N.ks:Int)==0)&&bK N Q R Q Q)
 else if N.k=24 then(((M N.ks:Int)==0)&&bK N Q Q R Q&&fok N.x)
 else if N.k=25 then(((M N.ks:Int)==0)&&bK N Q Q R Q&&decide ((N.x.size:Int)<=4000))
 else if N.k=26 then(((M N.ks:Int)==0)&&bK N Q Q R Q&&qp N.x)
 else if N.k=28 then(((M N.ks:Int)==2)&&mD ns N 2 0&&bK N Q Q Q Q)
 else if N.k=29 then(((M N.ks:Int)==2)&&mD ns N 2 0&&bK N Q Q Q Q)
 else if N.k=32 then(((M N.ks:Int)==2)&&mD ns N 2 0&&(gq ns N 0 !=27)&&bK N Q Q Q Q)
 else if N.k=30 then(((M N.ks:Int)==1)&&mD ns N 1 0&&bK N R Q Q Q&&decide ((19:Int)<=N.op)&&decide (N.op<=22))
 else if N.k=31 then(((M N.ks:Int)==2)&&mD ns N 2 0&&bK N R Q Q Q&&decide ((1:Int)<=N.op)&&decide (N.op<=18))
 else if N.k=33 then(((M N.ks:Int)==1)&&mD ns N 1 0&&(gq ns N 0 !=27)&&bK N Q Q R Q&&qp N.x)
 else if N.k=34 then(decide ((1:Int)<=(M N.ks:Int))&&mD ns N (M N.ks) 0&&(gq ns N 0 !=27)&&bK N Q Q Q Q)
 else if N.k=35 then(enB ns N (M N.ks) 0&&bK N Q Q Q Q)
 else if N.k=36 then(((M N.ks:Int)==1)&&(gq ns N 0==1)&&bK N R Q Q R&&gg N 0 200&&(N.op==0||N.op==1))
 else if N.k=37 then(((M N.ks:Int)==1)&&(gq ns N 0==34||gq ns N 0==27)&&bK N Q Q Q Q)
 else if N.k=40 then(((M N.ks:Int)==1)&&mD ns N 1 0&&bK N Q Q Q Q)
 else if N.k=41 then(((M N.ks:Int)==2)&&mD ns N 2 0&&bK N Q Q Q Q)
 else if N.k=42 then(((M N.ks:Int)==1)&&mD ns N 1 0&&bK N Q Q R Q&&qp N.x)
 else Q
def apc{w:World}{B:Value}{ns:List Nd}{N:Nd}{vn vk:Value}(h:NArg w B ns N vn vk)(hK:N.k=20\/N.k=21\/N.k=22\/N.k=27\/N.k=23\/N.k=24\/N.k=25\/N.k=26\/N.k=28\/N.k=29\/N.k=41\/N.k=32\/N.k=30\/N.k=31\/N.k=33\/N.k=34\/N.k=40\/N.k=42\/N.k=36\/N.k=37):
  Calls Tryz.prog 97 #[.agg #[B],jA N vn vk] w λe C=>e= .returned (.bool (kI ns N))/\Below w.heap.size w C:=by
 obtain⟨E,H,rfl⟩:=h.t.form;obtain⟨F,K,rfl⟩:=h.n.form;obtain⟨G,L,rfl⟩:=h.k.form;have a:=St.start h;have A:S (N.x.size<=1100000):=aK h.lx Z;clear h;rcases hK with hK|hK|hK|hK|hK|hK|hK|hK|hK|hK|hK|hK|hK|hK|hK|hK|hK|hK|hK|hK;all_goals
  unfold kI;simp only[hK,reduceIte,Int.reduceEq];have af:=kqf hK;have ad:=kqs hK;first
  |(have b:N.k=20\/N.k=21\/N.k=22\/N.k=27:=by first|exact .inl hK|exact .inr (.inl hK)|exact .inr (.inr (.inl hK))|exact .inr (.inr (.inr (hK)))
    clear b hK;cases t0:((M N.ks:Int)==0)
    case' true=>
     cases t1:bK N Q Q Q Q)
  |(have b:N.k=23:=hK
    clear b hK;cases t0:((M N.ks:Int)==0)
    case' true=>
     cases t1:bK N Q R Q Q)
  |(have b:N.k=24:=hK
    clear b hK;cases t0:((M N.ks:Int)==0)
    case' true=>
     cases t1:bK N Q Q R Q
     case' true=>
      cases t2:fok N.x)
  |(have b:N.k=25:=hK
    clear b hK;cases t0:((M N.ks:Int)==0)
    case' true=>
     cases t1:bK N Q Q R Q
     case' true=>
      cases t2:decide ((N.x.size:Int)<=4000))
  |(have b:N.k=26:=hK
    clear b hK;cases t0:((M N.ks:Int)==0)
    case' true=>
     cases t1:bK N Q Q R Q
     case' true=>
      cases t2:qp N.x)
  |(have b:N.k=28\/N.k=29\/N.k=41:=by first|exact .inl hK|exact .inr (.inl hK)|exact .inr (.inr (hK))
    clear b hK;cases t0:((M N.ks:Int)==2)
    case' true=>
     have c:M N.ks=2:=U;have d:S (2<=M N.ks):=by show _<=_;omega
     have f:S (0<M N.ks):=U;have y:S (1<M N.ks):=U;clear c;cases t1:mD ns N 2 0
     case' true=>
      cases t2:bK N Q Q Q Q)
  |(have b:N.k=32:=hK
    clear b hK;cases t0:((M N.ks:Int)==2)
    case' true=>
     have c:M N.ks=2:=U;have d:S (2<=M N.ks):=by show _<=_;omega
     have f:S (0<M N.ks):=U;have y:S (1<M N.ks):=U;clear c;cases t1:mD ns N 2 0
     case' true=>
      cases t2:(gq ns N 0 !=27)
      case' true=>
       cases t3:bK N Q Q Q Q)
  |(have b:N.k=30:=hK
    clear b hK;cases t0:((M N.ks:Int)==1)
    case' true=>
     have c:M N.ks=1:=U;have d:S (1<=M N.ks):=by show _<=_;omega
     have f:S (0<M N.ks):=U;clear c;cases t1:mD ns N 1 0
     case' true=>
      cases t2:bK N R Q Q Q
      case' true=>
       cases t3:decide ((19:Int)<=N.op)
       case' true=>
        cases t4:decide (N.op<=22))
  |(have b:N.k=31:=hK
    clear b hK;cases t0:((M N.ks:Int)==2)
    case' true=>
     have c:M N.ks=2:=U;have d:S (2<=M N.ks):=by show _<=_;omega
     have f:S (0<M N.ks):=U;have y:S (1<M N.ks):=U;clear c;cases t1:mD ns N 2 0
     case' true=>
      cases t2:bK N R Q Q Q
      case' true=>
       cases t3:decide ((1:Int)<=N.op)
       case' true=>
        cases t4:decide (N.op<=18))
  |(have b:N.k=33:=hK
    clear b hK;cases t0:((M N.ks:Int)==1)
    case' true=>
     have c:M N.ks=1:=U;have d:S (1<=M N.ks):=by show _<=_;omega
     have f:S (0<M N.ks):=U;clear c;cases t1:mD ns N 1 0
     case' true=>
      cases t2:(gq ns N 0 !=27)
      case' true=>
       cases t3:bK N Q Q R Q
       case' true=>
        cases t4:qp N.x)
  |(have b:N.k=34:=hK
    clear b hK;cases t0:decide ((1:Int)<=(M N.ks:Int))
    case' true=>
     have f:S (0<M N.ks):=by show _<_;grind
     cases t1:mD ns N (M N.ks) 0
     case' true=>
      cases t2:(gq ns N 0 !=27)
      case' true=>
       cases t3:bK N Q Q Q Q)
  |(have b:N.k=40:=hK
    clear b hK;cases t0:((M N.ks:Int)==1)
    case' true=>
     have c:M N.ks=1:=U;have d:S (1<=M N.ks):=by show _<=_;omega
     have f:S (0<M N.ks):=U;clear c;cases t1:mD ns N 1 0
     case' true=>
      cases t2:bK N Q Q Q Q)
  |(have b:N.k=42:=hK
    clear b hK;cases t0:((M N.ks:Int)==1)
    case' true=>
     have c:M N.ks=1:=U;have d:S (1<=M N.ks):=by show _<=_;omega
     have f:S (0<M N.ks):=U;clear c;cases t1:mD ns N 1 0
     case' true=>
      cases t2:bK N Q Q R Q
      case' true=>
       cases t3:qp N.x)
  |(have b:N.k=36:=hK
    clear b hK;cases t0:((M N.ks:Int)==1)
    case' true=>
     have c:M N.ks=1:=U;have d:S (1<=M N.ks):=by show _<=_;omega
     have f:S (0<M N.ks):=U;clear c;cases t1:(gq ns N 0==1)
     case' true=>
      cases t2:bK N R Q Q R
      case' true=>
       cases t3:gg N 0 200
       case' true=>
        cases u4:(N.op==0)
        case' false=>cases v4:(N.op==1))
  |(have b:N.k=37:=hK
    clear b hK;cases t0:((M N.ks:Int)==1)
    case' true=>
     have c:M N.ks=1:=U;have d:S (1<=M N.ks):=by show _<=_;omega
     have f:S (0<M N.ks):=U;clear c;cases u1:(gq ns N 0==34)
     case' false=>cases v1:(gq ns N 0==27)
     all_goals
      cases t2:bK N Q Q Q Q)
 all_goals
  unfold jA;go_in;go_wp2_with (first|(go_at_call 157;with_reducible refine a.bare λg a=>?_;obtain⟨i,j,l,m,o,p,q,r,s,u⟩:=co a.bn;have v:=a.bt)|(go_at_call 158;with_reducible refine a.named λg a=>?_;obtain⟨i,j,l,m,o,p,q,r,s,u⟩:=co a.bn;have v:=a.bt)|(go_at_call 159;(first|with_reducible refine a.ex1 d.out λg a=>?_|with_reducible refine a.ex2 d.out λg a=>?_|with_reducible refine a.exL λg a=>?_);obtain⟨i,j,l,m,o,p,q,r,s,u⟩:=co a.bn;have v:=a.bt)|(go_at_call 156;(first|with_reducible refine a.kid0 f.out λg a=>?_|with_reducible refine a.kid1 y.out λg a=>?_);obtain⟨i,j,l,m,o,p,q,r,s,u⟩:=co a.bn;have v:=a.bt)|(go_at_call 162;refine dm (zJ _ A.out _) λg z=>?_;replace a:=a.below z;obtain⟨i,j,l,m,o,p,q,r,s,u⟩:=co a.bn;have v:=a.bt)|(go_at_call 161;refine dm (Lr _ A.out _) λg z=>?_;replace a:=a.below z;obtain⟨i,j,l,m,o,p,q,r,s,u⟩:=co a.bn;have v:=a.bt));go_ret;exact⟨rfl,a.bel⟩
