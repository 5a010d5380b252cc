import Derived.Test.YthkcmkmkapijkaaGreatDoorh10
set_option linter.all false
set_option maxRecDepth 100000
set_option maxHeartbeats 25600000
open List renaming length->E
open Bool renaming false->F,true->G
open Go.RowKit renaming Hid->H
namespace Go.Proofs.YthkcmkmkapijkaaGreatDoor
open Go.RowKit Go.Maps Go.WideMaps
def jA(a:zLD)(N:Nd):Bool:=
 if N.k=20 then(((E N.ks:Int)==0)&&bC N F F F F)
 else if N.k=21 then(((E N.ks:Int)==0)&&bC N F F F F)
 else if N.k=22 then(((E N.ks:Int)==0)&&bC N F F F F)
 else if N.k=27 then(((E N.ks:Int)==0)&&bC N F F F F)
 else if N.k=23 then(((E N.ks:Int)==0)&&bC N F G F F)
 else if N.k=24 then(((E N.ks:Int)==0)&&bC N F F G F&&fok N.x)
 else if N.k=25 then(((E N.ks:Int)==0)&&bC N F F G F&&decide ((N.x.size:Int)<=4000))
 else if N.k=26 then(((E N.ks:Int)==0)&&bC N F F G F&&lL N.x)
 else if N.k=28 then(((E N.ks:Int)==2)&&mK a N 2 0&&bC N F F F F)
 else if N.k=29 then(((E N.ks:Int)==2)&&mK a N 2 0&&bC N F F F F)
 else if N.k=32 then(((E N.ks:Int)==2)&&mK a N 2 0&&(gC a N 0 !=27)&&bC N F F F F)
 else if N.k=30 then(((E N.ks:Int)==1)&&mK a N 1 0&&bC N G F F F&&decide ((19:Int)<=N.op)&&decide (N.op<=22))
 else if N.k=31 then(((E N.ks:Int)==2)&&mK a N 2 0&&bC N G F F F&&decide ((1:Int)<=N.op)&&decide (N.op<=18))
 else if N.k=33 then(((E N.ks:Int)==1)&&mK a N 1 0&&(gC a N 0 !=27)&&bC N F F G F&&lL N.x)
 else if N.k=34 then(decide ((1:Int)<=(E N.ks:Int))&&mK a N (E N.ks) 0&&(gC a N 0 !=27)&&bC N F F F F)
 else if N.k=35 then(enB a N (E N.ks) 0&&bC N F F F F)
 else if N.k=36 then(((E N.ks:Int)==1)&&(gC a N 0==1)&&bC N G F F G&&gi N 0 200&&(N.op==0||N.op==1))
 else if N.k=37 then(((E N.ks:Int)==1)&&(gC a N 0==34||gC a N 0==27)&&bC N F F F F)
 else if N.k=40 then(((E N.ks:Int)==1)&&mK a N 1 0&&bC N F F F F)
 else if N.k=41 then(((E N.ks:Int)==2)&&mK a N 2 0&&bC N F F F F)
 else if N.k=42 then(((E N.ks:Int)==1)&&mK a N 1 0&&bC N F F G F&&lL N.x)
 else F
def auq{w C d N B A}(h:NArg w C d N B A)(hK:N.k=20\/N.k=21\/N.k=22\/N.k=27\/N.k=23\/N.k=24\/N.k=25\/N.k=26\/N.k=28\/N.k=29\/N.k=41\/N.k=32\/N.k=30\/N.k=31\/N.k=33\/N.k=34\/N.k=40\/N.k=42\/N.k=36\/N.k=37):
  Calls Tryz.prog 137 #[.agg #[C],jq N B A] w λe a=>e= .returned (.bool<|jA d N)/\Below w.heap.size w a:=by
 obtain⟨_,_,rfl⟩:=h.t.form;obtain⟨_,_,rfl⟩:=h.n.form;obtain⟨_,_,rfl⟩:=h.k.form;have a:=St.start h;have z:H (N.x.size<=1100000):=bK h.lx Z;clear h;obtain hK|hK|hK|hK|hK|hK|hK|hK|hK|hK|hK|hK|hK|hK|hK|hK|hK|hK|hK|hK:=hK;all_goals
  unfold jA;simp only[hK,reduceIte,Int.reduceEq];have j:=kqf hK;have i:=kqs hK;first
  |(have b:N.k=20\/N.k=21\/N.k=22\/N.k=27:=by first|exact .inl hK|exact .inr (.inl hK)|exact .inr (.inr<|.inl hK)|exact .inr (.inr<|.inr<|hK)
    clear b hK;cases t0:((E N.ks:Int)==0)
    case' true=>
     cases t1:bC N F F F F)
  |(have b:N.k=23:=hK
    clear b hK;cases t0:((E N.ks:Int)==0)
    case' true=>
     cases t1:bC N F G F F)
  |(have b:N.k=24:=hK
    clear b hK;cases t0:((E N.ks:Int)==0)
    case' true=>
     cases t1:bC N F F G F
     case' true=>
      cases t2:fok N.x)
  |(have b:N.k=25:=hK
    clear b hK;cases t0:((E N.ks:Int)==0)
    case' true=>
     cases t1:bC N F F G F
     case' true=>
      cases t2:decide ((N.x.size:Int)<=4000))
  |(have b:N.k=26:=hK
    clear b hK;cases t0:((E N.ks:Int)==0)
    case' true=>
     cases t1:bC N F F G F
     case' true=>
      cases t2:lL N.x)
  |(have b:N.k=28\/N.k=29\/N.k=41:=by first|exact .inl hK|exact .inr (.inl hK)|exact .inr (.inr<|hK)
    clear b hK;cases t0:((E N.ks:Int)==2)
    case' true=>
     have c:E N.ks=2:=U;have f:H (2<=E N.ks):=by show _<=_;omega
     have g:H (0<E N.ks):=U;have v:H (1<E N.ks):=U;clear c;cases t1:mK d N 2 0
     case' true=>
      cases t2:bC N F F F F)
  |(have b:N.k=32:=hK
    clear b hK;cases t0:((E N.ks:Int)==2)
    case' true=>
     have c:E N.ks=2:=U;have f:H (2<=E N.ks):=by show _<=_;omega
     have g:H (0<E N.ks):=U;have v:H (1<E N.ks):=U;clear c;cases t1:mK d N 2 0
     case' true=>
      cases t2:(gC d N 0 !=27)
      case' true=>
       cases t3:bC N F F F F)
  |(have b:N.k=30:=hK
    clear b hK;cases t0:((E N.ks:Int)==1)
    case' true=>
     have c:E N.ks=1:=U;have f:H (1<=E N.ks):=by show _<=_;omega
     have g:H (0<E N.ks):=U;clear c;cases t1:mK d N 1 0
     case' true=>
      cases t2:bC N G F F F
      case' true=>
       cases t3:decide ((19:Int)<=N.op)
       case' true=>
        cases t4:decide (N.op<=22))
  |(have b:N.k=31:=hK
    clear b hK;cases t0:((E N.ks:Int)==2)
    case' true=>
     have c:E N.ks=2:=U;have f:H (2<=E N.ks):=by show _<=_;omega
     have g:H (0<E N.ks):=U;have v:H (1<E N.ks):=U;clear c;cases t1:mK d N 2 0
     case' true=>
      cases t2:bC N G F F F
      case' true=>
       cases t3:decide ((1:Int)<=N.op)
       case' true=>
        cases t4:decide (N.op<=18))
  |(have b:N.k=33:=hK
    clear b hK;cases t0:((E N.ks:Int)==1)
    case' true=>
     have c:E N.ks=1:=U;have f:H (1<=E N.ks):=by show _<=_;omega
     have g:H (0<E N.ks):=U;clear c;cases t1:mK d N 1 0
     case' true=>
      cases t2:(gC d N 0 !=27)
      case' true=>
       cases t3:bC N F F G F
       case' true=>
        cases t4:lL N.x)
  |(have b:N.k=34:=hK
    clear b hK;cases t0:decide ((1:Int)<=(E N.ks:Int))
    case' true=>
     have g:H (0<E N.ks):=by show _<_;grind
     cases t1:mK d N (E N.ks) 0
     case' true=>
      cases t2:(gC d N 0 !=27)
      case' true=>
       cases t3:bC N F F F F)
  |(have b:N.k=40:=hK
    clear b hK;cases t0:((E N.ks:Int)==1)
    case' true=>
     have c:E N.ks=1:=U;have f:H (1<=E N.ks):=by show _<=_;omega
     have g:H (0<E N.ks):=U;clear c;cases t1:mK d N 1 0
     case' true=>
      cases t2:bC N F F F F)
  |(have b:N.k=42:=hK
    clear b hK;cases t0:((E N.ks:Int)==1)
    case' true=>
     have c:E N.ks=1:=U;have f:H (1<=E N.ks):=by show _<=_;omega
     have g:H (0<E N.ks):=U;clear c;cases t1:mK d N 1 0
     case' true=>
      cases t2:bC N F F G F
      case' true=>
       cases t3:lL N.x)
  |(have b:N.k=36:=hK
    clear b hK;cases t0:((E N.ks:Int)==1)
    case' true=>
     have c:E N.ks=1:=U;have f:H (1<=E N.ks):=by show _<=_;omega
     have g:H (0<E N.ks):=U;clear c;cases t1:(gC d N 0==1)
     case' true=>
      cases t2:bC N G F F G
      case' true=>
       cases t3:gi N 0 200
       case' true=>
        cases u4:(N.op==0)
        case' false=>cases v4:(N.op==1))
  |(have b:N.k=37:=hK
    clear b hK;cases t0:((E N.ks:Int)==1)
    case' true=>
     have c:E N.ks=1:=U;have f:H (1<=E N.ks):=by show _<=_;omega
     have g:H (0<E N.ks):=U;clear c;cases u1:(gC d N 0==34)
     case' false=>cases v1:(gC d N 0==27)
     all_goals
      cases t2:bC N F F F F)
 all_goals
  unfold jq;go_in;go_wp2_with (first|(go_at_call 226;with_reducible refine a.bare λb a=>?_;have⟨c,i,j,l,m,o,p,q,r,s⟩:=aE a.bn;have u:=a.bt)|(go_at_call 227;with_reducible refine a.named λb a=>?_;have⟨c,i,j,l,m,o,p,q,r,s⟩:=aE a.bn;have u:=a.bt)|(go_at_call 228;(first|with_reducible refine a.ex1 f.out λb a=>?_|with_reducible refine a.ex2 f.out λb a=>?_|refine a.exL λb a=>?_);have⟨c,i,j,l,m,o,p,q,r,s⟩:=aE a.bn;have u:=a.bt)|(go_at_call 225;(first|with_reducible refine a.kid0 g.out λb a=>?_|with_reducible refine a.kid1 v.out λb a=>?_);have⟨c,i,j,l,m,o,p,q,r,s⟩:=aE a.bn;have u:=a.bt)|(go_at_call 231;refine dd (Cl _ z.out _) λb y=>?_;replace a:=a.below y;have⟨c,i,j,l,m,o,p,q,r,s⟩:=aE a.bn;have u:=a.bt)|(go_at_call 230;refine dd (acC _ z.out _) λb y=>?_;replace a:=a.below y;have⟨c,i,j,l,m,o,p,q,r,s⟩:=aE a.bn;have u:=a.bt));go_ret;exact⟨R,a.bel⟩
