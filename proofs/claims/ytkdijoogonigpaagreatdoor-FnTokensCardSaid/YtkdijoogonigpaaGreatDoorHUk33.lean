import Derived.Test.YtkdijoogonigpaaGreatDoorHUk21
set_option linter.all false
set_option maxRecDepth 100000
set_option maxHeartbeats 3200000
open Go.Value renaming int->I,agg->K,string->L
open Go.IntKind renaming i64->J
namespace Go.Proofs.YtkdijoogonigpaaGreatDoor
open Go.RowKit Go.Maps Go.WideMaps
theorem J5{w:World}{b:Value}{ns:List Nd}{N:Nd}{vn vk:Value}(c:ez w b ns N vn vk)(g:0<N.ks.length):
  Calls Tryz.prog 155 #[K #[b],K #[I J N.k,I J N.f,I J N.t,I J N.l,I J N.op,I J N.n,L N.x,vn,vk],I J ((N.ks.length:Int)-1)] w fun e d=>e= .returned (I J (dm ns N (N.ks.length-1)))/\Below w.heap.size w d:=by
 have a:=gL c (N.ks.length-1) (by omega);rw[show((N.ks.length-1:Nat):Int)=(N.ks.length:Int)-1 by omega]at a;exact a
theorem abl{w:World}{b:Value}{ns:List Nd}{N:Nd}{vn vk:Value}(a:ez w b ns N vn vk)(g:0<N.ks.length):
  Calls Tryz.prog 158 #[K #[b],K #[I J N.k,I J N.f,I J N.t,I J N.l,I J N.op,I J N.n,L N.x,vn,vk],I J 0,I J ((N.ks.length:Int)-1)] w fun e d=>e= .returned (.bool (gc ns N (N.ks.length-1) 0))/\Below w.heap.size w d:=by
 have c:=cx w b ns N vn vk 0 (N.ks.length-1) a.t a.n a.k a.ok (by omega) a.ln a.l2;rw[show((N.ks.length-1:Nat):Int)=(N.ks.length:Int)-1 by omega]at c;exact c
theorem abm{w:World}{x:Value}{ns:List Nd}{N:Nd}{vn vk:Value}(d:ez w x ns N vn vk)(h:N.k=9):
  Calls Tryz.prog 135 #[K #[x],cE N vn vk] w fun e f=>e= .returned (.bool (aA N false false false true&&(dw N 1 1&&(((N.ks.length:Int)==3||(N.ks.length:Int)==4)&&(gc ns N (N.ks.length-1) 0&&(dm ns N (N.ks.length-1)==1))))))/\Below w.heap.size w f:=by
 obtain⟨y,B,rfl⟩:=d.t.form;obtain⟨z,C,rfl⟩:=d.n.form;obtain⟨A,E,rfl⟩:=d.k.form;have b:=St.start d;have F:=d.l2;clear d;have G:=bu h;have H:=gE h 9 rfl;clear h;unfold cE;cases t0:aA N false false false true
 case' true=>
  cases t1:dw N 1 1
  case' true=>
   cases t2:((N.ks.length:Int)==3)
   case' false=>cases t5:((N.ks.length:Int)==4)
   case' false.true=>
    have g:Hid (0<N.ks.length):=by show _<_;have:=eu t5;omega
    cases t3:gc ns N (N.ks.length-1) 0
    case' true=>cases t4:(dm ns N (N.ks.length-1)==1)
   case' true.true.true=>
    have g:Hid (0<N.ks.length):=by show _<_;have:=eu t2;omega
    cases t3:gc ns N (N.ks.length-1) 0
    case' true=>cases t4:(dm ns N (N.ks.length-1)==1)
 all_goals
  go_in;go_wp2_with (first|(go_at_call 156;refine(ig _ N _ _ b.a.n b.a.k b.a.l1).mono ?_;rintro e f ⟨rfl,c⟩;replace b:=b.below c;clear c;obtain⟨i,j,l,m,o,p,q,r,s,u⟩:=aj b.bn;have v:=b.bt)|(go_at_call 157;refine(gl _ N _ _ 1 1 b.a.n b.a.k b.a.l1 b.a.ls).mono ?_;rintro e f ⟨rfl,c⟩;replace b:=b.below c;clear c;obtain⟨i,j,l,m,o,p,q,r,s,u⟩:=aj b.bn;have v:=b.bt)|(go_at_call 158;with_reducible refine(abl b.a g.out).mono ?_;rintro e f ⟨rfl,c⟩;replace b:=b.below c;clear c;obtain⟨i,j,l,m,o,p,q,r,s,u⟩:=aj b.bn;have v:=b.bt)|(go_at_call 155;with_reducible refine(J5 b.a g.out).mono ?_;rintro e f ⟨rfl,c⟩;replace b:=b.below c;clear c;obtain⟨i,j,l,m,o,p,q,r,s,u⟩:=aj b.bn;have v:=b.bt));go_ret;exact⟨rfl,b.bel⟩
