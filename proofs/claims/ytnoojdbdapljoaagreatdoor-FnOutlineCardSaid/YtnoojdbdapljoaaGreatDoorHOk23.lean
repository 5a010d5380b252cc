import Derived.Test.YtnoojdbdapljoaaGreatDoorHOk15
set_option linter.all false
set_option maxRecDepth 100000
set_option maxHeartbeats 3200000
open Go.Value renaming int->J,agg->L,string->M
open Go.IntKind renaming i64->K
namespace Go.Proofs.YtnoojdbdapljoaaGreatDoor
open Go.RowKit Go.Maps Go.WideMaps
theorem acx{w:World}{c:Value}{b:List Nd}{N:Nd}{vn vk:Value}(d:fp w c b N vn vk)(h:0<N.ks.length):
  Calls Tryz.prog 102 #[L #[c],L #[J K N.k,J K N.f,J K N.t,J K N.l,J K N.op,J K N.n,M N.x,vn,vk],J K ((N.ks.length:Int)-1)] w fun e g=>e= .returned (J K (dF b N (N.ks.length-1)))/\Below w.heap.size w g:=by
 have a:=jm d (N.ks.length-1) (by omega);rw[show((N.ks.length-1:Nat):Int)=(N.ks.length:Int)-1 by omega]at a;exact a
theorem af1{w:World}{c:Value}{b:List Nd}{N:Nd}{vn vk:Value}(a:fp w c b N vn vk)(h:0<N.ks.length):
  Calls Tryz.prog 105 #[L #[c],L #[J K N.k,J K N.f,J K N.t,J K N.l,J K N.op,J K N.n,M N.x,vn,vk],J K 0,J K ((N.ks.length:Int)-1)] w fun e g=>e= .returned (.bool (ik b N (N.ks.length-1) 0))/\Below w.heap.size w g:=by
 have d:=dt w c b N vn vk 0 (N.ks.length-1) a.t a.n a.k a.ok (by omega) a.ln a.l2;rw[show((N.ks.length-1:Nat):Int)=(N.ks.length:Int)-1 by omega]at d;exact d
theorem af2{w:World}{y:Value}{d:List Nd}{N:Nd}{vn vk:Value}(f:fp w y d N vn vk)(i:N.k=9):
  Calls Tryz.prog 56 #[L #[y],dj N vn vk] w fun e g=>e= .returned (.bool (aH N false false false true&&(dD N 1 1&&(((N.ks.length:Int)==3||(N.ks.length:Int)==4)&&(ik d N (N.ks.length-1) 0&&(dF d N (N.ks.length-1)==1))))))/\Below w.heap.size w g:=by
 obtain⟨z,C,rfl⟩:=f.t.form;obtain⟨A,E,rfl⟩:=f.n.form;obtain⟨B,F,rfl⟩:=f.k.form;have b:=St.start f;have G:=f.l2;clear f;have H:=cC i;have I:=jd i 9 rfl;clear i;unfold dj;cases t0:aH N false false false true
 case' true=>
  cases t1:dD N 1 1
  case' true=>
   cases t2:((N.ks.length:Int)==3)
   case' false=>cases t5:((N.ks.length:Int)==4)
   case' false.true=>
    have h:Hid (0<N.ks.length):=by show _<_;have:=fh t5;omega
    cases t3:ik d N (N.ks.length-1) 0
    case' true=>cases t4:(dF d N (N.ks.length-1)==1)
   case' true.true.true=>
    have h:Hid (0<N.ks.length):=by show _<_;have:=fh t2;omega
    cases t3:ik d N (N.ks.length-1) 0
    case' true=>cases t4:(dF d N (N.ks.length-1)==1)
 all_goals
  go_in;go_wp2_with (first|(go_at_call 103;refine(jp _ N _ _ b.a.n b.a.k b.a.l1).mono ?_;rintro e g ⟨rfl,c⟩;replace b:=b.below c;clear c;obtain⟨j,l,m,o,p,q,r,s,u,v⟩:=au b.bn;have x:=b.bt)|(go_at_call 104;refine(iB _ N _ _ 1 1 b.a.n b.a.k b.a.l1 b.a.ls).mono ?_;rintro e g ⟨rfl,c⟩;replace b:=b.below c;clear c;obtain⟨j,l,m,o,p,q,r,s,u,v⟩:=au b.bn;have x:=b.bt)|(go_at_call 105;with_reducible refine(af1 b.a h.out).mono ?_;rintro e g ⟨rfl,c⟩;replace b:=b.below c;clear c;obtain⟨j,l,m,o,p,q,r,s,u,v⟩:=au b.bn;have x:=b.bt)|(go_at_call 102;with_reducible refine(acx b.a h.out).mono ?_;rintro e g ⟨rfl,c⟩;replace b:=b.below c;clear c;obtain⟨j,l,m,o,p,q,r,s,u,v⟩:=au b.bn;have x:=b.bt));go_ret;exact⟨rfl,b.bel⟩
