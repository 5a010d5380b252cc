import Derived.Test.YtnoojdbdapljoaaGreatDoorHOk15
set_option linter.all false
set_option maxRecDepth 100000
set_option maxHeartbeats 3200000
open Bool renaming false->M,true->O
namespace Go.Proofs.YtnoojdbdapljoaaGreatDoor
open Go.RowKit Go.Maps Go.WideMaps
theorem acn{w:World}{i:Value}{h:List Nd}{N:Nd}{vn vk:Value}(d:fp w i h N vn vk)(g:N.k=36):
  Calls Tryz.prog 57 #[.agg #[i],dj N vn vk] w fun e f=>e= .returned (.bool (((N.ks.length:Int)==1)&&(dF h N 0==1)&&aH N O M M O&&dD N 0 200&&(N.op==0||N.op==1)))/\Below w.heap.size w f:=by
 obtain⟨E,H,rfl⟩:=d.t.form;obtain⟨F,I,rfl⟩:=d.n.form;obtain⟨G,J,rfl⟩:=d.k.form;have b:=St.start d;have K:=d.lx;have C:Hid (N.x.size<=1100000):=by show _<=_;omega
 clear d;have L:=cC g;have ad:=jd g 36 rfl;clear g;cases t0:((N.ks.length:Int)==1)
 case' true=>
  have z:N.ks.length=1:=by have:=fh t0;omega
  have B:Hid (1<=N.ks.length):=by show _<=_;omega
  have A:Hid (0<N.ks.length):=by show _<_;omega
  clear z;cases t1:(dF h N 0==1)
  case' true=>
   cases t2:aH N O M M O
   case' true=>
    cases t3:dD N 0 200
    case' true=>
     cases u4:(N.op==0)
     case' false=>cases v4:(N.op==1)
 all_goals
  unfold dj;go_in;go_wp2_with (first|(go_at_call 102;refine(jm b.a 0 A.out).mono ?_;rintro e f ⟨rfl,c⟩;replace b:=b.below c;clear c;obtain⟨j,l,m,o,p,q,r,s,u,v⟩:=au b.bn;have y:=b.bt)|(go_at_call 103;refine(E3 _ N _ _ b.a.n b.a.k b.a.l1).mono ?_;rintro e f ⟨rfl,c⟩;replace b:=b.below c;clear c;obtain⟨j,l,m,o,p,q,r,s,u,v⟩:=au b.bn;have y:=b.bt)|(go_at_call 104;refine(iB _ N _ _ 0 200 b.a.n b.a.k b.a.l1 b.a.ls).mono ?_;rintro e f ⟨rfl,c⟩;replace b:=b.below c;clear c;obtain⟨j,l,m,o,p,q,r,s,u,v⟩:=au b.bn;have y:=b.bt));go_ret;exact⟨rfl,b.bel⟩
theorem aco{w:World}{i:Value}{f:List Nd}{N:Nd}{vn vk:Value}(c:fp w i f N vn vk)(g:N.k=37):
  Calls Tryz.prog 57 #[.agg #[i],dj N vn vk] w fun e h=>e= .returned (.bool (((N.ks.length:Int)==1)&&(dF f N 0==34||dF f N 0==27)&&aH N M M M M))/\Below w.heap.size w h:=by
 obtain⟨E,H,rfl⟩:=c.t.form;obtain⟨F,I,rfl⟩:=c.n.form;obtain⟨G,J,rfl⟩:=c.k.form;have b:=St.start c;have K:=c.lx;have C:Hid (N.x.size<=1100000):=by show _<=_;omega
 clear c;have L:=cC g;have ad:=jd g 37 rfl;clear g;cases t0:((N.ks.length:Int)==1)
 case' true=>
  have j:N.ks.length=1:=by have:=fh t0;omega
  have B:Hid (1<=N.ks.length):=by show _<=_;omega
  have l:Hid (0<N.ks.length):=by show _<_;omega
  clear j;cases u1:(dF f N 0==34)
  case' false=>cases v1:(dF f N 0==27)
  all_goals
   cases t2:aH N M M M M
 all_goals
  unfold dj;go_in;go_wp2_with (first|(go_at_call 102;refine(jm b.a 0 l.out).mono ?_;rintro e h ⟨rfl,d⟩;replace b:=b.below d;clear d;obtain⟨m,o,p,q,r,s,u,v,y,z⟩:=au b.bn;have A:=b.bt)|(go_at_call 103;refine(dc _ N _ _ b.a.n b.a.k b.a.l1).mono ?_;rintro e h ⟨rfl,d⟩;replace b:=b.below d;clear d;obtain⟨m,o,p,q,r,s,u,v,y,z⟩:=au b.bn;have A:=b.bt));go_ret;exact⟨rfl,b.bel⟩
