import Derived.Test.YtnoojdbdapljoaaGreatDoorHOk15
set_option linter.all false
set_option maxRecDepth 100000
set_option maxHeartbeats 3200000
open Bool renaming false->M,true->U
open Go renaming Value->O,World->S,Calls->T
open Go.Proofs.Tryz renaming prog->Q
open Go.Ending renaming returned->R
namespace Go.Proofs.YtnoojdbdapljoaaGreatDoor
open Go.RowKit Go.Maps Go.WideMaps
theorem afH{w:S}{i:O}{f:List Nd}{N:Nd}{vn vk:O}(d:fp w i f N vn vk)(h:N.k=3):
  T Q 56 #[.agg #[i],dj N vn vk] w fun e g=>e= R (.bool (aH N M M M U&&dD N 1 1&&((N.ks.length:Int)==1)&&ik f N 1 0))/\Below w.heap.size w g:=by
 obtain⟨E,H,rfl⟩:=d.t.form;obtain⟨F,I,rfl⟩:=d.n.form;obtain⟨G,J,rfl⟩:=d.k.form;have b:=St.start d;have K:=d.lx;have C:Hid (N.x.size<=1100000):=by show _<=_;omega
 clear d;have L:=cC h;have ad:=jd h 3 rfl;clear h;cases t0:aH N M M M U
 case' true=>
  cases t1:dD N 1 1
  case' true=>
   cases t2:((N.ks.length:Int)==1)
   case' true=>
    have z:N.ks.length=1:=by have:=fh t2;omega
    have A:Hid (1<=N.ks.length):=by show _<=_;omega
    have B:Hid (0<N.ks.length):=by show _<_;omega
    clear z;cases t3:ik f N 1 0
 all_goals
  unfold dj;go_in;go_wp2_with (first|(go_at_call 103;refine(jp _ N _ _ b.a.n b.a.k b.a.l1).mono ?_;rintro e g ⟨rfl,c⟩;replace b:=b.below c;clear c;obtain⟨j,l,m,o,p,q,r,s,u,v⟩:=au b.bn;have y:=b.bt)|(go_at_call 104;refine(iB _ N _ _ 1 1 b.a.n b.a.k b.a.l1 b.a.ls).mono ?_;rintro e g ⟨rfl,c⟩;replace b:=b.below c;clear c;obtain⟨j,l,m,o,p,q,r,s,u,v⟩:=au b.bn;have y:=b.bt)|(go_at_call 105;refine(dt _ _ f N _ _ 0 1 b.a.t b.a.n b.a.k b.a.ok A.out b.a.ln b.a.l2).mono ?_;rintro e g ⟨rfl,c⟩;replace b:=b.below c;clear c;obtain⟨j,l,m,o,p,q,r,s,u,v⟩:=au b.bn;have y:=b.bt));go_ret;exact⟨rfl,b.bel⟩
theorem afI{w:S}{i:O}{f:List Nd}{N:Nd}{vn vk:O}(d:fp w i f N vn vk)(h:N.k=8):
  T Q 56 #[.agg #[i],dj N vn vk] w fun e g=>e= R (.bool (aH N M M M M&&((N.ks.length:Int)==2)&&ik f N 1 0&&(dF f N 1==1)))/\Below w.heap.size w g:=by
 obtain⟨F,I,rfl⟩:=d.t.form;obtain⟨G,J,rfl⟩:=d.n.form;obtain⟨H,K,rfl⟩:=d.k.form;have b:=St.start d;have L:=d.lx;have E:Hid (N.x.size<=1100000):=by show _<=_;omega
 clear d;have ad:=cC h;have af:=jd h 8 rfl;clear h;cases t0:aH N M M M M
 case' true=>
  cases t1:((N.ks.length:Int)==2)
  case' true=>
   have z:N.ks.length=2:=by have:=fh t1;omega
   have A:Hid (1<=N.ks.length):=by show _<=_;omega
   have C:Hid (0<N.ks.length):=by show _<_;omega
   have B:Hid (1<N.ks.length):=by show _<_;omega
   clear z;cases t2:ik f N 1 0
   case' true=>
    cases t3:(dF f N 1==1)
 all_goals
  unfold dj;go_in;go_wp2_with (first|(go_at_call 103;refine(dc _ N _ _ b.a.n b.a.k b.a.l1).mono ?_;rintro e g ⟨rfl,c⟩;replace b:=b.below c;clear c;obtain⟨j,l,m,o,p,q,r,s,u,v⟩:=au b.bn;have y:=b.bt)|(go_at_call 105;refine(dt _ _ f N _ _ 0 1 b.a.t b.a.n b.a.k b.a.ok A.out b.a.ln b.a.l2).mono ?_;rintro e g ⟨rfl,c⟩;replace b:=b.below c;clear c;obtain⟨j,l,m,o,p,q,r,s,u,v⟩:=au b.bn;have y:=b.bt)|(go_at_call 102;with_reducible refine(uw b.a B.out).mono ?_;rintro e g ⟨rfl,c⟩;replace b:=b.below c;clear c;obtain⟨j,l,m,o,p,q,r,s,u,v⟩:=au b.bn;have y:=b.bt));go_ret;exact⟨rfl,b.bel⟩
theorem acp{w:S}{g:O}{i:List Nd}{N:Nd}{vn vk:O}(c:fp w g i N vn vk)(d:N.k=11):
  T Q 56 #[.agg #[g],dj N vn vk] w fun e h=>e= R (.bool (aH N M M M M&&((N.ks.length:Int)==0)))/\Below w.heap.size w h:=by
 obtain⟨l,p,rfl⟩:=c.t.form;obtain⟨m,q,rfl⟩:=c.n.form;obtain⟨o,r,rfl⟩:=c.k.form;have b:=St.start c;have s:=c.lx;have j:Hid (N.x.size<=1100000):=by show _<=_;omega
 clear c;have u:=cC d;have v:=jd d 11 rfl;clear d;cases t0:aH N M M M M
 case' true=>
  cases t1:((N.ks.length:Int)==0)
 all_goals
  unfold dj;go_in;go_wp2_with (first|(go_at_call 103;refine(dc _ N _ _ b.a.n b.a.k b.a.l1).mono ?_;rintro e h ⟨rfl,f⟩;replace b:=b.below f;clear f;obtain⟨y,z,A,B,C,E,F,G,H,I⟩:=au b.bn;have J:=b.bt));go_ret;exact⟨rfl,b.bel⟩
theorem acq{w:S}{g:O}{i:List Nd}{N:Nd}{vn vk:O}(c:fp w g i N vn vk)(d:N.k=12):
  T Q 56 #[.agg #[g],dj N vn vk] w fun e h=>e= R (.bool (aH N M M M M&&((N.ks.length:Int)==0)))/\Below w.heap.size w h:=by
 obtain⟨l,p,rfl⟩:=c.t.form;obtain⟨m,q,rfl⟩:=c.n.form;obtain⟨o,r,rfl⟩:=c.k.form;have b:=St.start c;have s:=c.lx;have j:Hid (N.x.size<=1100000):=by show _<=_;omega
 clear c;have u:=cC d;have v:=jd d 12 rfl;clear d;cases t0:aH N M M M M
 case' true=>
  cases t1:((N.ks.length:Int)==0)
 all_goals
  unfold dj;go_in;go_wp2_with (first|(go_at_call 103;refine(dc _ N _ _ b.a.n b.a.k b.a.l1).mono ?_;rintro e h ⟨rfl,f⟩;replace b:=b.below f;clear f;obtain⟨y,z,A,B,C,E,F,G,H,I⟩:=au b.bn;have J:=b.bt));go_ret;exact⟨rfl,b.bel⟩
theorem acr{w:S}{y:O}{f:List Nd}{N:Nd}{vn vk:O}(d:fp w y f N vn vk)(h:N.k=10):
  T Q 56 #[.agg #[y],dj N vn vk] w fun e g=>e= R (.bool (aH N M M M U&&dD N 1 200&&((N.ks.length:Int)==2)&&ik f N 1 0&&(dF f N 1==1)))/\Below w.heap.size w g:=by
 obtain⟨F,I,rfl⟩:=d.t.form;obtain⟨G,J,rfl⟩:=d.n.form;obtain⟨H,K,rfl⟩:=d.k.form;have b:=St.start d;have L:=d.lx;have E:Hid (N.x.size<=1100000):=by show _<=_;omega
 clear d;have ad:=cC h;have af:=jd h 10 rfl;clear h;cases t0:aH N M M M U
 case' true=>
  cases t1:dD N 1 200
  case' true=>
   cases t2:((N.ks.length:Int)==2)
   case' true=>
    have z:N.ks.length=2:=by have:=fh t2;omega
    have A:Hid (1<=N.ks.length):=by show _<=_;omega
    have C:Hid (0<N.ks.length):=by show _<_;omega
    have B:Hid (1<N.ks.length):=by show _<_;omega
    clear z;cases t3:ik f N 1 0
    case' true=>
     cases t4:(dF f N 1==1)
 all_goals
  unfold dj;go_in;go_wp2_with (first|(go_at_call 103;refine(jp _ N _ _ b.a.n b.a.k b.a.l1).mono ?_;rintro e g ⟨rfl,c⟩;replace b:=b.below c;clear c;obtain⟨i,j,l,m,o,p,q,r,s,u⟩:=au b.bn;have v:=b.bt)|(go_at_call 104;refine(iB _ N _ _ 1 200 b.a.n b.a.k b.a.l1 b.a.ls).mono ?_;rintro e g ⟨rfl,c⟩;replace b:=b.below c;clear c;obtain⟨i,j,l,m,o,p,q,r,s,u⟩:=au b.bn;have v:=b.bt)|(go_at_call 105;refine(dt _ _ f N _ _ 0 1 b.a.t b.a.n b.a.k b.a.ok A.out b.a.ln b.a.l2).mono ?_;rintro e g ⟨rfl,c⟩;replace b:=b.below c;clear c;obtain⟨i,j,l,m,o,p,q,r,s,u⟩:=au b.bn;have v:=b.bt)|(go_at_call 102;with_reducible refine(uw b.a B.out).mono ?_;rintro e g ⟨rfl,c⟩;replace b:=b.below c;clear c;obtain⟨i,j,l,m,o,p,q,r,s,u⟩:=au b.bn;have v:=b.bt));go_ret;exact⟨rfl,b.bel⟩
theorem acs{w:S}{i:O}{f:List Nd}{N:Nd}{vn vk:O}(c:fp w i f N vn vk)(g:N.k=13):
  T Q 56 #[.agg #[i],dj N vn vk] w fun e h=>e= R (.bool (aH N M M M M&&ik f N N.ks.length 0))/\Below w.heap.size w h:=by
 obtain⟨A,E,rfl⟩:=c.t.form;obtain⟨B,F,rfl⟩:=c.n.form;obtain⟨C,G,rfl⟩:=c.k.form;have b:=St.start c;have H:=c.lx;have z:Hid (N.x.size<=1100000):=by show _<=_;omega
 clear c;have I:=cC g;have J:=jd g 13 rfl;clear g;cases t0:aH N M M M M
 case' true=>
  cases t1:ik f N N.ks.length 0
 all_goals
  unfold dj;go_in;go_wp2_with (first|(go_at_call 103;refine(dc _ N _ _ b.a.n b.a.k b.a.l1).mono ?_;rintro e h ⟨rfl,d⟩;replace b:=b.below d;clear d;obtain⟨j,l,m,o,p,q,r,s,u,v⟩:=au b.bn;have y:=b.bt)|(go_at_call 105;refine(dt _ _ f N _ _ 0 N.ks.length b.a.t b.a.n b.a.k b.a.ok (ah _) b.a.ln b.a.l2).mono ?_;rintro e h ⟨rfl,d⟩;replace b:=b.below d;clear d;obtain⟨j,l,m,o,p,q,r,s,u,v⟩:=au b.bn;have y:=b.bt));go_ret;exact⟨rfl,b.bel⟩
