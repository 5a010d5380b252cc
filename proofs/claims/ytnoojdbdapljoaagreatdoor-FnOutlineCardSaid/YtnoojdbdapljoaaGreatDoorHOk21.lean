import Derived.Test.YtnoojdbdapljoaaGreatDoorHOk15
set_option linter.all false
set_option maxRecDepth 100000
set_option maxHeartbeats 3200000
open Bool renaming false->M,true->W
open Go renaming Value->O,World->T,Calls->U
open Go.Proofs.Tryz renaming prog->Q
open Go.Ending renaming returned->R
open Go.RowKit renaming Hid->S,Below->V
namespace Go.Proofs.YtnoojdbdapljoaaGreatDoor
open Go.RowKit Go.Maps Go.WideMaps
theorem afJ{w:T}{i:O}{f:List Nd}{N:Nd}{vn vk:O}(d:fp w i f N vn vk)(h:N.k=2):
  U Q 56 #[.agg #[i],dj N vn vk] w fun e g=>e= R (.bool (aH N M M M W&&dD N 1 200&&ik f N N.ks.length 0))/\V w.heap.size w g:=by
 obtain⟨A,E,rfl⟩:=d.t.form;obtain⟨B,F,rfl⟩:=d.n.form;obtain⟨C,G,rfl⟩:=d.k.form;have b:=St.start d;have H:=d.lx;have z:S (N.x.size<=1100000):=by show _<=_;omega
 clear d;have I:=cC h;have J:=jd h 2 rfl;clear h;cases t0:aH N M M M W
 case' true=>
  cases t1:dD N 1 200
  case' true=>
   cases t2:ik f N N.ks.length 0
 all_goals
  unfold dj;go_in;go_wp2_with (first|(go_at_call 103;refine(jp _ N _ _ b.a.n b.a.k b.a.l1).mono ?_;rintro e g ⟨rfl,c⟩;replace b:=b.below c;clear c;obtain⟨j,l,m,o,p,q,r,s,u,v⟩:=au b.bn;have y:=b.bt)|(go_at_call 104;refine(iB _ N _ _ 1 200 b.a.n b.a.k b.a.l1 b.a.ls).mono ?_;rintro e g ⟨rfl,c⟩;replace b:=b.below c;clear c;obtain⟨j,l,m,o,p,q,r,s,u,v⟩:=au b.bn;have y:=b.bt)|(go_at_call 105;refine(dt _ _ f N _ _ 0 N.ks.length b.a.t b.a.n b.a.k b.a.ok (ah _) b.a.ln b.a.l2).mono ?_;rintro e g ⟨rfl,c⟩;replace b:=b.below c;clear c;obtain⟨j,l,m,o,p,q,r,s,u,v⟩:=au b.bn;have y:=b.bt));go_ret;exact⟨rfl,b.bel⟩
theorem afK{w:T}{i:O}{h:List Nd}{N:Nd}{vn vk:O}(d:fp w i h N vn vk)(g:N.k=4):
  U Q 56 #[.agg #[i],dj N vn vk] w fun e f=>e= R (.bool (aH N M M M W&&dD N 1 1&&((N.ks.length:Int)==1)&&(dF h N 0==36)))/\V w.heap.size w f:=by
 obtain⟨E,H,rfl⟩:=d.t.form;obtain⟨F,I,rfl⟩:=d.n.form;obtain⟨G,J,rfl⟩:=d.k.form;have b:=St.start d;have K:=d.lx;have C:S (N.x.size<=1100000):=by show _<=_;omega
 clear d;have L:=cC g;have ad:=jd g 4 rfl;clear g;cases t0:aH N M M M W
 case' true=>
  cases t1:dD N 1 1
  case' true=>
   cases t2:((N.ks.length:Int)==1)
   case' true=>
    have z:N.ks.length=1:=by have:=fh t2;omega
    have B:S (1<=N.ks.length):=by show _<=_;omega
    have A:S (0<N.ks.length):=by show _<_;omega
    clear z;cases t3:(dF h N 0==36)
 all_goals
  unfold dj;go_in;go_wp2_with (first|(go_at_call 103;refine(jp _ N _ _ b.a.n b.a.k b.a.l1).mono ?_;rintro e f ⟨rfl,c⟩;replace b:=b.below c;clear c;obtain⟨j,l,m,o,p,q,r,s,u,v⟩:=au b.bn;have y:=b.bt)|(go_at_call 104;refine(iB _ N _ _ 1 1 b.a.n b.a.k b.a.l1 b.a.ls).mono ?_;rintro e f ⟨rfl,c⟩;replace b:=b.below c;clear c;obtain⟨j,l,m,o,p,q,r,s,u,v⟩:=au b.bn;have y:=b.bt)|(go_at_call 102;with_reducible refine(uv b.a A.out).mono ?_;rintro e f ⟨rfl,c⟩;replace b:=b.below c;clear c;obtain⟨j,l,m,o,p,q,r,s,u,v⟩:=au b.bn;have y:=b.bt));go_ret;exact⟨rfl,b.bel⟩
theorem afL{w:T}{i:O}{g:List Nd}{N:Nd}{vn vk:O}(c:fp w i g N vn vk)(f:N.k=6):
  U Q 56 #[.agg #[i],dj N vn vk] w fun e h=>e= R (.bool (aH N M M M M&&((N.ks.length:Int)==1)&&(dF g N 0==34)))/\V w.heap.size w h:=by
 obtain⟨E,H,rfl⟩:=c.t.form;obtain⟨F,I,rfl⟩:=c.n.form;obtain⟨G,J,rfl⟩:=c.k.form;have b:=St.start c;have K:=c.lx;have C:S (N.x.size<=1100000):=by show _<=_;omega
 clear c;have L:=cC f;have ad:=jd f 6 rfl;clear f;cases t0:aH N M M M M
 case' true=>
  cases t1:((N.ks.length:Int)==1)
  case' true=>
   have j:N.ks.length=1:=by have:=fh t1;omega
   have B:S (1<=N.ks.length):=by show _<=_;omega
   have l:S (0<N.ks.length):=by show _<_;omega
   clear j;cases t2:(dF g N 0==34)
 all_goals
  unfold dj;go_in;go_wp2_with (first|(go_at_call 103;refine(dc _ N _ _ b.a.n b.a.k b.a.l1).mono ?_;rintro e h ⟨rfl,d⟩;replace b:=b.below d;clear d;obtain⟨m,o,p,q,r,s,u,v,y,z⟩:=au b.bn;have A:=b.bt)|(go_at_call 102;with_reducible refine(uv b.a l.out).mono ?_;rintro e h ⟨rfl,d⟩;replace b:=b.below d;clear d;obtain⟨m,o,p,q,r,s,u,v,y,z⟩:=au b.bn;have A:=b.bt));go_ret;exact⟨rfl,b.bel⟩
theorem act{w:T}{i:O}{g:List Nd}{N:Nd}{vn vk:O}(c:fp w i g N vn vk)(f:N.k=16):
  U Q 56 #[.agg #[i],dj N vn vk] w fun e h=>e= R (.bool (aH N M M M M&&((N.ks.length:Int)==1)&&(dF g N 0==34)))/\V w.heap.size w h:=by
 obtain⟨E,H,rfl⟩:=c.t.form;obtain⟨F,I,rfl⟩:=c.n.form;obtain⟨G,J,rfl⟩:=c.k.form;have b:=St.start c;have K:=c.lx;have C:S (N.x.size<=1100000):=by show _<=_;omega
 clear c;have L:=cC f;have ad:=jd f 16 rfl;clear f;cases t0:aH N M M M M
 case' true=>
  cases t1:((N.ks.length:Int)==1)
  case' true=>
   have j:N.ks.length=1:=by have:=fh t1;omega
   have B:S (1<=N.ks.length):=by show _<=_;omega
   have l:S (0<N.ks.length):=by show _<_;omega
   clear j;cases t2:(dF g N 0==34)
 all_goals
  unfold dj;go_in;go_wp2_with (first|(go_at_call 103;refine(dc _ N _ _ b.a.n b.a.k b.a.l1).mono ?_;rintro e h ⟨rfl,d⟩;replace b:=b.below d;clear d;obtain⟨m,o,p,q,r,s,u,v,y,z⟩:=au b.bn;have A:=b.bt)|(go_at_call 102;with_reducible refine(uv b.a l.out).mono ?_;rintro e h ⟨rfl,d⟩;replace b:=b.below d;clear d;obtain⟨m,o,p,q,r,s,u,v,y,z⟩:=au b.bn;have A:=b.bt));go_ret;exact⟨rfl,b.bel⟩
theorem acu{w:T}{y:O}{f:List Nd}{N:Nd}{vn vk:O}(d:fp w y f N vn vk)(h:N.k=14):
  U Q 56 #[.agg #[y],dj N vn vk] w fun e g=>e= R (.bool (aH N M M M W&&dD N 1 2&&((N.ks.length:Int)==2)&&(dF f N 0==1)&&(dF f N 1==1)))/\V w.heap.size w g:=by
 obtain⟨F,I,rfl⟩:=d.t.form;obtain⟨G,J,rfl⟩:=d.n.form;obtain⟨H,K,rfl⟩:=d.k.form;have b:=St.start d;have L:=d.lx;have E:S (N.x.size<=1100000):=by show _<=_;omega
 clear d;have ad:=cC h;have af:=jd h 14 rfl;clear h;cases t0:aH N M M M W
 case' true=>
  cases t1:dD N 1 2
  case' true=>
   cases t2:((N.ks.length:Int)==2)
   case' true=>
    have z:N.ks.length=2:=by have:=fh t2;omega
    have C:S (1<=N.ks.length):=by show _<=_;omega
    have A:S (0<N.ks.length):=by show _<_;omega
    have B:S (1<N.ks.length):=by show _<_;omega
    clear z;cases t3:(dF f N 0==1)
    case' true=>
     cases t4:(dF f N 1==1)
 all_goals
  unfold dj;go_in;go_wp2_with (first|(go_at_call 103;refine(jp _ N _ _ b.a.n b.a.k b.a.l1).mono ?_;rintro e g ⟨rfl,c⟩;replace b:=b.below c;clear c;obtain⟨i,j,l,m,o,p,q,r,s,u⟩:=au b.bn;have v:=b.bt)|(go_at_call 104;refine(iB _ N _ _ 1 2 b.a.n b.a.k b.a.l1 b.a.ls).mono ?_;rintro e g ⟨rfl,c⟩;replace b:=b.below c;clear c;obtain⟨i,j,l,m,o,p,q,r,s,u⟩:=au b.bn;have v:=b.bt)|(go_at_call 102;with_reducible refine(uv b.a A.out).mono ?_;rintro e g ⟨rfl,c⟩;replace b:=b.below c;clear c;obtain⟨i,j,l,m,o,p,q,r,s,u⟩:=au b.bn;have v:=b.bt)|(go_at_call 102;with_reducible refine(uw b.a B.out).mono ?_;rintro e g ⟨rfl,c⟩;replace b:=b.below c;clear c;obtain⟨i,j,l,m,o,p,q,r,s,u⟩:=au b.bn;have v:=b.bt));go_ret;exact⟨rfl,b.bel⟩
theorem acv{w:T}{i:O}{f:List Nd}{N:Nd}{vn vk:O}(c:fp w i f N vn vk)(g:N.k=15):
  U Q 56 #[.agg #[i],dj N vn vk] w fun e h=>e= R (.bool (aH N M M M M&&((N.ks.length:Int)==1)&&ik f N 1 0))/\V w.heap.size w h:=by
 obtain⟨E,H,rfl⟩:=c.t.form;obtain⟨F,I,rfl⟩:=c.n.form;obtain⟨G,J,rfl⟩:=c.k.form;have b:=St.start c;have K:=c.lx;have C:S (N.x.size<=1100000):=by show _<=_;omega
 clear c;have L:=cC g;have ad:=jd g 15 rfl;clear g;cases t0:aH N M M M M
 case' true=>
  cases t1:((N.ks.length:Int)==1)
  case' true=>
   have j:N.ks.length=1:=by have:=fh t1;omega
   have l:S (1<=N.ks.length):=by show _<=_;omega
   have B:S (0<N.ks.length):=by show _<_;omega
   clear j;cases t2:ik f N 1 0
 all_goals
  unfold dj;go_in;go_wp2_with (first|(go_at_call 103;refine(dc _ N _ _ b.a.n b.a.k b.a.l1).mono ?_;rintro e h ⟨rfl,d⟩;replace b:=b.below d;clear d;obtain⟨m,o,p,q,r,s,u,v,y,z⟩:=au b.bn;have A:=b.bt)|(go_at_call 105;refine(dt _ _ f N _ _ 0 1 b.a.t b.a.n b.a.k b.a.ok l.out b.a.ln b.a.l2).mono ?_;rintro e h ⟨rfl,d⟩;replace b:=b.below d;clear d;obtain⟨m,o,p,q,r,s,u,v,y,z⟩:=au b.bn;have A:=b.bt));go_ret;exact⟨rfl,b.bel⟩
