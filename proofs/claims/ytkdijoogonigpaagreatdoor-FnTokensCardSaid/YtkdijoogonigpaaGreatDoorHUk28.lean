import Derived.Test.YtkdijoogonigpaaGreatDoorHUk21
set_option linter.all false
set_option maxRecDepth 100000
set_option maxHeartbeats 3200000
open Bool renaming false->M
open Go renaming Value->O,World->Q,Calls->R
namespace Go.Proofs.YtkdijoogonigpaaGreatDoor
open Go.RowKit Go.Maps Go.WideMaps
theorem abf{w:Q}{h:O}{ns:List Nd}{N:Nd}{vn vk:O}(d:ez w h ns N vn vk)(g:N.k=3):
  R Tryz.prog 135 #[.agg #[h],cE N vn vk] w fun e f=>e= .returned (.bool (aA N M M M true&&dw N 1 1&&((N.ks.length:Int)==1)&&gc ns N 1 0))/\Below w.heap.size w f:=by
 obtain⟨C,G,rfl⟩:=d.t.form;obtain⟨E,H,rfl⟩:=d.n.form;obtain⟨F,I,rfl⟩:=d.k.form;have b:=St.start d;have J:=d.lx;have B:Hid (N.x.size<=1100000):=by show _<=_;omega
 clear d;have K:=bu g;have L:=gE g 3 rfl;clear g;cases t0:aA N M M M true
 case' true=>
  cases t1:dw N 1 1
  case' true=>
   cases t2:((N.ks.length:Int)==1)
   case' true=>
    have y:N.ks.length=1:=by have:=eu t2;omega
    have z:Hid (1<=N.ks.length):=by show _<=_;omega
    have A:Hid (0<N.ks.length):=by show _<_;omega
    clear y;cases t3:gc ns N 1 0
 all_goals
  unfold cE;go_in;go_wp2_with (first|(go_at_call 156;refine(ig _ N _ _ b.a.n b.a.k b.a.l1).mono ?_;rintro e f ⟨rfl,c⟩;replace b:=b.below c;clear c;obtain⟨i,j,l,m,o,p,q,r,s,u⟩:=aj b.bn;have v:=b.bt)|(go_at_call 157;refine(gl _ N _ _ 1 1 b.a.n b.a.k b.a.l1 b.a.ls).mono ?_;rintro e f ⟨rfl,c⟩;replace b:=b.below c;clear c;obtain⟨i,j,l,m,o,p,q,r,s,u⟩:=aj b.bn;have v:=b.bt)|(go_at_call 158;refine(cx _ _ ns N _ _ 0 1 b.a.t b.a.n b.a.k b.a.ok z.out b.a.ln b.a.l2).mono ?_;rintro e f ⟨rfl,c⟩;replace b:=b.below c;clear c;obtain⟨i,j,l,m,o,p,q,r,s,u⟩:=aj b.bn;have v:=b.bt));go_ret;exact⟨rfl,b.bel⟩
theorem abg{w:Q}{h:O}{ns:List Nd}{N:Nd}{vn vk:O}(d:ez w h ns N vn vk)(g:N.k=8):
  R Tryz.prog 135 #[.agg #[h],cE N vn vk] w fun e f=>e= .returned (.bool (aA N M M M M&&((N.ks.length:Int)==2)&&gc ns N 1 0&&(dm ns N 1==1)))/\Below w.heap.size w f:=by
 obtain⟨E,H,rfl⟩:=d.t.form;obtain⟨F,I,rfl⟩:=d.n.form;obtain⟨G,J,rfl⟩:=d.k.form;have b:=St.start d;have K:=d.lx;have C:Hid (N.x.size<=1100000):=by show _<=_;omega
 clear d;have L:=bu g;have af:=gE g 8 rfl;clear g;cases t0:aA N M M M M
 case' true=>
  cases t1:((N.ks.length:Int)==2)
  case' true=>
   have y:N.ks.length=2:=by have:=eu t1;omega
   have z:Hid (1<=N.ks.length):=by show _<=_;omega
   have B:Hid (0<N.ks.length):=by show _<_;omega
   have A:Hid (1<N.ks.length):=by show _<_;omega
   clear y;cases t2:gc ns N 1 0
   case' true=>
    cases t3:(dm ns N 1==1)
 all_goals
  unfold cE;go_in;go_wp2_with (first|(go_at_call 156;refine(bJ _ N _ _ b.a.n b.a.k b.a.l1).mono ?_;rintro e f ⟨rfl,c⟩;replace b:=b.below c;clear c;obtain⟨i,j,l,m,o,p,q,r,s,u⟩:=aj b.bn;have v:=b.bt)|(go_at_call 158;refine(cx _ _ ns N _ _ 0 1 b.a.t b.a.n b.a.k b.a.ok z.out b.a.ln b.a.l2).mono ?_;rintro e f ⟨rfl,c⟩;replace b:=b.below c;clear c;obtain⟨i,j,l,m,o,p,q,r,s,u⟩:=aj b.bn;have v:=b.bt)|(go_at_call 155;with_reducible refine(rA b.a A.out).mono ?_;rintro e f ⟨rfl,c⟩;replace b:=b.below c;clear c;obtain⟨i,j,l,m,o,p,q,r,s,u⟩:=aj b.bn;have v:=b.bt));go_ret;exact⟨rfl,b.bel⟩
theorem JJ{w:Q}{g:O}{ns:List Nd}{N:Nd}{vn vk:O}(c:ez w g ns N vn vk)(d:N.k=11):
  R Tryz.prog 135 #[.agg #[g],cE N vn vk] w fun e h=>e= .returned (.bool (aA N M M M M&&((N.ks.length:Int)==0)))/\Below w.heap.size w h:=by
 obtain⟨j,o,rfl⟩:=c.t.form;obtain⟨l,p,rfl⟩:=c.n.form;obtain⟨m,q,rfl⟩:=c.k.form;have b:=St.start c;have r:=c.lx;have i:Hid (N.x.size<=1100000):=by show _<=_;omega
 clear c;have s:=bu d;have u:=gE d 11 rfl;clear d;cases t0:aA N M M M M
 case' true=>
  cases t1:((N.ks.length:Int)==0)
 all_goals
  unfold cE;go_in;go_wp2_with (first|(go_at_call 156;refine(bJ _ N _ _ b.a.n b.a.k b.a.l1).mono ?_;rintro e h ⟨rfl,f⟩;replace b:=b.below f;clear f;obtain⟨v,y,z,A,B,C,E,F,G,H⟩:=aj b.bn;have I:=b.bt));go_ret;exact⟨rfl,b.bel⟩
theorem JK{w:Q}{g:O}{ns:List Nd}{N:Nd}{vn vk:O}(c:ez w g ns N vn vk)(d:N.k=12):
  R Tryz.prog 135 #[.agg #[g],cE N vn vk] w fun e h=>e= .returned (.bool (aA N M M M M&&((N.ks.length:Int)==0)))/\Below w.heap.size w h:=by
 obtain⟨j,o,rfl⟩:=c.t.form;obtain⟨l,p,rfl⟩:=c.n.form;obtain⟨m,q,rfl⟩:=c.k.form;have b:=St.start c;have r:=c.lx;have i:Hid (N.x.size<=1100000):=by show _<=_;omega
 clear c;have s:=bu d;have u:=gE d 12 rfl;clear d;cases t0:aA N M M M M
 case' true=>
  cases t1:((N.ks.length:Int)==0)
 all_goals
  unfold cE;go_in;go_wp2_with (first|(go_at_call 156;refine(bJ _ N _ _ b.a.n b.a.k b.a.l1).mono ?_;rintro e h ⟨rfl,f⟩;replace b:=b.below f;clear f;obtain⟨v,y,z,A,B,C,E,F,G,H⟩:=aj b.bn;have I:=b.bt));go_ret;exact⟨rfl,b.bel⟩
