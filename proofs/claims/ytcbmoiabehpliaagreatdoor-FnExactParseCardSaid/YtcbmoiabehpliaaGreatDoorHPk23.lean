import Derived.Test.YtcbmoiabehpliaaGreatDoorHPk13
import Derived.Test.YtcbmoiabehpliaaGreatDoorHPk08
set_option linter.unusedVariables false
set_option maxRecDepth 100000
set_option maxHeartbeats 3200000
namespace Go.Proofs.YtcbmoiabehpliaaGreatDoor
open Go.RowKit Go.Maps Go.WideMaps
theorem BE{w:World}{b:Value}{ns:List Nd}{N:Nd}{vn vk:Value}(d:bP w b ns N vn vk)(g:0<N.ks.length):
  Calls Tryz.prog 106 #[.agg #[b],.agg #[.int .i64 N.k,.int .i64 N.f,.int .i64 N.t,.int .i64 N.l,.int .i64 N.op,.int .i64 N.n,.string N.x,vn,vk],.int .i64 ((N.ks.length:Int)-1)] w fun e c=>e= .returned (.int .i64 (ba ns N (N.ks.length-1)))/\Below w.heap.size w c:=by
 have a:=dw d (N.ks.length-1) (by omega);rw[show((N.ks.length-1:Nat):Int)=(N.ks.length:Int)-1 by omega]at a;exact a
theorem Et{w:World}{b:Value}{ns:List Nd}{N:Nd}{vn vk:Value}(a:bP w b ns N vn vk)(g:0<N.ks.length):
  Calls Tryz.prog 109 #[.agg #[b],.agg #[.int .i64 N.k,.int .i64 N.f,.int .i64 N.t,.int .i64 N.l,.int .i64 N.op,.int .i64 N.n,.string N.x,vn,vk],.int .i64 0,.int .i64 ((N.ks.length:Int)-1)] w fun e d=>e= .returned (.bool (di ns N (N.ks.length-1) 0))/\Below w.heap.size w d:=by
 have c:=aL w b ns N vn vk 0 (N.ks.length-1) a.t a.n a.k a.ok (by omega) a.ln a.l2;rw[show((N.ks.length-1:Nat):Int)=(N.ks.length:Int)-1 by omega]at c;exact c
theorem Eu{w:World}{x:Value}{ns:List Nd}{N:Nd}{vn vk:Value}(d:bP w x ns N vn vk)(l:N.k=9):
  Calls Tryz.prog 52 #[.agg #[x],bu N vn vk] w fun e f=>e= .returned (.bool (aq N false false false true&&(bF N 1 1&&(((N.ks.length:Int)==3||(N.ks.length:Int)==4)&&(di ns N (N.ks.length-1) 0&&(ba ns N (N.ks.length-1)==1))))))/\Below w.heap.size w f:=by
 obtain⟨z,F,rfl⟩:=d.t.form;obtain⟨B,A,rfl⟩:=d.n.form;obtain⟨E,H,rfl⟩:=d.k.form;have b:=St.start d;have G:=d.l2;clear d;have C:=eI l;have y:=gZ l 9 rfl;clear l;unfold bu;cases t0:aq N false false false true
 case' true=>
  cases t1:bF N 1 1
  case' true=>
   cases t2:((N.ks.length:Int)==3)
   case' false=>cases t5:((N.ks.length:Int)==4)
   case' false.true=>
    have r:Hid (0<N.ks.length):=by show _<_;have:=eq_of_beq t5;omega
    cases t3:di ns N (N.ks.length-1) 0
    case' true=>cases t4:(ba ns N (N.ks.length-1)==1)
   case' true.true.true=>
    have r:Hid (0<N.ks.length):=by show _<_;have:=eq_of_beq t2;omega
    cases t3:di ns N (N.ks.length-1) 0
    case' true=>cases t4:(ba ns N (N.ks.length-1)==1)
 all_goals
  go_in;go_wp2_with (first|(go_at_call 107;refine(dD _ N _ _ b.a.n b.a.k b.a.l1).mono ?_;rintro e f ⟨rfl,c⟩;replace b:=b.below c;clear c;obtain⟨v,h,g,s,u,q,p,o,i,j⟩:=ad b.bn;have m:=b.bt)|(go_at_call 108;refine(da _ N _ _ 1 1 b.a.n b.a.k b.a.l1 b.a.ls).mono ?_;rintro e f ⟨rfl,c⟩;replace b:=b.below c;clear c;obtain⟨v,h,g,s,u,q,p,o,i,j⟩:=ad b.bn;have m:=b.bt)|(go_at_call 109;with_reducible refine(Et b.a r.out).mono ?_;rintro e f ⟨rfl,c⟩;replace b:=b.below c;clear c;obtain⟨v,h,g,s,u,q,p,o,i,j⟩:=ad b.bn;have m:=b.bt)|(go_at_call 106;with_reducible refine(BE b.a r.out).mono ?_;rintro e f ⟨rfl,c⟩;replace b:=b.below c;clear c;obtain⟨v,h,g,s,u,q,p,o,i,j⟩:=ad b.bn;have m:=b.bt));go_ret;exact⟨rfl,b.bel⟩
end Go.Proofs.YtcbmoiabehpliaaGreatDoor
