import Derived.Test.YtcbmoiabehpliaaGreatDoorHPk13
import Derived.Test.YtcbmoiabehpliaaGreatDoorHPk08
import Derived.Test.YtcbmoiabehpliaaGreatDoorHPk01
import Derived.Test.YtcbmoiabehpliaaGreatDoorHPk37
set_option linter.unusedVariables false
set_option maxRecDepth 100000
set_option maxHeartbeats 12800000
namespace Go.Proofs.YtcbmoiabehpliaaGreatDoor
open Go.RowKit Go.Maps Go.WideMaps
theorem Cq{w:World}{v:Value}{ns:List Nd}{N:Nd}{vn vk:Value}(d:bP w v ns N vn vk)(l:N.k=33):
  Calls Tryz.prog 53 #[.agg #[v],bu N vn vk] w fun e f=>e= .returned (.bool (((N.ks.length:Int)==1)&&di ns N 1 0&&(ba ns N 0 !=27)&&aq N false false true false&&fs N.x))/\Below w.heap.size w f:=by
 obtain⟨E,K,rfl⟩:=d.t.form;obtain⟨I,G,rfl⟩:=d.n.form;obtain⟨J,L,rfl⟩:=d.k.form;have b:=St.start d;have C:=d.lx;have y:Hid (N.x.size<=1100000):=by show _<=_;omega
 clear d;have H:=eI l;have F:=gZ l 33 rfl;clear l;cases t0:((N.ks.length:Int)==1)
 case' true=>
  have z:N.ks.length=1:=by have:=eq_of_beq t0;omega
  have B:Hid (1<=N.ks.length):=by show _<=_;omega
  have A:Hid (0<N.ks.length):=by show _<_;omega
  clear z;cases t1:di ns N 1 0
  case' true=>
   cases t2:(ba ns N 0 !=27)
   case' true=>
    cases t3:aq N false false true false
    case' true=>
     cases t4:fs N.x
 all_goals
  unfold bu;go_in;go_wp2_with (first|(go_at_call 109;refine(aL _ _ ns N _ _ 0 1 b.a.t b.a.n b.a.k b.a.ok B.out b.a.ln b.a.l2).mono ?_;rintro e f ⟨rfl,c⟩;replace b:=b.below c;clear c;obtain⟨u,h,g,r,s,p,q,o,i,j⟩:=ad b.bn;have m:=b.bt)|(go_at_call 106;refine(dw b.a 0 A.out).mono ?_;rintro e f ⟨rfl,c⟩;replace b:=b.below c;clear c;obtain⟨u,h,g,r,s,p,q,o,i,j⟩:=ad b.bn;have m:=b.bt)|(go_at_call 107;refine(eA _ N _ _ b.a.n b.a.k b.a.l1).mono ?_;rintro e f ⟨rfl,c⟩;replace b:=b.below c;clear c;obtain⟨u,h,g,r,s,p,q,o,i,j⟩:=ad b.bn;have m:=b.bt)|(go_at_call 112;refine(eH N.x y.out _).mono ?_;rintro e f ⟨rfl,c⟩;replace b:=b.below c;clear c;obtain⟨u,h,g,r,s,p,q,o,i,j⟩:=ad b.bn;have m:=b.bt));go_ret;exact⟨rfl,b.bel⟩
theorem Cr{w:World}{v:Value}{ns:List Nd}{N:Nd}{vn vk:Value}(d:bP w v ns N vn vk)(g:N.k=34):
  Calls Tryz.prog 53 #[.agg #[v],bu N vn vk] w fun e f=>e= .returned (.bool (decide ((1:Int)<=(N.ks.length:Int))&&di ns N N.ks.length 0&&(ba ns N 0 !=27)&&aq N false false false false))/\Below w.heap.size w f:=by
 obtain⟨A,H,rfl⟩:=d.t.form;obtain⟨F,B,rfl⟩:=d.n.form;obtain⟨G,I,rfl⟩:=d.k.form;have b:=St.start d;have z:=d.lx;have C:Hid (N.x.size<=1100000):=by show _<=_;omega
 clear d;have E:=eI g;have J:=gZ g 34 rfl;clear g;cases t0:decide ((1:Int)<=(N.ks.length:Int))
 case' true=>
  have y:Hid (0<N.ks.length):=by show _<_;have:=of_decide_eq_true t0;omega
  cases t1:di ns N N.ks.length 0
  case' true=>
   cases t2:(ba ns N 0 !=27)
   case' true=>
    cases t3:aq N false false false false
 all_goals
  unfold bu;go_in;go_wp2_with (first|(go_at_call 109;refine(aL _ _ ns N _ _ 0 N.ks.length b.a.t b.a.n b.a.k b.a.ok (Nat.le_refl _) b.a.ln b.a.l2).mono ?_;rintro e f ⟨rfl,c⟩;replace b:=b.below c;clear c;obtain⟨u,i,h,r,s,q,p,o,j,l⟩:=ad b.bn;have m:=b.bt)|(go_at_call 106;refine(dw b.a 0 y.out).mono ?_;rintro e f ⟨rfl,c⟩;replace b:=b.below c;clear c;obtain⟨u,i,h,r,s,q,p,o,j,l⟩:=ad b.bn;have m:=b.bt)|(go_at_call 107;refine(aJ _ N _ _ b.a.n b.a.k b.a.l1).mono ?_;rintro e f ⟨rfl,c⟩;replace b:=b.below c;clear c;obtain⟨u,i,h,r,s,q,p,o,j,l⟩:=ad b.bn;have m:=b.bt));go_ret;exact⟨rfl,b.bel⟩
def Cs(ns:List Nd)(N:Nd):Nat->Nat->Bool
 |0,_=>true
 |f+1,j=>oc (ba ns N j)&&Cs ns N f (j+1)
structure Hc (ns:List Nd) (N:Nd) (f j:Nat) (R:Bool):Prop where
 out:Cs ns N f j=R
theorem E3{w:World}{J:Value}{ns:List Nd}{N:Nd}{vn vk:Value}(l:bP w J ns N vn vk)(F:N.k=5):
  Calls Tryz.prog 52 #[.agg #[J],bu N vn vk] w fun e h=>e= .returned (.bool (aq N false true false false&&(decide (1<=N.n/\N.n<(N.ks.length:Int))&&(Cs ns N N.n.toNat 0&&di ns N (N.ks.length-N.n.toNat) N.n.toNat))))/\Below w.heap.size w h:=by
 obtain⟨M,X,rfl⟩:=l.t.form;obtain⟨R,V,rfl⟩:=l.n.form;obtain⟨T,U,rfl⟩:=l.k.form;have b:=St.start l;have al:=l.l2;clear l;have a5:=eI F;have an:=gZ F 5 rfl;clear F;unfold bu;cases t0:aq N false true false false with
 |false=>
  go_in;go_wp2_with (first|(go_at_call 107;refine(ez _ N _ _ b.a.n b.a.k b.a.l1).mono ?_;rintro e h ⟨rfl,c⟩;replace b:=b.below c;clear c;obtain⟨u,v,p,s,r,x,j,q,m,i⟩:=ad b.bn;have o:=b.bt));go_ret;exact⟨rfl,b.bel⟩
 |true=>
  by_cases Z:N.n<1
  ·rw[decide_eq_false (by omega)];go_in;go_wp2_with (first|(go_at_call 107;refine(ez _ N _ _ b.a.n b.a.k b.a.l1).mono ?_;rintro e h ⟨rfl,c⟩;replace b:=b.below c;clear c;obtain⟨u,v,p,s,r,x,j,q,m,i⟩:=ad b.bn;have o:=b.bt));go_ret;exact⟨rfl,b.bel⟩
  by_cases Y:(N.ks.length:Int)<=N.n
  ·rw[decide_eq_false (by omega)];go_in;go_wp2_with (first|(go_at_call 107;refine(ez _ N _ _ b.a.n b.a.k b.a.l1).mono ?_;rintro e h ⟨rfl,c⟩;replace b:=b.below c;clear c;obtain⟨u,v,p,s,r,x,j,q,m,i⟩:=ad b.bn;have o:=b.bt));go_ret;exact⟨rfl,b.bel⟩
  rw[decide_eq_true (by omega)];obtain⟨f,K⟩:∃f:Nat,N.n=(f:Int):=⟨N.n.toNat,by omega⟩;have I:N.n.toNat=f:=by omega
  rw[I];have a7:f<N.ks.length:=by omega
  have L:=ab K;obtain⟨G,B⟩:=ah (Cs ns N f 0);rw[B];have W:Hc ns N f 0 G:=⟨B⟩;clear B K I;go_in;go_wp2_with (first|(go_at_call 107;refine(ez _ N _ _ b.a.n b.a.k b.a.l1).mono ?_;rintro e h ⟨rfl,c⟩;replace b:=b.below c;clear c;obtain⟨u,v,p,s,r,x,j,q,m,i⟩:=ad b.bn;have o:=b.bt));go_loopw [7] (fun E wr=>∃(d:Nat),E= .int .i64 d/\d<=f/\Hc ns N (f-d) d G/\St w (.slice M ns.length X) ns N (.slice R N.nm.length V) (.slice T N.ks.length U) wr) (fun E _=>f-(intOf E).toNat)
  case atStart=>exact⟨0,rfl,by omega,W,b⟩
  case round=>
   clear b;obtain⟨d,rfl,a0,Q,b⟩:=hrel;obtain⟨a6,a8,ar,ap,af,ak,ao,bb,av,a9⟩:=ad b.bn;have a4:=b.bt;have g:=Q.out;have H:=L.out;by_cases am:d<f
   ·rw[show f-d=(f-(d+1))+1 by omega,Cs]at g;have O:(d:Int)<N.n:=by omega
    have A:=dw b.a d (by omega);unfold bu at A;have y:=fun w=>re (ba ns N d) w;clear H;generalize ba ns N d=S at g A y;cases hx:oc S with
    |false=>
     rw[hx,Bool.false_and]at g;rw[hx]at y;have z:=ab g;clear g hx;go_wp2_with (first|(go_at_call 106;refine A.mono ?_;rintro e h ⟨rfl,c⟩;replace b:=b.below c;clear c;obtain⟨u,v,p,s,r,x,j,q,m,i⟩:=ad b.bn;have o:=b.bt)|(go_at_call 110;refine bc (y _) ?_));go_ret;exact⟨by rw[<-z.out];rfl,b.bel⟩
    |true=>
     rw[hx,Bool.true_and]at g;rw[hx]at y;have z:Hc ns N (f-(d+1)) (d+1) G:=⟨g⟩;clear g hx;go_wp2_with (first|(go_at_call 106;refine A.mono ?_;rintro e h ⟨rfl,c⟩;replace b:=b.below c;clear c;obtain⟨u,v,p,s,r,x,j,q,m,i⟩:=ad b.bn;have o:=b.bt)|(go_at_call 110;refine bc (y _) ?_));exact⟨⟨d+1,by go_num,by omega,z,b⟩,by simp[intOf];omega⟩
   ·rw[show f-d=0 by omega,Cs]at g;have z:=ab g;have O:¬(d:Int)<N.n:=by omega
    have C:=aL _ _ ns N _ _ f N.ks.length b.a.t b.a.n b.a.k b.a.ok (Nat.le_refl _) b.a.ln b.a.l2;unfold bu at C;rw[<-H]at C;clear g H;go_wp2_with (go_at_call 109;refine C.mono ?_;rintro e h ⟨rfl,c⟩;replace b:=b.below c;clear c;obtain⟨u,v,p,s,r,x,j,q,m,i⟩:=ad b.bn;have o:=b.bt);go_ret;exact⟨by rw[<-z.out];rfl,b.bel⟩
theorem Hd(k:Int):aY k=0\/aY k=1\/aY k=2\/aY k=3\/aY k=4\/aY k=5\/aY k=6:=by
 unfold aY
 repeat' split
 all_goals simp
theorem qG(w:World)(b:Nat)(N:Nd)(vn v:Value)(s:Int)(x:∃a n c,vn= .slice a n c)(h:bK w b N vn s v):
  Calls Tryz.prog 34 #[bi N.k b] w fun e d=>e= .returned (bu (dY N (aY N.k)) (gY vn (aY N.k)) (.slice none 0 0))/\Below w.heap.size w d:=by
 obtain⟨C,B,A,rfl⟩:=x;unfold bK at h;unfold bi;have J:=fun w=>FV b w;have F:=fun w=>E0 b w;have K:=fun w=>E1 b w;have y:=fun w=>bm b w;have G:=lt_of_block h;have E:b<w.heap.size+1:=by omega
 have I:b≠w.heap.size:=by omega
 have H:b≠w.heap.size+1:=by omega
 have u:∀i g,Below w.heap.size w ((w.alloc i).alloc g).drew:=fun i g=>aE (((Below.refl _ w).alloc (Nat.le_refl _) i).alloc (by simp) g);have c:=fun z=>cell_of_row w b z _ _ _ h;have q:=c 0;have r:=c 1;have p:=c 2;have j:=c 3;have m:=c 6;have o:=c 7;clear c h;unfold bu;rcases Hd N.k with hc|hc|hc|hc|hc|hc|hc;all_goals
  simp only[hc,yp,eK,dY,gY,List.cons_append,List.nil_append]at q r p j m o⊢;simp at q r p j m o;go_in;go_wp2_with (go_at_call 265;refine bc (y _) ?_);all_goals
   go_region_held3 (fun d=>d.cell? ⟨b,0,none⟩=some (.int .i64 N.k)/\d.cell? ⟨b,1,none⟩=some (.int .i64 N.f)/\d.cell? ⟨b,2,none⟩=some (.int .i64 N.t)/\d.cell? ⟨b,3,none⟩=some (.int .i64 N.l)) (go_keep) (fail)
   go_wp2_with fail;all_goals exact bodyPost_ret (results_cell_row rfl _ _ w.heap.size _ _ _ _ rfl ((Below.heap_alloc _ _ _ (by simp)).trans (heap_alloc_new w _)) Tryz.underlying69 rfl (by kernel_rfl)) rfl ⟨by simp[*],u _ _⟩
end Go.Proofs.YtcbmoiabehpliaaGreatDoor
