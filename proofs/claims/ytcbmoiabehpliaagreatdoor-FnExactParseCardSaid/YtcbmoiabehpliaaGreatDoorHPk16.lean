import Derived.Test.YtcbmoiabehpliaaGreatDoorHPk13
import Derived.Test.YtcbmoiabehpliaaGreatDoorHPk08
import Derived.Test.YtcbmoiabehpliaaGreatDoorHPk01
set_option linter.unusedVariables false
set_option maxRecDepth 100000
set_option maxHeartbeats 3200000
namespace Go.Proofs.YtcbmoiabehpliaaGreatDoor
open Go.RowKit Go.Maps Go.WideMaps
theorem Bl{w:World}{h:Value}{ns:List Nd}{N:Nd}{vn vk:Value}(c:bP w h ns N vn vk)(f:N.k=28):
  Calls Tryz.prog 53 #[.agg #[h],bu N vn vk] w fun e g=>e= .returned (.bool (((N.ks.length:Int)==2)&&di ns N 2 0&&aq N false false false false))/\Below w.heap.size w g:=by
 obtain⟨C,L,rfl⟩:=c.t.form;obtain⟨J,F,rfl⟩:=c.n.form;obtain⟨K,M,rfl⟩:=c.k.form;have b:=St.start c;have B:=c.lx;have G:Hid (N.x.size<=1100000):=by show _<=_;omega
 clear c;have H:=eI f;have A:=gZ f 28 rfl;clear f;cases t0:((N.ks.length:Int)==2)
 case' true=>
  have q:N.ks.length=2:=by have:=eq_of_beq t0;omega
  have u:Hid (2<=N.ks.length):=by show _<=_;omega
  have I:Hid (0<N.ks.length):=by show _<_;omega
  have E:Hid (1<N.ks.length):=by show _<_;omega
  clear q;cases t1:di ns N 2 0
  case' true=>
   cases t2:aq N false false false false
 all_goals
  unfold bu;go_in;go_wp2_with (first|(go_at_call 109;refine(aL _ _ ns N _ _ 0 2 b.a.t b.a.n b.a.k b.a.ok u.out b.a.ln b.a.l2).mono ?_;rintro e g ⟨rfl,d⟩;replace b:=b.below d;clear d;obtain⟨z,j,i,v,y,r,s,p,l,m⟩:=ad b.bn;have o:=b.bt)|(go_at_call 107;refine(aJ _ N _ _ b.a.n b.a.k b.a.l1).mono ?_;rintro e g ⟨rfl,d⟩;replace b:=b.below d;clear d;obtain⟨z,j,i,v,y,r,s,p,l,m⟩:=ad b.bn;have o:=b.bt));go_ret;exact⟨rfl,b.bel⟩
theorem Bm{w:World}{h:Value}{ns:List Nd}{N:Nd}{vn vk:Value}(c:bP w h ns N vn vk)(f:N.k=29):
  Calls Tryz.prog 53 #[.agg #[h],bu N vn vk] w fun e g=>e= .returned (.bool (((N.ks.length:Int)==2)&&di ns N 2 0&&aq N false false false false))/\Below w.heap.size w g:=by
 obtain⟨B,L,rfl⟩:=c.t.form;obtain⟨J,E,rfl⟩:=c.n.form;obtain⟨K,M,rfl⟩:=c.k.form;have b:=St.start c;have A:=c.lx;have F:Hid (N.x.size<=1100000):=by show _<=_;omega
 clear c;have G:=eI f;have H:=gZ f 29 rfl;clear f;cases t0:((N.ks.length:Int)==2)
 case' true=>
  have q:N.ks.length=2:=by have:=eq_of_beq t0;omega
  have u:Hid (2<=N.ks.length):=by show _<=_;omega
  have I:Hid (0<N.ks.length):=by show _<_;omega
  have C:Hid (1<N.ks.length):=by show _<_;omega
  clear q;cases t1:di ns N 2 0
  case' true=>
   cases t2:aq N false false false false
 all_goals
  unfold bu;go_in;go_wp2_with (first|(go_at_call 109;refine(aL _ _ ns N _ _ 0 2 b.a.t b.a.n b.a.k b.a.ok u.out b.a.ln b.a.l2).mono ?_;rintro e g ⟨rfl,d⟩;replace b:=b.below d;clear d;obtain⟨z,j,i,v,y,r,s,p,l,m⟩:=ad b.bn;have o:=b.bt)|(go_at_call 107;refine(aJ _ N _ _ b.a.n b.a.k b.a.l1).mono ?_;rintro e g ⟨rfl,d⟩;replace b:=b.below d;clear d;obtain⟨z,j,i,v,y,r,s,p,l,m⟩:=ad b.bn;have o:=b.bt));go_ret;exact⟨rfl,b.bel⟩
theorem Bn{w:World}{v:Value}{ns:List Nd}{N:Nd}{vn vk:Value}(d:bP w v ns N vn vk)(g:N.k=32):
  Calls Tryz.prog 53 #[.agg #[v],bu N vn vk] w fun e f=>e= .returned (.bool (((N.ks.length:Int)==2)&&di ns N 2 0&&(ba ns N 0 !=27)&&aq N false false false false))/\Below w.heap.size w f:=by
 obtain⟨E,L,rfl⟩:=d.t.form;obtain⟨J,G,rfl⟩:=d.n.form;obtain⟨K,M,rfl⟩:=d.k.form;have b:=St.start d;have C:=d.lx;have H:Hid (N.x.size<=1100000):=by show _<=_;omega
 clear d;have I:=eI g;have B:=gZ g 32 rfl;clear g;cases t0:((N.ks.length:Int)==2)
 case' true=>
  have y:N.ks.length=2:=by have:=eq_of_beq t0;omega
  have A:Hid (2<=N.ks.length):=by show _<=_;omega
  have z:Hid (0<N.ks.length):=by show _<_;omega
  have F:Hid (1<N.ks.length):=by show _<_;omega
  clear y;cases t1:di ns N 2 0
  case' true=>
   cases t2:(ba ns N 0 !=27)
   case' true=>
    cases t3:aq N false false false false
 all_goals
  unfold bu;go_in;go_wp2_with (first|(go_at_call 109;refine(aL _ _ ns N _ _ 0 2 b.a.t b.a.n b.a.k b.a.ok A.out b.a.ln b.a.l2).mono ?_;rintro e f ⟨rfl,c⟩;replace b:=b.below c;clear c;obtain⟨u,i,h,r,s,p,q,o,j,l⟩:=ad b.bn;have m:=b.bt)|(go_at_call 106;refine(dw b.a 0 z.out).mono ?_;rintro e f ⟨rfl,c⟩;replace b:=b.below c;clear c;obtain⟨u,i,h,r,s,p,q,o,j,l⟩:=ad b.bn;have m:=b.bt)|(go_at_call 107;refine(aJ _ N _ _ b.a.n b.a.k b.a.l1).mono ?_;rintro e f ⟨rfl,c⟩;replace b:=b.below c;clear c;obtain⟨u,i,h,r,s,p,q,o,j,l⟩:=ad b.bn;have m:=b.bt));go_ret;exact⟨rfl,b.bel⟩
theorem Bo{w:World}{h:Value}{ns:List Nd}{N:Nd}{vn vk:Value}(c:bP w h ns N vn vk)(f:N.k=30):
  Calls Tryz.prog 53 #[.agg #[h],bu N vn vk] w fun e g=>e= .returned (.bool (((N.ks.length:Int)==1)&&di ns N 1 0&&aq N true false false false&&decide ((19:Int)<=N.op)&&decide (N.op<=22)))/\Below w.heap.size w g:=by
 obtain⟨B,K,rfl⟩:=c.t.form;obtain⟨I,C,rfl⟩:=c.n.form;obtain⟨J,L,rfl⟩:=c.k.form;have b:=St.start c;have A:=c.lx;have E:Hid (N.x.size<=1100000):=by show _<=_;omega
 clear c;have F:=eI f;have G:=gZ f 30 rfl;clear f;cases t0:((N.ks.length:Int)==1)
 case' true=>
  have q:N.ks.length=1:=by have:=eq_of_beq t0;omega
  have u:Hid (1<=N.ks.length):=by show _<=_;omega
  have H:Hid (0<N.ks.length):=by show _<_;omega
  clear q;cases t1:di ns N 1 0
  case' true=>
   cases t2:aq N true false false false
   case' true=>
    cases t3:decide ((19:Int)<=N.op)
    case' true=>
     cases t4:decide (N.op<=22)
 all_goals
  unfold bu;go_in;go_wp2_with (first|(go_at_call 109;refine(aL _ _ ns N _ _ 0 1 b.a.t b.a.n b.a.k b.a.ok u.out b.a.ln b.a.l2).mono ?_;rintro e g ⟨rfl,d⟩;replace b:=b.below d;clear d;obtain⟨z,j,i,v,y,r,s,p,l,m⟩:=ad b.bn;have o:=b.bt)|(go_at_call 107;refine(lX _ N _ _ b.a.n b.a.k b.a.l1).mono ?_;rintro e g ⟨rfl,d⟩;replace b:=b.below d;clear d;obtain⟨z,j,i,v,y,r,s,p,l,m⟩:=ad b.bn;have o:=b.bt));go_ret;exact⟨rfl,b.bel⟩
theorem Bp{w:World}{h:Value}{ns:List Nd}{N:Nd}{vn vk:Value}(c:bP w h ns N vn vk)(f:N.k=31):
  Calls Tryz.prog 53 #[.agg #[h],bu N vn vk] w fun e g=>e= .returned (.bool (((N.ks.length:Int)==2)&&di ns N 2 0&&aq N true false false false&&decide ((1:Int)<=N.op)&&decide (N.op<=18)))/\Below w.heap.size w g:=by
 obtain⟨B,L,rfl⟩:=c.t.form;obtain⟨I,E,rfl⟩:=c.n.form;obtain⟨J,M,rfl⟩:=c.k.form;have b:=St.start c;have A:=c.lx;have F:Hid (N.x.size<=1100000):=by show _<=_;omega
 clear c;have G:=eI f;have K:=gZ f 31 rfl;clear f;cases t0:((N.ks.length:Int)==2)
 case' true=>
  have q:N.ks.length=2:=by have:=eq_of_beq t0;omega
  have u:Hid (2<=N.ks.length):=by show _<=_;omega
  have H:Hid (0<N.ks.length):=by show _<_;omega
  have C:Hid (1<N.ks.length):=by show _<_;omega
  clear q;cases t1:di ns N 2 0
  case' true=>
   cases t2:aq N true false false false
   case' true=>
    cases t3:decide ((1:Int)<=N.op)
    case' true=>
     cases t4:decide (N.op<=18)
 all_goals
  unfold bu;go_in;go_wp2_with (first|(go_at_call 109;refine(aL _ _ ns N _ _ 0 2 b.a.t b.a.n b.a.k b.a.ok u.out b.a.ln b.a.l2).mono ?_;rintro e g ⟨rfl,d⟩;replace b:=b.below d;clear d;obtain⟨z,j,i,v,y,r,s,p,l,m⟩:=ad b.bn;have o:=b.bt)|(go_at_call 107;refine(lX _ N _ _ b.a.n b.a.k b.a.l1).mono ?_;rintro e g ⟨rfl,d⟩;replace b:=b.below d;clear d;obtain⟨z,j,i,v,y,r,s,p,l,m⟩:=ad b.bn;have o:=b.bt));go_ret;exact⟨rfl,b.bel⟩
def xU:List Int:=[20,21,22,27,23,24,25,26,28,29,32,30,31,33,34,35,36,37,40,41,42]
theorem Ek{w:World}{f:Value}{ns:List Nd}{N:Nd}{vn vk:Value}(d:bP w f ns N vn vk)(b:∀c∈xU,N.k≠c):
  Calls Tryz.prog 53 #[.agg #[f],bu N vn vk] w fun e g=>e= .returned (.bool false)/\Below w.heap.size w g:=by
 obtain⟨j,O,rfl⟩:=d.t.form;obtain⟨q,J,rfl⟩:=d.n.form;obtain⟨A,E,rfl⟩:=d.k.form;have h:=St.start d;clear d;have y:(N.k==20)=false:=by rw[beq_eq_false_iff_ne];exact fun a=>b 20 (by decide) a
 have s:(N.k==21)=false:=by rw[beq_eq_false_iff_ne];exact fun a=>b 21 (by decide) a
 have M:(N.k==22)=false:=by rw[beq_eq_false_iff_ne];exact fun a=>b 22 (by decide) a
 have F:(N.k==27)=false:=by rw[beq_eq_false_iff_ne];exact fun a=>b 27 (by decide) a
 have r:(N.k==23)=false:=by rw[beq_eq_false_iff_ne];exact fun a=>b 23 (by decide) a
 have l:(N.k==24)=false:=by rw[beq_eq_false_iff_ne];exact fun a=>b 24 (by decide) a
 have G:(N.k==25)=false:=by rw[beq_eq_false_iff_ne];exact fun a=>b 25 (by decide) a
 have K:(N.k==26)=false:=by rw[beq_eq_false_iff_ne];exact fun a=>b 26 (by decide) a
 have i:(N.k==28)=false:=by rw[beq_eq_false_iff_ne];exact fun a=>b 28 (by decide) a
 have z:(N.k==29)=false:=by rw[beq_eq_false_iff_ne];exact fun a=>b 29 (by decide) a
 have H:(N.k==32)=false:=by rw[beq_eq_false_iff_ne];exact fun a=>b 32 (by decide) a
 have m:(N.k==30)=false:=by rw[beq_eq_false_iff_ne];exact fun a=>b 30 (by decide) a
 have o:(N.k==31)=false:=by rw[beq_eq_false_iff_ne];exact fun a=>b 31 (by decide) a
 have v:(N.k==33)=false:=by rw[beq_eq_false_iff_ne];exact fun a=>b 33 (by decide) a
 have u:(N.k==34)=false:=by rw[beq_eq_false_iff_ne];exact fun a=>b 34 (by decide) a
 have B:(N.k==35)=false:=by rw[beq_eq_false_iff_ne];exact fun a=>b 35 (by decide) a
 have x:(N.k==36)=false:=by rw[beq_eq_false_iff_ne];exact fun a=>b 36 (by decide) a
 have p:(N.k==37)=false:=by rw[beq_eq_false_iff_ne];exact fun a=>b 37 (by decide) a
 have C:(N.k==40)=false:=by rw[beq_eq_false_iff_ne];exact fun a=>b 40 (by decide) a
 have I:(N.k==41)=false:=by rw[beq_eq_false_iff_ne];exact fun a=>b 41 (by decide) a
 have L:(N.k==42)=false:=by rw[beq_eq_false_iff_ne];exact fun a=>b 42 (by decide) a
 clear b;unfold bu;go_in;go_wp2;go_ret;exact⟨rfl,h.bel⟩
def Du(ns:List Nd)(N:Nd):Nat->Nat->Bool
 |0,_=>true
 |f+1,j=>decide (40<=ba ns N j/\ba ns N j<=42)&&Du ns N f (j+1)
structure GG (ns:List Nd) (N:Nd) (f j:Nat) (R:Bool):Prop where
 out:Du ns N f j=R
theorem Bq{w:World}{L:Value}{ns:List Nd}{N:Nd}{vn vk:Value}(j:bP w L ns N vn vk)(c:N.k=35):
  Calls Tryz.prog 53 #[.agg #[L],bu N vn vk] w fun e o=>e= .returned (.bool (Du ns N N.ks.length 0&&aq N false false false false))/\Below w.heap.size w o:=by
 obtain⟨H,Q,rfl⟩:=j.t.form;obtain⟨I,M,rfl⟩:=j.n.form;obtain⟨J,K,rfl⟩:=j.k.form;have b:=St.start j;have al:=j.l2;clear j;have ar:=eI c 20 rfl;have an:=eI c 21 rfl;have a9:=eI c 22 rfl;have a5:=eI c 27 rfl;have am:=eI c 23 rfl;have Y:=eI c 24 rfl;have a6:=eI c 25 rfl;have a8:=eI c 26 rfl;have V:=eI c 28 rfl;have a0:=eI c 29 rfl;have a7:=eI c 32 rfl;have Z:=eI c 30 rfl;have ak:=eI c 31 rfl;have ap:=eI c 33 rfl;have ao:=eI c 34 rfl;have a4:=gZ c 35 rfl;clear c;obtain⟨G,E⟩:=ah (Du ns N N.ks.length 0);rw[E];have U:GG ns N N.ks.length 0 G:=⟨E⟩;clear E;unfold bu;go_in;go_wp2_with fail;generalize (w.alloc (.cells #[.slice H ns.length Q] 24)).alloc (.cells #[.int .i64 N.k,.int .i64 N.f,.int .i64 N.t,.int .i64 N.l,.int .i64 N.op,.int .i64 N.n,.string N.x,.slice I N.nm.length M,.slice J N.ks.length K] 69)=af at b⊢;go_loopw [6,7,200] (fun _ _ F wr=>∃(d:Nat),F= .int .i64 d/\d<=N.ks.length/\GG ns N (N.ks.length-d) d G/\St w (.slice H ns.length Q) ns N (.slice I N.nm.length M) (.slice J N.ks.length K) wr) (fun _ _ F _=>N.ks.length-(intOf F).toNat)
 case atStart=>exact⟨0,rfl,by omega,U,b⟩
 case round=>
  clear b;obtain⟨d,rfl,av,T,b⟩:=hrel;obtain⟨A,B,u,z,y,C,q,v,r,p⟩:=ad b.bn;have s:=b.bt;have g:=T.out;by_cases S:d<N.ks.length
  ·rw[show N.ks.length-d=(N.ks.length-(d+1))+1 by omega,Du]at g;have R:(d:Int)<(N.ks.length:Int):=by omega
   have m:=dw b.a d S;unfold bu at m;generalize ba ns N d=O at g m;by_cases X:O<40
   ·rw[decide_eq_false (by omega),Bool.false_and]at g;have i:=ab g;clear g;go_wp2_with (go_at_call 106;refine m.mono ?_;rintro e o ⟨rfl,h⟩;replace b:=b.below h;clear h;obtain⟨A,B,u,z,y,C,q,v,r,p⟩:=ad b.bn;have s:=b.bt);go_ret;exact⟨by rw[<-i.out];rfl,b.bel⟩
   by_cases W:42<O
   ·rw[decide_eq_false (by omega),Bool.false_and]at g;have i:=ab g;clear g;go_wp2_with (go_at_call 106;refine m.mono ?_;rintro e o ⟨rfl,h⟩;replace b:=b.below h;clear h;obtain⟨A,B,u,z,y,C,q,v,r,p⟩:=ad b.bn;have s:=b.bt);go_ret;exact⟨by rw[<-i.out];rfl,b.bel⟩
   rw[decide_eq_true (by omega),Bool.true_and]at g;have i:GG ns N (N.ks.length-(d+1)) (d+1) G:=⟨g⟩;clear g;go_wp2_with (go_at_call 106;refine m.mono ?_;rintro e o ⟨rfl,h⟩;replace b:=b.below h;clear h;obtain⟨A,B,u,z,y,C,q,v,r,p⟩:=ad b.bn;have s:=b.bt);exact⟨⟨d+1,by go_num,by omega,i,b⟩,by simp[intOf];omega⟩
  ·rw[show N.ks.length-d=0 by omega,Du]at g;have i:=ab g;have R:¬(d:Int)<(N.ks.length:Int):=by omega
   clear g;go_wp2_with (go_at_call 107;refine(aJ _ N _ _ b.a.n b.a.k b.a.l1).mono ?_;rintro e o ⟨rfl,h⟩;replace b:=b.below h;clear h;obtain⟨A,B,u,z,y,C,q,v,r,p⟩:=ad b.bn;have s:=b.bt);go_ret;exact⟨by rw[<-i.out];rfl,b.bel⟩
end Go.Proofs.YtcbmoiabehpliaaGreatDoor
