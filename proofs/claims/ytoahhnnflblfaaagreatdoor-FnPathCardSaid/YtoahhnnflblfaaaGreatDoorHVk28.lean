import Derived.Test.YtoahhnnflblfaaaGreatDoorHVk08
import Derived.Test.YtoahhnnflblfaaaGreatDoorHVk09
import Derived.Test.YtoahhnnflblfaaaGreatDoorHVk10
import Derived.Test.YtoahhnnflblfaaaGreatDoorHVk15
import Derived.Test.YtoahhnnflblfaaaGreatDoorHVk11
import Derived.Test.YtoahhnnflblfaaaGreatDoorHVk16
import Derived.Test.YtoahhnnflblfaaaGreatDoorHVk12
import Derived.Test.YtoahhnnflblfaaaGreatDoorHVk17
import Derived.Test.YtoahhnnflblfaaaGreatDoorHVk27
set_option linter.all false
set_option maxRecDepth 100000
set_option maxHeartbeats 12800000
open Bool renaming false->M,true->U
open Go.Value renaming int->O,string->V,slice->Z,agg->A4,tuple->A7,bool->A8,int->B0
open Go.IntKind renaming i64->Q
open Option renaming some->T,none->A5
open Go renaming Value->X,World->A0,Calls->A6
open Go.Proofs.Tryz renaming prog->Y
open Go.Ending renaming returned->Ax
open Go.RowKit renaming Below->A1,intOf->A3,Hid->A9
open Go.Obj renaming cells->A2
open List renaming replicate->Br
namespace Go.Proofs.YtoahhnnflblfaaaGreatDoor
open Go.RowKit Go.Maps Go.WideMaps
theorem aew{w:A0}{g:X}{ns:List Nd}{N:Nd}{vn vk:X}(c:gn w g ns N vn vk)(d:N.k=20):
  A6 Y 46 #[A4 #[g],dy N vn vk] w fun e h=>e= Ax (A8 (((N.ks.length:Int)==0)&&aD N M M M M))/\A1 w.heap.size w h:=by
 obtain⟨j,o,rfl⟩:=c.t.form;obtain⟨l,p,rfl⟩:=c.n.form;obtain⟨m,q,rfl⟩:=c.k.form;have b:=St.start c;have r:=c.lx;have i:A9 (N.x.size<=1100000):=by show _<=_;omega
 clear c;have s:=kH d 20 rfl;clear d;cases t0:((N.ks.length:Int)==0)
 case' true=>
  cases t1:aD N M M M M
 all_goals
  unfold dy;go_in;go_wp2_with (first|(go_at_call 97;refine(de _ N _ _ b.a.n b.a.k b.a.l1).mono ?_;rintro e h ⟨rfl,f⟩;replace b:=b.below f;clear f;obtain⟨u,v,y,z,A,B,C,E,F,G⟩:=aq b.bn;have H:=b.bt));go_ret;exact⟨rfl,b.bel⟩
theorem aex{w:A0}{g:X}{ns:List Nd}{N:Nd}{vn vk:X}(c:gn w g ns N vn vk)(d:N.k=21):
  A6 Y 46 #[A4 #[g],dy N vn vk] w fun e h=>e= Ax (A8 (((N.ks.length:Int)==0)&&aD N M M M M))/\A1 w.heap.size w h:=by
 obtain⟨j,o,rfl⟩:=c.t.form;obtain⟨l,p,rfl⟩:=c.n.form;obtain⟨m,q,rfl⟩:=c.k.form;have b:=St.start c;have r:=c.lx;have i:A9 (N.x.size<=1100000):=by show _<=_;omega
 clear c;have s:=ci d;have u:=kH d 21 rfl;clear d;cases t0:((N.ks.length:Int)==0)
 case' true=>
  cases t1:aD N M M M M
 all_goals
  unfold dy;go_in;go_wp2_with (first|(go_at_call 97;refine(de _ N _ _ b.a.n b.a.k b.a.l1).mono ?_;rintro e h ⟨rfl,f⟩;replace b:=b.below f;clear f;obtain⟨v,y,z,A,B,C,E,F,G,H⟩:=aq b.bn;have I:=b.bt));go_ret;exact⟨rfl,b.bel⟩
theorem aey{w:A0}{g:X}{ns:List Nd}{N:Nd}{vn vk:X}(c:gn w g ns N vn vk)(d:N.k=22):
  A6 Y 46 #[A4 #[g],dy N vn vk] w fun e h=>e= Ax (A8 (((N.ks.length:Int)==0)&&aD N M M M M))/\A1 w.heap.size w h:=by
 obtain⟨j,o,rfl⟩:=c.t.form;obtain⟨l,p,rfl⟩:=c.n.form;obtain⟨m,q,rfl⟩:=c.k.form;have b:=St.start c;have r:=c.lx;have i:A9 (N.x.size<=1100000):=by show _<=_;omega
 clear c;have s:=ci d;have u:=kH d 22 rfl;clear d;cases t0:((N.ks.length:Int)==0)
 case' true=>
  cases t1:aD N M M M M
 all_goals
  unfold dy;go_in;go_wp2_with (first|(go_at_call 97;refine(de _ N _ _ b.a.n b.a.k b.a.l1).mono ?_;rintro e h ⟨rfl,f⟩;replace b:=b.below f;clear f;obtain⟨v,y,z,A,B,C,E,F,G,H⟩:=aq b.bn;have I:=b.bt));go_ret;exact⟨rfl,b.bel⟩
theorem aez{w:A0}{g:X}{ns:List Nd}{N:Nd}{vn vk:X}(c:gn w g ns N vn vk)(d:N.k=27):
  A6 Y 46 #[A4 #[g],dy N vn vk] w fun e h=>e= Ax (A8 (((N.ks.length:Int)==0)&&aD N M M M M))/\A1 w.heap.size w h:=by
 obtain⟨j,o,rfl⟩:=c.t.form;obtain⟨l,p,rfl⟩:=c.n.form;obtain⟨m,q,rfl⟩:=c.k.form;have b:=St.start c;have r:=c.lx;have i:A9 (N.x.size<=1100000):=by show _<=_;omega
 clear c;have s:=ci d;have u:=kH d 27 rfl;clear d;cases t0:((N.ks.length:Int)==0)
 case' true=>
  cases t1:aD N M M M M
 all_goals
  unfold dy;go_in;go_wp2_with (first|(go_at_call 97;refine(de _ N _ _ b.a.n b.a.k b.a.l1).mono ?_;rintro e h ⟨rfl,f⟩;replace b:=b.below f;clear f;obtain⟨v,y,z,A,B,C,E,F,G,H⟩:=aq b.bn;have I:=b.bt));go_ret;exact⟨rfl,b.bel⟩
theorem aeA{w:A0}{g:X}{ns:List Nd}{N:Nd}{vn vk:X}(c:gn w g ns N vn vk)(d:N.k=23):
  A6 Y 46 #[A4 #[g],dy N vn vk] w fun e h=>e= Ax (A8 (((N.ks.length:Int)==0)&&aD N M U M M))/\A1 w.heap.size w h:=by
 obtain⟨j,o,rfl⟩:=c.t.form;obtain⟨l,p,rfl⟩:=c.n.form;obtain⟨m,q,rfl⟩:=c.k.form;have b:=St.start c;have r:=c.lx;have i:A9 (N.x.size<=1100000):=by show _<=_;omega
 clear c;have s:=ci d;have u:=kH d 23 rfl;clear d;cases t0:((N.ks.length:Int)==0)
 case' true=>
  cases t1:aD N M U M M
 all_goals
  unfold dy;go_in;go_wp2_with (first|(go_at_call 97;refine(nc _ N _ _ b.a.n b.a.k b.a.l1).mono ?_;rintro e h ⟨rfl,f⟩;replace b:=b.below f;clear f;obtain⟨v,y,z,A,B,C,E,F,G,H⟩:=aq b.bn;have I:=b.bt));go_ret;exact⟨rfl,b.bel⟩
theorem aeB{w:A0}{h:X}{ns:List Nd}{N:Nd}{vn vk:X}(c:gn w h ns N vn vk)(f:N.k=24):
  A6 Y 46 #[A4 #[h],dy N vn vk] w fun e g=>e= Ax (A8 (((N.ks.length:Int)==0)&&aD N M M U M&&fok N.x))/\A1 w.heap.size w g:=by
 obtain⟨z,C,rfl⟩:=c.t.form;obtain⟨A,E,rfl⟩:=c.n.form;obtain⟨B,F,rfl⟩:=c.k.form;have b:=St.start c;have G:=c.lx;have i:A9 (N.x.size<=1100000):=by show _<=_;omega
 clear c;have H:=ci f;have I:=kH f 24 rfl;clear f;cases t0:((N.ks.length:Int)==0)
 case' true=>
  cases t1:aD N M M U M
  case' true=>
   cases t2:fok N.x
 all_goals
  unfold dy;go_in;go_wp2_with (first|(go_at_call 97;refine(ng _ N _ _ b.a.n b.a.k b.a.l1).mono ?_;rintro e g ⟨rfl,d⟩;replace b:=b.below d;clear d;obtain⟨j,l,m,o,p,q,r,s,u,v⟩:=aq b.bn;have y:=b.bt)|(go_at_call 101;refine(Gm N.x i.out _).mono ?_;rintro e g ⟨rfl,d⟩;replace b:=b.below d;clear d;obtain⟨j,l,m,o,p,q,r,s,u,v⟩:=aq b.bn;have y:=b.bt));go_ret;exact⟨rfl,b.bel⟩
theorem aeC{w:A0}{g:X}{ns:List Nd}{N:Nd}{vn vk:X}(c:gn w g ns N vn vk)(d:N.k=25):
  A6 Y 46 #[A4 #[g],dy N vn vk] w fun e h=>e= Ax (A8 (((N.ks.length:Int)==0)&&aD N M M U M&&decide ((N.x.size:Int)<=4000)))/\A1 w.heap.size w h:=by
 obtain⟨j,o,rfl⟩:=c.t.form;obtain⟨l,p,rfl⟩:=c.n.form;obtain⟨m,q,rfl⟩:=c.k.form;have b:=St.start c;have r:=c.lx;have i:A9 (N.x.size<=1100000):=by show _<=_;omega
 clear c;have s:=ci d;have u:=kH d 25 rfl;clear d;cases t0:((N.ks.length:Int)==0)
 case' true=>
  cases t1:aD N M M U M
  case' true=>
   cases t2:decide ((N.x.size:Int)<=4000)
 all_goals
  unfold dy;go_in;go_wp2_with (first|(go_at_call 97;refine(ng _ N _ _ b.a.n b.a.k b.a.l1).mono ?_;rintro e h ⟨rfl,f⟩;replace b:=b.below f;clear f;obtain⟨v,y,z,A,B,C,E,F,G,H⟩:=aq b.bn;have I:=b.bt));go_ret;exact⟨rfl,b.bel⟩
theorem aeD{w:A0}{h:X}{ns:List Nd}{N:Nd}{vn vk:X}(c:gn w h ns N vn vk)(f:N.k=26):
  A6 Y 46 #[A4 #[h],dy N vn vk] w fun e g=>e= Ax (A8 (((N.ks.length:Int)==0)&&aD N M M U M&&jo N.x))/\A1 w.heap.size w g:=by
 obtain⟨z,C,rfl⟩:=c.t.form;obtain⟨A,E,rfl⟩:=c.n.form;obtain⟨B,F,rfl⟩:=c.k.form;have b:=St.start c;have G:=c.lx;have i:A9 (N.x.size<=1100000):=by show _<=_;omega
 clear c;have H:=ci f;have I:=kH f 26 rfl;clear f;cases t0:((N.ks.length:Int)==0)
 case' true=>
  cases t1:aD N M M U M
  case' true=>
   cases t2:jo N.x
 all_goals
  unfold dy;go_in;go_wp2_with (first|(go_at_call 97;refine(ng _ N _ _ b.a.n b.a.k b.a.l1).mono ?_;rintro e g ⟨rfl,d⟩;replace b:=b.below d;clear d;obtain⟨j,l,m,o,p,q,r,s,u,v⟩:=aq b.bn;have y:=b.bt)|(go_at_call 102;refine(oC N.x i.out _).mono ?_;rintro e g ⟨rfl,d⟩;replace b:=b.below d;clear d;obtain⟨j,l,m,o,p,q,r,s,u,v⟩:=aq b.bn;have y:=b.bt));go_ret;exact⟨rfl,b.bel⟩
def G8(ns:List Nd)(N:Nd):Nat->Nat->Bool
 |0,_=>U
 |f+1,j=>ja (eu ns N j)&&G8 ns N f (j+1)
structure akC (ns:List Nd) (N:Nd) (f j:Nat) (R:Bool):Prop where
 out:G8 ns N f j=R
theorem ahL{w:A0}{am:X}{ns:List Nd}{N:Nd}{vn vk:X}(h:gn w am ns N vn vk)(ak:N.k=1):
  A6 Y 45 #[A4 #[am],dy N vn vk] w fun e o=>e= Ax (A8 (G8 ns N N.ks.length 0&&aD N M M M M))/\A1 w.heap.size w o:=by
 obtain⟨H,K,rfl⟩:=h.t.form;obtain⟨I,L,rfl⟩:=h.n.form;obtain⟨J,af,rfl⟩:=h.k.form;have b:=St.start h;have a5:=h.l2;clear h;have a6:(N.k==1)=U:=by rw[ak];rfl
 clear ak;obtain⟨p,q⟩:=aA (G8 ns N N.ks.length 0);rw[q];have ao:akC ns N N.ks.length 0 p:=⟨q⟩;clear q;unfold dy;go_in;go_wp2_with fail;generalize (w.alloc (A2 #[Z H ns.length K] 26)).alloc (A2 #[O Q N.k,O Q N.f,O Q N.t,O Q N.l,O Q N.op,O Q N.n,V N.x,Z I N.nm.length L,Z J N.ks.length af] 36)=a0 at b⊢;go_loopw [6,18] (fun _ r wr=>∃(c:Nat),r= O Q c/\c<=N.ks.length/\akC ns N (N.ks.length-c) c p/\St w (Z H ns.length K) ns N (Z I N.nm.length L) (Z J N.ks.length af) wr) (fun _ r _=>N.ks.length-(A3 r).toNat)
 case atStart=>exact⟨0,rfl,by omega,ao,b⟩
 case round=>
  clear b;obtain⟨c,rfl,a4,an,b⟩:=hrel;obtain⟨s,u,v,y,z,A,B,C,E,F⟩:=aq b.bn;have G:=b.bt;have d:=an.out;by_cases av:c<N.ks.length
  ·rw[show N.ks.length-c=(N.ks.length-(c+1))+1 by omega,G8]at d;have ap:(c:Int)<(N.ks.length:Int):=by omega
   have j:=lg b.a c av;unfold dy at j;generalize eu ns N c=al at d j;have m:=fun w=>zK al w;cases hx:ja al with
   |false=>
    rw[hx,eG]at d;rw[hx]at m;have i:=aj d;clear d hx;go_wp2_with (first|(go_at_call 96;refine j.mono ?_;rintro e o ⟨rfl,g⟩;replace b:=b.below g;clear g;obtain⟨s,u,v,y,z,A,B,C,E,F⟩:=aq b.bn;have G:=b.bt)|(go_at_call 44;refine fc (m _) ?_));go_ret;exact⟨by rw[<-i.out];rfl,b.bel⟩
   |true=>
    rw[hx,fC]at d;rw[hx]at m;have i:akC ns N (N.ks.length-(c+1)) (c+1) p:=⟨d⟩;clear d hx;go_wp2_with (first|(go_at_call 96;refine j.mono ?_;rintro e o ⟨rfl,g⟩;replace b:=b.below g;clear g;obtain⟨s,u,v,y,z,A,B,C,E,F⟩:=aq b.bn;have G:=b.bt)|(go_at_call 44;refine fc (m _) ?_));exact⟨⟨c+1,by go_num,by omega,i,b⟩,by simp[A3];omega⟩
  ·rw[show N.ks.length-c=0 by omega,G8]at d;have i:=aj d;have ap:¬(c:Int)<(N.ks.length:Int):=by omega
   clear d;go_wp2_with (go_at_call 97;refine(de _ N _ _ b.a.n b.a.k b.a.l1).mono ?_;rintro e o ⟨rfl,g⟩;replace b:=b.below g;clear g;obtain⟨s,u,v,y,z,A,B,C,E,F⟩:=aq b.bn;have G:=b.bt);go_ret;exact⟨by rw[<-i.out];rfl,b.bel⟩
def stB(ns:List Nd)(N:Nd):Bool:=
 if N.k=1 then(G8 ns N N.ks.length 0&&aD N M M M M)
 else if N.k=2 then(aD N M M M U&&ez N 1 200&&iF ns N N.ks.length 0)
 else if N.k=3 then(aD N M M M U&&ez N 1 1&&((N.ks.length:Int)==1)&&iF ns N 1 0)
 else if N.k=4 then(aD N M M M U&&ez N 1 1&&((N.ks.length:Int)==1)&&(eu ns N 0==36))
 else if N.k=5 then(aD N M U M M&&(decide (1<=N.n/\N.n<(N.ks.length:Int))&&(C7 ns N N.n.toNat 0&&iF ns N (N.ks.length-N.n.toNat) N.n.toNat)))
 else if N.k=6 then(aD N M M M M&&((N.ks.length:Int)==1)&&(eu ns N 0==34))
 else if N.k=7 then(aD N M M M M&&(decide (2<=N.ks.length/\N.ks.length<=3)&&(iF ns N 1 0&&(!(eu ns N 1 !=1)&&((N.ks.length:Int)==2||(eu ns N 2==1||eu ns N 2==7))))))
 else if N.k=8 then(aD N M M M M&&((N.ks.length:Int)==2)&&iF ns N 1 0&&(eu ns N 1==1))
 else if N.k=9 then(aD N M M M U&&(ez N 1 1&&(((N.ks.length:Int)==3||(N.ks.length:Int)==4)&&(iF ns N (N.ks.length-1) 0&&(eu ns N (N.ks.length-1)==1)))))
 else if N.k=10 then(aD N M M M U&&ez N 1 200&&((N.ks.length:Int)==2)&&iF ns N 1 0&&(eu ns N 1==1))
 else if N.k=11 then(aD N M M M M&&((N.ks.length:Int)==0))
 else if N.k=12 then(aD N M M M M&&((N.ks.length:Int)==0))
 else if N.k=13 then(aD N M M M M&&iF ns N N.ks.length 0)
 else if N.k=14 then(aD N M M M U&&ez N 1 2&&((N.ks.length:Int)==2)&&(eu ns N 0==1)&&(eu ns N 1==1))
 else if N.k=15 then(aD N M M M M&&((N.ks.length:Int)==1)&&iF ns N 1 0)
 else if N.k=16 then(aD N M M M M&&((N.ks.length:Int)==1)&&(eu ns N 0==34))
 else M
def jp(ns:List Nd)(N:Nd):Bool:=
 if N.k=20 then(((N.ks.length:Int)==0)&&aD N M M M M)
 else if N.k=21 then(((N.ks.length:Int)==0)&&aD N M M M M)
 else if N.k=22 then(((N.ks.length:Int)==0)&&aD N M M M M)
 else if N.k=27 then(((N.ks.length:Int)==0)&&aD N M M M M)
 else if N.k=23 then(((N.ks.length:Int)==0)&&aD N M U M M)
 else if N.k=24 then(((N.ks.length:Int)==0)&&aD N M M U M&&fok N.x)
 else if N.k=25 then(((N.ks.length:Int)==0)&&aD N M M U M&&decide ((N.x.size:Int)<=4000))
 else if N.k=26 then(((N.ks.length:Int)==0)&&aD N M M U M&&jo N.x)
 else if N.k=28 then(((N.ks.length:Int)==2)&&iF ns N 2 0&&aD N M M M M)
 else if N.k=29 then(((N.ks.length:Int)==2)&&iF ns N 2 0&&aD N M M M M)
 else if N.k=32 then(((N.ks.length:Int)==2)&&iF ns N 2 0&&(eu ns N 0 !=27)&&aD N M M M M)
 else if N.k=30 then(((N.ks.length:Int)==1)&&iF ns N 1 0&&aD N U M M M&&decide ((19:Int)<=N.op)&&decide (N.op<=22))
 else if N.k=31 then(((N.ks.length:Int)==2)&&iF ns N 2 0&&aD N U M M M&&decide ((1:Int)<=N.op)&&decide (N.op<=18))
 else if N.k=33 then(((N.ks.length:Int)==1)&&iF ns N 1 0&&(eu ns N 0 !=27)&&aD N M M U M&&jo N.x)
 else if N.k=34 then(decide ((1:Int)<=(N.ks.length:Int))&&iF ns N N.ks.length 0&&(eu ns N 0 !=27)&&aD N M M M M)
 else if N.k=35 then(Gp ns N N.ks.length 0&&aD N M M M M)
 else if N.k=36 then(((N.ks.length:Int)==1)&&(eu ns N 0==1)&&aD N U M M U&&ez N 0 200&&(N.op==0||N.op==1))
 else if N.k=37 then(((N.ks.length:Int)==1)&&(eu ns N 0==34||eu ns N 0==27)&&aD N M M M M)
 else if N.k=40 then(((N.ks.length:Int)==1)&&iF ns N 1 0&&aD N M M M M)
 else if N.k=41 then(((N.ks.length:Int)==2)&&iF ns N 2 0&&aD N M M M M)
 else if N.k=42 then(((N.ks.length:Int)==1)&&iF ns N 1 0&&aD N M M U M&&jo N.x)
 else M
theorem yw{w:A0}{u:X}{ns:List Nd}{N:Nd}{vn vk:X}(a:gn w u ns N vn vk)(h:ja N.k=U):
  A6 Y 45 #[A4 #[u],dy N vn vk] w fun e v=>e= Ax (A8 (stB ns N))/\A1 w.heap.size w v:=by
 unfold stB;by_cases b:N.k=1
 ·rw[ab b];exact ahL a b
 rw[aa b];by_cases m:N.k=2
 ·rw[ab m];exact ahb a m
 rw[aa m];by_cases n:N.k=3
 ·rw[ab n];exact ag4 a n
 rw[aa n];by_cases o:N.k=4
 ·rw[ab o];exact ahc a o
 rw[aa o];by_cases p:N.k=5
 ·rw[ab p];exact agK a p
 rw[aa p];by_cases q:N.k=6
 ·rw[ab q];exact ahd a q
 rw[aa q];by_cases r:N.k=7
 ·rw[ab r];exact ag6 a r
 rw[aa r];by_cases s:N.k=8
 ·rw[ab s];exact ag5 a s
 rw[aa s];by_cases t:N.k=9
 ·rw[ab t];exact ahi a t
 rw[aa t];by_cases c:N.k=10
 ·rw[ab c];exact adn a c
 rw[aa c];by_cases d:N.k=11
 ·rw[ab d];exact adp a d
 rw[aa d];by_cases f:N.k=12
 ·rw[ab f];exact adq a f
 rw[aa f];by_cases g:N.k=13
 ·rw[ab g];exact ado a g
 rw[aa g];by_cases i:N.k=14
 ·rw[ab i];exact adr a i
 rw[aa i];by_cases j:N.k=15
 ·rw[ab j];exact ads a j
 rw[aa j];by_cases l:N.k=16
 ·rw[ab l];exact adG a l
 rw[aa l];exact absurd (aH h) (by omega)
theorem xx{w:A0}{z:X}{ns:List Nd}{N:Nd}{vn vk:X}(a:gn w z ns N vn vk):
  A6 Y 46 #[A4 #[z],dy N vn vk] w fun e B=>e= Ax (A8 (jp ns N))/\A1 w.heap.size w B:=by
 unfold jp;by_cases b:N.k=20
 ·rw[ab b];exact aew a b
 rw[aa b];by_cases c:N.k=21
 ·rw[ab c];exact aex a c
 rw[aa c];by_cases d:N.k=22
 ·rw[ab d];exact aey a d
 rw[aa d];by_cases j:N.k=27
 ·rw[ab j];exact aez a j
 rw[aa j];by_cases f:N.k=23
 ·rw[ab f];exact aeA a f
 rw[aa f];by_cases g:N.k=24
 ·rw[ab g];exact aeB a g
 rw[aa g];by_cases h:N.k=25
 ·rw[ab h];exact aeC a h
 rw[aa h];by_cases i:N.k=26
 ·rw[ab i];exact aeD a i
 rw[aa i];by_cases l:N.k=28
 ·rw[ab l];exact ac6 a l
 rw[aa l];by_cases m:N.k=29
 ·rw[ab m];exact ac7 a m
 rw[aa m];by_cases p:N.k=32
 ·rw[ab p];exact ac8 a p
 rw[aa p];by_cases n:N.k=30
 ·rw[ab n];exact ac9 a n
 rw[aa n];by_cases o:N.k=31
 ·rw[ab o];exact ada a o
 rw[aa o];by_cases q:N.k=33
 ·rw[ab q];exact adc a q
 rw[aa q];by_cases r:N.k=34
 ·rw[ab r];exact ade a r
 rw[aa r];by_cases s:N.k=35
 ·rw[ab s];exact adb a s
 rw[aa s];by_cases t:N.k=36
 ·rw[ab t];exact adD a t
 rw[aa t];by_cases u:N.k=37
 ·rw[ab u];exact adE a u
 rw[aa u];by_cases v:N.k=40
 ·rw[ab v];exact adk a v
 rw[aa v];by_cases x:N.k=41
 ·rw[ab x];exact adl a x
 rw[aa x];by_cases y:N.k=42
 ·rw[ab y];exact adm a y
 rw[aa y];refine agJ a fun C A=>?_;simp only[KL,jI,lE,lF]at A;omega
def FE(l:List Int)(i:Int):Nat->Nat->Bool
 |0,_=>U
 |f+1,j=>decide (0<=l.getD j 0/\l.getD j 0<i)&&FE l i f (j+1)
structure akD (l:List Int) (i:Int) (f j:Nat) (R:Bool):Prop where
 out:FE l i f j=R
theorem wo(l:List Int)(i:Int):∀(f j:Nat),FE l i f j=U->∀k,j<=k->k<j+f->0<=l.getD k 0/\l.getD k 0<i
 |0,j,_,k,a,b=>by omega
 |f+1,j,h,k,a,b=>by
  rw[FE,cL]at h;rcases jg a with rfl|h3
  ·exact aH h.1
  ·exact wo l i f (j+1) h.2 k h3 (by omega)
theorem akE{ns:List Nd}{N:Nd}{i:Nat}(h:FE N.ks i N.ks.length 0=U)(d:i<=ns.length):wL ns N:=by
 refine⟨fun e b=>?_⟩;obtain⟨c,a,rfl⟩:=fL b;have:=wo N.ks i N.ks.length 0 h c (by omega) (by omega);rw[bc,aE a]at this;simp only[ii]at this;omega
def AH(N:Nd):Bool:=decide (0<=N.f/\N.f<=N.t/\0<=N.l/\N.ks.length<=200)
def mq(ns:List Nd)(N:Nd):Bool:=if ja N.k=U then stB ns N else jp ns N
def iJ(ns:List Nd)(i:Nat)(N:Nd):Bool:=AH N&&(FE N.ks i N.ks.length 0&&mq ns N)
structure iy (N:Nd):Prop where
 l1:N.nm.length<=1048576
 l2:N.ks.length<=1048576
 lx:N.x.size<=1048576
 ls:∀s∈N.nm,s.size<=1048576
theorem EG(w:A0)(am:X)(ns:List Nd)(i:Nat)(N:Nd)(z:co w am ns)(bk:ns.length<=1048576)(y:ns[i]?=T N)(hS:iy N):
  A6 Y 22 #[A4 #[am],O Q i] w fun e bn=>e= Ax (A8 (iJ ns i N))/\A1 w.heap.size w bn:=by
 obtain⟨bp,m,rfl⟩:=z.form;obtain⟨r,rfl,b3,b2,ba⟩:=z.get y;have bf:i<ns.length:=by rcases bv i ns.length with h|h;exact h;rw[fm h]at y;cases y
 have bx:(i:Int)<(ns.length:Int):=by omega
 have bw:(0:Int)<=(i:Int):=by omega
 obtain⟨ak,av,a0,a4,a5,a6,a7,a8,a9,G,F⟩:=ba;obtain⟨g,o,rfl⟩:=G.form;obtain⟨j,p,rfl⟩:=F.form;have b:A1 w.heap.size w ((w.alloc (A2 #[Z (T r) ns.length m] 26)).alloc (A2 #[O Q N.k,O Q N.f,O Q N.t,O Q N.l,O Q N.op,O Q N.n,V N.x,Z g N.nm.length o,Z j N.ks.length p] 36)):=((ai _ w).alloc (ag _) _).alloc (by simp) _;have b0:=vy ak;have u:=aj hS;have v:=jn z G F;have bE:=hS.l2;have bd:((w.alloc (A2 #[Z (T r) ns.length m] 26)).alloc (A2 #[O Q N.k,O Q N.f,O Q N.t,O Q N.l,O Q N.op,O Q N.n,V N.x,Z g N.nm.length o,Z j N.ks.length p] 36)).cell? ⟨w.heap.size,0,A5⟩=T (Z (T r) ns.length m):=by
  rw[ay _ _ _ _ _ _ ((dt _ _ _ (by simp)).trans (ar w _))];rfl
 have al:dr (w.heap.size+1) ((w.alloc (A2 #[Z (T r) ns.length m] 26)).alloc (A2 #[O Q N.k,O Q N.f,O Q N.t,O Q N.l,O Q N.op,O Q N.n,V N.x,Z g N.nm.length o,Z j N.ks.length p] 36)) 36 N (Z g N.nm.length o) (Z j N.ks.length p):=by
  have:=ar (w.alloc (A2 #[Z (T r) ns.length m] 26)) (A2 #[O Q N.k,O Q N.f,O Q N.t,O Q N.l,O Q N.op,O Q N.n,V N.x,Z g N.nm.length o,Z j N.ks.length p] 36);rw[bu]at this;exact this
 clear z G F hS y;unfold iJ;by_cases bq:N.f<0
 ·rw[show AH N=M from az (by omega)];go_in;go_wp2;all_goals (go_ret;exact⟨rfl,b⟩)
 by_cases br:N.t<N.f
 ·rw[show AH N=M from az (by omega)];go_in;go_wp2;all_goals (go_ret;exact⟨rfl,b⟩)
 by_cases bs:N.l<0
 ·rw[show AH N=M from az (by omega)];go_in;go_wp2;all_goals (go_ret;exact⟨rfl,b⟩)
 by_cases bt:(200:Int)<(N.ks.length:Int)
 ·rw[show AH N=M from az (by omega)];go_in;go_wp2;all_goals (go_ret;exact⟨rfl,b⟩)
 rw[show AH N=U from bg (by omega)];obtain⟨af,hS⟩:=aA (mq ns N);rw[hS];have L:=aj hS;clear hS;obtain⟨B,C⟩:=aA (FE N.ks i N.ks.length 0);rw[C];have K:akD N.ks i N.ks.length 0 B:=⟨C⟩;clear C;go_in;go_wp2_with fail;generalize (w.alloc (A2 #[Z (T r) ns.length m] 26)).alloc (A2 #[O Q N.k,O Q N.f,O Q N.t,O Q N.l,O Q N.op,O Q N.n,V N.x,Z g N.nm.length o,Z j N.ks.length p] 36)=ap at b bd al⊢;clear ak av a0 a4 a5 a6 a7 a8 a9;go_loop [7,37] (fun _ J=>∃a:Nat,J= O Q a/\a<=N.ks.length/\akD N.ks i (N.ks.length-a) a B) (fun _ J=>N.ks.length-(A3 J).toNat)
 case atStart=>exact⟨0,rfl,by omega,K⟩
 case round=>
  obtain⟨a,rfl,bA,ao⟩:=hrel;have c:=ao.out;by_cases bl:a<N.ks.length
  ·have I:N.ks[a]?=T N.ks[a]:=aE bl;obtain⟨b1,rfl,bb⟩:=(v.out.2.2.below b).get I;rw[show N.ks.length-a=(N.ks.length-(a+1))+1 by omega,FE,bc,I,ii]at c;have bj:(a:Int)<(N.ks.length:Int):=by omega
   have bD:(0:Int)<=(a:Int):=by omega
   generalize N.ks[a]=an at c bb;clear I;by_cases z0:an<0
   ·rw[az (by omega),eG]at c;have d:=aj c;clear c;go_wp2_with fail;go_ret;exact⟨by rw[<-d.out];rfl,b⟩
   by_cases cf:(i:Int)<=an
   ·rw[az (by omega),eG]at c;have d:=aj c;clear c;go_wp2_with fail;go_ret;exact⟨by rw[<-d.out];rfl,b⟩
   rw[bg (by omega),fC]at c;have d:akD N.ks i (N.ks.length-(a+1)) (a+1) B:=⟨c⟩;clear c;go_wp2_with fail;go_round
   case rel=>exact⟨a+1,by go_num,by omega,d⟩
   case measure=>simp[A3];omega
  ·rw[show N.ks.length-a=0 by omega,FE]at c;have d:=aj c;have bj:¬(a:Int)<(N.ks.length:Int):=by omega
   have H:wL ns N:=akE (by rw[K.out,<-d.out]) (gy bf);have s:gn ap (Z (T r) ns.length m) ns N (Z g N.nm.length o) (Z j N.ks.length p):=⟨v.out.1.below b,v.out.2.1.below b,v.out.2.2.below b,H,bk,u.out.l1,u.out.l2,u.out.lx,u.out.ls⟩;obtain⟨b4,b5,b6,b7,b8,b9,ca,cb,cc,ce⟩:=aq al;have A:=fun w=>zK N.k w;clear c;cases hx:ja N.k with
   |true=>
    have q:=yw s hx;rw[hx]at A;rw[show stB ns N=af by rw[<-L.out];unfold mq;rw[ab hx]]at q;unfold dy at q;clear hx s H;go_wp2_with (first|(go_at_call 44;refine fc (A _) ?_)|(go_at_call 45;refine q.mono ?_;rintro e bo ⟨rfl,E⟩));go_ret;exact⟨by rw[<-d.out];rfl,b.trans (E.mono b.size)⟩
   |false=>
    have q:=xx s;rw[hx]at A;rw[show jp ns N=af by rw[<-L.out];unfold mq;rw[aa (by rw[hx];simp)]]at q;unfold dy at q;clear hx s H;go_wp2_with (first|(go_at_call 44;refine fc (A _) ?_)|(go_at_call 46;refine q.mono ?_;rintro e bo ⟨rfl,E⟩));go_ret;exact⟨by rw[<-d.out];rfl,b.trans (E.mono b.size)⟩
def gp(p:Nat->Bool):Nat->Nat->Option Nat
 |0,_=>A5
 |f+1,j=>if p j=U then T j else gp p f (j+1)
structure uB (p:Nat->Bool) (f j:Nat) (R:Option Nat):Prop where
 out:gp p f j=R
def Io(i:Nat):List Int->List Int->List Int
 |[],D=>D
 |k::r,D=>Io i r (D.set k.toNat (D.getD i 0+1))
def dpN(ns:List Nd):Nat->List Int->List Int
 |0,D=>D
 |m+1,D=>dpN ns m (Io m (ns.getD m nI).ks D)
def Ca(ns:List Nd):List Int:=dpN ns ns.length (Br ns.length 0)
def gJ(ns:List Nd):Bool:=decide (ns.length=0\/3000<ns.length\/(ns.getD (ns.length-1) nI).k≠1)
def eC(ns:List Nd)(i:Nat):Bool:=!(iJ ns i (ns.getD i nI))
def fp(S:List Int)(i:Nat):Bool:=S.getD i 0==0
def iG(D:List Int)(i:Nat):Bool:=decide (100<D.getD i 0)
def tf4:Option Nat->Int×Int
 |some i=>(4,(i:Int))
 |none=>(0,0)
def LI(S D:List Int)(n:Nat):Option Nat->Int×Int
 |some i=>(3,(i:Int))
 |none=>if S.getD (n-1) 0≠(n:Int) then(3,(n:Int)-1) else tf4 (gp (iG D) n 0)
def tf2(S D:List Int)(n:Nat):Option Nat->Int×Int
 |some i=>(2,(i:Int))
 |none=>LI S D n (gp (fp S) n 0)
def cF(ns:List Nd):Int×Int:=if gJ ns=U then(1,0) else tf2 (gC ns) (Ca ns) ns.length (gp (eC ns) ns.length 0)
def ab3(n:Nat)(D:List Int):Prop:=D.length=n/\∀(a:Nat) z,D[a]?=T z->0<=z/\z<=(n:Int)-1-a
theorem ab3.set{n:Nat}{D:List Int}(h:ab3 n D)(i q:Nat)(g:i<n)(j:q<i):ab3 n (D.set q (D.getD i 0+1)):=by
 obtain⟨e,b⟩:=h;refine⟨by simp[e],fun d f a=>?_⟩;by_cases c:q=d
 ·subst c;rw[List.getElem?_set_self (by omega)]at a;obtain rfl:=db a;rw[bc,aE (by omega)];have:=b i D[i] (aE (by omega));simp;omega
 ·rw[List.getElem?_set_ne c]at a;exact b d f a
theorem ny{p:Nat->Bool}:∀{f j:Nat},gp p f j=A5->∀k,j<=k->k<j+f->p k=M
 |0,j,_,k,a,b=>by omega
 |f+1,j,h,k,a,b=>by
  rw[gp]at h;split at h
  ·cases h
  ·rename_i c;rcases jg a with rfl|g
   ·simpa using c
   ·exact ny h k g (by omega)
def jC(b:Nat)(a:A0)(c n:Int):Prop:=a.heap[b]?=T (A2 #[O Q c,O Q n] 48 (0,0))
theorem jD{b:Nat}{a:A0}{c n:Int}(h:jC b a c n):a.cell? ⟨b,0,A5⟩=T (O Q c)/\a.cell? ⟨b,1,A5⟩=T (O Q n)/\∀j,a.frozen? ⟨b,j,A5⟩=M:=by
 unfold jC at h;exact⟨by rw[ay _ _ _ _ _ _ h];rfl,by rw[ay _ _ _ _ _ _ h];rfl,fun j=>dI _ _ _ _ _ h⟩
theorem qo{b:Nat}{a:A0}{c n:Int}(h:jC b a c n)(d e:Int):jC b ((a.setCell ⟨b,0,A5⟩ (O Q d)).setCell ⟨b,1,A5⟩ (O Q e)) d e:=cE _ b 1 _ _ _ (cE _ b 0 _ _ _ h)
theorem jC.below{b:Nat}{a d:A0}{c n:Int}(h:jC b a c n)(e:A1 a.heap.size a d):jC b d c n:=(e.block _ (au h)).trans h
theorem G9(w:A0)(v:X)(ns:List Nd)(h:co w v ns)(u:ns.length<=1048576)(o:gJ ns=U):
  A6 Y 13 #[.agg #[v]] w fun e E=>e= .returned (.agg #[.int .i64 1,.int .i64 0])/\A1 w.heap.size w E:=by
 obtain⟨F,G,rfl⟩:=h.form;have i:∀b c,A1 w.heap.size w ((w.alloc b).alloc c):=fun b c=>((ai _ w).alloc (ag _) b).alloc (by simp) c;have r:∀b (f:Array X) (j:TypeId),((w.alloc b).alloc (.cells f j)).heap[w.heap.size+1]?=T (.cells f j (0,0)):=fun b f j=>by
  have:=ar (w.alloc b) (.cells f j);rw[bu]at this;exact this
 have p:=aH o;by_cases d:ns.length=0
 ·rw[d];go_in;go_wp2;exact bB (ir rfl _ _ (w.heap.size+1) _ _ _ _ rfl (r _ _ _) Tryz.underlying48 rfl (by kernel_rfl)) rfl ⟨rfl,i _ _⟩
 by_cases g:3000<ns.length
 ·have A:(3000:Int)<(ns.length:Int):=by omega
  have z:¬(ns.length:Int)=0:=by omega
  generalize ns.length=s at z A u⊢;clear h o p d g;go_in;go_wp2;exact bB (ir rfl _ _ (w.heap.size+1) _ _ _ _ rfl (r _ _ _) Tryz.underlying48 rfl (by kernel_rfl)) rfl ⟨rfl,i _ _⟩
 ·have B:(ns.getD (ns.length-1) nI).k≠1:=by rcases p with e|e|e;exact absurd e d;exact absurd e g;exact e
  have q:ns.length-1<ns.length:=by omega
  obtain⟨l,n⟩:∃l,ns[ns.length-1]?=T l:=⟨_,aE q⟩;rw[bc,n,ii]at B;obtain⟨y,rfl,ao,an,t⟩:=h.get n;have m:=t.c0;obtain⟨s,x⟩:=aA ns.length;rw[x]at m d g u q⊢;obtain⟨a,C⟩:∃a:Nat,s=a+1:=⟨s-1,by omega⟩;subst C;rw[mG]at m;have J:((a+1:Nat):Int)-1=(a:Int):=by omega
  have af:¬((a+1:Nat):Int)=0:=by omega
  have ak:¬(3000:Int)<((a+1:Nat):Int):=by omega
  have al:(a:Int)<((a+1:Nat):Int):=by omega
  have L:(0:Int)<=(a:Int):=by omega
  have H:(((a:Int)+1)==0)=M:=by rw[aL];omega
  have I:decide ((3000:Int)<(a:Int)+1)=M:=az (by omega);have am:(a:Int)<(a:Int)+1:=by omega
  have K:∀b c,((w.alloc b).alloc c).cell? (y.add (a*9))=T (.int .i64 l.k):=fun b c=>ah (i b c) m;clear h o p d g n t x q;go_in;go_wp2;exact bB (ir rfl _ _ (w.heap.size+1) _ _ _ _ rfl (r _ _ _) Tryz.underlying48 rfl (by kernel_rfl)) rfl ⟨rfl,i _ _⟩
structure Ha (w:A0) (v:X) (W:A0):Prop where
 tb:W.heap[w.heap.size]?=T (.cells #[v] 26 (0,0))
 fb:jC (w.heap.size+1) W 0 0
 bl:A1 w.heap.size w W
theorem Ha.below{w:A0}{v:X}{a c:A0}(h:Ha w v a)(b:A1 a.heap.size a c):Ha w v c:=
 ⟨(b.block _ (au h.tb)).trans h.tb,h.fb.below b,h.bl.trans (b.mono h.bl.size)⟩
structure akF (w:A0) (v:X) (gd n:Nat) (ns:List Nd) (t:Nat) (D:List Int) (W:A0):Prop where
 tk:Ha w v W
 row:W.ownsRow w.heap.size 3 1 (.slice (T ⟨gd,0,A5⟩) n n) n (D.map (B0 .i64))
 ok:ab3 n D
 rest:dpN ns t D=Ca ns
structure akG (w:A0) (v:X) (gd n t:Nat) (ks D:List Int) (j:Nat) (E:List Int) (W:A0):Prop where
 tk:Ha w v W
 row:W.ownsRow w.heap.size 3 1 (.slice (T ⟨gd,0,A5⟩) n n) n (E.map (B0 .i64))
 ok:ab3 n E
 rest:Io t (ks.drop j) E=Io t ks D
theorem cK{b:Nat}{a:A0}{v:X}{t:TypeId}(h:a.heap[b]?=T (A2 #[v] t (0,0))):a.cell? ⟨b,0,A5⟩=T v:=by
 rw[ay _ _ _ _ _ _ h];rfl
theorem Hb(w:A0)(v:X)(ns:List Nd)(h:co w v ns)(ew:ns.length<=1048576)(d3:∀N∈ns,iy N)(b6:gJ ns=M):
  A6 Y 13 #[.agg #[v]] w fun e fo=>e= .returned (.agg #[.int .i64 (cF ns).1,.int .i64 (cF ns).2])/\A1 w.heap.size w fo:=by
 obtain⟨fz,l,rfl⟩:=h.form;have bq:=lB b6;have H:=jn h d3 b6;have c6:¬ns.length=0:=fun e=>bq (.inl e);have ek:¬3000<ns.length:=fun e=>bq (.inr (.inl e));have b2:(ns.getD (ns.length-1) nI).k=1:=by
  by_cases a9:(ns.getD (ns.length-1) nI).k=1
  ·exact a9
  ·exact absurd (.inr (.inr a9)) bq
 obtain⟨N,E⟩:∃N,ns[ns.length-1]?=T N:=⟨_,aE (by omega)⟩;rw[bc,E,ii]at b2;obtain⟨j,rfl,g8,g6,dd⟩:=h.get E;have a8:=dd.c0;rw[b2]at a8;have dc:∀ap A,A1 w.heap.size w ((w.alloc ap).alloc A):=fun ap A=>((ai _ w).alloc (ag _) ap).alloc (by simp) A;obtain⟨ao,cb⟩:=aA ns.length;obtain⟨B,hF⟩:=aA (cF ns);have q:=eH cb hF;rw[hF];rw[cb]at H a8 c6 ek⊢;obtain⟨a,eL⟩:∃a:Nat,ao=a+1:=⟨ao-1,by omega⟩;have ds:ao-1=a:=by omega
 rw[ds]at a8;have d0:(0:Int)<=(a:Int):=by omega
 have e9:¬(ao:Int)=0:=by omega
 have fg:¬(3000:Int)<(ao:Int):=by omega
 have fk:(a:Int)<(ao:Int):=by omega
 have fn:(ao:Int)-1=(a:Int):=by omega
 have f4:(((a:Int)+1)==0)=M:=by rw[aL];omega
 have f5:decide ((3000:Int)<(a:Int)+1)=M:=az (by omega);have g5:(a:Int)<(a:Int)+1:=by omega
 have ep:∀ap A,((w.alloc ap).alloc A).cell? (j.add (a*9))=T (.int .i64 1):=fun ap A=>ah (dc ap A) a8;clear h b6 bq c6 b2 E dd cb ew d3 hF ds a8 e9 fg fk fn;subst eL;go_in;go_wp2_with fail;have c5:((w.alloc (.cells #[.slice (T j) (a+1) l] 26)).alloc (.cells #[.int .i64 0,.int .i64 0] 48)).heap[w.heap.size]?=T (.cells #[.slice (T j) (a+1) l] 26 (0,0)):=(dt _ _ _ (by simp)).trans (ar w _);have cs:jC (w.heap.size+1) ((w.alloc (.cells #[.slice (T j) (a+1) l] 26)).alloc (.cells #[.int .i64 0,.int .i64 0] 48)) 0 0:=by
  have:=ar (w.alloc (.cells #[.slice (T j) (a+1) l] 26)) (.cells #[.int .i64 0,.int .i64 0] 48);rw[bu]at this;exact this
 have cr:=dc (.cells #[.slice (T j) (a+1) l] 26) (.cells #[.int .i64 0,.int .i64 0] 48);have cn:Ha w (.slice (T j) (a+1) l) ((w.alloc (.cells #[.slice (T j) (a+1) l] 26)).alloc (.cells #[.int .i64 0,.int .i64 0] 48)):=⟨c5,cs,cr⟩;generalize (w.alloc (.cells #[.slice (T j) (a+1) l] 26)).alloc (.cells #[.int .i64 0,.int .i64 0] 48)=fv at cn⊢;obtain⟨bE,b4⟩:=aA (gp (eC ns) (a+1) 0);have bA:=aj b4;have cv:uB (eC ns) (a+1-0) 0 bE:=⟨b4⟩;clear b4 c5 cs cr ep;go_loopw [39] (fun k wr=>∃b:Nat,b<=a+1/\k= .int .i64 b/\uB (eC ns) (a+1-b) b bE/\Ha w (.slice (T j) (a+1) l) wr) (fun k _=>a+1-(A3 k).toNat)
 case atStart=>exact⟨0,aG _,rfl,cv,cn⟩
 case round=>
  obtain⟨b,dj,rfl,o,y⟩:=hrel;clear cn cv;have c:=o.out;by_cases ey:b<a+1
  ·obtain⟨bk,ba⟩:=bH q.out.1 ey;have dp:(b:Int)<(a:Int)+1:=by omega
   have dn:(0:Int)<=(b:Int):=by omega
   have bw:=EG wr (.slice (T j) (a+1) l) ns b bk (H.out.1.below y.bl) (by rw[q.out.1];omega) ba (H.out.2.1 bk (dl ba));have a1:=cK y.tb;obtain⟨af,al,am⟩:=jD y.fb;rw[show a+1-b=(a+1-(b+1))+1 by omega,gp]at c;have z:eC ns b=!(iJ ns b bk):=by unfold eC;rw[bc,ba];rfl
   rw[z]at c;have bj:=aj y;cases hx:iJ ns b bk with
   |true=>
    rw[hx]at bw c;rw[aa (by decide)]at c;have bd:uB (eC ns) (a+1-(b+1)) (b+1) bE:=⟨c⟩;clear c hx z ba y o af al am;go_wp2_with (go_at_call 22;refine bw.mono ?_;rintro e J ⟨rfl,an⟩);exact⟨⟨b+1,by omega,by go_num,bd,bj.out.below an⟩,by simp[A3];omega⟩
   |false=>
    rw[hx]at bw c;rw[ab (by decide)]at c;have G:A9 (B=(2,(b:Int))):=by
     show B=(2,(b:Int));rw[<-q.out.2];unfold cF;rw[H.out.2.2,aa (by decide),q.out.1,bA.out,<-c];rfl
    clear c hx z ba y o af al am;go_wp2_with fail;refine bw.mono ?_;rintro e J ⟨rfl,an⟩;have g:=bj.out.below an;obtain⟨af,al,am⟩:=jD g.fb;have r:=aj g;clear g an;go_wp2_with fail;have g:=r.out;exact bB (ir rfl _ _ (w.heap.size+1) _ _ _ _ rfl (qo g.fb 2 b) Tryz.underlying48 rfl (by kernel_rfl)) rfl ⟨by rw[G.out],(g.bl.setCell (by simp) _).setCell (by simp) _⟩
  ·obtain rfl:b=a+1:=by omega
   rw[gH,gp]at c;have d8:=aj c.symm;have da:=ny (show gp (eC ns) (a+1) 0=A5 by rw[bA.out];exact c.symm);have a6:∀(F:Nat) N,ns[F]?=T N->∀i∈N.ks,0<=i/\i<(F:Int):=fun F N E i d=>by
    have bs:F<a+1:=by rw[<-q.out.1];exact(List.getElem?_eq_some_iff.1 E).1
    have I:=da F (aG _) (by omega);unfold eC at I;rw[bc,E,ii]at I;have b3:iJ ns F N=U:=by simpa using I
    unfold iJ at b3;have el:FE N.ks F N.ks.length 0=U:=by
     rw[cL,cL]at b3;exact b3.2.1
    obtain⟨p,cf,rfl⟩:=fL d;have:=wo N.ks F N.ks.length 0 el p (by omega) (by omega);rw[bc,aE cf]at this;simpa using this
   have cl:=GA wr (.slice (T j) (a+1) l) ns (H.out.1.below y.bl) (by rw[q.out.1];omega) (fun N E=>(H.out.2.1 N E).l2) a6;rw[q.out.1]at cl;have cy:=aj a6;have a1:=cK y.tb;have bj:=aj y;have e4:=y.bl.size;have g0:w.heap.size+1<wr.heap.size:=au y.fb;clear c da a6 y o;go_wp2_with fail;refine cl.mono ?_;rintro e J ⟨a9,rfl,cc,an⟩;have g:=bj.out.below an;obtain⟨s,hS⟩:=aA (gC ns);have c9:s.length=a+1:=by rw[<-hS,jw,q.out.1]
   rw[hS]at cc;have cB:A9 (gC ns=s/\s.length=a+1/\yu s):=⟨hS,c9,by rw[<-hS];exact uw ns (fun N E i d=>by
    obtain⟨F,bs,e⟩:=fL E;exact(cy.out F N (by rw[aE bs,e]) i d).1)⟩
   have r:=eH g cc;obtain⟨bn,bp⟩:=aA (gp (fp s) (a+1) 0);have fu:=aj bp;have bd:uB (fp s) (a+1-0) 0 bn:=⟨bp⟩;have bD:A9 (cF ns=LI s (Ca ns) (a+1) bn):=by
    show cF ns=_;unfold cF;rw[H.out.2.2,aa (by decide),q.out.1,bA.out,d8.out,hS];show LI s (Ca ns) (a+1) (gp (fp s) (a+1) 0)=_;rw[bp]
   clear hS c9 bp g cc an cl a1;go_wp2_with fail;go_loop [53] (fun k=>∃b:Nat,b<=a+1/\k= .int .i64 b/\uB (fp s) (a+1-b) b bn) (fun k=>a+1-(A3 k).toNat)
   case atStart=>exact⟨0,aG _,rfl,bd⟩
   case round=>
    obtain⟨b,gf,rfl,o⟩:=hrel;clear bd;have c:=o.out;by_cases eA:b<a+1
    ·have dp:(b:Int)<(a:Int)+1:=by omega
     have dn:(0:Int)<=(b:Int):=by omega
     obtain⟨i,d⟩:=bH cB.out.2.1 eA;have b1:J.cell? ⟨a9,b,A5⟩=T (.int .i64 i):=by rw[r.out.2.cellAt b (by omega),cA,d];rfl
     rw[show a+1-b=(a+1-(b+1))+1 by omega,gp]at c;have z:fp s b=(i==0):=by unfold fp;rw[bc,d];rfl
     rw[z]at c;by_cases bt:i=0
     ·subst bt;rw[ab (by decide)]at c;have G:A9 (B=(3,(b:Int))):=by
       show B=(3,(b:Int));rw[<-q.out.2,bD.out,<-c];rfl
      obtain⟨af,al,am⟩:=jD r.out.1.fb;clear c z d o;go_wp2_with fail;have g:=r.out.1;exact bB (ir rfl _ _ (w.heap.size+1) _ _ _ _ rfl (qo g.fb 3 b) Tryz.underlying48 rfl (by kernel_rfl)) rfl ⟨by rw[G.out],(g.bl.setCell (by simp) _).setCell (by simp) _⟩
     ·rw[aa (by simpa using bt)]at c;have bx:uB (fp s) (a+1-(b+1)) (b+1) bn:=⟨c⟩;clear c z d o;go_wp2_with fail;go_round
      case rel=>exact⟨b+1,by omega,by go_num,bx⟩
      case measure=>simp[A3];omega
    ·obtain rfl:b=a+1:=by omega
     rw[gH,gp]at c;have d9:=aj c.symm;obtain⟨i,d⟩:=bH cB.out.2.1 (show a<a+1 by omega);have b1:J.cell? ⟨a9,a,A5⟩=T (.int .i64 i):=by rw[r.out.2.cellAt a (by omega),cA,d];rfl
     have a4:s.getD a 0=i:=by rw[bc,d];rfl
     have u:=bD.out;rw[d9.out,LI,mG,a4]at u;by_cases e8:i=(a:Int)+1
     ·rw[aa (by omega)]at u;have ea:=aj u;subst e8;have a1:=cK r.out.1.tb;clear c u d a4 o;obtain⟨d0,bs,bt,e6,e7⟩:=fl pJ;have e2:=r.out.1.bl.size;go_wp2_with (at_make;refine zb _ rfl _ _ 31 rfl w.heap.size 3 d0 (.int .i64 0) 1 Tryz.underlying31 bs bt e6 .i64 .i64 _ _ (a+1) rfl rfl rfl rfl (by rw[e7];omega) (by unfold maxLen;omega) e2 ?_;intro d5 ce a5;have b7:A1 J.heap.size J d5:=⟨a5.os,a5.tape,a5.output,a5.size,fun b dj=>a5.block b dj (by simp)⟩;have ee:=ah b7 a1);rw[show(madeCells (B0 .i64 0).cells ((a+1)*1)).toList=Br (a+1) (B0 .i64 0) by rw[uJ];exact yJ _ _]at ce;have cp:akF w (.slice (T j) (a+1) l) J.heap.size (a+1) ns (a+1) (Br (a+1) 0) d5:=by
       refine⟨r.out.1.below b7,?_,⟨by simp,fun x i d=>?_⟩,?_⟩
       ·rw[List.map_replicate];exact ce
       ·rw[D1]at d;split at d
        ·obtain rfl:=db d;omega
        ·cases d
       ·unfold Ca;rw[q.out.1]
      have e3:w.heap.size+1<J.heap.size:=au r.out.1.fb;clear ce a5 b7 ee a1 b1;obtain⟨t,a4⟩:=aA J.heap.size;rw[a4]at cp e3⊢;have c2:=aj cp;clear cp a4 r bD;go_loopw [8] (fun k wr=>∃(f:Nat) (D:List Int),f<=a+1/\k= .int .i64 ((f:Int)-1)/\A9 (akF w (.slice (T j) (a+1) l) t (a+1) ns f D wr)) (fun k _=>(A3 k+1).toNat)
      case atStart=>exact⟨a+1,_,ag _,by congr 1;omega,c2⟩
      case round=>
       obtain⟨f,D,gu,rfl,n⟩:=hrel;clear c2;cases f with
       |zero=>
        have gr:¬(0:Int)<=((0:Nat):Int)-1:=by omega
        have c7:D=Ca ns:=n.out.rest;have av:=jn n.out.tk n.out.row n.out.ok.1;have u:=ea.out;rw[<-c7]at u;obtain⟨b0,b5⟩:=aA (gp (iG D) (a+1) 0);rw[b5,q.out.2]at u;have c3:=aj u;have cx:uB (iG D) (a+1-0) 0 b0:=⟨b5⟩;clear u b5 c7 n;go_wp2_with fail;go_loop [110] (fun k=>∃b:Nat,b<=a+1/\k= .int .i64 b/\uB (iG D) (a+1-b) b b0) (fun k=>a+1-(A3 k).toNat)
        case atStart=>exact⟨0,aG _,rfl,cx⟩
        case round=>
         obtain⟨b,gm,rfl,o⟩:=hrel;clear cx;have c:=o.out;by_cases eF:b<a+1
         ·have dp:(b:Int)<(a:Int)+1:=by omega
          have dn:(0:Int)<=(b:Int):=by omega
          obtain⟨i,d⟩:=bH av.out.2.2 eF;have b1:wr.cell? ⟨t,b,A5⟩=T (.int .i64 i):=by rw[av.out.2.1.cellAt b (by omega),cA,d];rfl
          rw[show a+1-b=(a+1-(b+1))+1 by omega,gp]at c;have z:iG D b=decide (100<i):=by unfold iG;rw[bc,d];rfl
          rw[z]at c;by_cases dx:100<i
          ·rw[ab (bg dx)]at c;have G:A9 (B=(4,(b:Int))):=by
            show B=(4,(b:Int));rw[c3.out,<-c];rfl
           obtain⟨af,al,am⟩:=jD av.out.1.fb;clear c z d o;go_wp2_with fail;have g:=av.out.1;exact bB (ir rfl _ _ (w.heap.size+1) _ _ _ _ rfl (qo g.fb 4 b) Tryz.underlying48 rfl (by kernel_rfl)) rfl ⟨by rw[G.out],(g.bl.setCell (by simp) _).setCell (by simp) _⟩
          ·rw[aa (by simpa using dx)]at c;have bx:uB (iG D) (a+1-(b+1)) (b+1) b0:=⟨c⟩;clear c z d o;go_wp2_with fail;go_round
           case rel=>exact⟨b+1,by omega,by go_num,bx⟩
           case measure=>simp[A3];omega
         ·obtain rfl:b=a+1:=by omega
          rw[gH,gp]at c;have G:A9 (B=(0,0)):=by
           show B=(0,0);rw[c3.out,<-c];rfl
          obtain⟨af,al,am⟩:=jD av.out.1.fb;clear c o;go_wp2_with fail;have g:=av.out.1;exact bB (ir rfl _ _ (w.heap.size+1) _ _ _ _ rfl (qo g.fb 0 0) Tryz.underlying48 rfl (by kernel_rfl)) rfl ⟨by rw[G.out],(g.bl.setCell (by simp) _).setCell (by simp) _⟩
       |succ f=>
        have eh:(((f+1:Nat)):Int)-1=(f:Int):=by omega
        rw[eh];have gz:(f:Int)<(a:Int)+1:=by omega
        have gv:(0:Int)<=(f:Int):=by omega
        obtain⟨C,a3⟩:=bH q.out.1 (show f<a+1 by omega);obtain⟨fA,en,g9,g7,b8⟩:=H.out.1.get a3;obtain rfl:=db en;have ef:=ah n.out.tk.bl b8.c8;have a6:=cy.out f C a3;have ca:=b8.hk;obtain⟨ec,eg,rfl⟩:=ca.form;obtain⟨a0,bo⟩:=aA C.ks.length;have ex:=(H.out.2.1 C (dl a3)).l2;rw[bo]at ef ex;have ev:n.out.rest=n.out.rest:=rfl;have bb:dpN ns f (Io f C.ks D)=Ca ns:=by
         have:=n.out.rest;rw[dpN,bc,a3,ii]at this;exact this
        have bf:=tH bo a6 bb a3;have a1:=cK n.out.tk.tb;have d7:A9 (aK w (.slice ec a0 eg) C.ks):=by rw[<-bo];exact ca
        have cu:A9 (akG w (.slice (T j) (a+1) l) t (a+1) f C.ks D 0 D wr):=⟨n.out.tk,n.out.row,n.out.ok,rfl⟩;have e4:=n.out.tk.bl.size;clear a6 ca bb b8 a3 bo n ev;go_wp2_with fail;go_loopw [95] (fun k fr=>∃(x:Nat) (L:List Int),x<=a0/\k= .int .i64 x/\A9 (akG w (.slice (T j) (a+1) l) t (a+1) f C.ks D x L fr)) (fun k _=>a0-(A3 k).toNat)
        case atStart=>exact⟨0,D,aG _,rfl,cu⟩
        case round=>
         obtain⟨x,L,f9,rfl,m⟩:=hrel;clear cu;by_cases es:x<a0
         ·have ge:(x:Int)<(a0:Int):=by omega
          have gb:(0:Int)<=(x:Int):=by omega
          obtain⟨i,d⟩:=bH bf.out.1 es;obtain⟨fB,eo,f8⟩:=(d7.out.below m.out.tk.bl).get d;subst eo;obtain⟨e5,g4⟩:=bf.out.2.1 i (dl d);obtain⟨p,rfl⟩:=gc e5;have cf:p<f:=by omega
          obtain⟨K,br⟩:=bH m.out.ok.1 (show f<a+1 by omega);obtain⟨ei,df⟩:=bH m.out.ok.1 (show p<a+1 by omega);have f7:=m.out.ok.2 f K br;have a7:=m.out.row;have f3:wr.cell? ⟨t,f,A5⟩=T (.int .i64 K):=by rw[a7.cellAt f (by omega),cA,br];rfl
          have f2:wr.cell? ⟨t,p,A5⟩=T (.int .i64 ei):=by rw[a7.cellAt p (by omega),cA,df];rfl
          have f6:=a7.frozenAt p;have er:=(a7.lt t rfl).1;have b9:L.getD f 0=K:=by rw[bc,br];rfl
          have A:=(a7.stored p (.int .i64 (K+1))).1;rw[<-List.map_set]at A;have cm:=m.out.ok.set f p (by omega) cf;rw[b9]at cm;have bb:Io f (C.ks.drop (x+1)) (L.set p (K+1))=Io f C.ks D:=by
           have I:=m.out.rest;have dg:=(List.getElem?_eq_some_iff.1 d);rw[ly dg.1,dg.2,Io,b9]at I;exact I
          have e1:t≠w.heap.size:=by omega
          have e0:t≠w.heap.size+1:=by omega
          have d4:Ha w (.slice (T j) (a+1) l) (wr.setCell ⟨t,p,A5⟩ (.int .i64 (K+1))):=
           ⟨(bh _ _ _ _ (iE e1)).trans m.out.tk.tb,(bh _ _ _ _ (iE e0)).trans m.out.tk.fb,m.out.tk.bl.setCell er _⟩
          have d6:A9 (akG w (.slice (T j) (a+1) l) t (a+1) f C.ks D (x+1) (L.set p (K+1)) (wr.setCell ⟨t,p,A5⟩ (.int .i64 (K+1)))):=⟨d4,A,cm,bb⟩;have gt:(p:Int)<(a:Int)+1:=by omega
          have gs:(0:Int)<=(p:Int):=by omega
          clear d m A cm bb d4 a7 br df b9;go_wp2_with fail;exact⟨⟨x+1,_,by omega,by go_num,d6⟩,by simp[A3];omega⟩
         ·obtain rfl:x=a0:=by omega
          have eq:A9 (akF w (.slice (T j) (a+1) l) t (a+1) ns f L wr):=by
           refine⟨m.out.tk,m.out.row,m.out.ok,?_⟩;have I:=m.out.rest;rw[lA (by rw[bf.out.1];exact ag _),Io]at I;rw[I];exact bf.out.2.2.1
          clear m;go_wp2_with fail;exact⟨⟨f,L,by omega,rfl,eq⟩,by simp[A3]⟩
     ·rw[ab (by omega)]at u;have G:A9 (B=(3,(a:Int))):=by
       show B=(3,(a:Int));rw[<-q.out.2,u]
       congr 1
       omega
      obtain⟨af,al,am⟩:=jD r.out.1.fb;clear c u d a4 o;go_wp2_with fail;have g:=r.out.1;exact bB (ir rfl _ _ (w.heap.size+1) _ _ _ _ rfl (qo g.fb 3 a) Tryz.underlying48 rfl (by kernel_rfl)) rfl ⟨by rw[G.out],(g.bl.setCell (by simp) _).setCell (by simp) _⟩
theorem rm(w:A0)(v:X)(ns:List Nd)(h:co w v ns)(a:ns.length<=1048576)(b:∀N∈ns,iy N):
  A6 Y 13 #[A4 #[v]] w fun e c=>e= Ax (A4 #[O Q (cF ns).1,O Q (cF ns).2])/\A1 w.heap.size w c:=by
 cases hb:gJ ns with
 |true=>
  have e:cF ns=(1,0):=by unfold cF;rw[ab hb]
  rw[e];exact G9 w v ns h a hb
 |false=>exact Hb w v ns h a b hb
def kI(N:Nd)(at_:Int):Bool:=decide (N.f<=at_/\at_<N.t)
def gB(ns:List Nd)(at_:Int):List Int->Int
 |[]=> -1
 |z::r=>if kI (ns.getD z.toNat nI) at_=U then z else gB ns at_ r
def jE(ns:List Nd)(at_:Int):Nat->Int->List Int
 |0,_=>[]
 |f+1,i=>if i<0 then [] else if kI (ns.getD i.toNat nI) at_=U then i::jE ns at_ f (gB ns at_ (ns.getD i.toNat nI).ks) else []
def lr(ns:List Nd)(at_:Int):List Int:=if(cF ns).1=0 then jE ns at_ ns.length ((ns.length:Int)-1) else []
structure Hc (ns:List Nd) (at_:Int) (ks:List Int) (R:Int):Prop where
 out:gB ns at_ ks=R
theorem oL{ns:List Nd}{at_:Int}:∀{ks:List Int},gB ns at_ ks= -1\/gB ns at_ ks∈ks/\kI (ns.getD (gB ns at_ ks).toNat nI) at_=U
 |[]=> .inl rfl
 |z::r=>by
  rw[gB];split
  ·rename_i h;exact .inr ⟨bz ..,h⟩
  ·rcases oL (ns:=ns) (at_:=at_) (ks:=r) with h|⟨a,b⟩
   ·exact .inl h
   ·exact .inr ⟨dm _ a,b⟩
theorem tD{ns:List Nd}{at_:Int}{f:Nat}:jE ns at_ f (-1)=[]:=by
 cases f with
 |zero=>rfl
 |succ f=>rw[jE,ab (by omega)]
theorem Do{ns:List Nd}{at_:Int}:∀{f:Nat}{i:Int},(jE ns at_ f i).length<=f
 |0,_=>ag _
 |f+1,i=>by
  rw[jE];split
  ·exact aG _
  ·split
   ·have:=Do (ns:=ns) (at_:=at_) (f:=f) (i:=gB ns at_ (ns.getD i.toNat nI).ks);rw[cC];omega
   ·exact aG _
structure Jt (ns:List Nd):Prop where
 len:1<=ns.length/\ns.length<=3000
 kid:∀(i:Nat) N,ns[i]?=T N->∀z∈N.ks,0<=z/\z<(i:Int)
 kn:∀N∈ns,N.ks.length<=200
theorem aeE{o:Option Nat}(h:(tf4 o).1=0):o=A5:=by
 cases o with
 |none=>rfl
 |some a=>simp[tf4]at h
theorem lL{ns:List Nd}(h:(cF ns).1=0):Jt ns:=by
 unfold cF at h;by_cases i:gJ ns=U
 ·rw[ab i]at h;exact absurd h (by decide)
 rw[aa i]at h;have q:gJ ns=M:=by simpa using i
 have k:=lB q;obtain⟨e,j⟩:∃e,gp (eC ns) ns.length 0=e:=⟨_,rfl⟩;rw[j]at h;cases e with
 |some a=>rw[tf2]at h;exact absurd h (by simp)
 |none=>
  have p:=ny j;have m:∀(a:Nat) b,ns[a]?=T b->iJ ns a b=U:=fun a b d=>by
   have l:a<ns.length:=(List.getElem?_eq_some_iff.1 d).1;have f:=p a (aG _) (by omega);unfold eC at f;rw[bc,d,ii]at f;simpa using f
  refine⟨⟨?_,?_⟩,fun a b d u s=>?_,fun b d=>?_⟩
  ·rcases kL ns.length with g|g
   ·exact absurd (.inl g) k
   ·exact g
  ·rcases bv 3000 ns.length with g|g
   ·exact absurd (.inr (.inl g)) k
   ·exact g
  ·have c:=m a b d;unfold iJ at c;have o:FE b.ks a b.ks.length 0=U:=by
    rw[cL,cL]at c;exact c.2.1
   obtain⟨t,r,rfl⟩:=fL s;have:=wo b.ks a b.ks.length 0 o t (by omega) (by omega);rw[bc,aE r]at this;simpa using this
  ·obtain⟨a,l,n⟩:=fL d;have c:=m a b (by rw[aE l,n]);unfold iJ AH at c;rw[cL]at c;exact(aH c.1).2.2.2
structure Hd (s:ByteArray) (f p:Nat) (a:List Int) (R:Bool×Nat×List Int):Prop where
 out:fF s f p a=R
def Dp(p:Nat)(R:Bool×Nat×List Int):X:=if R.1=U then A4 #[O Q 4,O Q p,O Q (R.2.1:Int),O Q 0,O Q 0,V (fa R.2.2)] else A4 #[O Q 4,O Q p,O Q 0,O Q 0,O Q 0,V ⟨#[]⟩]
def He(R:Bool×Nat×List Int):Int:=if R.1=U then -1 else(R.2.1:Int)
theorem Dq{p a:Nat}{c:List Int}{R:Bool×Nat×List Int}(h:(U,a,c)=R):(Ending.returned (A7 #[A4 #[O Q 4,O Q p,O Q (a:Int),O Q 0,O Q 0,V (fa c)],O Q (-1)]))= Ax (A7 #[Dp p R,O Q (He R)]):=by
 subst h;rfl
theorem sy{p a:Nat}{c:List Int}{R:Bool×Nat×List Int}(h:(M,a,c)=R):(Ending.returned (A7 #[A4 #[O Q 4,O Q p,O Q 0,O Q 0,O Q 0,V ⟨#[]⟩],O Q (a:Int)]))= Ax (A7 #[Dp p R,O Q (He R)]):=by
 subst h;rfl
theorem EH(s:ByteArray)(c5:s.size<=70000)(p:Nat)(c7:p<s.size)(w:A0):A6 Y 75 #[V s,A4 #[O Q 0,O Q p,O Q 0,O Q 0,O Q 0,V ⟨#[]⟩]] w fun e b8=>
  e= Ax (A7 #[Dp p (fF s (s.size+1) (p+1) []),O Q (He (fF s (s.size+1) (p+1) []))])/\A1 w.heap.size w b8:=by
 obtain⟨F,bf⟩:=aA (fF s (s.size+1) (p+1) []);rw[bf];have cb:Hd s (s.size+1) (p+1) [] F:=⟨bf⟩;clear bf;go_in;go_wp2_with fail;go_loopw [6,7,8,9] (fun bp cq d0 d1 wr=>∃(b l i:Nat) (g:List Int),bp= O Q b/\gK w.heap.size wr 4 p 0 0 0 ⟨#[]⟩/\gK (w.heap.size+1) wr 0 0 0 0 0 ⟨#[]⟩/\wr.ownsRow (w.heap.size+2) 5 1 cq l (B8 g)/\s.size<b+i/\b<=s.size/\l<=b/\Hd s i b g F/\A1 w.heap.size w wr/\w.heap.size+2<=wr.heap.size) (fun bp _ _ _ _=>s.size-(A3 bp).toNat)
 case atStart=>
  have ck:gK (w.heap.size+1) ((w.alloc (A2 #[O Q 4,O Q p,O Q 0,O Q 0,O Q 0,V ⟨#[]⟩] 88)).alloc (A2 #[O Q 0,O Q 0,O Q 0,O Q 0,O Q 0,V ⟨#[]⟩] 88)) 0 0 0 0 0 ⟨#[]⟩:=by
   have:=ar (w.alloc (A2 #[O Q 4,O Q p,O Q 0,O Q 0,O Q 0,V ⟨#[]⟩] 88)) (A2 #[O Q 0,O Q 0,O Q 0,O Q 0,O Q 0,V ⟨#[]⟩] 88);rw[bu]at this;exact this
  exact⟨p+1,0,s.size+1,[],by go_num,(dt _ _ _ (by simp)).trans (ar w _),ck,bi _ _ _ _,by omega,by omega,by omega,cb,((ai _ w).alloc (ag _) _).alloc (by simp) _,by simp⟩
 case round=>
  obtain⟨b,l,i,g,rfl,J,K,B,c4,c9,c6,bs,n,r⟩:=hrel;obtain⟨cs,ct,cu,cv,cx,cy,cz⟩:=cJ J;obtain⟨z0,al,am,an,ao,ap,d2⟩:=cJ K;obtain⟨i,rfl⟩:∃G,i=G+1:=⟨i-1,by omega⟩;have c:=bs.out;unfold fF at c;clear bs;by_cases bD:b<s.size
  ·have cp:=qk bD;have b0:=fun w=>eI bD w;have c8:(b:Int)<(s.size:Int):=by omega
   rw[aa (by omega)]at c;obtain⟨A,bA⟩:=aA (aw s b);rw[bA]at cp b0 c;clear bA;by_cases a9:A=34
   ·subst a9;rw[ab rfl]at c;have f:=aj c;clear c;rcases B.2 with⟨rfl,cl⟩|⟨G,av,cB,rfl,dg⟩
    ·have bx:g=[]:=by have:=zj B;rw[cl]at this;exact jr this
     have b9:=aj bx;clear bx;have cn:=zD;go_wp2_with fail;refine bB (v:= A7 #[A4 #[O Q 4,O Q p,O Q ((b:Int)+1),O Q 0,O Q 0,V ByteArray.empty],O Q (-1)]) (by simp[results,Tryz.results75,go_sem,z0,al,am,an,ao,ap]) rfl ⟨by have h:=f.out;rw[b9.out]at h;exact Dq h,?_⟩
     iterate 8 refine fI ?_ (by simp) _
     exact n
    ·have cn:=pd (DC (a:=⟨w.heap.size,2,A5⟩) B (by simp) (O Q ((b:Int)+1)));go_wp2_with fail;refine bB (v:= A7 #[A4 #[O Q 4,O Q p,O Q ((b:Int)+1),O Q 0,O Q 0,V (fa g)],O Q (-1)]) (by simp[results,Tryz.results75,go_sem,z0,al,am,an,ao,ap]) rfl ⟨Dq f.out,?_⟩
     iterate 8 refine fI ?_ (by simp) _
     exact n
   rw[aa a9]at c;have dc:(A==34)=M:=by simp[a9]
   by_cases ba:A=10
   ·subst ba;rw[ab rfl]at c;have f:=aj c;clear c;go_wp2_with fail;refine bB (v:= A7 #[A4 #[O Q 4,O Q p,O Q 0,O Q 0,O Q 0,V ⟨#[]⟩],O Q (b:Int)]) (by simp[results,Tryz.results75,go_sem,z0,al,am,an,ao,ap]) rfl ⟨sy f.out,?_⟩
    iterate 6 refine fI ?_ (by simp) _
    exact n
   rw[aa ba]at c;have dd:(A==10)=M:=by simp[ba]
   by_cases bb:A=92
   ·subst bb;rw[ab rfl]at c;clear a9 ba;have j:=fun w=>gD s (by omega) ((b:Int)+1) (b+1) (by omega) w;by_cases k:aw s (b+1)=110
    ·have x:=bm k (by omega);rw[show iH s (b+1)=(10,b+1+1,U) by unfold iH;rw[ab k],ab rfl]at c;rw[rf x,k]at j;have f:Hd s i (b+1+1) (g++[10]) F:=⟨c⟩;clear c k;go_wp2_with (first|(go_at_call 70;refine fc (j _) ?_)|(at_builtin;refine mu rfl (.tmp 51) (.tmp 52) rfl (w.heap.size+2) _ l g rfl B r (by omega) [10] 1 rfl (by decide) (by decide) _ rfl rfl ?_;intro G av w1 u d));go_roundw
     case rel=>exact⟨b+1+1,l+1,i,g++[10],by go_num,J.below d (by omega),K.below d (by omega),u,by omega,by omega,by omega,f,n.trans (d.mono (by omega)),dh r d.size⟩
     case measure=>simp[A3];omega
    by_cases m:aw s (b+1)=116
    ·have x:=bm m (by omega);rw[show iH s (b+1)=(9,b+1+1,U) by unfold iH;rw[aa k,ab m],ab rfl]at c;rw[rf x,m]at j;have f:Hd s i (b+1+1) (g++[9]) F:=⟨c⟩;clear c k m;go_wp2_with (first|(go_at_call 70;refine fc (j _) ?_)|(at_builtin;refine mu rfl (.tmp 56) (.tmp 57) rfl (w.heap.size+2) _ l g rfl B r (by omega) [9] 1 rfl (by decide) (by decide) _ rfl rfl ?_;intro G av w1 u d));go_roundw
     case rel=>exact⟨b+1+1,l+1,i,g++[9],by go_num,J.below d (by omega),K.below d (by omega),u,by omega,by omega,by omega,f,n.trans (d.mono (by omega)),dh r d.size⟩
     case measure=>simp[A3];omega
    by_cases q:aw s (b+1)=34
    ·have x:=bm q (by omega);rw[show iH s (b+1)=(34,b+1+1,U) by unfold iH;rw[aa k,aa m,ab (Or.inl q),q],ab rfl]at c;rw[rf x,q]at j;have bl:=fun w=>FJ x w;rw[q]at bl;have f:Hd s i (b+1+1) (g++[34]) F:=⟨c⟩;clear c k m q;go_wp2_with (first|(go_at_call 70;refine fc (j _) ?_)|(at_builtin;refine mu rfl (.tmp 62) (.tmp 66) rfl (w.heap.size+2) _ l g rfl B r (by omega) [34] 1 rfl (by decide) (by decide) _ rfl rfl ?_;intro G av w1 u d));go_roundw
     case rel=>exact⟨b+1+1,l+1,i,g++[34],by go_num,J.below d (by omega),K.below d (by omega),u,by omega,by omega,by omega,f,n.trans (d.mono (by omega)),dh r d.size⟩
     case measure=>simp[A3];omega
    by_cases t:aw s (b+1)=92
    ·have x:=bm t (by omega);rw[show iH s (b+1)=(92,b+1+1,U) by unfold iH;rw[aa k,aa m,ab (Or.inr t),t],ab rfl]at c;rw[rf x,t]at j;have bl:=fun w=>FJ x w;rw[t]at bl;have f:Hd s i (b+1+1) (g++[92]) F:=⟨c⟩;clear c k m q t;go_wp2_with (first|(go_at_call 70;refine fc (j _) ?_)|(at_builtin;refine mu rfl (.tmp 62) (.tmp 66) rfl (w.heap.size+2) _ l g rfl B r (by omega) [92] 1 rfl (by decide) (by decide) _ rfl rfl ?_;intro G av w1 u d));go_roundw
     case rel=>exact⟨b+1+1,l+1,i,g++[92],by go_num,J.below d (by omega),K.below d (by omega),u,by omega,by omega,by omega,f,n.trans (d.mono (by omega)),dh r d.size⟩
     case measure=>simp[A3];omega
    by_cases I:aw s (b+1)=120
    ·have x:=bm I (by omega);rw[rf x,I]at j;have bw:iH s (b+1)=hexI s (b+1+1):=by unfold iH;rw[aa k,aa m,aa (fun h=>h.elim q t),ab I]
     rw[bw]at c;unfold hexI at c;have C:=fun w=>gD s (by omega) ((b:Int)+1+1) (b+1+1) (by omega) w;have ak:=fun w=>gD s (by omega) ((b:Int)+1+2) (b+1+1+1) (by omega) w;have a7:=Kx s (b+1+1);have a8:=Kx s (b+1+1+1);have o:=fun w=>xc (lk s (b+1+1)) a7.1 a7.2 w;have z:=fun w=>xc (lk s (b+1+1+1)) a8.1 a8.2 w;rw[KH]at o z;have bq:=sL (aw s (b+1+1));have br:=sL (aw s (b+1+1+1));clear bw k m q t I;by_cases L:iC (aw s (b+1+1))<0
     ·rw[ab L,aa (by simp)]at c;have f:=aj c;generalize lk s (b+1+1)=bt at C o;generalize iC (aw s (b+1+1))=y at o L;clear c ak z bq br a7 a8;go_wp2_with (go_at_call 70;refine fc (j _) ?_);refine DA 3 ?_;rw[sF];clear j;go_wp2_with (first|(go_at_call 70;refine fc (C _) ?_)|(go_at_call 125;refine fc (o _) ?_));refine bB (v:= A7 #[A4 #[O Q 4,O Q p,O Q 0,O Q 0,O Q 0,V ⟨#[]⟩],O Q ((b:Int)+1+1)]) (by simp[results,Tryz.results75,go_sem,z0,al,am,an,ao,ap]) rfl ⟨sy f.out,?_⟩
      iterate 6 refine fI ?_ (by simp) _
      exact n
     rw[aa L]at c;have bE:0<=iC (aw s (b+1+1)):=by omega
     by_cases a6:iC (aw s (b+1+1+1))<0
     ·rw[ab a6,aa (by simp)]at c;have f:=aj c;generalize lk s (b+1+1)=bt at C o;generalize iC (aw s (b+1+1))=y at o L bE;generalize lk s (b+1+1+1)=cc at ak z;generalize iC (aw s (b+1+1+1))=H at z a6;clear c bq br a7 a8;go_wp2_with (go_at_call 70;refine fc (j _) ?_);refine DA 3 ?_;rw[sF];clear j;go_wp2_with (first|(go_at_call 70;refine fc (C _) ?_)|(go_at_call 125;refine fc (o _) ?_));rw[sF];clear C o;go_wp2_with (first|(go_at_call 70;refine fc (ak _) ?_)|(go_at_call 125;refine fc (z _) ?_));refine bB (v:= A7 #[A4 #[O Q 4,O Q p,O Q 0,O Q 0,O Q 0,V ⟨#[]⟩],O Q ((b:Int)+1+2)]) (by simp[results,Tryz.results75,go_sem,z0,al,am,an,ao,ap]) rfl ⟨by have h:=sy (p:=p) f.out;rw[show((b+1+1+1:Nat):Int)=(b:Int)+1+2 by omega]at h;exact h,?_⟩
      iterate 6 refine fI ?_ (by simp) _
      exact n
     have bj:b+1+1<s.size:=by
      rcases bv (b+1+1) s.size with h|h
      ·exact h
      ·rw[dD (by omega)]at L;exact absurd (by decide) L
     have bk:b+1+1+1<s.size:=by
      rcases bv (b+1+1+1) s.size with h|h
      ·exact h
      ·rw[dD (by omega)]at a6;exact absurd (by decide) a6
     have bn:=fun w=>eI bj w;have bo:=fun w=>eI bk w;rw[show((b+1+1:Nat):Int)=(b:Int)+1+1 by omega]at bn;rw[show((b+1+1+1:Nat):Int)=(b:Int)+1+2 by omega]at bo;rw[aa a6,ab rfl]at c;rw[rf bj]at C o;rw[rf bk]at ak z;have cm:0<=iC (aw s (b+1+1+1)):=by omega
     have f:Hd s i (b+1+1+1+1) (g++[iC (aw s (b+1+1))*16+iC (aw s (b+1+1+1))]) F:=⟨c⟩;clear c a7 a8;have ce:=qk bj;have cf:=qk bk;generalize iC (aw s (b+1+1))=y at o L bE bq f;generalize iC (aw s (b+1+1+1))=H at z a6 cm br f;generalize aw s (b+1+1)=bt at C o bn ce;generalize aw s (b+1+1+1)=cc at ak z bo cf;rw[show y*16+H=16*y+H by omega]at f;go_wp2_with (go_at_call 70;refine fc (j _) ?_);refine DA 3 ?_;rw[sF];clear j;go_wp2_with (first|(go_at_call 70;refine fc (C _) ?_)|(go_at_call 125;refine fc (o _) ?_));rw[sF];clear C;go_wp2_with (first|(go_at_call 70;refine fc (ak _) ?_)|(go_at_call 125;refine fc (z _) ?_));rw[sF];clear ak;go_wp2_with fail;obtain⟨E,bd⟩:∃E:Int,(b:Int)+1=E:=⟨_,rfl⟩;rw[bd]at bn bo⊢;have ca:=aj bd;have dj:IntKind.i64.wrap (E+1)=E+1:=zg _ (by omega);have dn:IntKind.i64.wrap (E+2)=E+2:=zg _ (by omega);have dp:IntKind.i64.wrap (16*y)=16*y:=zg _ (by omega);have ds:IntKind.i64.wrap (16*y+H)=16*y+H:=zg _ (by omega);have dx:IntKind.u8.wrap (16*y+H)=16*y+H:=IntWalk.u8_in _ (by omega);have c0:0<=E:=by omega
     have c1:E<=70001:=by omega
     clear bd b0;go_region_held3 (fun b8=>True) (trivial) ((first|(go_at_call 125;with_reducible refine fc (o _) ?_)|(go_at_call 125;with_reducible refine fc (z _) ?_)|(refine Ks (by rfl) _ _ (by rfl) (w.heap.size+2) _ l g (by rfl) B r (by omega) [_] 1 (by rfl) (by decide) (by decide) _ (by rfl) (by rfl) ?_;intro G av w1 u d)))
     all_goals
      go_wp2_with fail;have da:=ca.out;exact⟨⟨b+1+1+1+1,l+1,i,g++[16*y+H],by congr 1<;>omega,J.below d (by omega),K.below d (by omega),u,by omega,by omega,by omega,f,n.trans (d.mono (by omega)),dh r d.size⟩,by simp[A3];omega⟩
    rw[show iH s (b+1)=(0,b+1,M) by unfold iH;rw[aa k,aa m,aa (fun h=>h.elim q t),aa I],aa (by simp)]at c;have f:=aj c;have b1:=se s (b+1) 110 (by omega);have b4:=se s (b+1) 116 (by omega);have b5:=se s (b+1) 34 (by omega);have b6:=se s (b+1) 92 (by omega);have b7:=se s (b+1) 120 (by omega);rw[az k]at b1;rw[az m]at b4;rw[az q]at b5;rw[az t]at b6;rw[az I]at b7;generalize lk s (b+1)=cr at j b1 b4 b5 b6 b7;clear c k m q t I;go_wp2_with (go_at_call 70;refine fc (j _) ?_);refine bB (v:= A7 #[A4 #[O Q 4,O Q p,O Q 0,O Q 0,O Q 0,V ⟨#[]⟩],O Q ((b:Int)+1)]) (by simp[results,Tryz.results75,go_sem,z0,al,am,an,ao,ap]) rfl ⟨sy f.out,?_⟩
    iterate 6 refine fI ?_ (by simp) _
    exact n
   rw[aa bb]at c;have df:(A==92)=M:=by simp[bb]
   have f:Hd s i (b+1) (g++[A]) F:=⟨c⟩;clear c;go_wp2_with (at_builtin;refine mu rfl (.tmp 36) (.tmp 38) rfl (w.heap.size+2) _ l g rfl B r (by omega) [A] 1 rfl (by decide) (by decide) _ rfl rfl ?_;intro G av w1 u d);go_roundw
   case rel=>exact⟨b+1,l+1,i,g++[A],by go_num,J.below d (by omega),K.below d (by omega),u,by omega,by omega,by omega,f,n.trans (d.mono (by omega)),dh r d.size⟩
   case measure=>simp[A3];omega
  ·rw[ab (by omega)]at c;have f:=aj c;clear c;obtain rfl:b=s.size:=by omega
   go_wp2_with fail;refine bB (v:= A7 #[A4 #[O Q 4,O Q p,O Q 0,O Q 0,O Q 0,V ⟨#[]⟩],O Q (s.size:Int)]) (by simp[results,Tryz.results75,go_sem,z0,al,am,an,ao,ap]) rfl ⟨sy f.out,?_⟩
   iterate 6 refine fI ?_ (by simp) _
   exact n
theorem akH(k:Int):ic k=0\/ic k=1\/ic k=2\/ic k=3\/ic k=4\/ic k=5\/ic k=6:=by
 unfold ic
 repeat' split
 all_goals simp
theorem ab4(w:A0)(b:Nat)(N:Nd)(vn y:X)(z:Int)(u:∃a n c,vn= .slice a n c)(h:jc w b N vn z y):
  A6 Y 49 #[jd N.k b] w fun e d=>e= .returned (dy (rE N (ic N.k)) (ab2 vn (ic N.k)) (.slice A5 0 0))/\A1 w.heap.size w d:=by
 obtain⟨A,K,B,rfl⟩:=u;unfold jc at h;unfold jd;have H:=fun w=>ai8 b w;have C:=fun w=>asT b w;have E:=fun w=>asF b w;have x:=fun w=>gl b w;have F:=au h;have G:b<w.heap.size+1:=by omega
 have I:b≠w.heap.size:=by omega
 have J:b≠w.heap.size+1:=by omega
 have s:∀g i,A1 w.heap.size w ((w.alloc g).alloc i).drew:=fun g i=>be (((ai _ w).alloc (ag _) g).alloc (by simp) i);have c:=fun v=>ay w b v _ _ _ h;have j:=c 0;have m:=c 1;have o:=c 2;have p:=c 3;have q:=c 6;have r:=c 7;clear c h;unfold dy;rcases akH N.k with hc|hc|hc|hc|hc|hc|hc;all_goals
  simp only[hc,exT,nF,rE,ab2,fy,fx]at j m o p q r⊢;simp at j m o p q r;go_in;go_wp2_with (go_at_call 222;refine fc (x _) ?_);all_goals
   go_region_held3 (fun d=>d.cell? ⟨b,0,A5⟩=T (.int .i64 N.k)/\d.cell? ⟨b,1,A5⟩=T (.int .i64 N.f)/\d.cell? ⟨b,2,A5⟩=T (.int .i64 N.t)/\d.cell? ⟨b,3,A5⟩=T (.int .i64 N.l)) (go_keep) (fail)
   go_wp2_with fail;all_goals exact bB (ir rfl _ _ w.heap.size _ _ _ _ rfl ((dt _ _ _ (by simp)).trans (ar w _)) Tryz.underlying36 rfl (by kernel_rfl)) rfl ⟨by simp[*],s _ _⟩
