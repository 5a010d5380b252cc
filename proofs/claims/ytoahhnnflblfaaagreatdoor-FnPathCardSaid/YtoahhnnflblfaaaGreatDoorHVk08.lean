import Derived.Test.YtoahhnnflblfaaaGreatDoorHVk07
set_option linter.all false
set_option maxRecDepth 100000
set_option maxHeartbeats 3200000
open Bool renaming false->M,true->X
open Go renaming Value->O,World->U,Calls->V
open Go.Proofs.Tryz renaming prog->Q
open Go.Ending renaming returned->S
open Go.RowKit renaming Hid->T,Below->W
namespace Go.Proofs.YtoahhnnflblfaaaGreatDoor
open Go.RowKit Go.Maps Go.WideMaps
theorem ac6{w:U}{h:O}{ns:List Nd}{N:Nd}{vn vk:O}(c:gn w h ns N vn vk)(f:N.k=28):
  V Q 46 #[.agg #[h],dy N vn vk] w fun e g=>e= S (.bool (((N.ks.length:Int)==2)&&iF ns N 2 0&&aD N M M M M))/\W w.heap.size w g:=by
 obtain⟨E,H,rfl⟩:=c.t.form;obtain⟨F,I,rfl⟩:=c.n.form;obtain⟨G,J,rfl⟩:=c.k.form;have b:=St.start c;have K:=c.lx;have C:T (N.x.size<=1100000):=by show _<=_;omega
 clear c;have L:=ci f;have af:=kH f 28 rfl;clear f;cases t0:((N.ks.length:Int)==2)
 case' true=>
  have i:N.ks.length=2:=by have:=ga t0;omega
  have j:T (2<=N.ks.length):=by show _<=_;omega
  have A:T (0<N.ks.length):=by show _<_;omega
  have B:T (1<N.ks.length):=by show _<_;omega
  clear i;cases t1:iF ns N 2 0
  case' true=>
   cases t2:aD N M M M M
 all_goals
  unfold dy;go_in;go_wp2_with (first|(go_at_call 99;refine(dz _ _ ns N _ _ 0 2 b.a.t b.a.n b.a.k b.a.ok j.out b.a.ln b.a.l2).mono ?_;rintro e g ⟨rfl,d⟩;replace b:=b.below d;clear d;obtain⟨l,m,o,p,q,r,s,u,v,y⟩:=aq b.bn;have z:=b.bt)|(go_at_call 97;refine(de _ N _ _ b.a.n b.a.k b.a.l1).mono ?_;rintro e g ⟨rfl,d⟩;replace b:=b.below d;clear d;obtain⟨l,m,o,p,q,r,s,u,v,y⟩:=aq b.bn;have z:=b.bt));go_ret;exact⟨rfl,b.bel⟩
theorem ac7{w:U}{h:O}{ns:List Nd}{N:Nd}{vn vk:O}(c:gn w h ns N vn vk)(f:N.k=29):
  V Q 46 #[.agg #[h],dy N vn vk] w fun e g=>e= S (.bool (((N.ks.length:Int)==2)&&iF ns N 2 0&&aD N M M M M))/\W w.heap.size w g:=by
 obtain⟨E,H,rfl⟩:=c.t.form;obtain⟨F,I,rfl⟩:=c.n.form;obtain⟨G,J,rfl⟩:=c.k.form;have b:=St.start c;have K:=c.lx;have C:T (N.x.size<=1100000):=by show _<=_;omega
 clear c;have L:=ci f;have af:=kH f 29 rfl;clear f;cases t0:((N.ks.length:Int)==2)
 case' true=>
  have i:N.ks.length=2:=by have:=ga t0;omega
  have j:T (2<=N.ks.length):=by show _<=_;omega
  have A:T (0<N.ks.length):=by show _<_;omega
  have B:T (1<N.ks.length):=by show _<_;omega
  clear i;cases t1:iF ns N 2 0
  case' true=>
   cases t2:aD N M M M M
 all_goals
  unfold dy;go_in;go_wp2_with (first|(go_at_call 99;refine(dz _ _ ns N _ _ 0 2 b.a.t b.a.n b.a.k b.a.ok j.out b.a.ln b.a.l2).mono ?_;rintro e g ⟨rfl,d⟩;replace b:=b.below d;clear d;obtain⟨l,m,o,p,q,r,s,u,v,y⟩:=aq b.bn;have z:=b.bt)|(go_at_call 97;refine(de _ N _ _ b.a.n b.a.k b.a.l1).mono ?_;rintro e g ⟨rfl,d⟩;replace b:=b.below d;clear d;obtain⟨l,m,o,p,q,r,s,u,v,y⟩:=aq b.bn;have z:=b.bt));go_ret;exact⟨rfl,b.bel⟩
theorem ac8{w:U}{h:O}{ns:List Nd}{N:Nd}{vn vk:O}(d:gn w h ns N vn vk)(g:N.k=32):
  V Q 46 #[.agg #[h],dy N vn vk] w fun e f=>e= S (.bool (((N.ks.length:Int)==2)&&iF ns N 2 0&&(eu ns N 0 !=27)&&aD N M M M M))/\W w.heap.size w f:=by
 obtain⟨E,H,rfl⟩:=d.t.form;obtain⟨F,I,rfl⟩:=d.n.form;obtain⟨G,J,rfl⟩:=d.k.form;have b:=St.start d;have K:=d.lx;have C:T (N.x.size<=1100000):=by show _<=_;omega
 clear d;have L:=ci g;have af:=kH g 32 rfl;clear g;cases t0:((N.ks.length:Int)==2)
 case' true=>
  have y:N.ks.length=2:=by have:=ga t0;omega
  have z:T (2<=N.ks.length):=by show _<=_;omega
  have A:T (0<N.ks.length):=by show _<_;omega
  have B:T (1<N.ks.length):=by show _<_;omega
  clear y;cases t1:iF ns N 2 0
  case' true=>
   cases t2:(eu ns N 0 !=27)
   case' true=>
    cases t3:aD N M M M M
 all_goals
  unfold dy;go_in;go_wp2_with (first|(go_at_call 99;refine(dz _ _ ns N _ _ 0 2 b.a.t b.a.n b.a.k b.a.ok z.out b.a.ln b.a.l2).mono ?_;rintro e f ⟨rfl,c⟩;replace b:=b.below c;clear c;obtain⟨i,j,l,m,o,p,q,r,s,u⟩:=aq b.bn;have v:=b.bt)|(go_at_call 96;refine(lg b.a 0 A.out).mono ?_;rintro e f ⟨rfl,c⟩;replace b:=b.below c;clear c;obtain⟨i,j,l,m,o,p,q,r,s,u⟩:=aq b.bn;have v:=b.bt)|(go_at_call 97;refine(de _ N _ _ b.a.n b.a.k b.a.l1).mono ?_;rintro e f ⟨rfl,c⟩;replace b:=b.below c;clear c;obtain⟨i,j,l,m,o,p,q,r,s,u⟩:=aq b.bn;have v:=b.bt));go_ret;exact⟨rfl,b.bel⟩
theorem ac9{w:U}{h:O}{ns:List Nd}{N:Nd}{vn vk:O}(c:gn w h ns N vn vk)(f:N.k=30):
  V Q 46 #[.agg #[h],dy N vn vk] w fun e g=>e= S (.bool (((N.ks.length:Int)==1)&&iF ns N 1 0&&aD N X M M M&&decide ((19:Int)<=N.op)&&decide (N.op<=22)))/\W w.heap.size w g:=by
 obtain⟨C,G,rfl⟩:=c.t.form;obtain⟨E,H,rfl⟩:=c.n.form;obtain⟨F,I,rfl⟩:=c.k.form;have b:=St.start c;have J:=c.lx;have B:T (N.x.size<=1100000):=by show _<=_;omega
 clear c;have K:=ci f;have L:=kH f 30 rfl;clear f;cases t0:((N.ks.length:Int)==1)
 case' true=>
  have i:N.ks.length=1:=by have:=ga t0;omega
  have j:T (1<=N.ks.length):=by show _<=_;omega
  have A:T (0<N.ks.length):=by show _<_;omega
  clear i;cases t1:iF ns N 1 0
  case' true=>
   cases t2:aD N X M M M
   case' true=>
    cases t3:decide ((19:Int)<=N.op)
    case' true=>
     cases t4:decide (N.op<=22)
 all_goals
  unfold dy;go_in;go_wp2_with (first|(go_at_call 99;refine(dz _ _ ns N _ _ 0 1 b.a.t b.a.n b.a.k b.a.ok j.out b.a.ln b.a.l2).mono ?_;rintro e g ⟨rfl,d⟩;replace b:=b.below d;clear d;obtain⟨l,m,o,p,q,r,s,u,v,y⟩:=aq b.bn;have z:=b.bt)|(go_at_call 97;refine(xI _ N _ _ b.a.n b.a.k b.a.l1).mono ?_;rintro e g ⟨rfl,d⟩;replace b:=b.below d;clear d;obtain⟨l,m,o,p,q,r,s,u,v,y⟩:=aq b.bn;have z:=b.bt));go_ret;exact⟨rfl,b.bel⟩
theorem ada{w:U}{h:O}{ns:List Nd}{N:Nd}{vn vk:O}(c:gn w h ns N vn vk)(f:N.k=31):
  V Q 46 #[.agg #[h],dy N vn vk] w fun e g=>e= S (.bool (((N.ks.length:Int)==2)&&iF ns N 2 0&&aD N X M M M&&decide ((1:Int)<=N.op)&&decide (N.op<=18)))/\W w.heap.size w g:=by
 obtain⟨E,H,rfl⟩:=c.t.form;obtain⟨F,I,rfl⟩:=c.n.form;obtain⟨G,J,rfl⟩:=c.k.form;have b:=St.start c;have K:=c.lx;have C:T (N.x.size<=1100000):=by show _<=_;omega
 clear c;have L:=ci f;have af:=kH f 31 rfl;clear f;cases t0:((N.ks.length:Int)==2)
 case' true=>
  have i:N.ks.length=2:=by have:=ga t0;omega
  have j:T (2<=N.ks.length):=by show _<=_;omega
  have A:T (0<N.ks.length):=by show _<_;omega
  have B:T (1<N.ks.length):=by show _<_;omega
  clear i;cases t1:iF ns N 2 0
  case' true=>
   cases t2:aD N X M M M
   case' true=>
    cases t3:decide ((1:Int)<=N.op)
    case' true=>
     cases t4:decide (N.op<=18)
 all_goals
  unfold dy;go_in;go_wp2_with (first|(go_at_call 99;refine(dz _ _ ns N _ _ 0 2 b.a.t b.a.n b.a.k b.a.ok j.out b.a.ln b.a.l2).mono ?_;rintro e g ⟨rfl,d⟩;replace b:=b.below d;clear d;obtain⟨l,m,o,p,q,r,s,u,v,y⟩:=aq b.bn;have z:=b.bt)|(go_at_call 97;refine(xI _ N _ _ b.a.n b.a.k b.a.l1).mono ?_;rintro e g ⟨rfl,d⟩;replace b:=b.below d;clear d;obtain⟨l,m,o,p,q,r,s,u,v,y⟩:=aq b.bn;have z:=b.bt));go_ret;exact⟨rfl,b.bel⟩
def KL:List Int:=[20,21,22,27,23,24,25,26,28,29,32,30,31,33,34,35,36,37,40,41,42]
theorem agJ{w:U}{f:O}{ns:List Nd}{N:Nd}{vn vk:O}(d:gn w f ns N vn vk)(b:∀c∈KL,N.k≠c):
  V Q 46 #[.agg #[f],dy N vn vk] w fun e h=>e= S (.bool M)/\W w.heap.size w h:=by
 obtain⟨i,m,rfl⟩:=d.t.form;obtain⟨j,o,rfl⟩:=d.n.form;obtain⟨l,p,rfl⟩:=d.k.form;have g:=St.start d;clear d;have q:(N.k==20)=M:=by rw[aL];exact fun a=>b 20 (by decide) a
 have r:(N.k==21)=M:=by rw[aL];exact fun a=>b 21 (by decide) a
 have s:(N.k==22)=M:=by rw[aL];exact fun a=>b 22 (by decide) a
 have z:(N.k==27)=M:=by rw[aL];exact fun a=>b 27 (by decide) a
 have u:(N.k==23)=M:=by rw[aL];exact fun a=>b 23 (by decide) a
 have v:(N.k==24)=M:=by rw[aL];exact fun a=>b 24 (by decide) a
 have x:(N.k==25)=M:=by rw[aL];exact fun a=>b 25 (by decide) a
 have y:(N.k==26)=M:=by rw[aL];exact fun a=>b 26 (by decide) a
 have A:(N.k==28)=M:=by rw[aL];exact fun a=>b 28 (by decide) a
 have B:(N.k==29)=M:=by rw[aL];exact fun a=>b 29 (by decide) a
 have F:(N.k==32)=M:=by rw[aL];exact fun a=>b 32 (by decide) a
 have C:(N.k==30)=M:=by rw[aL];exact fun a=>b 30 (by decide) a
 have E:(N.k==31)=M:=by rw[aL];exact fun a=>b 31 (by decide) a
 have G:(N.k==33)=M:=by rw[aL];exact fun a=>b 33 (by decide) a
 have H:(N.k==34)=M:=by rw[aL];exact fun a=>b 34 (by decide) a
 have I:(N.k==35)=M:=by rw[aL];exact fun a=>b 35 (by decide) a
 have J:(N.k==36)=M:=by rw[aL];exact fun a=>b 36 (by decide) a
 have K:(N.k==37)=M:=by rw[aL];exact fun a=>b 37 (by decide) a
 have L:(N.k==40)=M:=by rw[aL];exact fun a=>b 40 (by decide) a
 have af:(N.k==41)=M:=by rw[aL];exact fun a=>b 41 (by decide) a
 have ak:(N.k==42)=M:=by rw[aL];exact fun a=>b 42 (by decide) a
 clear b;unfold dy;go_in;go_wp2;go_ret;exact⟨rfl,g.bel⟩
def Gp(ns:List Nd)(N:Nd):Nat->Nat->Bool
 |0,_=>X
 |f+1,j=>decide (40<=eu ns N j/\eu ns N j<=42)&&Gp ns N f (j+1)
structure ajL (ns:List Nd) (N:Nd) (f j:Nat) (R:Bool):Prop where
 out:Gp ns N f j=R
theorem adb{w:U}{al:O}{ns:List Nd}{N:Nd}{vn vk:O}(j:gn w al ns N vn vk)(c:N.k=35):
  V Q 46 #[.agg #[al],dy N vn vk] w fun e o=>e= S (.bool (Gp ns N N.ks.length 0&&aD N M M M M))/\W w.heap.size w o:=by
 obtain⟨H,K,rfl⟩:=j.t.form;obtain⟨I,L,rfl⟩:=j.n.form;obtain⟨J,af,rfl⟩:=j.k.form;have b:=St.start j;have a6:=j.l2;clear j;have a7:=ci c 20 rfl;have a8:=ci c 21 rfl;have a9:=ci c 22 rfl;have bj:=ci c 27 rfl;have ba:=ci c 23 rfl;have bb:=ci c 24 rfl;have bd:=ci c 25 rfl;have bf:=ci c 26 rfl;have bk:=ci c 28 rfl;have bl:=ci c 29 rfl;have bq:=ci c 32 rfl;have bo:=ci c 30 rfl;have bp:=ci c 31 rfl;have br:=ci c 33 rfl;have bs:=ci c 34 rfl;have bw:=kH c 35 rfl;clear c;obtain⟨E,F⟩:=aA (Gp ns N N.ks.length 0);rw[F];have an:ajL ns N N.ks.length 0 E:=⟨F⟩;clear F;unfold dy;go_in;go_wp2_with fail;generalize (w.alloc (.cells #[.slice H ns.length K] 26)).alloc (.cells #[.int .i64 N.k,.int .i64 N.f,.int .i64 N.t,.int .i64 N.l,.int .i64 N.op,.int .i64 N.n,.string N.x,.slice I N.nm.length L,.slice J N.ks.length af] 36)=av at b⊢;go_loopw [6,7,200] (fun _ _ G wr=>∃(d:Nat),G= .int .i64 d/\d<=N.ks.length/\ajL ns N (N.ks.length-d) d E/\St w (.slice H ns.length K) ns N (.slice I N.nm.length L) (.slice J N.ks.length af) wr) (fun _ _ G _=>N.ks.length-(intOf G).toNat)
 case atStart=>exact⟨0,rfl,by omega,an,b⟩
 case round=>
  clear b;obtain⟨d,rfl,a5,am,b⟩:=hrel;obtain⟨p,q,r,s,u,v,y,z,A,B⟩:=aq b.bn;have C:=b.bt;have g:=am.out;by_cases ap:d<N.ks.length
  ·rw[show N.ks.length-d=(N.ks.length-(d+1))+1 by omega,Gp]at g;have ao:(d:Int)<(N.ks.length:Int):=by omega
   have m:=lg b.a d ap;unfold dy at m;generalize eu ns N d=ak at g m;by_cases a0:ak<40
   ·rw[az (by omega),eG]at g;have i:=aj g;clear g;go_wp2_with (go_at_call 96;refine m.mono ?_;rintro e o ⟨rfl,h⟩;replace b:=b.below h;clear h;obtain⟨p,q,r,s,u,v,y,z,A,B⟩:=aq b.bn;have C:=b.bt);go_ret;exact⟨by rw[<-i.out];rfl,b.bel⟩
   by_cases a4:42<ak
   ·rw[az (by omega),eG]at g;have i:=aj g;clear g;go_wp2_with (go_at_call 96;refine m.mono ?_;rintro e o ⟨rfl,h⟩;replace b:=b.below h;clear h;obtain⟨p,q,r,s,u,v,y,z,A,B⟩:=aq b.bn;have C:=b.bt);go_ret;exact⟨by rw[<-i.out];rfl,b.bel⟩
   rw[bg (by omega),fC]at g;have i:ajL ns N (N.ks.length-(d+1)) (d+1) E:=⟨g⟩;clear g;go_wp2_with (go_at_call 96;refine m.mono ?_;rintro e o ⟨rfl,h⟩;replace b:=b.below h;clear h;obtain⟨p,q,r,s,u,v,y,z,A,B⟩:=aq b.bn;have C:=b.bt);exact⟨⟨d+1,by go_num,by omega,i,b⟩,by simp[intOf];omega⟩
  ·rw[show N.ks.length-d=0 by omega,Gp]at g;have i:=aj g;have ao:¬(d:Int)<(N.ks.length:Int):=by omega
   clear g;go_wp2_with (go_at_call 97;refine(de _ N _ _ b.a.n b.a.k b.a.l1).mono ?_;rintro e o ⟨rfl,h⟩;replace b:=b.below h;clear h;obtain⟨p,q,r,s,u,v,y,z,A,B⟩:=aq b.bn;have C:=b.bt);go_ret;exact⟨by rw[<-i.out];rfl,b.bel⟩
