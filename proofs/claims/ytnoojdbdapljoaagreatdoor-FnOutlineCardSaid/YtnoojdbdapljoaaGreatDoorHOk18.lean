import Derived.Test.YtnoojdbdapljoaaGreatDoorHOk15
set_option linter.all false
set_option maxRecDepth 100000
set_option maxHeartbeats 3200000
open Bool renaming false->M,true->X
open Go renaming Value->O,World->U,Calls->V
open Go.Proofs.Tryz renaming prog->Q
open Go.Ending renaming returned->S
open Go.RowKit renaming Hid->T,Below->W
namespace Go.Proofs.YtnoojdbdapljoaaGreatDoor
open Go.RowKit Go.Maps Go.WideMaps
theorem ach{w:U}{i:O}{f:List Nd}{N:Nd}{vn vk:O}(c:fp w i f N vn vk)(g:N.k=28):
  V Q 57 #[.agg #[i],dj N vn vk] w fun e h=>e= S (.bool (((N.ks.length:Int)==2)&&ik f N 2 0&&aH N M M M M))/\W w.heap.size w h:=by
 obtain⟨F,I,rfl⟩:=c.t.form;obtain⟨G,J,rfl⟩:=c.n.form;obtain⟨H,K,rfl⟩:=c.k.form;have b:=St.start c;have L:=c.lx;have E:T (N.x.size<=1100000):=by show _<=_;omega
 clear c;have ad:=cC g;have af:=jd g 28 rfl;clear g;cases t0:((N.ks.length:Int)==2)
 case' true=>
  have j:N.ks.length=2:=by have:=fh t0;omega
  have l:T (2<=N.ks.length):=by show _<=_;omega
  have B:T (0<N.ks.length):=by show _<_;omega
  have C:T (1<N.ks.length):=by show _<_;omega
  clear j;cases t1:ik f N 2 0
  case' true=>
   cases t2:aH N M M M M
 all_goals
  unfold dj;go_in;go_wp2_with (first|(go_at_call 105;refine(dt _ _ f N _ _ 0 2 b.a.t b.a.n b.a.k b.a.ok l.out b.a.ln b.a.l2).mono ?_;rintro e h ⟨rfl,d⟩;replace b:=b.below d;clear d;obtain⟨m,o,p,q,r,s,u,v,y,z⟩:=au b.bn;have A:=b.bt)|(go_at_call 103;refine(dc _ N _ _ b.a.n b.a.k b.a.l1).mono ?_;rintro e h ⟨rfl,d⟩;replace b:=b.below d;clear d;obtain⟨m,o,p,q,r,s,u,v,y,z⟩:=au b.bn;have A:=b.bt));go_ret;exact⟨rfl,b.bel⟩
theorem aci{w:U}{i:O}{f:List Nd}{N:Nd}{vn vk:O}(c:fp w i f N vn vk)(g:N.k=29):
  V Q 57 #[.agg #[i],dj N vn vk] w fun e h=>e= S (.bool (((N.ks.length:Int)==2)&&ik f N 2 0&&aH N M M M M))/\W w.heap.size w h:=by
 obtain⟨F,I,rfl⟩:=c.t.form;obtain⟨G,J,rfl⟩:=c.n.form;obtain⟨H,K,rfl⟩:=c.k.form;have b:=St.start c;have L:=c.lx;have E:T (N.x.size<=1100000):=by show _<=_;omega
 clear c;have ad:=cC g;have af:=jd g 29 rfl;clear g;cases t0:((N.ks.length:Int)==2)
 case' true=>
  have j:N.ks.length=2:=by have:=fh t0;omega
  have l:T (2<=N.ks.length):=by show _<=_;omega
  have B:T (0<N.ks.length):=by show _<_;omega
  have C:T (1<N.ks.length):=by show _<_;omega
  clear j;cases t1:ik f N 2 0
  case' true=>
   cases t2:aH N M M M M
 all_goals
  unfold dj;go_in;go_wp2_with (first|(go_at_call 105;refine(dt _ _ f N _ _ 0 2 b.a.t b.a.n b.a.k b.a.ok l.out b.a.ln b.a.l2).mono ?_;rintro e h ⟨rfl,d⟩;replace b:=b.below d;clear d;obtain⟨m,o,p,q,r,s,u,v,y,z⟩:=au b.bn;have A:=b.bt)|(go_at_call 103;refine(dc _ N _ _ b.a.n b.a.k b.a.l1).mono ?_;rintro e h ⟨rfl,d⟩;replace b:=b.below d;clear d;obtain⟨m,o,p,q,r,s,u,v,y,z⟩:=au b.bn;have A:=b.bt));go_ret;exact⟨rfl,b.bel⟩
theorem acj{w:U}{i:O}{f:List Nd}{N:Nd}{vn vk:O}(d:fp w i f N vn vk)(h:N.k=32):
  V Q 57 #[.agg #[i],dj N vn vk] w fun e g=>e= S (.bool (((N.ks.length:Int)==2)&&ik f N 2 0&&(dF f N 0 !=27)&&aH N M M M M))/\W w.heap.size w g:=by
 obtain⟨F,I,rfl⟩:=d.t.form;obtain⟨G,J,rfl⟩:=d.n.form;obtain⟨H,K,rfl⟩:=d.k.form;have b:=St.start d;have L:=d.lx;have E:T (N.x.size<=1100000):=by show _<=_;omega
 clear d;have ad:=cC h;have af:=jd h 32 rfl;clear h;cases t0:((N.ks.length:Int)==2)
 case' true=>
  have z:N.ks.length=2:=by have:=fh t0;omega
  have A:T (2<=N.ks.length):=by show _<=_;omega
  have B:T (0<N.ks.length):=by show _<_;omega
  have C:T (1<N.ks.length):=by show _<_;omega
  clear z;cases t1:ik f N 2 0
  case' true=>
   cases t2:(dF f N 0 !=27)
   case' true=>
    cases t3:aH N M M M M
 all_goals
  unfold dj;go_in;go_wp2_with (first|(go_at_call 105;refine(dt _ _ f N _ _ 0 2 b.a.t b.a.n b.a.k b.a.ok A.out b.a.ln b.a.l2).mono ?_;rintro e g ⟨rfl,c⟩;replace b:=b.below c;clear c;obtain⟨j,l,m,o,p,q,r,s,u,v⟩:=au b.bn;have y:=b.bt)|(go_at_call 102;refine(jm b.a 0 B.out).mono ?_;rintro e g ⟨rfl,c⟩;replace b:=b.below c;clear c;obtain⟨j,l,m,o,p,q,r,s,u,v⟩:=au b.bn;have y:=b.bt)|(go_at_call 103;refine(dc _ N _ _ b.a.n b.a.k b.a.l1).mono ?_;rintro e g ⟨rfl,c⟩;replace b:=b.below c;clear c;obtain⟨j,l,m,o,p,q,r,s,u,v⟩:=au b.bn;have y:=b.bt));go_ret;exact⟨rfl,b.bel⟩
theorem ack{w:U}{i:O}{f:List Nd}{N:Nd}{vn vk:O}(c:fp w i f N vn vk)(g:N.k=30):
  V Q 57 #[.agg #[i],dj N vn vk] w fun e h=>e= S (.bool (((N.ks.length:Int)==1)&&ik f N 1 0&&aH N X M M M&&decide ((19:Int)<=N.op)&&decide (N.op<=22)))/\W w.heap.size w h:=by
 obtain⟨E,H,rfl⟩:=c.t.form;obtain⟨F,I,rfl⟩:=c.n.form;obtain⟨G,J,rfl⟩:=c.k.form;have b:=St.start c;have K:=c.lx;have C:T (N.x.size<=1100000):=by show _<=_;omega
 clear c;have L:=cC g;have ad:=jd g 30 rfl;clear g;cases t0:((N.ks.length:Int)==1)
 case' true=>
  have j:N.ks.length=1:=by have:=fh t0;omega
  have l:T (1<=N.ks.length):=by show _<=_;omega
  have B:T (0<N.ks.length):=by show _<_;omega
  clear j;cases t1:ik f N 1 0
  case' true=>
   cases t2:aH N X M M M
   case' true=>
    cases t3:decide ((19:Int)<=N.op)
    case' true=>
     cases t4:decide (N.op<=22)
 all_goals
  unfold dj;go_in;go_wp2_with (first|(go_at_call 105;refine(dt _ _ f N _ _ 0 1 b.a.t b.a.n b.a.k b.a.ok l.out b.a.ln b.a.l2).mono ?_;rintro e h ⟨rfl,d⟩;replace b:=b.below d;clear d;obtain⟨m,o,p,q,r,s,u,v,y,z⟩:=au b.bn;have A:=b.bt)|(go_at_call 103;refine(wF _ N _ _ b.a.n b.a.k b.a.l1).mono ?_;rintro e h ⟨rfl,d⟩;replace b:=b.below d;clear d;obtain⟨m,o,p,q,r,s,u,v,y,z⟩:=au b.bn;have A:=b.bt));go_ret;exact⟨rfl,b.bel⟩
theorem acl{w:U}{i:O}{f:List Nd}{N:Nd}{vn vk:O}(c:fp w i f N vn vk)(g:N.k=31):
  V Q 57 #[.agg #[i],dj N vn vk] w fun e h=>e= S (.bool (((N.ks.length:Int)==2)&&ik f N 2 0&&aH N X M M M&&decide ((1:Int)<=N.op)&&decide (N.op<=18)))/\W w.heap.size w h:=by
 obtain⟨F,I,rfl⟩:=c.t.form;obtain⟨G,J,rfl⟩:=c.n.form;obtain⟨H,K,rfl⟩:=c.k.form;have b:=St.start c;have L:=c.lx;have E:T (N.x.size<=1100000):=by show _<=_;omega
 clear c;have ad:=cC g;have af:=jd g 31 rfl;clear g;cases t0:((N.ks.length:Int)==2)
 case' true=>
  have j:N.ks.length=2:=by have:=fh t0;omega
  have l:T (2<=N.ks.length):=by show _<=_;omega
  have B:T (0<N.ks.length):=by show _<_;omega
  have C:T (1<N.ks.length):=by show _<_;omega
  clear j;cases t1:ik f N 2 0
  case' true=>
   cases t2:aH N X M M M
   case' true=>
    cases t3:decide ((1:Int)<=N.op)
    case' true=>
     cases t4:decide (N.op<=18)
 all_goals
  unfold dj;go_in;go_wp2_with (first|(go_at_call 105;refine(dt _ _ f N _ _ 0 2 b.a.t b.a.n b.a.k b.a.ok l.out b.a.ln b.a.l2).mono ?_;rintro e h ⟨rfl,d⟩;replace b:=b.below d;clear d;obtain⟨m,o,p,q,r,s,u,v,y,z⟩:=au b.bn;have A:=b.bt)|(go_at_call 103;refine(wF _ N _ _ b.a.n b.a.k b.a.l1).mono ?_;rintro e h ⟨rfl,d⟩;replace b:=b.below d;clear d;obtain⟨m,o,p,q,r,s,u,v,y,z⟩:=au b.bn;have A:=b.bt));go_ret;exact⟨rfl,b.bel⟩
def Jn:List Int:=[20,21,22,27,23,24,25,26,28,29,32,30,31,33,34,35,36,37,40,41,42]
theorem afG{w:U}{f:O}{g:List Nd}{N:Nd}{vn vk:O}(d:fp w f g N vn vk)(b:∀c∈Jn,N.k≠c):
  V Q 57 #[.agg #[f],dj N vn vk] w fun e i=>e= S (.bool M)/\W w.heap.size w i:=by
 obtain⟨j,o,rfl⟩:=d.t.form;obtain⟨l,p,rfl⟩:=d.n.form;obtain⟨m,q,rfl⟩:=d.k.form;have h:=St.start d;clear d;have r:(N.k==20)=M:=by rw[bg];exact fun a=>b 20 (by decide) a
 have s:(N.k==21)=M:=by rw[bg];exact fun a=>b 21 (by decide) a
 have u:(N.k==22)=M:=by rw[bg];exact fun a=>b 22 (by decide) a
 have A:(N.k==27)=M:=by rw[bg];exact fun a=>b 27 (by decide) a
 have v:(N.k==23)=M:=by rw[bg];exact fun a=>b 23 (by decide) a
 have x:(N.k==24)=M:=by rw[bg];exact fun a=>b 24 (by decide) a
 have y:(N.k==25)=M:=by rw[bg];exact fun a=>b 25 (by decide) a
 have z:(N.k==26)=M:=by rw[bg];exact fun a=>b 26 (by decide) a
 have B:(N.k==28)=M:=by rw[bg];exact fun a=>b 28 (by decide) a
 have C:(N.k==29)=M:=by rw[bg];exact fun a=>b 29 (by decide) a
 have G:(N.k==32)=M:=by rw[bg];exact fun a=>b 32 (by decide) a
 have E:(N.k==30)=M:=by rw[bg];exact fun a=>b 30 (by decide) a
 have F:(N.k==31)=M:=by rw[bg];exact fun a=>b 31 (by decide) a
 have H:(N.k==33)=M:=by rw[bg];exact fun a=>b 33 (by decide) a
 have I:(N.k==34)=M:=by rw[bg];exact fun a=>b 34 (by decide) a
 have J:(N.k==35)=M:=by rw[bg];exact fun a=>b 35 (by decide) a
 have K:(N.k==36)=M:=by rw[bg];exact fun a=>b 36 (by decide) a
 have L:(N.k==37)=M:=by rw[bg];exact fun a=>b 37 (by decide) a
 have ad:(N.k==40)=M:=by rw[bg];exact fun a=>b 40 (by decide) a
 have af:(N.k==41)=M:=by rw[bg];exact fun a=>b 41 (by decide) a
 have ak:(N.k==42)=M:=by rw[bg];exact fun a=>b 42 (by decide) a
 clear b;unfold dj;go_in;go_wp2;go_ret;exact⟨rfl,h.bel⟩
def Lg(a:List Nd)(N:Nd):Nat->Nat->Bool
 |0,_=>X
 |f+1,j=>decide (40<=dF a N j/\dF a N j<=42)&&Lg a N f (j+1)
structure aie (ns:List Nd) (N:Nd) (f j:Nat) (R:Bool):Prop where
 out:Lg ns N f j=R
theorem acm{w:U}{am:O}{i:List Nd}{N:Nd}{vn vk:O}(m:fp w am i N vn vk)(c:N.k=35):
  V Q 57 #[.agg #[am],dj N vn vk] w fun e p=>e= S (.bool (Lg i N N.ks.length 0&&aH N M M M M))/\W w.heap.size w p:=by
 obtain⟨I,L,rfl⟩:=m.t.form;obtain⟨J,ad,rfl⟩:=m.n.form;obtain⟨K,af,rfl⟩:=m.k.form;have b:=St.start m;have a6:=m.l2;clear m;have a7:=cC c 20 rfl;have a8:=cC c 21 rfl;have a9:=cC c 22 rfl;have bo:=cC c 27 rfl;have bb:=cC c 23 rfl;have bd:=cC c 24 rfl;have bf:=cC c 25 rfl;have bl:=cC c 26 rfl;have bp:=cC c 28 rfl;have br:=cC c 29 rfl;have bx:=cC c 32 rfl;have bs:=cC c 30 rfl;have bw:=cC c 31 rfl;have bA:=cC c 33 rfl;have bD:=cC c 34 rfl;have bE:=jd c 35 rfl;clear c;obtain⟨F,G⟩:=aA (Lg i N N.ks.length 0);rw[G];have ao:aie i N N.ks.length 0 F:=⟨G⟩;clear G;unfold dj;go_in;go_wp2_with fail;generalize (w.alloc (.cells #[.slice I i.length L] 25)).alloc (.cells #[.int .i64 N.k,.int .i64 N.f,.int .i64 N.t,.int .i64 N.l,.int .i64 N.op,.int .i64 N.n,.string N.x,.slice J N.nm.length ad,.slice K N.ks.length af] 35)=av at b⊢;go_loopw [6,7,200] (fun _ _ H wr=>∃(d:Nat),H= .int .i64 d/\d<=N.ks.length/\aie i N (N.ks.length-d) d F/\St w (.slice I i.length L) i N (.slice J N.nm.length ad) (.slice K N.ks.length af) wr) (fun _ _ H _=>N.ks.length-(intOf H).toNat)
 case atStart=>exact⟨0,rfl,by omega,ao,b⟩
 case round=>
  clear b;obtain⟨d,rfl,a5,an,b⟩:=hrel;obtain⟨q,r,s,u,v,y,z,A,B,C⟩:=au b.bn;have E:=b.bt;have g:=an.out;by_cases ar:d<N.ks.length
  ·rw[show N.ks.length-d=(N.ks.length-(d+1))+1 by omega,Lg]at g;have ap:(d:Int)<(N.ks.length:Int):=by omega
   have o:=jm b.a d ar;unfold dj at o;generalize dF i N d=ak at g o;by_cases a0:ak<40
   ·rw[aD (by omega),dK]at g;have j:=aq g;clear g;go_wp2_with (go_at_call 102;refine o.mono ?_;rintro e p ⟨rfl,h⟩;replace b:=b.below h;clear h;obtain⟨q,r,s,u,v,y,z,A,B,C⟩:=au b.bn;have E:=b.bt);go_ret;exact⟨by rw[<-j.out];rfl,b.bel⟩
   by_cases a4:42<ak
   ·rw[aD (by omega),dK]at g;have j:=aq g;clear g;go_wp2_with (go_at_call 102;refine o.mono ?_;rintro e p ⟨rfl,h⟩;replace b:=b.below h;clear h;obtain⟨q,r,s,u,v,y,z,A,B,C⟩:=au b.bn;have E:=b.bt);go_ret;exact⟨by rw[<-j.out];rfl,b.bel⟩
   rw[bG (by omega),eC]at g;have j:aie i N (N.ks.length-(d+1)) (d+1) F:=⟨g⟩;clear g;go_wp2_with (go_at_call 102;refine o.mono ?_;rintro e p ⟨rfl,h⟩;replace b:=b.below h;clear h;obtain⟨q,r,s,u,v,y,z,A,B,C⟩:=au b.bn;have E:=b.bt);exact⟨⟨d+1,by go_num,by omega,j,b⟩,by simp[intOf];omega⟩
  ·rw[show N.ks.length-d=0 by omega,Lg]at g;have j:=aq g;have ap:¬(d:Int)<(N.ks.length:Int):=by omega
   clear g;go_wp2_with (go_at_call 103;refine(dc _ N _ _ b.a.n b.a.k b.a.l1).mono ?_;rintro e p ⟨rfl,h⟩;replace b:=b.below h;clear h;obtain⟨q,r,s,u,v,y,z,A,B,C⟩:=au b.bn;have E:=b.bt);go_ret;exact⟨by rw[<-j.out];rfl,b.bel⟩
