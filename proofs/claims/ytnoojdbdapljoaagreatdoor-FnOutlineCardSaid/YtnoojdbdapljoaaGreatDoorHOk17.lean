import Derived.Test.YtnoojdbdapljoaaGreatDoorHOk15
set_option linter.all false
set_option maxRecDepth 100000
set_option maxHeartbeats 6400000
open Go.Value renaming int->M,string->T,agg->W,tuple->Z,slice->Ax,bool->A2
open Go.IntKind renaming i64->O
open Bool renaming false->Q,true->Y
open Go.Ending renaming returned->S
open Go.Proofs.Tryz renaming prog->U
open Go renaming Value->V,World->A0,Calls->A1
open Go.RowKit renaming Below->X,intOf->A3,Hid->A4
namespace Go.Proofs.YtnoojdbdapljoaaGreatDoor
open Go.RowKit Go.Maps Go.WideMaps
theorem ab7{w:A0}{g:V}{i:List Nd}{N:Nd}{vn vk:V}(c:fp w g i N vn vk)(d:N.k=20):
  A1 U 57 #[W #[g],dj N vn vk] w fun e h=>e= S (A2 (((N.ks.length:Int)==0)&&aH N Q Q Q Q))/\X w.heap.size w h:=by
 obtain⟨l,p,rfl⟩:=c.t.form;obtain⟨m,q,rfl⟩:=c.n.form;obtain⟨o,r,rfl⟩:=c.k.form;have b:=St.start c;have s:=c.lx;have j:A4 (N.x.size<=1100000):=by show _<=_;omega
 clear c;have u:=jd d 20 rfl;clear d;cases t0:((N.ks.length:Int)==0)
 case' true=>
  cases t1:aH N Q Q Q Q
 all_goals
  unfold dj;go_in;go_wp2_with (first|(go_at_call 103;refine(dc _ N _ _ b.a.n b.a.k b.a.l1).mono ?_;rintro e h ⟨rfl,f⟩;replace b:=b.below f;clear f;obtain⟨v,y,z,A,B,C,E,F,G,H⟩:=au b.bn;have I:=b.bt));go_ret;exact⟨rfl,b.bel⟩
theorem ab8{w:A0}{g:V}{i:List Nd}{N:Nd}{vn vk:V}(c:fp w g i N vn vk)(d:N.k=21):
  A1 U 57 #[W #[g],dj N vn vk] w fun e h=>e= S (A2 (((N.ks.length:Int)==0)&&aH N Q Q Q Q))/\X w.heap.size w h:=by
 obtain⟨l,p,rfl⟩:=c.t.form;obtain⟨m,q,rfl⟩:=c.n.form;obtain⟨o,r,rfl⟩:=c.k.form;have b:=St.start c;have s:=c.lx;have j:A4 (N.x.size<=1100000):=by show _<=_;omega
 clear c;have u:=cC d;have v:=jd d 21 rfl;clear d;cases t0:((N.ks.length:Int)==0)
 case' true=>
  cases t1:aH N Q Q Q Q
 all_goals
  unfold dj;go_in;go_wp2_with (first|(go_at_call 103;refine(dc _ N _ _ b.a.n b.a.k b.a.l1).mono ?_;rintro e h ⟨rfl,f⟩;replace b:=b.below f;clear f;obtain⟨y,z,A,B,C,E,F,G,H,I⟩:=au b.bn;have J:=b.bt));go_ret;exact⟨rfl,b.bel⟩
theorem ab9{w:A0}{g:V}{i:List Nd}{N:Nd}{vn vk:V}(c:fp w g i N vn vk)(d:N.k=22):
  A1 U 57 #[W #[g],dj N vn vk] w fun e h=>e= S (A2 (((N.ks.length:Int)==0)&&aH N Q Q Q Q))/\X w.heap.size w h:=by
 obtain⟨l,p,rfl⟩:=c.t.form;obtain⟨m,q,rfl⟩:=c.n.form;obtain⟨o,r,rfl⟩:=c.k.form;have b:=St.start c;have s:=c.lx;have j:A4 (N.x.size<=1100000):=by show _<=_;omega
 clear c;have u:=cC d;have v:=jd d 22 rfl;clear d;cases t0:((N.ks.length:Int)==0)
 case' true=>
  cases t1:aH N Q Q Q Q
 all_goals
  unfold dj;go_in;go_wp2_with (first|(go_at_call 103;refine(dc _ N _ _ b.a.n b.a.k b.a.l1).mono ?_;rintro e h ⟨rfl,f⟩;replace b:=b.below f;clear f;obtain⟨y,z,A,B,C,E,F,G,H,I⟩:=au b.bn;have J:=b.bt));go_ret;exact⟨rfl,b.bel⟩
theorem aca{w:A0}{g:V}{i:List Nd}{N:Nd}{vn vk:V}(c:fp w g i N vn vk)(d:N.k=27):
  A1 U 57 #[W #[g],dj N vn vk] w fun e h=>e= S (A2 (((N.ks.length:Int)==0)&&aH N Q Q Q Q))/\X w.heap.size w h:=by
 obtain⟨l,p,rfl⟩:=c.t.form;obtain⟨m,q,rfl⟩:=c.n.form;obtain⟨o,r,rfl⟩:=c.k.form;have b:=St.start c;have s:=c.lx;have j:A4 (N.x.size<=1100000):=by show _<=_;omega
 clear c;have u:=cC d;have v:=jd d 27 rfl;clear d;cases t0:((N.ks.length:Int)==0)
 case' true=>
  cases t1:aH N Q Q Q Q
 all_goals
  unfold dj;go_in;go_wp2_with (first|(go_at_call 103;refine(dc _ N _ _ b.a.n b.a.k b.a.l1).mono ?_;rintro e h ⟨rfl,f⟩;replace b:=b.below f;clear f;obtain⟨y,z,A,B,C,E,F,G,H,I⟩:=au b.bn;have J:=b.bt));go_ret;exact⟨rfl,b.bel⟩
theorem acb{w:A0}{g:V}{i:List Nd}{N:Nd}{vn vk:V}(c:fp w g i N vn vk)(d:N.k=23):
  A1 U 57 #[W #[g],dj N vn vk] w fun e h=>e= S (A2 (((N.ks.length:Int)==0)&&aH N Q Y Q Q))/\X w.heap.size w h:=by
 obtain⟨l,p,rfl⟩:=c.t.form;obtain⟨m,q,rfl⟩:=c.n.form;obtain⟨o,r,rfl⟩:=c.k.form;have b:=St.start c;have s:=c.lx;have j:A4 (N.x.size<=1100000):=by show _<=_;omega
 clear c;have u:=cC d;have v:=jd d 23 rfl;clear d;cases t0:((N.ks.length:Int)==0)
 case' true=>
  cases t1:aH N Q Y Q Q
 all_goals
  unfold dj;go_in;go_wp2_with (first|(go_at_call 103;refine(ly _ N _ _ b.a.n b.a.k b.a.l1).mono ?_;rintro e h ⟨rfl,f⟩;replace b:=b.below f;clear f;obtain⟨y,z,A,B,C,E,F,G,H,I⟩:=au b.bn;have J:=b.bt));go_ret;exact⟨rfl,b.bel⟩
theorem acd{w:A0}{h:V}{j:List Nd}{N:Nd}{vn vk:V}(c:fp w h j N vn vk)(f:N.k=24):
  A1 U 57 #[W #[h],dj N vn vk] w fun e g=>e= S (A2 (((N.ks.length:Int)==0)&&aH N Q Q Y Q&&fok N.x))/\X w.heap.size w g:=by
 obtain⟨A,E,rfl⟩:=c.t.form;obtain⟨B,F,rfl⟩:=c.n.form;obtain⟨C,G,rfl⟩:=c.k.form;have b:=St.start c;have H:=c.lx;have i:A4 (N.x.size<=1100000):=by show _<=_;omega
 clear c;have I:=cC f;have J:=jd f 24 rfl;clear f;cases t0:((N.ks.length:Int)==0)
 case' true=>
  cases t1:aH N Q Q Y Q
  case' true=>
   cases t2:fok N.x
 all_goals
  unfold dj;go_in;go_wp2_with (first|(go_at_call 103;refine(lA _ N _ _ b.a.n b.a.k b.a.l1).mono ?_;rintro e g ⟨rfl,d⟩;replace b:=b.below d;clear d;obtain⟨l,m,o,p,q,r,s,u,v,y⟩:=au b.bn;have z:=b.bt)|(go_at_call 107;refine(E5 N.x i.out _).mono ?_;rintro e g ⟨rfl,d⟩;replace b:=b.below d;clear d;obtain⟨l,m,o,p,q,r,s,u,v,y⟩:=au b.bn;have z:=b.bt));go_ret;exact⟨rfl,b.bel⟩
theorem ace{w:A0}{g:V}{i:List Nd}{N:Nd}{vn vk:V}(c:fp w g i N vn vk)(d:N.k=25):
  A1 U 57 #[W #[g],dj N vn vk] w fun e h=>e= S (A2 (((N.ks.length:Int)==0)&&aH N Q Q Y Q&&decide ((N.x.size:Int)<=4000)))/\X w.heap.size w h:=by
 obtain⟨l,p,rfl⟩:=c.t.form;obtain⟨m,q,rfl⟩:=c.n.form;obtain⟨o,r,rfl⟩:=c.k.form;have b:=St.start c;have s:=c.lx;have j:A4 (N.x.size<=1100000):=by show _<=_;omega
 clear c;have u:=cC d;have v:=jd d 25 rfl;clear d;cases t0:((N.ks.length:Int)==0)
 case' true=>
  cases t1:aH N Q Q Y Q
  case' true=>
   cases t2:decide ((N.x.size:Int)<=4000)
 all_goals
  unfold dj;go_in;go_wp2_with (first|(go_at_call 103;refine(lA _ N _ _ b.a.n b.a.k b.a.l1).mono ?_;rintro e h ⟨rfl,f⟩;replace b:=b.below f;clear f;obtain⟨y,z,A,B,C,E,F,G,H,I⟩:=au b.bn;have J:=b.bt));go_ret;exact⟨rfl,b.bel⟩
theorem acf{w:A0}{h:V}{j:List Nd}{N:Nd}{vn vk:V}(c:fp w h j N vn vk)(f:N.k=26):
  A1 U 57 #[W #[h],dj N vn vk] w fun e g=>e= S (A2 (((N.ks.length:Int)==0)&&aH N Q Q Y Q&&mH N.x))/\X w.heap.size w g:=by
 obtain⟨A,E,rfl⟩:=c.t.form;obtain⟨B,F,rfl⟩:=c.n.form;obtain⟨C,G,rfl⟩:=c.k.form;have b:=St.start c;have H:=c.lx;have i:A4 (N.x.size<=1100000):=by show _<=_;omega
 clear c;have I:=cC f;have J:=jd f 26 rfl;clear f;cases t0:((N.ks.length:Int)==0)
 case' true=>
  cases t1:aH N Q Q Y Q
  case' true=>
   cases t2:mH N.x
 all_goals
  unfold dj;go_in;go_wp2_with (first|(go_at_call 103;refine(lA _ N _ _ b.a.n b.a.k b.a.l1).mono ?_;rintro e g ⟨rfl,d⟩;replace b:=b.below d;clear d;obtain⟨l,m,o,p,q,r,s,u,v,y⟩:=au b.bn;have z:=b.bt)|(go_at_call 108;refine(mq N.x i.out _).mono ?_;rintro e g ⟨rfl,d⟩;replace b:=b.below d;clear d;obtain⟨l,m,o,p,q,r,s,u,v,y⟩:=au b.bn;have z:=b.bt));go_ret;exact⟨rfl,b.bel⟩
def Le(a:List Nd)(N:Nd):Nat->Nat->Bool
 |0,_=>Y
 |f+1,j=>iw (dF a N j)&&Le a N f (j+1)
structure aid (ns:List Nd) (N:Nd) (f j:Nat) (R:Bool):Prop where
 out:Le ns N f j=R
theorem afF{w:A0}{an:V}{g:List Nd}{N:Nd}{vn vk:V}(i:fp w an g N vn vk)(ak:N.k=1):
  A1 U 56 #[W #[an],dj N vn vk] w fun e p=>e= S (A2 (Le g N N.ks.length 0&&aH N Q Q Q Q))/\X w.heap.size w p:=by
 obtain⟨I,L,rfl⟩:=i.t.form;obtain⟨J,ad,rfl⟩:=i.n.form;obtain⟨K,af,rfl⟩:=i.k.form;have b:=St.start i;have a5:=i.l2;clear i;have a6:(N.k==1)=Y:=by rw[ak];rfl
 clear ak;obtain⟨q,r⟩:=aA (Le g N N.ks.length 0);rw[r];have ap:aid g N N.ks.length 0 q:=⟨r⟩;clear r;unfold dj;go_in;go_wp2_with fail;generalize (w.alloc (.cells #[Ax I g.length L] 25)).alloc (.cells #[M O N.k,M O N.f,M O N.t,M O N.l,M O N.op,M O N.n,T N.x,Ax J N.nm.length ad,Ax K N.ks.length af] 35)=a0 at b⊢;go_loopw [6,18] (fun _ s wr=>∃(c:Nat),s= M O c/\c<=N.ks.length/\aid g N (N.ks.length-c) c q/\St w (Ax I g.length L) g N (Ax J N.nm.length ad) (Ax K N.ks.length af) wr) (fun _ s _=>N.ks.length-(A3 s).toNat)
 case atStart=>exact⟨0,rfl,by omega,ap,b⟩
 case round=>
  clear b;obtain⟨c,rfl,a4,ao,b⟩:=hrel;obtain⟨u,v,y,z,A,B,C,E,F,G⟩:=au b.bn;have H:=b.bt;have d:=ao.out;by_cases av:c<N.ks.length
  ·rw[show N.ks.length-c=(N.ks.length-(c+1))+1 by omega,Le]at d;have ar:(c:Int)<(N.ks.length:Int):=by omega
   have m:=jm b.a c av;unfold dj at m;generalize dF g N c=am at d m;have o:=fun w=>zm am w;cases hx:iw am with
   |false=>
    rw[hx,dK]at d;rw[hx]at o;have j:=aq d;clear d hx;go_wp2_with (first|(go_at_call 102;refine m.mono ?_;rintro e p ⟨rfl,h⟩;replace b:=b.below h;clear h;obtain⟨u,v,y,z,A,B,C,E,F,G⟩:=au b.bn;have H:=b.bt)|(go_at_call 55;refine ee (o _) ?_));go_ret;exact⟨by rw[<-j.out];rfl,b.bel⟩
   |true=>
    rw[hx,eC]at d;rw[hx]at o;have j:aid g N (N.ks.length-(c+1)) (c+1) q:=⟨d⟩;clear d hx;go_wp2_with (first|(go_at_call 102;refine m.mono ?_;rintro e p ⟨rfl,h⟩;replace b:=b.below h;clear h;obtain⟨u,v,y,z,A,B,C,E,F,G⟩:=au b.bn;have H:=b.bt)|(go_at_call 55;refine ee (o _) ?_));exact⟨⟨c+1,by go_num,by omega,j,b⟩,by simp[A3];omega⟩
  ·rw[show N.ks.length-c=0 by omega,Le]at d;have j:=aq d;have ar:¬(c:Int)<(N.ks.length:Int):=by omega
   clear d;go_wp2_with (go_at_call 103;refine(dc _ N _ _ b.a.n b.a.k b.a.l1).mono ?_;rintro e p ⟨rfl,h⟩;replace b:=b.below h;clear h;obtain⟨u,v,y,z,A,B,C,E,F,G⟩:=au b.bn;have H:=b.bt);go_ret;exact⟨by rw[<-j.out];rfl,b.bel⟩
structure E9 (s:ByteArray) (f p:Nat) (a:List Int) (R:Bool×Nat×List Int):Prop where
 out:iu s f p a=R
def Ca(p:Nat)(R:Bool×Nat×List Int):V:=if R.1=Y then W #[M O 4,M O p,M O (R.2.1:Int),M O 0,M O 0,T (ga R.2.2)] else W #[M O 4,M O p,M O 0,M O 0,M O 0,T ⟨#[]⟩]
def Fa(R:Bool×Nat×List Int):Int:=if R.1=Y then -1 else(R.2.1:Int)
theorem Cb{p a:Nat}{c:List Int}{R:Bool×Nat×List Int}(h:(Y,a,c)=R):(Ending.returned (Z #[W #[M O 4,M O p,M O (a:Int),M O 0,M O 0,T (ga c)],M O (-1)]))= S (Z #[Ca p R,M O (Fa R)]):=by
 subst h;rfl
theorem qG{p a:Nat}{c:List Int}{R:Bool×Nat×List Int}(h:(Q,a,c)=R):(Ending.returned (Z #[W #[M O 4,M O p,M O 0,M O 0,M O 0,T ⟨#[]⟩],M O (a:Int)]))= S (Z #[Ca p R,M O (Fa R)]):=by
 subst h;rfl
theorem Dh(s:ByteArray)(c6:s.size<=70000)(p:Nat)(c8:p<s.size)(w:A0):A1 U 81 #[T s,W #[M O 0,M O p,M O 0,M O 0,M O 0,T ⟨#[]⟩]] w fun e ca=>
  e= S (Z #[Ca p (iu s (s.size+1) (p+1) []),M O (Fa (iu s (s.size+1) (p+1) []))])/\X w.heap.size w ca:=by
 obtain⟨F,bf⟩:=aA (iu s (s.size+1) (p+1) []);rw[bf];have ce:E9 s (s.size+1) (p+1) [] F:=⟨bf⟩;clear bf;go_in;go_wp2_with fail;go_loopw [6,7,8,9] (fun bs cr d3 d4 wr=>∃(b l i:Nat) (g:List Int),bs= M O b/\fy w.heap.size wr 4 p 0 0 0 ⟨#[]⟩/\fy (w.heap.size+1) wr 0 0 0 0 0 ⟨#[]⟩/\wr.ownsRow (w.heap.size+2) 5 1 cr l (B8 g)/\s.size<b+i/\b<=s.size/\l<=b/\E9 s i b g F/\X w.heap.size w wr/\w.heap.size+2<=wr.heap.size) (fun bs _ _ _ _=>s.size-(A3 bs).toNat)
 case atStart=>
  have cm:fy (w.heap.size+1) ((w.alloc (.cells #[M O 4,M O p,M O 0,M O 0,M O 0,T ⟨#[]⟩] 109)).alloc (.cells #[M O 0,M O 0,M O 0,M O 0,M O 0,T ⟨#[]⟩] 109)) 0 0 0 0 0 ⟨#[]⟩:=by
   have:=aw (w.alloc (.cells #[M O 4,M O p,M O 0,M O 0,M O 0,T ⟨#[]⟩] 109)) (.cells #[M O 0,M O 0,M O 0,M O 0,M O 0,T ⟨#[]⟩] 109);rw[ba]at this;exact this
  exact⟨p+1,0,s.size+1,[],by go_num,(dr _ _ _ (by simp)).trans (aw w _),cm,bk _ _ _ _,by omega,by omega,by omega,ce,((aj _ w).alloc (ah _) _).alloc (by simp) _,by simp⟩
 case round=>
  obtain⟨b,l,i,g,rfl,J,K,B,c5,dd,c7,bx,n,r⟩:=hrel;obtain⟨ct,cu,cv,cx,cy,cz,cB⟩:=da J;obtain⟨z0,ak,am,an,ao,ap,d5⟩:=da K;obtain⟨i,rfl⟩:∃G,i=G+1:=⟨i-1,by omega⟩;have c:=bx.out;unfold iu at c;clear bx;by_cases b0:b<s.size
  ·have cq:=sC b0;have b4:=fun w=>dL b0 w;have c9:(b:Int)<(s.size:Int):=by omega
   rw[aa (by omega)]at c;obtain⟨A,bF⟩:=aA (aK s b);rw[bF]at cq b4 c;clear bF;by_cases a8:A=34
   ·subst a8;rw[ab rfl]at c;have f:=aq c;clear c;rcases B.2 with⟨rfl,cn⟩|⟨G,ar,c0,rfl,dq⟩
    ·have bE:g=[]:=by have:=tJ B;rw[cn]at this;exact iE this
     have cb:=aq bE;clear bE;have cp:=yL;go_wp2_with fail;refine bB (v:= Z #[W #[M O 4,M O p,M O ((b:Int)+1),M O 0,M O 0,T ByteArray.empty],M O (-1)]) (by simp[results,Tryz.results81,go_sem,z0,ak,am,an,ao,ap]) rfl ⟨by have h:=f.out;rw[cb.out]at h;exact Cb h,?_⟩
     iterate 8 refine eI ?_ (by simp) _
     exact n
    ·have cp:=je (xK (a:=⟨w.heap.size,2,none⟩) B (by simp) (M O ((b:Int)+1)));go_wp2_with fail;refine bB (v:= Z #[W #[M O 4,M O p,M O ((b:Int)+1),M O 0,M O 0,T (ga g)],M O (-1)]) (by simp[results,Tryz.results81,go_sem,z0,ak,am,an,ao,ap]) rfl ⟨Cb f.out,?_⟩
     iterate 8 refine eI ?_ (by simp) _
     exact n
   rw[aa a8]at c;have dk:(A==34)=Q:=by simp[a8]
   by_cases a9:A=10
   ·subst a9;rw[ab rfl]at c;have f:=aq c;clear c;go_wp2_with fail;refine bB (v:= Z #[W #[M O 4,M O p,M O 0,M O 0,M O 0,T ⟨#[]⟩],M O (b:Int)]) (by simp[results,Tryz.results81,go_sem,z0,ak,am,an,ao,ap]) rfl ⟨qG f.out,?_⟩
    iterate 6 refine eI ?_ (by simp) _
    exact n
   rw[aa a9]at c;have dn:(A==10)=Q:=by simp[a9]
   by_cases bb:A=92
   ·subst bb;rw[ab rfl]at c;clear a8 a9;have j:=fun w=>fD s (by omega) ((b:Int)+1) (b+1) (by omega) w;by_cases k:aK s (b+1)=110
    ·have x:=dE k (by omega);rw[show lr s (b+1)=(10,b+1+1,Y) by unfold lr;rw[ab k],ab rfl]at c;rw[pD x,k]at j;have f:E9 s i (b+1+1) (g++[10]) F:=⟨c⟩;clear c k;go_wp2_with (first|(go_at_call 76;refine ee (j _) ?_)|(at_builtin;refine gE rfl (.tmp 51) (.tmp 52) rfl (w.heap.size+2) _ l g rfl B r (by omega) [10] 1 rfl (by decide) (by decide) _ rfl rfl ?_;intro G ar w1 u d));go_roundw
     case rel=>exact⟨b+1+1,l+1,i,g++[10],by go_num,J.below d (by omega),K.below d (by omega),u,by omega,by omega,by omega,f,n.trans (d.mono (by omega)),bz r d.size⟩
     case measure=>simp[A3];omega
    by_cases m:aK s (b+1)=116
    ·have x:=dE m (by omega);rw[show lr s (b+1)=(9,b+1+1,Y) by unfold lr;rw[aa k,ab m],ab rfl]at c;rw[pD x,m]at j;have f:E9 s i (b+1+1) (g++[9]) F:=⟨c⟩;clear c k m;go_wp2_with (first|(go_at_call 76;refine ee (j _) ?_)|(at_builtin;refine gE rfl (.tmp 56) (.tmp 57) rfl (w.heap.size+2) _ l g rfl B r (by omega) [9] 1 rfl (by decide) (by decide) _ rfl rfl ?_;intro G ar w1 u d));go_roundw
     case rel=>exact⟨b+1+1,l+1,i,g++[9],by go_num,J.below d (by omega),K.below d (by omega),u,by omega,by omega,by omega,f,n.trans (d.mono (by omega)),bz r d.size⟩
     case measure=>simp[A3];omega
    by_cases q:aK s (b+1)=34
    ·have x:=dE q (by omega);rw[show lr s (b+1)=(34,b+1+1,Y) by unfold lr;rw[aa k,aa m,ab (Or.inl q),q],ab rfl]at c;rw[pD x,q]at j;have bo:=fun w=>Ee x w;rw[q]at bo;have f:E9 s i (b+1+1) (g++[34]) F:=⟨c⟩;clear c k m q;go_wp2_with (first|(go_at_call 76;refine ee (j _) ?_)|(at_builtin;refine gE rfl (.tmp 62) (.tmp 66) rfl (w.heap.size+2) _ l g rfl B r (by omega) [34] 1 rfl (by decide) (by decide) _ rfl rfl ?_;intro G ar w1 u d));go_roundw
     case rel=>exact⟨b+1+1,l+1,i,g++[34],by go_num,J.below d (by omega),K.below d (by omega),u,by omega,by omega,by omega,f,n.trans (d.mono (by omega)),bz r d.size⟩
     case measure=>simp[A3];omega
    by_cases t:aK s (b+1)=92
    ·have x:=dE t (by omega);rw[show lr s (b+1)=(92,b+1+1,Y) by unfold lr;rw[aa k,aa m,ab (Or.inr t),t],ab rfl]at c;rw[pD x,t]at j;have bo:=fun w=>Ee x w;rw[t]at bo;have f:E9 s i (b+1+1) (g++[92]) F:=⟨c⟩;clear c k m q t;go_wp2_with (first|(go_at_call 76;refine ee (j _) ?_)|(at_builtin;refine gE rfl (.tmp 62) (.tmp 66) rfl (w.heap.size+2) _ l g rfl B r (by omega) [92] 1 rfl (by decide) (by decide) _ rfl rfl ?_;intro G ar w1 u d));go_roundw
     case rel=>exact⟨b+1+1,l+1,i,g++[92],by go_num,J.below d (by omega),K.below d (by omega),u,by omega,by omega,by omega,f,n.trans (d.mono (by omega)),bz r d.size⟩
     case measure=>simp[A3];omega
    by_cases I:aK s (b+1)=120
    ·have x:=dE I (by omega);rw[pD x,I]at j;have bD:lr s (b+1)=Ef s (b+1+1):=by unfold lr;rw[aa k,aa m,aa (fun h=>h.elim q t),ab I]
     rw[bD]at c;unfold Ef at c;have C:=fun w=>fD s (by omega) ((b:Int)+1+1) (b+1+1) (by omega) w;have ad:=fun w=>fD s (by omega) ((b:Int)+1+2) (b+1+1+1) (by omega) w;have a6:=I0 s (b+1+1);have a7:=I0 s (b+1+1+1);have o:=fun w=>vz (lk s (b+1+1)) a6.1 a6.2 w;have z:=fun w=>vz (lk s (b+1+1+1)) a7.1 a7.2 w;rw[I6]at o z;have bt:=ry (aK s (b+1+1));have bw:=ry (aK s (b+1+1+1));clear bD k m q t I;by_cases L:iy (aK s (b+1+1))<0
     ·rw[ab L,aa (by simp)]at c;have f:=aq c;generalize lk s (b+1+1)=bA at C o;generalize iy (aK s (b+1+1))=y at o L;clear c ad z bt bw a6 a7;go_wp2_with (go_at_call 76;refine ee (j _) ?_);refine Cm 3 ?_;rw[rj];clear j;go_wp2_with (first|(go_at_call 76;refine ee (C _) ?_)|(go_at_call 141;refine ee (o _) ?_));refine bB (v:= Z #[W #[M O 4,M O p,M O 0,M O 0,M O 0,T ⟨#[]⟩],M O ((b:Int)+1+1)]) (by simp[results,Tryz.results81,go_sem,z0,ak,am,an,ao,ap]) rfl ⟨qG f.out,?_⟩
      iterate 6 refine eI ?_ (by simp) _
      exact n
     rw[aa L]at c;have b1:0<=iy (aK s (b+1+1)):=by omega
     by_cases av:iy (aK s (b+1+1+1))<0
     ·rw[ab av,aa (by simp)]at c;have f:=aq c;generalize lk s (b+1+1)=bA at C o;generalize iy (aK s (b+1+1))=y at o L b1;generalize lk s (b+1+1+1)=cf at ad z;generalize iy (aK s (b+1+1+1))=H at z av;clear c bt bw a6 a7;go_wp2_with (go_at_call 76;refine ee (j _) ?_);refine Cm 3 ?_;rw[rj];clear j;go_wp2_with (first|(go_at_call 76;refine ee (C _) ?_)|(go_at_call 141;refine ee (o _) ?_));rw[rj];clear C o;go_wp2_with (first|(go_at_call 76;refine ee (ad _) ?_)|(go_at_call 141;refine ee (z _) ?_));refine bB (v:= Z #[W #[M O 4,M O p,M O 0,M O 0,M O 0,T ⟨#[]⟩],M O ((b:Int)+1+2)]) (by simp[results,Tryz.results81,go_sem,z0,ak,am,an,ao,ap]) rfl ⟨by have h:=qG (p:=p) f.out;rw[show((b+1+1+1:Nat):Int)=(b:Int)+1+2 by omega]at h;exact h,?_⟩
      iterate 6 refine eI ?_ (by simp) _
      exact n
     have bl:b+1+1<s.size:=by
      rcases cA (b+1+1) s.size with h|h
      ·exact h
      ·rw[er (by omega)]at L;exact absurd (by decide) L
     have bn:b+1+1+1<s.size:=by
      rcases cA (b+1+1+1) s.size with h|h
      ·exact h
      ·rw[er (by omega)]at av;exact absurd (by decide) av
     have bp:=fun w=>dL bl w;have br:=fun w=>dL bn w;rw[show((b+1+1:Nat):Int)=(b:Int)+1+1 by omega]at bp;rw[show((b+1+1+1:Nat):Int)=(b:Int)+1+2 by omega]at br;rw[aa av,ab rfl]at c;rw[pD bl]at C o;rw[pD bn]at ad z;have co:0<=iy (aK s (b+1+1+1)):=by omega
     have f:E9 s i (b+1+1+1+1) (g++[iy (aK s (b+1+1))*16+iy (aK s (b+1+1+1))]) F:=⟨c⟩;clear c a6 a7;have ck:=sC bl;have cl:=sC bn;generalize iy (aK s (b+1+1))=y at o L b1 bt f;generalize iy (aK s (b+1+1+1))=H at z av co bw f;generalize aK s (b+1+1)=bA at C o bp ck;generalize aK s (b+1+1+1)=cf at ad z br cl;rw[show y*16+H=16*y+H by omega]at f;go_wp2_with (go_at_call 76;refine ee (j _) ?_);refine Cm 3 ?_;rw[rj];clear j;go_wp2_with (first|(go_at_call 76;refine ee (C _) ?_)|(go_at_call 141;refine ee (o _) ?_));rw[rj];clear C;go_wp2_with (first|(go_at_call 76;refine ee (ad _) ?_)|(go_at_call 141;refine ee (z _) ?_));rw[rj];clear ad;go_wp2_with fail;obtain⟨E,bd⟩:∃E:Int,(b:Int)+1=E:=⟨_,rfl⟩;rw[bd]at bp br⊢;have cc:=aq bd;have ds:IntKind.i64.wrap (E+1)=E+1:=yx _ (by omega);have dz:IntKind.i64.wrap (E+2)=E+2:=yx _ (by omega);have d0:IntKind.i64.wrap (16*y)=16*y:=yx _ (by omega);have d1:IntKind.i64.wrap (16*y+H)=16*y+H:=yx _ (by omega);have d2:IntKind.u8.wrap (16*y+H)=16*y+H:=IntWalk.u8_in _ (by omega);have c1:0<=E:=by omega
     have c4:E<=70001:=by omega
     clear bd b4;go_region_held3 (fun ca=>True) (trivial) ((first|(go_at_call 141;with_reducible refine ee (o _) ?_)|(go_at_call 141;with_reducible refine ee (z _) ?_)|(refine yA (by rfl) _ _ (by rfl) (w.heap.size+2) _ l g (by rfl) B r (by omega) [_] 1 (by rfl) (by decide) (by decide) _ (by rfl) (by rfl) ?_;intro G ar w1 u d)))
     all_goals
      go_wp2_with fail;have df:=cc.out;exact⟨⟨b+1+1+1+1,l+1,i,g++[16*y+H],by congr 1<;>omega,J.below d (by omega),K.below d (by omega),u,by omega,by omega,by omega,f,n.trans (d.mono (by omega)),bz r d.size⟩,by simp[A3];omega⟩
    rw[show lr s (b+1)=(0,b+1,Q) by unfold lr;rw[aa k,aa m,aa (fun h=>h.elim q t),aa I],aa (by simp)]at c;have f:=aq c;have b5:=qF s (b+1) 110 (by omega);have b6:=qF s (b+1) 116 (by omega);have b7:=qF s (b+1) 34 (by omega);have b8:=qF s (b+1) 92 (by omega);have b9:=qF s (b+1) 120 (by omega);rw[aD k]at b5;rw[aD m]at b6;rw[aD q]at b7;rw[aD t]at b8;rw[aD I]at b9;generalize lk s (b+1)=cs at j b5 b6 b7 b8 b9;clear c k m q t I;go_wp2_with (go_at_call 76;refine ee (j _) ?_);refine bB (v:= Z #[W #[M O 4,M O p,M O 0,M O 0,M O 0,T ⟨#[]⟩],M O ((b:Int)+1)]) (by simp[results,Tryz.results81,go_sem,z0,ak,am,an,ao,ap]) rfl ⟨qG f.out,?_⟩
    iterate 6 refine eI ?_ (by simp) _
    exact n
   rw[aa bb]at c;have dp:(A==92)=Q:=by simp[bb]
   have f:E9 s i (b+1) (g++[A]) F:=⟨c⟩;clear c;go_wp2_with (at_builtin;refine gE rfl (.tmp 36) (.tmp 38) rfl (w.heap.size+2) _ l g rfl B r (by omega) [A] 1 rfl (by decide) (by decide) _ rfl rfl ?_;intro G ar w1 u d);go_roundw
   case rel=>exact⟨b+1,l+1,i,g++[A],by go_num,J.below d (by omega),K.below d (by omega),u,by omega,by omega,by omega,f,n.trans (d.mono (by omega)),bz r d.size⟩
   case measure=>simp[A3];omega
  ·rw[ab (by omega)]at c;have f:=aq c;clear c;obtain rfl:b=s.size:=by omega
   go_wp2_with fail;refine bB (v:= Z #[W #[M O 4,M O p,M O 0,M O 0,M O 0,T ⟨#[]⟩],M O (s.size:Int)]) (by simp[results,Tryz.results81,go_sem,z0,ak,am,an,ao,ap]) rfl ⟨qG f.out,?_⟩
   iterate 6 refine eI ?_ (by simp) _
   exact n
theorem Fb{s t:ByteArray}(h:s≠t):(s.toList==t.toList)=Q:=by
 rw[bg];intro a;apply h;rw[gH,gH]at a;cases s;cases t;simp only at a
 congr 1
 exact Array.toList_inj.1 a
theorem acg{s t:ByteArray}(h:s=t):(s.toList==t.toList)=Y:=by subst h;simp
theorem Hg(w:A0)(E F:V)(c d:List ByteArray)(n:bu w E c)(o:bu w F d)(x:c.length<=1048576)(y:d.length<=1048576):
  A1 U 126 #[E,F] w fun e ak=>e= S (A2 (decide (c=d)))/\X w.heap.size w ak:=by
 obtain⟨J,L,rfl⟩:=n.form;obtain⟨K,ad,rfl⟩:=o.form;by_cases q:c.length=d.length
 ·obtain⟨m,r⟩:=aA (decide (c=d));rw[r];obtain⟨f,k⟩:=aA c.length;have p:d.length=f:=by rw[<-q];exact k
  have h:=gD k p r;have u:A4 (bu w (Ax J f L) c/\bu w (Ax K f ad) d):=⟨by rw[<-k];exact n,by rw[<-p];exact o⟩;rw[k]at x⊢;rw[p];clear n o k p r q y;go_in;go_wp2_with fail;go_loopw [13] (fun t wr=>∃b:Nat,b<=f/\t= M O b/\A4 (∀a,a<b->c[a]?=d[a]?)/\X w.heap.size w wr) (fun t _=>f-(A3 t).toNat)
  case atStart=>exact⟨0,by omega,rfl,fun a af=>by omega,aj _ _⟩
  case round=>
   obtain⟨b,av,rfl,v,j⟩:=hrel;by_cases z:b<f
   ·obtain⟨B,i⟩:=bj h.out.1 z;obtain⟨C,l⟩:=bj h.out.2.1 z;obtain⟨am,rfl,ao⟩:=(u.out.1.below j).get i;obtain⟨an,rfl,ap⟩:=(u.out.2.below j).get l;have a3:(b:Int)<(f:Int):=by omega
    have a0:(0:Int)<=(b:Int):=by omega
    by_cases s:B=C
    ·subst s;have G:A4 (∀a,a<b+1->c[a]?=d[a]?):=fun a af=>by
      rcases cA a b with g|g
      ·exact v.out a g
      ·obtain rfl:a=b:=by omega
       rw[i,l]
     clear i l;go_wp2_with fail;go_quiet (fail)
     go_wp2_with fail;exact⟨⟨b+1,by omega,by go_num,G,lu j _⟩,by simp[A3];omega⟩
    ·have H:A4 (m=Q):=by
      show m=Q;rw[<-h.out.2.2];refine aD fun e=>s ?_;rw[e,l]at i;exact(db i).symm
     have ar:(B.toList==C.toList)=Q:=Fb s;clear i l;go_wp2_with fail;go_quiet (fail)
     go_wp2_with fail;go_ret;exact⟨by rw[H.out];rfl,lu j _⟩
   ·obtain rfl:b=f:=by omega
    have I:A4 (m=Y):=by
     show m=Y;rw[<-h.out.2.2];refine bG (List.ext_getElem? fun a=>?_);rcases cA a b with g|g
     ·exact v.out a g
     ·rw[fG (by rw[h.out.1];exact g),fG (by rw[h.out.2.1];exact g)]
    go_wp2_with fail;go_ret;exact⟨by rw[I.out];rfl,j⟩
 ·rw[aD (fun e=>q (by rw[e]))];have A:¬(c.length:Int)=(d.length:Int):=by omega
  generalize c.length=a4 at A x⊢;generalize d.length=a5 at A y⊢;clear n o q;go_in;go_wp2;go_ret;exact⟨rfl,aj _ _⟩
def wG(a N:Nd):Bool:=decide (a.op=N.op/\a.n=N.n/\a.x=N.x/\a.nm=N.nm)
theorem zA(w:A0)(b N:Nd)(L ad vn vk:V)(l:bu w L b.nm)(m:bu w vn N.nm)(am:∃a n c,ad= Ax a n c)(ak:∃a n c,vk= Ax a n c)(an:b.nm.length<=1048576)(ao:N.nm.length<=1048576):
  A1 U 65 #[dj b L ad,dj N vn vk] w fun e ap=>e= S (A2 (wG b N))/\X w.heap.size w ap:=by
 have k:∀g h,X w.heap.size w ((w.alloc g).alloc h):=fun g h=>((aj _ w).alloc (ah _) g).alloc (by simp) h;have f:=fun g h=>Hg ((w.alloc g).alloc h) L vn b.nm N.nm (l.below (k g h)) (m.below (k g h)) an ao;obtain⟨a5,a9,rfl⟩:=l.form;obtain⟨a6,bb,rfl⟩:=m.form;obtain⟨a7,bl,bd,rfl⟩:=am;obtain⟨a8,bn,bf,rfl⟩:=ak;unfold dj wG;generalize b.nm.length=ar at f⊢;generalize N.nm.length=av at f⊢;by_cases i:b.op=N.op
 ·by_cases o:b.n=N.n
  ·by_cases j:b.x=N.x
   ·have e:decide (b.op=N.op/\b.n=N.n/\b.x=N.x/\b.nm=N.nm)=decide (b.nm=N.nm):=by
     by_cases p:b.nm=N.nm
     ·rw[bG p,bG ⟨i,o,j,p⟩]
     ·rw[aD p,aD (fun d=>p d.2.2.2)]
    rw[e];have K:=acg j;generalize decide (b.nm=N.nm)=a0 at f⊢;clear e j l m;obtain⟨r,q,y,s,v,t,z,u,mks⟩:=b;obtain⟨B,A,I,E,H,F,J,G,C⟩:=N;simp only at i o K⊢;go_in;go_wp2_with (go_at_call 126;refine(f _ _).mono ?_;rintro e bo ⟨rfl,af⟩);go_ret;exact⟨rfl,(k _ _).trans (af.mono (by simp;omega))⟩
   ·rw[aD (fun d=>j d.2.2.1)];have K:=Fb j;clear j l m f;obtain⟨r,q,y,s,v,t,z,u,mks⟩:=b;obtain⟨B,A,I,E,H,F,J,G,C⟩:=N;simp only at i o K⊢;go_in;go_wp2;go_ret;exact⟨rfl,k _ _⟩
  ·rw[aD (fun d=>o d.2.1)];clear l m f;obtain⟨r,q,y,s,v,t,z,u,mks⟩:=b;obtain⟨B,A,I,E,H,F,J,G,C⟩:=N;simp only at i o⊢;go_in;go_wp2;go_ret;exact⟨rfl,k _ _⟩
 ·rw[aD (fun d=>i d.1)];clear l m f;obtain⟨r,q,y,s,v,t,z,u,mks⟩:=b;obtain⟨B,A,I,E,H,F,J,G,C⟩:=N;simp only at i⊢;go_in;go_wp2;go_ret;exact⟨rfl,k _ _⟩
