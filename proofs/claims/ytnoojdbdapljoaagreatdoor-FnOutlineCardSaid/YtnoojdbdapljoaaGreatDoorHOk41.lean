import Derived.Test.YtnoojdbdapljoaaGreatDoorHOk17
import Derived.Test.YtnoojdbdapljoaaGreatDoorHOk18
import Derived.Test.YtnoojdbdapljoaaGreatDoorHOk40
import Derived.Test.YtnoojdbdapljoaaGreatDoorHOk16
import Derived.Test.YtnoojdbdapljoaaGreatDoorHOk19
import Derived.Test.YtnoojdbdapljoaaGreatDoorHOk20
import Derived.Test.YtnoojdbdapljoaaGreatDoorHOk21
import Derived.Test.YtnoojdbdapljoaaGreatDoorHOk22
import Derived.Test.YtnoojdbdapljoaaGreatDoorHOk23
import Derived.Test.YtnoojdbdapljoaaGreatDoorHOk24
set_option linter.all false
set_option maxRecDepth 100000
set_option maxHeartbeats 12800000
open Bool renaming false->M,true->Q
open Go.Value renaming slice->O,int->S,string->V,bool->Ax
open Go.IntKind renaming i64->T
open Go.Obj renaming cells->U
open Go.Proofs.Tryz renaming prog->W
open Go.Ending renaming returned->X
open Go.RowKit renaming Below->Y,intOf->Z
namespace Go.Proofs.YtnoojdbdapljoaaGreatDoor
open Go.RowKit Go.Maps Go.WideMaps
def stB(a:List Nd)(N:Nd):Bool:=
 if N.k=1 then(Le a N N.ks.length 0&&aH N M M M M)
 else if N.k=2 then(aH N M M M Q&&dD N 1 200&&ik a N N.ks.length 0)
 else if N.k=3 then(aH N M M M Q&&dD N 1 1&&((N.ks.length:Int)==1)&&ik a N 1 0)
 else if N.k=4 then(aH N M M M Q&&dD N 1 1&&((N.ks.length:Int)==1)&&(dF a N 0==36))
 else if N.k=5 then(aH N M Q M M&&(decide (1<=N.n/\N.n<(N.ks.length:Int))&&(JC a N N.n.toNat 0&&ik a N (N.ks.length-N.n.toNat) N.n.toNat)))
 else if N.k=6 then(aH N M M M M&&((N.ks.length:Int)==1)&&(dF a N 0==34))
 else if N.k=7 then(aH N M M M M&&(decide (2<=N.ks.length/\N.ks.length<=3)&&(ik a N 1 0&&(!(dF a N 1 !=1)&&((N.ks.length:Int)==2||(dF a N 2==1||dF a N 2==7))))))
 else if N.k=8 then(aH N M M M M&&((N.ks.length:Int)==2)&&ik a N 1 0&&(dF a N 1==1))
 else if N.k=9 then(aH N M M M Q&&(dD N 1 1&&(((N.ks.length:Int)==3||(N.ks.length:Int)==4)&&(ik a N (N.ks.length-1) 0&&(dF a N (N.ks.length-1)==1)))))
 else if N.k=10 then(aH N M M M Q&&dD N 1 200&&((N.ks.length:Int)==2)&&ik a N 1 0&&(dF a N 1==1))
 else if N.k=11 then(aH N M M M M&&((N.ks.length:Int)==0))
 else if N.k=12 then(aH N M M M M&&((N.ks.length:Int)==0))
 else if N.k=13 then(aH N M M M M&&ik a N N.ks.length 0)
 else if N.k=14 then(aH N M M M Q&&dD N 1 2&&((N.ks.length:Int)==2)&&(dF a N 0==1)&&(dF a N 1==1))
 else if N.k=15 then(aH N M M M M&&((N.ks.length:Int)==1)&&ik a N 1 0)
 else if N.k=16 then(aH N M M M M&&((N.ks.length:Int)==1)&&(dF a N 0==34))
 else M
def lB(a:List Nd)(N:Nd):Bool:=
 if N.k=20 then(((N.ks.length:Int)==0)&&aH N M M M M)
 else if N.k=21 then(((N.ks.length:Int)==0)&&aH N M M M M)
 else if N.k=22 then(((N.ks.length:Int)==0)&&aH N M M M M)
 else if N.k=27 then(((N.ks.length:Int)==0)&&aH N M M M M)
 else if N.k=23 then(((N.ks.length:Int)==0)&&aH N M Q M M)
 else if N.k=24 then(((N.ks.length:Int)==0)&&aH N M M Q M&&fok N.x)
 else if N.k=25 then(((N.ks.length:Int)==0)&&aH N M M Q M&&decide ((N.x.size:Int)<=4000))
 else if N.k=26 then(((N.ks.length:Int)==0)&&aH N M M Q M&&mH N.x)
 else if N.k=28 then(((N.ks.length:Int)==2)&&ik a N 2 0&&aH N M M M M)
 else if N.k=29 then(((N.ks.length:Int)==2)&&ik a N 2 0&&aH N M M M M)
 else if N.k=32 then(((N.ks.length:Int)==2)&&ik a N 2 0&&(dF a N 0 !=27)&&aH N M M M M)
 else if N.k=30 then(((N.ks.length:Int)==1)&&ik a N 1 0&&aH N Q M M M&&decide ((19:Int)<=N.op)&&decide (N.op<=22))
 else if N.k=31 then(((N.ks.length:Int)==2)&&ik a N 2 0&&aH N Q M M M&&decide ((1:Int)<=N.op)&&decide (N.op<=18))
 else if N.k=33 then(((N.ks.length:Int)==1)&&ik a N 1 0&&(dF a N 0 !=27)&&aH N M M Q M&&mH N.x)
 else if N.k=34 then(decide ((1:Int)<=(N.ks.length:Int))&&ik a N N.ks.length 0&&(dF a N 0 !=27)&&aH N M M M M)
 else if N.k=35 then(Lg a N N.ks.length 0&&aH N M M M M)
 else if N.k=36 then(((N.ks.length:Int)==1)&&(dF a N 0==1)&&aH N Q M M Q&&dD N 0 200&&(N.op==0||N.op==1))
 else if N.k=37 then(((N.ks.length:Int)==1)&&(dF a N 0==34||dF a N 0==27)&&aH N M M M M)
 else if N.k=40 then(((N.ks.length:Int)==1)&&ik a N 1 0&&aH N M M M M)
 else if N.k=41 then(((N.ks.length:Int)==2)&&ik a N 2 0&&aH N M M M M)
 else if N.k=42 then(((N.ks.length:Int)==1)&&ik a N 1 0&&aH N M M Q M&&mH N.x)
 else M
theorem xy{w:World}{v:Value}{u:List Nd}{N:Nd}{vn vk:Value}(a:fp w v u N vn vk)(h:iw N.k=Q):
  Calls W 56 #[.agg #[v],dj N vn vk] w fun e x=>e= X (Ax (stB u N))/\Y w.heap.size w x:=by
 unfold stB;by_cases b:N.k=1
 ·rw[ab b];exact afF a b
 rw[aa b];by_cases m:N.k=2
 ·rw[ab m];exact afJ a m
 rw[aa m];by_cases n:N.k=3
 ·rw[ab n];exact afH a n
 rw[aa n];by_cases o:N.k=4
 ·rw[ab o];exact afK a o
 rw[aa o];by_cases p:N.k=5
 ·rw[ab p];exact ags a p
 rw[aa p];by_cases q:N.k=6
 ·rw[ab q];exact afL a q
 rw[aa q];by_cases r:N.k=7
 ·rw[ab r];exact af0 a r
 rw[aa r];by_cases s:N.k=8
 ·rw[ab s];exact afI a s
 rw[aa s];by_cases t:N.k=9
 ·rw[ab t];exact af2 a t
 rw[aa t];by_cases c:N.k=10
 ·rw[ab c];exact acr a c
 rw[aa c];by_cases d:N.k=11
 ·rw[ab d];exact acp a d
 rw[aa d];by_cases f:N.k=12
 ·rw[ab f];exact acq a f
 rw[aa f];by_cases g:N.k=13
 ·rw[ab g];exact acs a g
 rw[aa g];by_cases i:N.k=14
 ·rw[ab i];exact acu a i
 rw[aa i];by_cases j:N.k=15
 ·rw[ab j];exact acv a j
 rw[aa j];by_cases l:N.k=16
 ·rw[ab l];exact act a l
 rw[aa l];exact absurd (bc h) (by omega)
theorem we{w:World}{A:Value}{z:List Nd}{N:Nd}{vn vk:Value}(a:fp w A z N vn vk):
  Calls W 57 #[.agg #[A],dj N vn vk] w fun e C=>e= X (Ax (lB z N))/\Y w.heap.size w C:=by
 unfold lB;by_cases b:N.k=20
 ·rw[ab b];exact ab7 a b
 rw[aa b];by_cases c:N.k=21
 ·rw[ab c];exact ab8 a c
 rw[aa c];by_cases d:N.k=22
 ·rw[ab d];exact ab9 a d
 rw[aa d];by_cases j:N.k=27
 ·rw[ab j];exact aca a j
 rw[aa j];by_cases f:N.k=23
 ·rw[ab f];exact acb a f
 rw[aa f];by_cases g:N.k=24
 ·rw[ab g];exact acd a g
 rw[aa g];by_cases h:N.k=25
 ·rw[ab h];exact ace a h
 rw[aa h];by_cases i:N.k=26
 ·rw[ab i];exact acf a i
 rw[aa i];by_cases l:N.k=28
 ·rw[ab l];exact ach a l
 rw[aa l];by_cases m:N.k=29
 ·rw[ab m];exact aci a m
 rw[aa m];by_cases p:N.k=32
 ·rw[ab p];exact acj a p
 rw[aa p];by_cases n:N.k=30
 ·rw[ab n];exact ack a n
 rw[aa n];by_cases o:N.k=31
 ·rw[ab o];exact acl a o
 rw[aa o];by_cases q:N.k=33
 ·rw[ab q];exact adr a q
 rw[aa q];by_cases r:N.k=34
 ·rw[ab r];exact ads a r
 rw[aa r];by_cases s:N.k=35
 ·rw[ab s];exact acm a s
 rw[aa s];by_cases t:N.k=36
 ·rw[ab t];exact acn a t
 rw[aa t];by_cases u:N.k=37
 ·rw[ab u];exact aco a u
 rw[aa u];by_cases v:N.k=40
 ·rw[ab v];exact abL a v
 rw[aa v];by_cases x:N.k=41
 ·rw[ab x];exact ab0 a x
 rw[aa x];by_cases y:N.k=42
 ·rw[ab y];exact ab1 a y
 rw[aa y];refine afG a fun E B=>?_;simp only[Jn,iF,ld,lh]at B;omega
def D9(a:List Int)(i:Int):Nat->Nat->Bool
 |0,_=>Q
 |f+1,j=>decide (0<=a.getD j 0/\a.getD j 0<i)&&D9 a i f (j+1)
structure aiv (l:List Int) (i:Int) (f j:Nat) (R:Bool):Prop where
 out:D9 l i f j=R
theorem uE(a:List Int)(i:Int):∀(f j:Nat),D9 a i f j=Q->∀k,j<=k->k<j+f->0<=a.getD k 0/\a.getD k 0<i
 |0,j,_,k,b,c=>by omega
 |f+1,j,h,k,b,c=>by
  rw[D9,aB]at h;rcases jk b with rfl|h3
  ·exact bc h.1
  ·exact uE a i f (j+1) h.2 k h3 (by omega)
theorem aiw{a:List Nd}{N:Nd}{i:Nat}(h:D9 N.ks i N.ks.length 0=Q)(e:i<=a.length):vB a N:=by
 refine⟨fun f c=>?_⟩;obtain⟨d,b,rfl⟩:=fH c;have:=uE N.ks i N.ks.length 0 h d (by omega) (by omega);rw[bm,aI b]at this;simp only[gl]at this;omega
def Bg(N:Nd):Bool:=decide (0<=N.f/\N.f<=N.t/\0<=N.l/\N.ks.length<=200)
def nc(a:List Nd)(N:Nd):Bool:=if iw N.k=Q then stB a N else lB a N
def gG(a:List Nd)(i:Nat)(N:Nd):Bool:=Bg N&&(D9 N.ks i N.ks.length 0&&nc a N)
structure fx (N:Nd):Prop where
 l1:N.nm.length<=1048576
 l2:N.ks.length<=1048576
 lx:N.x.size<=1048576
 ls:∀s∈N.nm,s.size<=1048576
theorem Ds(w:World)(an:Value)(a:List Nd)(i:Nat)(N:Nd)(A:cg w an a)(bo:a.length<=1048576)(z:a[i]?=some N)(hS:fx N):
  Calls W 28 #[.agg #[an],S T i] w fun e br=>e= X (Ax (gG a i N))/\Y w.heap.size w br:=by
 obtain⟨bt,o,rfl⟩:=A.form;obtain⟨s,rfl,b6,b5,bb⟩:=A.get z;have bl:i<a.length:=by rcases cA i a.length with h|h;exact h;rw[fG h]at z;cases z
 have bF:(i:Int)<(a.length:Int):=by omega
 have bE:(0:Int)<=(i:Int):=by omega
 obtain⟨ak,av,a0,a4,a5,a6,a7,a8,a9,H,G⟩:=bb;obtain⟨j,p,rfl⟩:=H.form;obtain⟨m,q,rfl⟩:=G.form;have c:Y w.heap.size w ((w.alloc (U #[O (some s) a.length o] 25)).alloc (U #[S T N.k,S T N.f,S T N.t,S T N.l,S T N.op,S T N.n,V N.x,O j N.nm.length p,O m N.ks.length q] 35)):=((aj _ w).alloc (ah _) _).alloc (by simp) _;have b3:=uh ak;have v:=aq hS;have y:=gD A H G;have b2:=hS.l2;have bf:((w.alloc (U #[O (some s) a.length o] 25)).alloc (U #[S T N.k,S T N.f,S T N.t,S T N.l,S T N.op,S T N.n,V N.x,O j N.nm.length p,O m N.ks.length q] 35)).cell? ⟨w.heap.size,0,none⟩=some (O (some s) a.length o):=by
  rw[az _ _ _ _ _ _ ((dr _ _ _ (by simp)).trans (aw w _))];rfl
 have am:de (w.heap.size+1) ((w.alloc (U #[O (some s) a.length o] 25)).alloc (U #[S T N.k,S T N.f,S T N.t,S T N.l,S T N.op,S T N.n,V N.x,O j N.nm.length p,O m N.ks.length q] 35)) 35 N (O j N.nm.length p) (O m N.ks.length q):=by
  have:=aw (w.alloc (U #[O (some s) a.length o] 25)) (U #[S T N.k,S T N.f,S T N.t,S T N.l,S T N.op,S T N.n,V N.x,O j N.nm.length p,O m N.ks.length q] 35);rw[ba]at this;exact this
 clear A H G hS z;unfold gG;by_cases bw:N.f<0
 ·rw[show Bg N=M from aD (by omega)];go_in;go_wp2;all_goals (go_ret;exact⟨rfl,c⟩)
 by_cases bx:N.t<N.f
 ·rw[show Bg N=M from aD (by omega)];go_in;go_wp2;all_goals (go_ret;exact⟨rfl,c⟩)
 by_cases bA:N.l<0
 ·rw[show Bg N=M from aD (by omega)];go_in;go_wp2;all_goals (go_ret;exact⟨rfl,c⟩)
 by_cases bD:(200:Int)<(N.ks.length:Int)
 ·rw[show Bg N=M from aD (by omega)];go_in;go_wp2;all_goals (go_ret;exact⟨rfl,c⟩)
 rw[show Bg N=Q from bG (by omega)];obtain⟨af,hS⟩:=aA (nc a N);rw[hS];have ad:=aq hS;clear hS;obtain⟨C,E⟩:=aA (D9 N.ks i N.ks.length 0);rw[E];have L:aiv N.ks i N.ks.length 0 C:=⟨E⟩;clear E;go_in;go_wp2_with fail;generalize (w.alloc (U #[O (some s) a.length o] 25)).alloc (U #[S T N.k,S T N.f,S T N.t,S T N.l,S T N.op,S T N.n,V N.x,O j N.nm.length p,O m N.ks.length q] 35)=ar at c bf am⊢;clear ak av a0 a4 a5 a6 a7 a8 a9;go_loop [7,37] (fun _ K=>∃b:Nat,K= S T b/\b<=N.ks.length/\aiv N.ks i (N.ks.length-b) b C) (fun _ K=>N.ks.length-(Z K).toNat)
 case atStart=>exact⟨0,rfl,by omega,L⟩
 case round=>
  obtain⟨b,rfl,b0,ap⟩:=hrel;have d:=ap.out;by_cases bp:b<N.ks.length
  ·have J:N.ks[b]?=some N.ks[b]:=aI bp;obtain⟨b4,rfl,bd⟩:=(y.out.2.2.below c).get J;rw[show N.ks.length-b=(N.ks.length-(b+1))+1 by omega,D9,bm,J,gl]at d;have bn:(b:Int)<(N.ks.length:Int):=by omega
   have b1:(0:Int)<=(b:Int):=by omega
   generalize N.ks[b]=ao at d bd;clear J;by_cases z0:ao<0
   ·rw[aD (by omega),dK]at d;have g:=aq d;clear d;go_wp2_with fail;go_ret;exact⟨by rw[<-g.out];rfl,c⟩
   by_cases cm:(i:Int)<=ao
   ·rw[aD (by omega),dK]at d;have g:=aq d;clear d;go_wp2_with fail;go_ret;exact⟨by rw[<-g.out];rfl,c⟩
   rw[bG (by omega),eC]at d;have g:aiv N.ks i (N.ks.length-(b+1)) (b+1) C:=⟨d⟩;clear d;go_wp2_with fail;go_round
   case rel=>exact⟨b+1,by go_num,by omega,g⟩
   case measure=>simp[Z];omega
  ·rw[show N.ks.length-b=0 by omega,D9]at d;have g:=aq d;have bn:¬(b:Int)<(N.ks.length:Int):=by omega
   have I:vB a N:=aiw (by rw[L.out,<-g.out]) (jx bl);have u:fp ar (O (some s) a.length o) a N (O j N.nm.length p) (O m N.ks.length q):=⟨y.out.1.below c,y.out.2.1.below c,y.out.2.2.below c,I,bo,v.out.l1,v.out.l2,v.out.lx,v.out.ls⟩;obtain⟨b7,b8,b9,ca,cb,cc,ce,cf,ck,cl⟩:=au am;have B:=fun w=>zm N.k w;clear d;cases hx:iw N.k with
   |true=>
    have r:=xy u hx;rw[hx]at B;rw[show stB a N=af by rw[<-ad.out];unfold nc;rw[ab hx]]at r;unfold dj at r;clear hx u I;go_wp2_with (first|(go_at_call 55;refine ee (B _) ?_)|(go_at_call 56;refine r.mono ?_;rintro e bs ⟨rfl,F⟩));go_ret;exact⟨by rw[<-g.out];rfl,c.trans (F.mono c.size)⟩
   |false=>
    have r:=we u;rw[hx]at B;rw[show lB a N=af by rw[<-ad.out];unfold nc;rw[aa (by rw[hx];simp)]]at r;unfold dj at r;clear hx u I;go_wp2_with (first|(go_at_call 55;refine ee (B _) ?_)|(go_at_call 57;refine r.mono ?_;rintro e bs ⟨rfl,F⟩));go_ret;exact⟨by rw[<-g.out];rfl,c.trans (F.mono c.size)⟩
def bgC(c k:Int):Bool:=decide ((k=1/\cK c=Q)\/((k=2\/k=3)/\dl c=Q)\/(k=4/\c=34))
def bgT(x:ByteArray)(k:Int):Bool:=decide (x.size<=(xg k).size)&&(((xg k).extract 0 x.size).toList==x.toList)
def bgL(x:ByteArray):List Int->Bool
 |[]=>M
 |k::r=>if bgC (aK x 0) k=Q then Q else if bgT x k=Q then Q else bgL x r
def Dt(ks:List Int)(x:ByteArray):Bool:=if x.size=1/\aK x 0=45 then Q else bgL x ks
structure aix (x:ByteArray) (ks:List Int) (R:Bool):Prop where
 out:bgL x ks=R
theorem Fx(w:World)(v:Value)(ks:List Int)(x:ByteArray)(h:bi w v ks)(a5:ks.length<=1000)(a2:0<x.size)(bp:x.size<=70000):
  Calls W 84 #[v,V x] w fun e d=>e= X (Ax (Dt ks x))/\Y w.heap.size w d:=by
 have H:=fun w=>dL a2 w;rw[show(((0:Nat):Int))=0 from rfl]at H;obtain⟨a9,bd,rfl⟩:=h.form;unfold Dt;by_cases m:x.size=1/\aK x 0=45
 ·rw[ab m];rw[m.2]at H;have br:=m.1;clear h m;go_in;go_wp2_with fail;go_ret;exact⟨rfl,aj _ _⟩
 ·rw[aa m];obtain⟨z,A⟩:=aA (bgL x ks);rw[A];obtain⟨s,G⟩:=aA ks.length;rw[G]at h a5⊢;have u:=dx h G;have ak:aix x (ks.drop 0) z:=⟨A⟩;obtain⟨f,C⟩:=aA (aK x 0);have ap:=aq C;rw[C]at H m;have a3:((x.size:Int)=1/\(f==45)=M)\/((x.size:Int)==1)=M:=by
   rcases Classical.em (x.size=1) with g|g
   ·exact .inl ⟨by omega,by rw[bg];exact fun e=>m ⟨g,e⟩⟩
   ·exact .inr (by rw[bg];omega)
  clear h G A C m;rcases a3 with⟨p1,p2⟩|p1;all_goals
   go_in;go_wp2_with fail;clear p1;try clear p2
   go_loopw [18] (fun af wr=>∃i:Nat,i<=s/\af= S T i/\aix x (ks.drop i) z/\Y w.heap.size w wr) (fun af _=>s-(Z af).toNat)
   case atStart=>exact⟨0,be _,rfl,ak,aj _ _⟩
   case round=>
    obtain⟨i,bl,rfl,y,t⟩:=hrel;clear ak;have c:=y.out;by_cases a4:i<s
    ·have bo:(i:Int)<(s:Int):=by omega
     have bn:(0:Int)<=(i:Int):=by omega
     obtain⟨a,F⟩:=bj u.out.2 a4;obtain⟨bb,rfl,bf⟩:=(u.out.1.below t).get F;have E:=List.getElem?_eq_some_iff.1 F;rw[mg E.1,E.2,bgL,ap.out]at c;have k:=aq t;clear F E y t;by_cases r:bgC f a=Q
     ·rw[ab r]at c;have l:=aq c;have p:=bc r;clear c r;rcases p with⟨rfl,b⟩|⟨rfl|rfl,b⟩|⟨rfl,rfl⟩
      ·go_wp2_with (go_at_call 77;refine(iC b _).mono ?_;rintro e d ⟨rfl,q⟩;subst d);go_ret;exact⟨by rw[<-l.out];rfl,k.out⟩
      ·go_wp2_with (go_at_call 79;refine(dy b _).mono ?_;rintro e d ⟨rfl,q⟩;subst d);go_ret;exact⟨by rw[<-l.out];rfl,k.out⟩
      ·go_wp2_with (go_at_call 79;refine(dy b _).mono ?_;rintro e d ⟨rfl,q⟩;subst d);go_ret;exact⟨by rw[<-l.out];rfl,k.out⟩
      ·go_wp2_with fail;go_ret;exact⟨by rw[<-l.out];rfl,k.out⟩
     ·rw[aa r]at c;have p:¬((a=1/\cK f=Q)\/((a=2\/a=3)/\dl f=Q)\/(a=4/\f=34)):=fun j=>r (bG j);have am:(a=1/\cK f=M)\/(a=2/\dl f=M)\/(a=3/\dl f=M)\/(a=4/\(f==34)=M)\/((a==1)=M/\(a==2)=M/\(a==3)=M/\(a==4)=M):=by
       by_cases I:a=1
       ·refine .inl ⟨I,?_⟩;cases j:cK f with
        |false=>rfl
        |true=>exact absurd (.inl ⟨I,j⟩) p
       by_cases J:a=2
       ·refine .inr (.inl ⟨J,?_⟩);cases j:dl f with
        |false=>rfl
        |true=>exact absurd (.inr (.inl ⟨.inl J,j⟩)) p
       by_cases K:a=3
       ·refine .inr (.inr (.inl ⟨K,?_⟩));cases j:dl f with
        |false=>rfl
        |true=>exact absurd (.inr (.inl ⟨.inr K,j⟩)) p
       by_cases L:a=4
       ·exact .inr (.inr (.inr (.inl ⟨L,beq_eq_false_iff_ne.2 fun j=>p (.inr (.inr ⟨L,j⟩))⟩)))
       ·exact .inr (.inr (.inr (.inr ⟨beq_eq_false_iff_ne.2 I,beq_eq_false_iff_ne.2 J,beq_eq_false_iff_ne.2 K,beq_eq_false_iff_ne.2 L⟩)))
      have ad:=fun w=>zb a w;unfold bgT at c;generalize xg a=n at ad c;clear p r;by_cases o:(decide (x.size<=n.size)&&((n.extract 0 x.size).toList==x.toList))=Q
      ·rw[ab o]at c;have l:=aq c;rw[aB]at o;obtain⟨an,a7⟩:=o;have t3:(x.size:Int)<=(n.size:Int):=by have:=bc an;omega
       clear c an;rcases am with⟨rfl,b⟩|⟨rfl,b⟩|⟨rfl,b⟩|⟨rfl,b⟩|⟨ar,av,a0,a1⟩;all_goals
        go_wp2_with (first|(go_at_call 77;refine(iC b _).mono ?_;rintro e d ⟨rfl,q⟩;subst d)|(go_at_call 79;refine(dy b _).mono ?_;rintro e d ⟨rfl,q⟩;subst d)|(go_at_call 142;refine(ad _).mono ?_;rintro e a8 ⟨rfl,B⟩));go_ret;exact⟨by rw[<-l.out];rfl,k.out.trans (B.mono k.out.size)⟩
      ·rw[aa o]at c;have ao:aix x (ks.drop (i+1)) z:=⟨c⟩;clear c;have a6:(x.size:Int)<=(n.size:Int)/\((n.extract 0 x.size).toList==x.toList)=M\/¬(x.size:Int)<=(n.size:Int):=by
        rcases cA n.size x.size with g|g
        ·exact .inr (by omega)
        ·refine .inl ⟨by omega,?_⟩;rw[bG g,eC]at o;simpa using o
       clear o;rcases a6 with⟨t3,a7⟩|t3;all_goals
        rcases am with⟨rfl,b⟩|⟨rfl,b⟩|⟨rfl,b⟩|⟨rfl,b⟩|⟨ar,av,a0,a1⟩;all_goals
         go_wp2_with (first|(go_at_call 77;refine(iC b _).mono ?_;rintro e d ⟨rfl,q⟩;subst d)|(go_at_call 79;refine(dy b _).mono ?_;rintro e d ⟨rfl,q⟩;subst d)|(go_at_call 142;refine(ad _).mono ?_;rintro e a8 ⟨rfl,B⟩));exact⟨⟨i+1,by omega,by go_num,ao,k.out.trans (B.mono k.out.size)⟩,by simp[Z];omega⟩
    ·obtain rfl:i=s:=by omega
     rw[pt (by rw[u.out.2];exact ah _),bgL]at c;have l:=aq c;clear c y;go_wp2_with fail;go_ret;exact⟨by rw[<-l.out];rfl,t⟩
def adt(s:ByteArray)(p n:Nat):Bool:=cK (aK s p)&&(!(cK (lk s (p+n)))&&!(dl (lk s (p+n))))
def wrL(s:ByteArray)(p:Nat)(ks:List Int):Nat->Nat->Nat
 |0,n=>n
 |f+1,n=>if p+n<s.size/\Dt ks (s.extract p (p+n+1))=Q then(if adt s p (n+1)=Q then n+1 else wrL s p ks f (n+1)) else n
def wrongF(s:ByteArray)(p:Nat)(ks:List Int):Nat:=p+wrL s p ks (s.size+1) 0
structure adu (s:ByteArray) (p:Nat) (ks:List Int) (f n R:Nat):Prop where
 out:wrL s p ks f n=R
theorem wK(w:World)(s:ByteArray)(p:Nat)(v:Value)(ks:List Int)(h:bi w v ks)(K:ks.length<=1000)(bn:s.size<=70000)(a6:p<s.size):
  Calls W 48 #[V s,S T p,v] w fun e a8=>e= X (S T (wrongF s p ks))/\Y w.heap.size w a8:=by
 have a7:=fun w=>dL a6 w;obtain⟨H,I,rfl⟩:=h.form;unfold wrongF;obtain⟨j,u⟩:=aA (wrL s p ks (s.size+1) 0);rw[u];obtain⟨af,B⟩:=aA ks.length;have E:Hid (bi w (O H af I) ks/\ks.length<=1000):=⟨by rw[<-B];exact h,K⟩;have F:adu s p ks (s.size+1) 0 j:=⟨u⟩;rw[B];obtain⟨ar,A⟩:=aA (aK s p);have am:=aq A;rw[A]at a7;have bo:(p:Int)<(s.size:Int):=by omega
 clear h K u A B;go_in;go_wp2_with fail;go_loopw [7] (fun C wr=>∃(a d:Nat),p+a<=s.size/\s.size<p+a+d/\C= S T a/\adu s p ks d a j/\Y w.heap.size w wr) (fun C _=>s.size+1-(Z C).toNat)
 case atStart=>exact⟨0,s.size+1,by omega,by omega,rfl,F,aj _ _⟩
 case round=>
  obtain⟨a,d,bf,bd,rfl,n,k⟩:=hrel;clear F;obtain⟨d,rfl⟩:∃a2,d=a2+1:=⟨d-1,by omega⟩;have b:=n.out;rw[wrL]at b;by_cases L:p+a<s.size
  ·have a5:(p:Int)+(a:Int)<(s.size:Int):=by omega
   have bl:(0:Int)<=(p:Int)+(a:Int):=by omega
   have ad:(s.extract p (p+a+1)).size=a+1:=by rw[xG];omega
   have l:=fun (G:World) (a3:Y w.heap.size w G)=>Fx G (O H af I) ks (s.extract p (p+a+1)) (E.out.1.below a3) E.out.2 (by omega) (by omega);have av:(p:Int)+(a:Int)+1<=(s.size:Int):=by omega
   have a0:IntKind.i64.wrap ((p:Int)+(a:Int)+1)=(p:Int)+(a:Int)+1:=by rw[cJ];omega
   have a1:((p:Int)+(a:Int)+1).toNat=p+a+1:=by omega
   have c:=aq k;obtain⟨ak,t⟩:=aA (Dt ks (s.extract p (p+a+1)));rw[t]at l b;have a4:=c.out;cases ak with
   |false=>
    rw[aa (fun h=>by cases h.2)]at b;have f:=aq b;clear b n k t ad;go_wp2_with fail;refine cd (l _ c.out) fun a9 g=>?_;clear l;go_wp2_with fail;go_ret;exact⟨by first|(rw[<-f.out,tz];rfl)|(rw[<-f.out];rfl),c.out.trans (g.mono c.out.size)⟩
   |true=>
    rw[ab ⟨L,rfl⟩]at b;unfold adt at b;rw[am.out]at b;have m:=fun w=>fD s (by omega) ((p:Int)+((a:Int)+1)) (p+(a+1)) (by omega) w;generalize lk s (p+(a+1))=J at m b;obtain⟨an,x⟩:=aA (cK ar);obtain⟨ao,y⟩:=aA (cK J);obtain⟨ap,z⟩:=aA (dl J);rw[x,y,z]at b;have q:=fun w=>iC x w;have r:=fun w=>iC y w;have o:=fun w=>dy z w;have bb:=aq k;clear x y z n k t ad a4;go_wp2_with fail;refine cd (l _ c.out) fun a9 g=>?_;clear l av a0 a1;cases an with
    |false=>
     have i:adu s p ks d (a+1) j:=⟨b⟩;clear b r o m;go_wp2_with (first|(go_at_call 77;with_reducible refine ee (q _) ?_));exact⟨⟨a+1,d,by omega,by omega,by go_num,i,c.out.trans (g.mono c.out.size)⟩,by simp[Z];omega⟩
    |true=>
     cases ao with
     |true=>
      have i:adu s p ks d (a+1) j:=⟨b⟩;clear b o;go_wp2_with (first|(go_at_call 77;with_reducible refine ee (q _) ?_)|(go_at_call 77;with_reducible refine ee (r _) ?_)|(go_at_call 76;refine ee (m _) ?_));exact⟨⟨a+1,d,by omega,by omega,by go_num,i,c.out.trans (g.mono c.out.size)⟩,by simp[Z];omega⟩
     |false=>
      cases ap with
      |true=>
       have i:adu s p ks d (a+1) j:=⟨b⟩;clear b;go_wp2_with (first|(go_at_call 77;with_reducible refine ee (q _) ?_)|(go_at_call 77;with_reducible refine ee (r _) ?_)|(go_at_call 79;refine ee (o _) ?_)|(go_at_call 76;refine ee (m _) ?_));exact⟨⟨a+1,d,by omega,by omega,by go_num,i,c.out.trans (g.mono c.out.size)⟩,by simp[Z];omega⟩
      |false=>
       have f:=aq b;clear b;go_wp2_with (first|(go_at_call 77;with_reducible refine ee (q _) ?_)|(go_at_call 77;with_reducible refine ee (r _) ?_)|(go_at_call 79;refine ee (o _) ?_)|(go_at_call 76;refine ee (m _) ?_));go_ret;exact⟨by first|(rw[<-f.out,tz,tz];rfl)|(rw[<-f.out,tz];rfl)|(rw[<-f.out];rfl),c.out.trans (g.mono c.out.size)⟩
  ·rw[aa (fun h=>L h.1)]at b;have f:=aq b;have a5:¬(p:Int)+(a:Int)<(s.size:Int):=by omega
   clear b n;go_wp2_with fail;go_ret;exact⟨by first|(rw[<-f.out,tz];rfl)|(rw[<-f.out];rfl),k⟩
