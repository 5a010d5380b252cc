import Derived.Test.YtjeamjdieofoeaaGreatDoorHZk27
import Derived.Test.YtjeamjdieofoeaaGreatDoorHZk22
set_option linter.all false
set_option maxRecDepth 100000
set_option maxHeartbeats 25600000
open Go.Value renaming int->M,string->Br,bool->B3,tuple->B6
open Go.IntKind renaming i64->O
open Bool renaming false->R,true->A9
open Go.RowKit renaming Below->U,Hid->A5
open Option renaming none->Z,some->B0
open Go renaming World->Ax,Calls->B1,Value->B4
open Go.Proofs.Tryz renaming prog->A0
open Go.Ending renaming returned->A2
open Go.Obj renaming cells->Bs
namespace Go.Proofs.YtjeamjdieofoeaaGreatDoor
open Go.RowKit
variable{L:List Im}{Y:ByteArray}{f:FuncId}{i t:Nat}{ns:List Nd}{vs:Value}{w0:World}
theorem ahg{S:List Int}{n:Nat}(hS:Cp S)(b:S.length=n)(e:1<=n):S.getD (n-1) 0≠(n:Int)↔S.getD (n-1) 0<(n:Int):=by
 obtain⟨c,a⟩:=cy b (show n-1<n by omega);have d:=hS _ c a;rw[be,a,gl];omega
open Go.Maps Go.WideMaps
theorem aax(x:ByteArray):yH x=decide (x=⟨#[]⟩):=by
 unfold yH;rw[fE];by_cases a:x=⟨#[]⟩
 ·subst a;rfl
 ·rw[aC a,aC];intro b;apply a;cases x;simp only at b
  congr 1
  exact Array.toList_inj.1 b
theorem xe(N:Nd):Ah (mz N (de N.k)) N=(match de N.k with
  |0=>bC N R R R A9
  |1=>bC N R A9 R R
  |2=>bC N R A9 R R
  |3=>bC N R R A9 R
  |4=>bC N A9 R R R
  |5=>bC N A9 R R A9&&(N.op==0||N.op==1)
  |_=>bC N R R R R):=by
 have p:∀(l m o:Bool)(P f g h:Prop) [Decidable P] [Decidable f] [Decidable g] [Decidable h],decide (P/\f/\g/\h)=(decide P&&decide f&&decide g&&decide h):=fun l m o P f g h _ _ _ _=>by
  by_cases c:P<;>by_cases q:f<;>by_cases r:g<;>by_cases s:h<;>simp[c,q,r,s]
 have d:decide ((0:Int)=N.op)=(N.op==0):=by
  by_cases a:N.op=0
  ·rw[bH a.symm,a];rfl
  ·rw[aC (fun b=>a b.symm)];exact(beq_eq_false_iff_ne.2 a).symm
 have j:decide ((0:Int)=N.n)=(N.n==0):=by
  by_cases a:N.n=0
  ·rw[bH a.symm,a];rfl
  ·rw[aC (fun b=>a b.symm)];exact(beq_eq_false_iff_ne.2 a).symm
 have e:decide ((⟨#[]⟩:ByteArray)=N.x)=yH N.x:=by
  rw[aax];by_cases a:N.x=⟨#[]⟩
  ·rw[bH a.symm,bH a]
  ·rw[aC (fun b=>a b.symm),aC a]
 have i:decide (([]:List ByteArray)=N.nm)=decide (N.nm.length=0):=by
  by_cases a:N.nm=[]
  ·rw[bH a.symm,bH (by rw[a];rfl)]
  ·rw[aC (fun b=>a b.symm),aC (fun b=>a (ia b))]
 unfold Ah bC;rw[p A9 A9 A9];rcases C9 N.k with hc|hc|hc|hc|hc|hc|hc
 ·rw[hc];simp only[mz,d,j,e];simp
 ·rw[hc];simp only[mz,d,e,i];simp
 ·rw[hc];simp only[mz,d,e,i];simp
 ·rw[hc];simp only[mz,d,j,i];simp
 ·rw[hc];simp only[mz,j,e,i];simp
 ·rw[hc];simp only[mz,j,e];have b:decide ((if N.op=1 then(1:Int) else 0)=N.op)=(N.op==0||N.op==1):=by
   by_cases c:N.op=1
   ·rw[ab c,c];rfl
   ·rw[aa c,d];rw[beq_eq_false_iff_ne.2 c,A3]
  rw[b];simp;cases (N.op==0||N.op==1)<;>cases (N.n==0)<;>cases yH N.x<;>rfl
 ·rw[hc];simp only[mz,d,j,e,i];simp
theorem lC(a:List Nd)(ks:List Int):(kinds a ks).length=ks.length:=by simp[kinds]
theorem ahh(a:List Nd)(N:Nd)(j:Nat)(h:j<N.ks.length):(kinds a N.ks)[j]?=B0 (fh a N j):=by
 unfold kinds fh;rw[ce,aJ h];simp[List.getD,aJ h]
theorem aay(K:List Int):eH [] K=K.isEmpty:=rfl
theorem aco(i:Nat)(K:List Int):eH [(i,1)] K=K.all (ms i):=by
 rw[eH,aa (by omega),aay];have b:Id i 1 K=(K.takeWhile (ms i)).length:=by unfold Id;rw[ab rfl]
 rw[b]
 induction K with
 |nil=>rfl
 |cons a d c=>
  cases h:ms i a with
  |false=>rw[Fl (by simp[h])];simp[h]
  |true=>
   rw[Fp (by simp[h]),FH,h,eI,bB,List.drop_succ_cons];exact c (by unfold Id;rw[ab rfl])
theorem aob(i f:Nat)(b:f≠1)(a:Int)(r:List Int):Id i f (a::r)=if ms i a=A9 then 1 else 0:=by
 unfold Id;rw[aa b];cases h:ms i a with
 |false=>rw[Fl (by simp[h])];simp
 |true=>rw[Fp (by simp[h]),bB,ab rfl];omega
theorem Ht(i:Nat)(b:List (Nat×Nat))(a:Int)(r:List Int):eH ((i,0)::b) (a::r)=(ms i a&&eH b r):=by
 rw[eH,aob i 0 (by omega)];cases h:ms i a with
 |false=>simp
 |true=>simp
theorem acp(i:Nat)(a:List (Nat×Nat)):eH ((i,0)::a) []=R:=by
 rw[eH];simp[Id]
theorem ams(i:Nat)(b:List (Nat×Nat))(a:Int)(r:List Int):eH ((i,2)::b) (a::r)=if ms i a=A9 then eH b r else eH b (a::r):=by
 rw[eH,aob i 2 (by omega)];cases h:ms i a with
 |false=>simp
 |true=>simp
theorem ajJ(i:Nat)(a:List (Nat×Nat)):eH ((i,2)::a) []=eH a []:=by
 rw[eH];simp[Id]
theorem amt(n:Nat):∀(K:List Int),n<K.length->eH (D5 n) K=((K.take n).all (ms 5)&&(K.drop n).all (ms 3)):=by
 induction n with
 |zero=>
  intro K b
  match K,b with
  |a::c,_=>
   show eH ((3,0)::[(3,1)]) (a::c)=_;rw[Ht,aco];simp
 |succ n d=>
  intro K b
  match K,b with
  |a::c,b=>
   show eH ((5,0)::D5 n) (a::c)=_;rw[Ht,d c (by simpa using b)];simp[Bool.and_assoc]
theorem rH(a:List Nd)(N:Nd)(j:Nat)(h:j<N.ks.length):fh a N j=(kinds a N.ks).getD j 0:=by
 rw[be,ahh a N j h];rfl
theorem yA(K:List Int)(p:Int->Bool)(f j:Nat)(h:j+(f+1)<=K.length):((K.drop j).take (f+1)).all p=(p (K.getD j 0)&&((K.drop (j+1)).take f).all p):=by
 have a:j<K.length:=by omega
 rw[jo a,List.take_succ_cons,FH,be,aJ a];rfl
theorem aaz(a:List Nd)(N:Nd):∀(f j:Nat),j+f<=N.ks.length->lg a N f j=(((kinds a N.ks).drop j).take f).all fe
 |0,j,_=>by simp[lg]
 |f+1,j,h=>by
  rw[lg,aaz a N f (j+1) (by omega),yA _ _ _ _ (by rw[lC];exact h),rH a N j (by omega)]
theorem ahi(a:List Nd)(N:Nd):∀(f j:Nat),j+f<=N.ks.length->sbB a N f j=(((kinds a N.ks).drop j).take f).all jj
 |0,j,_=>by simp[sbB]
 |f+1,j,h=>by
  rw[sbB,ahi a N f (j+1) (by omega),yA _ _ _ _ (by rw[lC];exact h),rH a N j (by omega)]
theorem ahj(a:List Nd)(N:Nd):∀(f j:Nat),j+f<=N.ks.length->tgB a N f j=(((kinds a N.ks).drop j).take f).all zJ
 |0,j,_=>by simp[tgB]
 |f+1,j,h=>by
  rw[tgB,ahj a N f (j+1) (by omega),yA _ _ _ _ (by rw[lC];exact h),rH a N j (by omega)]
theorem ahk(a:List Nd)(N:Nd):∀(f j:Nat),j+f<=N.ks.length->enB a N f j=(((kinds a N.ks).drop j).take f).all (ms 9)
 |0,j,_=>by simp[enB]
 |f+1,j,h=>by
  rw[enB,ahk a N f (j+1) (by omega),yA _ _ _ _ (by rw[lC];exact h),rH a N j (by omega)];rfl
theorem ajK(k:Int):ms 5 k=zJ k:=by
 unfold ms zJ;by_cases a:k=26<;>by_cases b:k=32<;>by_cases c:k=33<;>simp[a,b,c]
def wm(a:List Nd)(N:Nd):Bool:=Ah (mz N (de N.k)) N&&(ffB N N.ks.length (de N.k)&&kfB N (kinds a N.ks))
theorem aoc(a:List Nd)(N:Nd)(hk:N.k=3\/N.k=4\/N.k=6\/N.k=7\/N.k=8\/N.k=9\/N.k=10\/N.k=11\/N.k=12\/N.k=14\/N.k=15\/N.k=16\/N.k=20\/N.k=21\/N.k=22\/N.k=23\/N.k=24\/N.k=25\/N.k=26\/N.k=27\/N.k=28\/N.k=29\/N.k=30\/N.k=31\/N.k=32\/N.k=33\/N.k=36\/N.k=37\/N.k=40\/N.k=41\/N.k=42)(l:N.nm.length<=200):wm a N=oF a N:=by
 have b:=lC a N.ks;have c:=rH a N;have i:fe 1=R:=rfl;unfold wm kfB rkB;rw[xe];revert b c;generalize kinds a N.ks=d;intro b c;rcases hk with hk|hk|hk|hk|hk|hk|hk|hk|hk|hk|hk|hk|hk|hk|hk|hk|hk|hk|hk|hk|hk|hk|hk|hk|hk|hk|hk|hk|hk|hk|hk;all_goals
  rcases d with _|⟨e,_|⟨f,_|⟨g,_|⟨h,_|⟨j,m⟩⟩⟩⟩⟩;all_goals
   simp at b;simp[oF,jj,stB,jA,de,aaf,ffB,txB,C8,hk,<-b,c,lg,eG,Ht,acp,aay,ams,ajJ,ms]<;>grind
theorem aod(a:List Nd)(N:Nd)(hk:N.k=1\/N.k=2\/N.k=13\/N.k=34\/N.k=35)(l:N.nm.length<=200):wm a N=oF a N:=by
 have c:=lC a N.ks;have f:=rH a N 0;have e:=aaz a N N.ks.length 0 (by omega);have d:=ahi a N N.ks.length 0 (by omega);have b:=ahk a N N.ks.length 0 (by omega);have h:ms 0=jj:=rfl;have i:ms 3=fe:=rfl;rw[<-c]at e d b f;rw[ey,A4]at e d b;unfold wm kfB rkB;rw[xe,<-c];revert c f e d b;generalize kinds a N.ks=g;intro c f e d b;rcases hk with hk|hk|hk|hk|hk;all_goals
  rcases g with _|⟨j,m⟩;all_goals
   simp at c f;simp only[bB,FH,dl,List.all_nil]at e d b;simp[oF,jj,stB,jA,de,aaf,ffB,txB,C8,hk,e,d,b,h,i,<-c,f,eG,aco,Ht,acp,aay,ms]<;>grind
theorem aoe(a:List Nd)(N:Nd)(b:N.k=5)(f:N.nm.length<=200):wm a N=oF a N:=by
 have d:de N.k=1:=by rw[b];rfl
 have e:oF a N=(bC N R A9 R R&&(decide (1<=N.n/\N.n<(N.ks.length:Int))&&(tgB a N N.n.toNat 0&&lg a N (N.ks.length-N.n.toNat) N.n.toNat))):=by
  unfold oF;rw[ab (by rw[b];rfl)];unfold stB;rw[aa (by rw[b];decide),aa (by rw[b];decide),aa (by rw[b];decide),aa (by rw[b];decide),ab b]
 unfold wm kfB;rw[xe,d,e,ab rfl];simp only[ffB];by_cases c:1<=N.n/\N.n<(N.ks.length:Int)
 ·rw[bH c,eI,eI,amt _ _ (by rw[lC];omega),ahj a N _ _ (by omega),aaz a N _ _ (by omega)]
  congr 1
  congr 1
  ·rw[ey]
   congr 1
   funext k
   exact ajK k
  ·have:(kinds a N.ks).drop N.n.toNat=((kinds a N.ks).drop N.n.toNat).take (N.ks.length-N.n.toNat):=by
    rw[cA (by rw[ep,lC];exact ag _)]
   rw[<-this];rfl
 ·rw[aC c,eo,eo]
theorem amu(a:List Nd)(N:Nd)(h:N.k ∉ mD)(g:N.k≠5):wm a N=oF a N:=by
 have e:=(Hd N.k h).1;simp only[mD,jb,se,si,not_or]at h;have f:jj N.k=R:=by unfold jj;exact aC (by omega)
 have c:oF a N=R:=by
  unfold oF;rw[aa (by rw[f];decide)];unfold jA
  repeat rw[aa (by omega)]
 have b:de N.k=6:=by
  unfold de
  repeat rw[aa (by omega)]
 have d:rkB N.k (kinds a N.ks)=R:=by unfold rkB;rw[e]
 unfold wm kfB;rw[c,b,aa (by decide),d,og,og]
theorem ahl(a:List Nd)(N:Nd)(b:N.nm.length<=200):wm a N=oF a N:=by
 by_cases c:N.k∈mD
 ·simp only[mD,jb,se,si]at c;by_cases e:N.k=1\/N.k=2\/N.k=13\/N.k=34\/N.k=35
  ·exact aod a N e b
  ·exact aoc a N (by omega) b
 ·by_cases d:N.k=5
  ·exact aoe a N d b
  ·exact amu a N c d
theorem aaA(l:List Nd)(N:Nd)(m:200<N.nm.length):oF l N=R:=by
 have f:∀c d e,bC N c d e R=R:=fun c d e=>by unfold bC;rw[aC (by omega)];simp
 have a:∀g b,b<=200->eG N g b=R:=fun g b n=>by unfold eG;rw[aC (by omega)];rfl
 have h:=a 1 1 (by omega);have i:=a 1 2 (by omega);have j:=a 1 200 (by omega);have k:=a 0 200 (by omega);unfold oF;split
 ·unfold stB;simp only[f,h,i,j,eo,og];simp
 ·unfold jA;simp only[f,k,eo,og];simp
theorem ajL(c:List Nd)(i:Nat)(N:Nd):D8 c i N=jk c i N:=by
 unfold D8 jk;by_cases d:N.nm.length<=200
 ·have e:D7 N=aae N:=by
   unfold D7 aae;by_cases a:0<=N.f/\N.f<=N.t/\0<=N.l/\N.ks.length<=200
   ·rw[bH a,bH ⟨a.1,a.2.1,a.2.2.1,a.2.2.2,d⟩]
   ·rw[aC a,aC (fun b=>a ⟨b.1,b.2.1,b.2.2.1,b.2.2.2.1⟩)]
  have g:=ahl c N d;unfold wm at g;rw[e,<-g];generalize Ah (mz N (de N.k)) N=h;generalize Ie N.ks i N.ks.length 0=j;cases h<;>cases j<;>rfl
 ·have e:D7 N=R:=by unfold D7;exact aC (fun b=>d b.2.2.2.2)
  rw[e,aaA c N (by omega),eo,og,og]
theorem aaB(s:ByteArray)(b:s.size<=4000)(w:Ax):B1 A0 118 #[Br s] w fun e w'=>e= A2 (Br (fG (oJ s)))/\U w.heap.size w w':=by
 refine(acy s b w).mono ?_;rintro e w' a;first|exact a|exact⟨a.1,a.2⟩
def gy(k:Int):Bool:=k==28||k==29||k==31
def kC(N:Nd):Int:=if N.k=28 then 10 else if N.k=29 then 26 else if N.k=31 then 60+N.op else 0
def mj(N:Nd):Int:=if N.k=28 then 2 else if N.k=29 then 1 else if N.k=31 then(vL N.op).1 else 0
def jm(N:Nd):Int:=if N.k=28 then 3 else if N.k=29 then 2 else if N.k=31 then(vL N.op).2 else 0
theorem amv{a:Int}(h:1<=a/\a<=18):∃j,j<20/\qk.getD j 0=60+a/\(∀i,i<j->qk.getD i 0≠60+a)/\mo (3*j+1)=(vL a).1/\mo (3*j+2)=(vL a).2:=by
 obtain⟨b,c⟩:=h;rcases(show a=1\/a=2\/a=3\/a=4\/a=5\/a=6\/a=7\/a=8\/a=9\/a=10\/a=11\/a=12\/a=13\/a=14\/a=15\/a=16\/a=17\/a=18 by omega) with rfl|rfl|rfl|rfl|rfl|rfl|rfl|rfl|rfl|rfl|rfl|rfl|rfl|rfl|rfl|rfl|rfl|rfl
 ·exact⟨14,by decide,rfl,by decide,rfl,rfl⟩
 ·exact⟨15,by decide,rfl,by decide,rfl,rfl⟩
 ·exact⟨16,by decide,rfl,by decide,rfl,rfl⟩
 ·exact⟨17,by decide,rfl,by decide,rfl,rfl⟩
 ·exact⟨18,by decide,rfl,by decide,rfl,rfl⟩
 ·exact⟨19,by decide,rfl,by decide,rfl,rfl⟩
 ·exact⟨11,by decide,rfl,by decide,rfl,rfl⟩
 ·exact⟨9,by decide,rfl,by decide,rfl,rfl⟩
 ·exact⟨10,by decide,rfl,by decide,rfl,rfl⟩
 ·exact⟨12,by decide,rfl,by decide,rfl,rfl⟩
 ·exact⟨13,by decide,rfl,by decide,rfl,rfl⟩
 ·exact⟨8,by decide,rfl,by decide,rfl,rfl⟩
 ·exact⟨2,by decide,rfl,by decide,rfl,rfl⟩
 ·exact⟨3,by decide,rfl,by decide,rfl,rfl⟩
 ·exact⟨4,by decide,rfl,by decide,rfl,rfl⟩
 ·exact⟨5,by decide,rfl,by decide,rfl,rfl⟩
 ·exact⟨6,by decide,rfl,by decide,rfl,rfl⟩
 ·exact⟨7,by decide,rfl,by decide,rfl,rfl⟩
def th(w:Ax):Prop:=∃b a,w.heap[3]?=B0 (Bs EE b a)
theorem th.below{w w':Ax}{B:Nat}(h:th w)(c:U B w w')(b:w.heap.size<=B):th w':=by
 obtain⟨d,a,h⟩:=h;exact⟨d,a,(c.block _ (fD (ai h) b)).trans h⟩
theorem aaC(w:Ax)(k:th w){a:Int}(h:1<=a/\a<=18):B1 A0 195 #[M O (60+a)] w fun e w'=>e= A2 (B6 #[.agg #[M O (60+a),M O (vL a).1,M O (vL a).2],B3 A9])/\U w.heap.size w w':=by
 obtain⟨m,b,j⟩:=k;obtain⟨l,c,d,f,g,i⟩:=amv h;have:=sD w m b j l c _ d f
 rwa [g,i]at this
theorem qp(u:Ax)(a:List Nd)(a0:List Im)(base:Nat)(bh:B4)(a8:Tp u a a0 base bh)(ba:th u)(i:Nat)(bb:i<a.length)(x:(ae a i).k=31->1<=(ae a i).op/\(ae a i).op<=18)(w:Ax)(a5:U u.heap.size u w):
  B1 A0 119 #[nV (lj a0 i)] w fun e w'=>e= A2 (B6 #[.agg #[M O (kC (ae a i)),M O (mj (ae a i)),M O (jm (ae a i))],B3 (gy (ae a i).k)])/\U w.heap.size w w':=by
 obtain⟨I,bt,bl,bs,bn,y,s⟩:=vF a8 bb;have C:=fun w=>da I w;have t:=fun w=>py (de (ae a i).k) I w;have A:∀r,U w.heap.size w (w.alloc r):=fun r=>(ah _ w).alloc (ag _) r;have ao:∀r,U u.heap.size u (w.alloc r):=fun r=>a5.trans ((A r).mono a5.size);have H:=(s.cells (ao (Bs #[M O 0,M O 0,M O 0] 168))).1;have an:th (w.alloc (Bs #[M O 0,M O 0,M O 0] 168)):=ba.below (ao _) (ag _);have q:eA w.heap.size (w.alloc (Bs #[M O 0,M O 0,M O 0] 168)) 0 0 0:=aA w _;have v:∀(c:Ax)(l m n:Int),U (w.alloc (Bs #[M O 0,M O 0,M O 0] 168)).heap.size (w.alloc (Bs #[M O 0,M O 0,M O 0] 168)) c->eA w.heap.size c 0 0 0/\eA w.heap.size (((c.setCell ⟨w.heap.size,0,Z⟩ (M O l)).setCell ⟨w.heap.size,1,Z⟩ (M O m)).setCell ⟨w.heap.size,2,Z⟩ (M O n)) l m n/\U w.heap.size w (((c.setCell ⟨w.heap.size,0,Z⟩ (M O l)).setCell ⟨w.heap.size,1,Z⟩ (M O m)).setCell ⟨w.heap.size,2,Z⟩ (M O n)):=by
  intro c l m n j;have a4:eA w.heap.size c 0 0 0:=(j.block _ (ai q)).trans q;have a9:=(A _).trans (j.mono (A _).size);exact⟨a4,a4.put l m n,((a9.setCell (ag _) _).setCell (ag _) _).setCell (ag _) _⟩
 have z:A5 (∀(c:Ax)(l m n:Int),U (w.alloc (Bs #[M O 0,M O 0,M O 0] 168)).heap.size (w.alloc (Bs #[M O 0,M O 0,M O 0] 168)) c->eA w.heap.size c 0 0 0/\eA w.heap.size (((c.setCell ⟨w.heap.size,0,Z⟩ (M O l)).setCell ⟨w.heap.size,1,Z⟩ (M O m)).setCell ⟨w.heap.size,2,Z⟩ (M O n)) l m n/\U w.heap.size w (((c.setCell ⟨w.heap.size,0,Z⟩ (M O l)).setCell ⟨w.heap.size,1,Z⟩ (M O m)).setCell ⟨w.heap.size,2,Z⟩ (M O n))):=v;rw[y];by_cases d:(ae a i).k=28
 ·have b:A5 (kC (ae a i)=10/\mj (ae a i)=2/\jm (ae a i)=3/\gy (ae a i).k=A9):=⟨by unfold kC;rw[ab d],by unfold mj;rw[ab d],by unfold jm;rw[ab d],by rw[d];rfl⟩;obtain⟨ar,al,am⟩:=an;have p:=sD _ ar al am 1 (by decide) 10 rfl (by decide);rw[d]at H;generalize jy (de (ae a i).k)=a7 at t⊢;clear v s y x q;go_enter Tryz.func119,Tryz.ntmps119;go_wp2_with (first|(go_at_call 336;refine(C _).mono ?_;rintro e w' ⟨rfl,ap⟩;subst w')|(go_at_call 195;fail));refine p.mono ?_;rintro e c ⟨rfl,j⟩;have f:=z.out c 10 2 3 j;obtain⟨J,K,L,ad⟩:=f.1.cells;have o:A5 (eA w.heap.size (((c.setCell ⟨w.heap.size,0,Z⟩ (M O 10)).setCell ⟨w.heap.size,1,Z⟩ (M O 2)).setCell ⟨w.heap.size,2,Z⟩ (M O 3)) 10 2 3/\U w.heap.size w (((c.setCell ⟨w.heap.size,0,Z⟩ (M O 10)).setCell ⟨w.heap.size,1,Z⟩ (M O 2)).setCell ⟨w.heap.size,2,Z⟩ (M O 3))):=f.2;have af:mo (3*1+1)=2:=rfl;have ak:mo (3*1+2)=3:=rfl;rw[af,ak];clear f j;go_wp2_with fail;exact aI (mA rfl _ _ _ ⟨w.heap.size,0,Z⟩ (B3 A9) _ rfl rfl (vy _ _ _ _ _ o.out.1)) rfl ⟨by rw[b.out.1,b.out.2.1,b.out.2.2.1,b.out.2.2.2],o.out.2⟩
 have a1:((ae a i).k==28)=R:=by simpa using d
 by_cases g:(ae a i).k=29
 ·have b:A5 (kC (ae a i)=26/\mj (ae a i)=1/\jm (ae a i)=2/\gy (ae a i).k=A9):=⟨by unfold kC;rw[aa d,ab g],by unfold mj;rw[aa d,ab g],by unfold jm;rw[aa d,ab g],by rw[g];rfl⟩;obtain⟨ar,al,am⟩:=an;have p:=sD _ ar al am 0 (by decide) 26 rfl (by decide);rw[g]at H;generalize jy (de (ae a i).k)=a7 at t⊢;clear v s y x q;go_enter Tryz.func119,Tryz.ntmps119;go_wp2_with (first|(go_at_call 336;refine(C _).mono ?_;rintro e w' ⟨rfl,ap⟩;subst w')|(go_at_call 195;fail));refine p.mono ?_;rintro e c ⟨rfl,j⟩;have f:=z.out c 26 1 2 j;obtain⟨J,K,L,ad⟩:=f.1.cells;have o:A5 (eA w.heap.size (((c.setCell ⟨w.heap.size,0,Z⟩ (M O 26)).setCell ⟨w.heap.size,1,Z⟩ (M O 1)).setCell ⟨w.heap.size,2,Z⟩ (M O 2)) 26 1 2/\U w.heap.size w (((c.setCell ⟨w.heap.size,0,Z⟩ (M O 26)).setCell ⟨w.heap.size,1,Z⟩ (M O 1)).setCell ⟨w.heap.size,2,Z⟩ (M O 2))):=f.2;have af:mo (3*0+1)=1:=rfl;have ak:mo (3*0+2)=2:=rfl;rw[af,ak];clear f j;go_wp2_with fail;exact aI (mA rfl _ _ _ ⟨w.heap.size,0,Z⟩ (B3 A9) _ rfl rfl (vy _ _ _ _ _ o.out.1)) rfl ⟨by rw[b.out.1,b.out.2.1,b.out.2.2.1,b.out.2.2.2],o.out.2⟩
 have a2:((ae a i).k==29)=R:=by simpa using g
 by_cases h:(ae a i).k=31
 ·have b:A5 (kC (ae a i)=60+(ae a i).op/\mj (ae a i)=(vL (ae a i).op).1/\jm (ae a i)=(vL (ae a i).op).2/\gy (ae a i).k=A9):=⟨by unfold kC;rw[aa d,aa g,ab h],by unfold mj;rw[aa d,aa g,ab h],by unfold jm;rw[aa d,aa g,ab h],by rw[h];rfl⟩;have B:=x h;have p:=aaC _ an B;have a6:de (ae a i).k=4:=by rw[h];rfl
  have bk:=(s.cells (ao (Bs #[M O 0,M O 0,M O 0] 168))).2.2 _ (by rw[a6];rfl);rw[a6]at t⊢;simp only[jy]at t⊢;have bo:=fun w=>al7 I w;rw[h]at H;have bf:IntKind.i64.wrap (60+(ae a i).op)=60+(ae a i).op:=by rw[ed];omega
  have bc:(ae a i).op<=18:=B.2;have bd:1<=(ae a i).op:=B.1;generalize (vL (ae a i).op).1=F at p b;generalize (vL (ae a i).op).2=G at p b;generalize (ae a i).op=E at p b bk bf bc bd;clear v s y x q B;go_enter Tryz.func119,Tryz.ntmps119;go_wp2_with (first|(go_at_call 336;refine(C _).mono ?_;rintro e w' ⟨rfl,ap⟩;subst w')|(go_at_call 195;fail));refine p.mono ?_;rintro e c ⟨rfl,j⟩;have f:=z.out c (60+E) F G j;obtain⟨J,K,L,ad⟩:=f.1.cells;have o:A5 (eA w.heap.size (((c.setCell ⟨w.heap.size,0,Z⟩ (M O (60+E))).setCell ⟨w.heap.size,1,Z⟩ (M O F)).setCell ⟨w.heap.size,2,Z⟩ (M O G)) (60+E) F G/\U w.heap.size w (((c.setCell ⟨w.heap.size,0,Z⟩ (M O (60+E))).setCell ⟨w.heap.size,1,Z⟩ (M O F)).setCell ⟨w.heap.size,2,Z⟩ (M O G))):=f.2;clear f j;go_wp2_with fail;exact aI (mA rfl _ _ _ ⟨w.heap.size,0,Z⟩ (B3 A9) _ rfl rfl (vy _ _ _ _ _ o.out.1)) rfl ⟨by rw[b.out.1,b.out.2.1,b.out.2.2.1,b.out.2.2.2],o.out.2⟩
 ·have a3:((ae a i).k==31)=R:=by simpa using h
  have b:A5 (kC (ae a i)=0/\mj (ae a i)=0/\jm (ae a i)=0/\gy (ae a i).k=R):=⟨by unfold kC;rw[aa d,aa g,aa h],by unfold mj;rw[aa d,aa g,aa h],by unfold jm;rw[aa d,aa g,aa h],by unfold gy;rw[a1,a2,a3];rfl⟩;have f:=z.out _ 0 0 0 (ah _ _);obtain⟨J,K,L,ad⟩:=f.1.cells;have av:A5 (eA w.heap.size (w.alloc (Bs #[M O 0,M O 0,M O 0] 168)) 0 0 0/\U w.heap.size w (w.alloc (Bs #[M O 0,M O 0,M O 0] 168))):=⟨q,A _⟩;generalize jy (de (ae a i).k)=a7 at t⊢;generalize (ae a i).k=br at H a1 a2 a3 t b;clear v s y x q f d g h;go_enter Tryz.func119,Tryz.ntmps119;go_wp2_with (go_at_call 336;refine(C _).mono ?_;rintro e w' ⟨rfl,ap⟩;subst w');exact aI (mA rfl _ _ _ ⟨w.heap.size,0,Z⟩ (B3 R) _ rfl rfl (vy _ _ 0 0 0 av.out.1)) rfl ⟨by rw[b.out.1,b.out.2.1,b.out.2.2.1,b.out.2.2.2],av.out.2⟩
def Ea(a:Int):ByteArray:=if a=19 then⟨#[45]⟩ else if a=20 then⟨#[126]⟩ else if a=22 then⟨#[35]⟩ else⟨#[110,111,116,32]⟩
theorem Dv(a:Int)(w:Ax):B1 A0 122 #[M O a] w fun e w'=>e= A2 (Br (Ea a))/\U w.heap.size w w':=by
 unfold Ea;by_cases b:a=19
 ·rw[ab b];subst b;go_enter Tryz.func122,Tryz.ntmps122;go_wp2;go_ret;exact⟨rfl,ah _ _⟩
 rw[aa b];have f:(a==19)=R:=by simpa using b
 by_cases c:a=20
 ·rw[ab c];subst c;go_enter Tryz.func122,Tryz.ntmps122;go_wp2;go_ret;exact⟨rfl,ah _ _⟩
 rw[aa c];have g:(a==20)=R:=by simpa using c
 by_cases d:a=22
 ·rw[ab d];subst d;go_enter Tryz.func122,Tryz.ntmps122;go_wp2;go_ret;exact⟨rfl,ah _ _⟩
 rw[aa d];have h:(a==22)=R:=by simpa using d
 clear b c d;go_enter Tryz.func122,Tryz.ntmps122;go_wp2;go_ret;exact⟨rfl,ah _ _⟩
theorem ad6(h:Ax)(a:List Nd)(l:List Im)(base:Nat)(A:B4)(t:Tp h a l base A)(i:Nat)(u:i<a.length)(w:Ax)(n:U h.heap.size h w):
  B1 A0 123 #[nV (lj l i)] w fun e w'=>e= A2 (B3 (GC (ae a i)))/\U w.heap.size w w':=by
 obtain⟨f,J,E,H,F,g,c⟩:=vF t u;have q:=fun w=>da f w;have d:=fun w=>py (de (ae a i).k) f w;have r:=(c.cells n).1;rw[g];unfold GC;by_cases b:(ae a i).k=30
 ·have o:de (ae a i).k=4:=by rw[b];rfl
  have B:=(c.cells n).2.2 _ (by rw[o];rfl);rw[o]at d⊢;simp only[jy]at d⊢;have G:=fun w=>al7 f w;have s:A5 ((ae a i).k=30):=b;rw[b]at r;generalize p:(ae a i).op=z at B;have C:A5 ((ae a i).op=z):=p;clear p b c g;go_enter Tryz.func123,Tryz.ntmps123;go_wp2_with (go_at_call 336;refine(q _).mono ?_;rintro e w' ⟨rfl,x⟩;subst w');go_ret;exact⟨by rw[s.out];rfl,ah _ _⟩
 ·have m:((ae a i).k==30)=R:=by simpa using b
  have j:A5 (((ae a i).k==30)=R):=m;generalize v:(ae a i).k=y at r m d j;generalize jy (de y)=I at d⊢;clear b c g v;go_enter Tryz.func123,Tryz.ntmps123;go_wp2_with (go_at_call 336;refine(q _).mono ?_;rintro e w' ⟨rfl,x⟩;subst w');go_ret;exact⟨by rw[j.out];rfl,ah _ _⟩
theorem rK{a:Nat}{base:Nat}(b:Nat)(c:Tp w0 ns L base vs)(g:i<ns.length)(h:(ae ns i).k=(b:Int))(l:Pw w0 a f #[vP a,gG w0 t,nV (lj L i)] Y)(e:(K6 a)[b]?=B0 (mv a f):=by rfl)(j:b<43:=by decide)(d:∀(args:Array B4) (w:Ax),(callFunc f args).run A0 w= .ok (.enter f args) w:=by intro args w;kernel_rfl):DF w0 a L t i Y:=agj w0 a ns L base vs c t i g b h j f e d Y l
section
variable {w0 : World} {vb : Nat}
structure Pq (w0:Ax) (vb:Nat) (w:Ax) (T:ByteArray) (W:Ax):Prop where
 ps:Ps w0 vb T W
 kq:Kq w0.heap.size w W
variable {w V W : World} {T Y : ByteArray} {f : FuncId} {args : Array Value} {Q : Ending → World → Prop}
theorem Pq.below(P:Pq w0 vb w T V)(b:U V.heap.size V W):Pq w0 vb w T W:=⟨P.ps.below b,P.kq.trans (Kq.of_below b)⟩
theorem Pq.stp(P:A5 (Pq w0 vb w T V))(c:U V.heap.size V W)(S:A5 (Pw w0 vb f args Y))(k:∀b,A5 (Pq w0 vb w (T++Y) b)->U w0.heap.size w0 b->Q (A2 (B6 #[])) b):B1 A0 f args W Q:=
 (S _ _ (P.below c).ps).mono fun e d a=>a.1 ▸ k d ⟨a.2.1,(P.below c).kq.trans a.2.2⟩ a.2.1.pg.bel
theorem Pq.fin(P:A5 (Pq w0 vb w Y W))(e:Y=T):Ending.returned (B6 #[])= A2 (B6 #[])/\Ps w0 vb T W/\Kq w0.heap.size w W:=⟨rfl,e ▸ P.ps,P.kq⟩
variable {L : List Im} {N : Nd} {b n c j : Nat} {vn : Value} {pa : Addr} {q : Int}
theorem NdQ.kid0(K:NdQ w0 L N b vn (B0 pa) n c)(e:N.ks[0]?=B0 q)(W:Ax)(d:U w0.heap.size w0 W):W.cell? pa=B0 (nV (lj L q)):=by
 obtain⟨_,a,_,f⟩:=(K.ks.below d).get e;cases a;simpa [Addr.add] using f
theorem NdQ.kid(K:NdQ w0 L N b vn (B0 pa) n c)(f:N.ks[j]?=B0 q)(e:j≠0)(W:Ax)(d:U w0.heap.size w0 W):W.cell? ⟨pa.block,pa.off+j,Z⟩=B0 (nV (lj L q)):=by
 obtain⟨_,a,_,g⟩:=(K.ks.below d).get f;cases a;exact CD g e
end
section
variable (w0 : World) (vb : Nat) (L : List Im) (t : Nat)
abbrev LX(b:List Int)(X:ByteArray):Prop:=∀a,qF w0 L a b->Pw w0 vb 114 #[vP vb,gG w0 t,a] X
abbrev VX(f:FuncId)(q:Nat)(a:ByteArray):Prop:=Pw w0 vb f #[vP vb,gG w0 t,nV (lj L (q:Int))] a
inductive MO (N:Nd) (i:Nat):FuncId->ByteArray->Prop
 |brk:MO N i 50 ⟨#[98,114,101,97,107]⟩
 |nxt:MO N i 51 ⟨#[110,101,120,116]⟩
 |nil_:MO N i 56 ⟨#[110,105,108]⟩
 |tru:MO N i 57 ⟨#[116,114,117,101]⟩
 |fls:MO N i 58 ⟨#[102,97,108,115,101]⟩
 |rst:MO N i 63 ⟨#[46,46,46]⟩
 |do_ {q:Nat}{E:ByteArray}:N.ks[0]?=some (q:Int)->Hid (VX w0 vb L t 75 q E)->MO N i 45 E
 |itm {q:Nat}{E:ByteArray}:N.ks[0]?=some (q:Int)->Hid (VX w0 vb L t 75 q E)->MO N i 72 E
 |ret0:N.ks.length=0->MO N i 52 ⟨#[114,101,116,117,114,110]⟩
 |ret {X:ByteArray}:0<N.ks.length->LX w0 vb L t N.ks X->MO N i 52 (⟨#[114,101,116,117,114,110]⟩++(⟨#[32]⟩++X))
 |thr {X:ByteArray}:LX w0 vb L t N.ks X->MO N i 54 (⟨#[116,104,114,111,119,32]⟩++X)
 |dfr {X:ByteArray}:LX w0 vb L t N.ks X->MO N i 55 (⟨#[100,101,102,101,114,32]⟩++X)
 |ind {q r:Nat}{E F:ByteArray}:N.ks[0]?=some (q:Int)->N.ks[1]?=some (r:Int)->Hid (VX w0 vb L t 124 q E)->Hid (VX w0 vb L t 125 r F)->MO N i 66 (E++F)
 |one {q:Nat}{E:ByteArray}:N.ks[0]?=some (q:Int)->Hid (Pw w0 vb 120 #[vP vb,gG w0 t,nV (lj L (q:Int)),.bool true] E)->MO N i 71 E
 |iff {Y:ByteArray}:Hid (Pw w0 vb 115 #[vP vb,gG w0 t,.string ⟨#[105,102,32]⟩,nV (lj L (i:Int))] Y)->MO N i 46 Y
 |par {q:Nat}{E X:ByteArray}:N.ks.length=2->N.ks[0]?=some (q:Int)->Hid (VX w0 vb L t 125 q E)->LX w0 vb L t (N.ks.drop 1) X->MO N i 73 (E++(⟨#[32,61,32]⟩++X))
 |whl {q:Nat}{X E:ByteArray}:N.ks.length=2->LX w0 vb L t (N.ks.take 1) X->N.ks[1]?=some (q:Int)->Hid (VX w0 vb L t 75 q E)->MO N i 47 (⟨#[119,104,105,108,101,32]⟩++X++⟨#[32]⟩++E)
 |fnx {Y:ByteArray}:Hid (VX w0 vb L t 113 i Y)->MO N i 70 (⟨#[102,110]⟩++Y)
end
theorem If{b:Nat}{base:Nat}(w:Tp w0 ns L base vs)(a0:t<=100000)(I:i<ns.length){N:Nd}(F:ae ns i=N)(ao:N.ks.length<=1048576)(G:MO w0 b L t N i f Y):
  Pw w0 b f #[vP b,gG w0 t,nV (lj L i)] Y:=by
 intro C g h;obtain⟨x,a5,af,ad,l,n,c⟩:=vF w I;rw[F]at n c;have u:=fun g=>da x g;have ap:=fun g=>pq w0.heap.size (eB t) g;have av:=fun g=>xa w0.heap.size (eB t) g;have J:=c.hn;have ar:=fun g=>py (de N.k) x g;have A:A5 (∀a:ByteArray,a.size<=100000000->Pw w0 b 335 #[na w0 t,Br a] a):=fun a h=>jB w0 b t a h;have B:A5 (∀(a d:ByteArray)(e:B4),a.size<=100000000->A5 (Pw w0 b 114 #[vP b,gG w0 t,e] d)->Pw w0 b 112 #[vP b,gG w0 t,Br a,e] (a++d)):=fun a d e h q=>mE w0 b t a d h e q;have z:A5 (∀(a d Y:ByteArray)(e k:B4),a.size<=100000000->A5 (Pw w0 b 114 #[vP b,gG w0 t,e] d)->A5 (Pw w0 b 75 #[vP b,gG w0 t,k] Y)->Pw w0 b 116 #[vP b,gG w0 t,Br a,e,k] (a++d++⟨#[32]⟩++Y)):=fun a d Y e k h q K=>wK w0 b t a (a++d) Y e k (mE w0 b t a d h e q) K;have a1:=fun m (s:U w0.heap.size w0 m)=>(c.cells s).1;have a2:=fun m (s:U w0.heap.size w0 m)=>(c.cells s).2.1;have r:=h.pg.bel;have P:A5 (Pq w0 b g C g):=⟨h,Kq.refl _ _⟩;have v:=aq c;cases G
 case' ret hX=>have o:=aq (hX _ c.ks)
 case' ret=>have al:(0:Int)<(ad:Int):=by omega
 case' thr hX=>have o:=aq (hX _ c.ks)
 case' dfr hX=>have o:=aq (hX _ c.ks)
 case' iff hX=>rw[n]at hX
 case' par hq _ hX=>obtain⟨p,rfl,y, -⟩:=c.ks.get hq;have o:=aq (hX (.slice (B0 ⟨p.block,p.off+1,Z⟩) 1 (l-1)) (c.ks.drop 1 1 (by omega) (by omega)))
 case' whl hX hq _=>obtain⟨p,rfl,y, -⟩:=c.ks.get hq;have o:=aq (hX _ (c.ks.take 1 (by omega)))
 case' fnx hX=>unfold VX at hX;rw[n]at hX
 all_goals
  try (have k:=J.symm.trans (by with_reducible assumption:N.ks.length=_);subst k)
  try (have k:=c.ks.get (by with_reducible assumption:N.ks[_]?=B0 _);obtain⟨p,rfl,y, -⟩:=k)
  (try have a6:=v.kid0 (by with_reducible assumption))
  (try have a7:=v.kid (j:=1) (by with_reducible assumption) (by decide))
  try (have am:=qC (by with_reducible assumption:N.ks[0]?=B0 _))
  try (have an:=qC (by with_reducible assumption:N.ks[1]?=B0 _))
  try (have H:(1:Int)<=(l:Int)/\1<=l/\¬l=0/\(1<=l):=(by omega);obtain⟨_,_,_,_⟩:=H)
  try (have ak:¬l=1:=(by omega))
  rw[n];generalize jy (de N.k)=a4 at *;try unfold VX at *
  unfold gG na at *;generalize eB t=a3 at *;clear h c n w;go_in
  repeat' (go_wp2_with (go_at_call 336;refine dB (u _) ?_);first|(refine Pq.stp P (ah _ _) (by with_reducible first|assumption|exact aq (A.out _ (by decide))|exact aq (B.out _ _ _ (by decide) (by assumption))) ?_;intro m P r)|(go_region_held3 (fun E=>U w0.heap.size w0 E) (first|exact(P.below (aw (ah _ _))).ps.pg.bel|exact r|go_keep) (first|(go_at_call 336;refine dB (u _) ?_)|(refine Pq.stp P (aw (ah _ _)) (by with_reducible exact aq (z.out _ _ _ _ _ (by decide) (by assumption) (by assumption))) ?_;intro m P r))))
  all_goals
   go_wp2_with (go_at_call 336;refine dB (u _) ?_);go_end0
   exact Pq.fin P (by simp only[bq])
theorem sz2{a s:ByteArray}(b:a.size<=100)(c:s.size<=1000000):(a++s).size<=100000000:=by rw[ay];omega
theorem sz3{a s b:ByteArray}(c:a.size<=100)(e:s.size<=1000000)(d:b.size<=100):(a++s++b).size<=100000000:=by rw[ay,ay];omega
section
variable (w0 : World) (vb : Nat) (L : List Im) (t : Nat)
inductive MN (N:Nd) (i:Nat):FuncId->ByteArray->Prop
 |let0:Hid (N.k=2)->N.ks.length=0->MN N i 41 (⟨#[108,101,116,32]⟩++cC N.nm)
 |let1 {X:ByteArray}:Hid (N.k=2)->0<N.ks.length->LX w0 vb L t N.ks X->MN N i 41 (⟨#[108,101,116,32]⟩++cC N.nm++(⟨#[32,61,32]⟩++X))
 |cst {X:ByteArray}:Hid (N.k=3)->LX w0 vb L t N.ks X->MN N i 42 (⟨#[99,111,110,115,116,32]⟩++cC N.nm++⟨#[32,61,32]⟩++X)
 |fns {q:Nat}{E:ByteArray}:Hid (N.k=4)->N.ks[0]?=some (q:Int)->Hid (VX w0 vb L t 113 q E)->MN N i 43 (⟨#[102,110,32]⟩++cC N.nm++E)
 |try_ {q r:Nat}{E F:ByteArray}:Hid (N.k=14)->N.ks[0]?=some (q:Int)->N.ks[1]?=some (r:Int)->Hid (VX w0 vb L t 75 q E)->Hid (VX w0 vb L t 75 r F)->MN N i 53 (⟨#[116,114,121,32]⟩++E++⟨#[32,99,97,116,99,104,32]⟩++cC N.nm++⟨#[32]⟩++F)
 |eac {q:Nat}{X E:ByteArray}:Hid (N.k=10)->N.ks.length=2->LX w0 vb L t (N.ks.take 1) X->N.ks[1]?=some (q:Int)->Hid (VX w0 vb L t 75 q E)->MN N i 49 (⟨#[102,111,114,32]⟩++cC N.nm++⟨#[32,105,110,32]⟩++X++⟨#[32]⟩++E)
 |fr {k q:Nat}{X E:ByteArray}:Hid (N.k=9)->k=2\/k=3->N.ks.length=k+1->LX w0 vb L t (N.ks.take k) X->N.ks[k]?=some (q:Int)->Hid (VX w0 vb L t 75 q E)->MN N i 48 (⟨#[102,111,114,32]⟩++cC N.nm++⟨#[32,61,32]⟩++X++⟨#[32]⟩++E)
end
theorem m_n{b:Nat}{base:Nat}(G:Tp w0 ns L base vs)(bf:t<=100000)(an:i<ns.length){N:Nd}(af:ae ns i=N)(bb:N.ks.length<=1048576)(ao:N.nm.length<=1048576)(e:(cC N.nm).size<=1000000)(H:MN w0 b L t N i f Y):
  Pw w0 b f #[vP b,gG w0 t,nV (lj L i)] Y:=by
 intro K k l;obtain⟨s,a0,a3,av,o,y,c⟩:=vF G an;rw[af]at y c;have z:=fun k=>da s k;have bc:=fun k=>pq w0.heap.size (eB t) k;have bd:=fun k=>xa w0.heap.size (eB t) k;have ar:=c.hn;have I:de N.k=0:=by cases H<;>(rw[(by with_reducible assumption:A5 (N.k=_)).out];rfl)
 have ap:=fun k=>py 0 s k;have E:A5 (∀a:ByteArray,a.size<=100000000->Pw w0 b 335 #[na w0 t,Br a] a):=fun a l=>jB w0 b t a l;have F:A5 (∀(a g:ByteArray)(h:B4),a.size<=100000000->A5 (Pw w0 b 114 #[vP b,gG w0 t,h] g)->Pw w0 b 112 #[vP b,gG w0 t,Br a,h] (a++g)):=fun a g h l x=>mE w0 b t a g l h x;have C:A5 (∀(a g Y:ByteArray)(h n:B4),a.size<=100000000->A5 (Pw w0 b 114 #[vP b,gG w0 t,h] g)->A5 (Pw w0 b 75 #[vP b,gG w0 t,n] Y)->Pw w0 b 116 #[vP b,gG w0 t,Br a,h,n] (a++g++⟨#[32]⟩++Y)):=fun a g Y h n l x m=>wK w0 b t a (a++g) Y h n (mE w0 b t a g l h x) m;have B:A5 (∀d,U w0.heap.size w0 d->B1 A0 111 #[.iface 194 (.pointer (B0 ⟨s,0,Z⟩))] d fun w a1=>w= A2 (Br (cC N.nm))/\U d.heap.size d a1):=fun d p=>Ka d s a0 N.nm (c.nm.below p) c.jn ao (by omega) ((c.cells p).2.2 _ (by rw[I];rfl));have bk:=fun d (p:U w0.heap.size w0 d)=>(c.cells p).1;have bl:=fun d (p:U w0.heap.size w0 d)=>(c.cells p).2.1;have q:=l.pg.bel;have P:A5 (Pq w0 b k K k):=⟨l,Kq.refl _ _⟩;have r:=aq c;cases H
 case' let1 hX=>have v:=aq (hX _ c.ks);have a8:(0:Int)<(av:Int):=by omega
 case' cst hX=>have v:=aq (hX _ c.ks)
 case' eac hX _ _=>have v:=aq (hX _ (c.ks.take 1 (by omega)))
 case' fr hk _ hX _ _=>have v:=aq (hX _ (c.ks.take _ (by omega)));obtain rfl|rfl:=hk
 all_goals
  try (have n:=ar.symm.trans (by with_reducible assumption:N.ks.length=_);subst n)
  try (have n:=c.ks.get (by with_reducible assumption:N.ks[_]?=B0 _);obtain⟨bh,rfl,a7, -⟩:=n)
  (try have bo:=r.kid0 (by with_reducible assumption))
  (try have br:=r.kid (j:=1) (by with_reducible assumption) (by decide))
  (try have bs:=r.kid (j:=2) (by with_reducible assumption) (by decide))
  (try have bt:=r.kid (j:=3) (by with_reducible assumption) (by decide))
  try (have a9:=qC (by with_reducible assumption:N.ks[0]?=B0 _))
  try (have ba:=qC (by with_reducible assumption:N.ks[1]?=B0 _))
  try (have a6:¬o=0:=by omega)
  try (have ak:(1:Int)<=(o:Int)/\1<=o:=(by omega);obtain⟨_,_⟩:=ak)
  try (have al:(2:Int)<=(o:Int)/\2<=o:=(by omega);obtain⟨_,_⟩:=al)
  try (have am:(3:Int)<=(o:Int)/\3<=o:=(by omega);obtain⟨_,_⟩:=am)
  rw[y,I];simp only[jy]at ap⊢;generalize cC N.nm=J at *;have a4:∀m:Nat,m<=100->¬9223372036854775807<m+J.size:=fun m _=>by omega
  have a5:∀m A:Nat,m<=100->A<=100->¬9223372036854775807<m+J.size+A:=fun m A _ _=>by omega
  try unfold VX at *
  unfold gG na at *;generalize eB t=bn at *;clear l c y G;go_in
  repeat' (go_wp2_with (first|(go_at_call 336;refine dB (z _) ?_)|(go_at_call 111;refine(B.out _ q).mono ?_;rintro w a2 ⟨rfl,u⟩;have P:=aq (P.below u);have q:=P.ps.pg.bel));first|(refine Pq.stp P (ah _ _) (by with_reducible first|assumption|exact aq (E.out _ (by first|decide|exact sz2 (by decide) e|exact sz3 (by decide) e (by decide)))|exact aq (F.out _ _ _ (by first|decide|exact sz2 (by decide) e|exact sz3 (by decide) e (by decide)) (by assumption))|exact aq (C.out _ _ _ _ _ (by first|decide|exact sz2 (by decide) e|exact sz3 (by decide) e (by decide)) (by assumption) (by assumption))) ?_;intro d P q)|(go_region_held3 (fun ad=>U w0.heap.size w0 ad) (first|exact(P.below (aw (ah _ _))).ps.pg.bel|exact((P.below (aw (ah _ _))).below u).ps.pg.bel|exact q|go_keep) (first|(go_at_call 336;refine dB (z _) ?_)|(go_at_call 111;refine(B.out _ (P.below (aw (ah _ _))).ps.pg.bel).mono ?_;rintro w a2 ⟨rfl,u⟩)|(refine Pq.stp P (by first|exact aw (ah _ _)|exact(aw (ah _ _)).trans u) (by with_reducible first|assumption|exact aq (E.out _ (by first|decide|exact sz2 (by decide) e|exact sz3 (by decide) e (by decide)))|exact aq (F.out _ _ _ (by first|decide|exact sz2 (by decide) e|exact sz3 (by decide) e (by decide)) (by assumption))|exact aq (C.out _ _ _ _ _ (by first|decide|exact sz2 (by decide) e|exact sz3 (by decide) e (by decide)) (by assumption) (by assumption))) ?_;intro d P q))))
  all_goals
   go_wp2_with (go_at_call 336;refine dB (z _) ?_);go_end0
   exact Pq.fin P (by simp only[bq])
