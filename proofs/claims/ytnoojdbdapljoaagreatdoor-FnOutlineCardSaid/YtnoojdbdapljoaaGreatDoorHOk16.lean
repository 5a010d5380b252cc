import Derived.Test.YtnoojdbdapljoaaGreatDoorHOk10
import Derived.Test.YtnoojdbdapljoaaGreatDoorHOk15
import Derived.Test.YtnoojdbdapljoaaGreatDoorHOk08
set_option linter.all false
set_option maxRecDepth 100000
set_option maxHeartbeats 6400000
open Bool renaming true->M,false->O
open Go.Value renaming int->Q
open List renaming replicate->T
open Option renaming some->U,none->Y
open Go.RowKit renaming Below->V,Hid->W,intOf->Z
open Go renaming Value->X,World->Ax,Calls->A0
namespace Go.Proofs.YtnoojdbdapljoaaGreatDoor
open Go.RowKit
def zw(S:List Int):List Int->Int->Option Int
 |[],a=>U a
 |k::r,a=>if k=a-1/\S.getD k.toNat 0≠0 then zw S r (a-S.getD k.toNat 0) else Y
def pJ(S:List Int)(i:Nat)(ks:List Int):Int:=match zw S ks.reverse i with|some a=>(i:Int)-a+1|none=>0
def gC(c:List Nd):List Int:=c.foldl (fun a b=>a++[pJ a a.length b.ks]) []
theorem pK(a:List Nd)(N:Nd):gC (a++[N])=gC a++[pJ (gC a) (gC a).length N.ks]:=by simp[gC]
theorem yF{c:Type}{p:List c->Prop}(d:p [])(e:∀a x,p a->p (a++[x]))(b:List c):p b:=by
 rw[<-List.reverse_reverse b]
 induction b.reverse with
 |nil=>exact d
 |cons x g f=>rw[List.reverse_cons];exact e _ x f
theorem ii:∀(a:List Nd),(gC a).length=a.length:=by
 intro a;refine yF (p:=fun a=>(gC a).length=a.length) rfl (fun d c b=>?_) a;rw[pK];simp[b]
structure aia (S:List Int) (l:List Int) (a:Int) (R:Option Int):Prop where
 out:zw S l a=R
def xo(S:List Int):Prop:=∀(a:Nat) z,S[a]?=U z->0<=z/\z<=(a:Int)+1
theorem abK{S:List Int}(hS:xo S):∀(f:List Int)(a b:Int),(∀k∈f,0<=k)->0<=a->zw S f a=U b->0<=b/\b<=a
 |[],a,b,_,g,h=>by simp[zw]at h;omega
 |k::r,a,b,d,g,h=>by
  rw[zw]at h;split at h
  ·rename_i i;have j:=d k (by simp);have e:0<=S.getD k.toNat 0/\S.getD k.toNat 0<=k+1:=by
    rw[bm];cases hs:S[k.toNat]? with
    |none=>simp;omega
    |some c=>have:=hS _ c hs;simp;omega
   have:=abK hS r _ b (fun c e=>d c (by simp[e])) (by omega) h;omega
  ·cases h
theorem afx{S:List Int}(hS:xo S)(i:Nat)(ks:List Int)(b:∀k∈ks,0<=k):0<=pJ S i ks/\pJ S i ks<=(i:Int)+1:=by
 unfold pJ;cases h:zw S ks.reverse i with
 |none=>simp;omega
 |some a=>
  have:=abK hS ks.reverse i a (fun k c=>b k (by simpa using c)) (by omega) h;simp;omega
theorem sL(b:List Nd):(∀N∈b,∀k∈N.ks,0<=k)->xo (gC b):=by
 refine yF (p:=fun b=>(∀N∈b,∀k∈N.ks,0<=k)->xo (gC b)) (fun _ c i a=>by simp[gC]at a) (fun d N q f=>?_) b;have h:=q (fun j m=>f j (by simp[m]));intro c i a;rw[pK]at a;rcases cA c (gC d).length with g|g
 ·rw[ie g]at a;exact h c i a
 ·rw[gc g]at a;obtain⟨l,e⟩:=List.getElem?_eq_some_iff.1 a;simp at l e;subst e;obtain rfl:c=(gC d).length:=by omega
  exact afx h _ _ (fun k o=>f N (by simp) k o)
theorem B9(a:List Int)(n k:Nat)(z:Int)(b:a.length=k)(d:k<n):(a.map (Q .i64)++T (n-k) (Q .i64 0)).set k (.int .i64 z)=(a++[z]).map (Q .i64)++T (n-(k+1)) (Q .i64 0):=by
 have c:(a.map (Q .i64)).length=k:=by rw[dv,b]
 rw[List.set_append_right _ _ (by omega),c,gj,show n-k=(n-(k+1))+1 by omega,List.replicate_succ,bK];simp
theorem E6(w:Ax)(v:X)(a:List Nd)(h:cg w v a)(cu:a.length<=3000)(an:∀N∈a,N.ks.length<=1048576)(A:∀(i:Nat) N,a[i]?=U N->∀k∈N.ks,0<=k/\k<(i:Int)):
  A0 Tryz.prog 29 #[.agg #[v]] w fun e b8=>∃g,e= .returned (.slice (U ⟨g,0,Y⟩) a.length a.length)/\b8.ownsRow w.heap.size 3 1 (.slice (U ⟨g,0,Y⟩) a.length a.length) a.length ((gC a).map (Q .i64))/\V w.heap.size w b8:=by
 obtain⟨af,am,rfl⟩:=h.form;obtain⟨n,a0⟩:=aA a.length;have a3:=aq a0;have b9:W (cg w (.slice af n am) a):=by rw[<-a0];exact h
 have a5:W ((∀N∈a,N.ks.length<=1048576)/\(∀(i:Nat) N,a[i]?=U N->∀k∈N.ks,0<=k/\k<(i:Int))/\∀k,xo (gC (a.take k))):=⟨an,A,fun k=>sL _ (fun N an bx q=>by
  obtain⟨i,bo,e⟩:=fH (tD an);exact(A i N (by rw[aI bo,e]) bx q).1)⟩
 rw[a0]at cu⊢;clear h a0 an A;obtain⟨dd,bo,cy,cB,c9⟩:=dC rz;go_in;go_wp2_with (at_make;refine yw _ rfl _ _ 33 rfl w.heap.size 3 dd (.int .i64 0) 1 Tryz.underlying33 bo cy cB .i64 .i64 _ _ n rfl rfl rfl rfl (by rw[c9];omega) (by unfold maxLen;omega) (by simp) ?_;intro a2 a1 z;have bl:V (w.alloc (.cells #[.slice af n am] 25)).heap.size (w.alloc (.cells #[.slice af n am] 25)) a2:=⟨z.os,z.tape,z.output,z.size,fun k A=>z.block k A (by simp)⟩;have zc:a2.cell? ⟨w.heap.size,0,Y⟩=U (.slice af n am):=by {rw[az _ _ _ _ _ _ ((bl.block _ (by simp)).trans (aw w _))];rfl});have bE:V w.heap.size w a2:=((aj _ w).alloc (ah _) _).trans (bl.mono (by simp));rw[ba,show(madeCells (Q .i64 0).cells (n*1)).toList=T n (Q .i64 0) by rw[tw];exact yl _ n]at a1;have cx:w.heap.size+1<a2.heap.size:=(a1.lt (w.heap.size+1) rfl).2;clear zc bl z;go_loopw [17] (fun bt wr=>∃k:Nat,k<=n/\bt= .int .i64 k/\W (wr.ownsRow w.heap.size 3 1 (.slice (U ⟨w.heap.size+1,0,Y⟩) n n) n ((gC (a.take k)).map (Q .i64)++T (n-k) (.int .i64 0)))/\V w.heap.size w wr) (fun bt _=>n-(Z bt).toNat)
 case atStart=>exact⟨0,be _,rfl,a1,bE⟩
 case round=>
  obtain⟨k,A,rfl,L,H⟩:=hrel;clear a1 bE cx;by_cases b4:k<n
  ·obtain⟨N,J⟩:=bj a3.out b4;have ct:=a5.out.1 N (bC J);have b3:=a5.out.2.1 k N J;have br:=a5.out.2.2 k;obtain⟨dn,rfl,eh,eg,cr⟩:=(b9.out.below H).get J;have d5:(k:Int)<(n:Int):=by omega
   have d4:(0:Int)<=(k:Int):=by omega
   obtain⟨cc,ce,cf,cl,cm,cn,co,bF,b0,b5,bp⟩:=cr;obtain⟨a9,bb,rfl⟩:=b5.form;obtain⟨u,y,rfl⟩:=bp.form;obtain⟨c,ao⟩:=aA (gC (a.take k));have bf:c.length=k:=by rw[<-ao,ii,eJ,a3.out];omega
   have b6:gC (a.take (k+1))=c++[pJ c k N.ks]:=by
    rw[dG,J];show gC (a.take k++[N])=_;rw[pK,ao,bf]
   rw[ao]at L br;obtain⟨p,G⟩:=aA N.ks.length;rw[G]at b0 ct;have b2:bi wr (.slice u p y) N.ks:=by rw[<-G];exact bp
   have o:=aez G b2 b3 br bf b6;have a6:aia c (N.ks.take p).reverse k (zw c N.ks.reverse k):=⟨by rw[<-G,yu]⟩;obtain⟨bD,bd⟩:=aA (zw c N.ks.reverse k);rw[bd]at a6;have bA:=aq bd;generalize N.nm.length=a8 at bF;clear J b5 bp b2 b3 br bf b6 ao G bd;go_wp2_with fail;have I:V wr.heap.size wr (wr.alloc (.cells #[.int .i64 N.k,.int .i64 N.f,.int .i64 N.t,.int .i64 N.l,.int .i64 N.op,.int .i64 N.n,.string N.x,.slice a9 a8 bb,.slice u p y] 35)):=(aj _ wr).alloc (ah _) _;have cp:(wr.alloc (.cells #[.int .i64 N.k,.int .i64 N.f,.int .i64 N.t,.int .i64 N.l,.int .i64 N.op,.int .i64 N.n,.string N.x,.slice a9 a8 bb,.slice u p y] 35)).cell? ⟨wr.heap.size,8,Y⟩=U (.slice u p y):=by rw[az _ _ _ _ _ _ (aw wr _)];rfl
   have K:=aG L.out I;generalize wr.alloc (.cells #[.int .i64 N.k,.int .i64 N.f,.int .i64 N.t,.int .i64 N.l,.int .i64 N.op,.int .i64 N.n,.string N.x,.slice a9 a8 bb,.slice u p y] 35)=E at I cp K⊢;have ca:W (bi E (.slice u p y) N.ks):=o.out.2.1.below I;have a4:=aq K;have bn:V w.heap.size w E:=H.trans (I.mono H.size);have d3:=K.frozenAt k;have d0:E.cell? ⟨w.heap.size+1,k,Y⟩=U (.int .i64 0):=by
    rw[K.cellAt k (by omega),gc (by rw[dv,o.out.2.2.2.2.1];exact ah _),dv,o.out.2.2.2.2.1,gj,Cv,ab (by omega)]
   clear L K cc ce cf cl cm cn co bF b0 H I;go_loop [6,7,8] (fun df dk bw=>∃(d:Nat) (j:Int),df= .int .i64 j/\dk= .bool M/\bw= .int .i64 ((d:Int)-1)/\d<=p/\0<=j/\j<=(k:Int)/\aia c (N.ks.take d).reverse j bD) (fun _ _ bw=>(Z bw+1).toNat)
   case atStart=>exact⟨p,k,rfl,rfl,rfl,ah _,by omega,by omega,a6⟩
   case round=>
    obtain⟨d,j,rfl,rfl,rfl,d6,dq,ds,C⟩:=hrel;clear a6;have b:=C.out;cases d with
    |zero=>
     have q:pJ c k N.ks=(k:Int)-j+1:=by
      unfold pJ;rw[bA.out];rw[iG,List.reverse_nil,zw]at b;rw[<-b]
     have a7:=aq q;have ea:¬(0:Int)<=((0:Nat):Int)-1:=by omega
     have bs:=(a4.out.stored k (.int .i64 ((k:Int)-j+1))).1;rw[B9 c n k _ o.out.2.2.2.2.1 b4]at bs;have ad:=aq bs;clear b C q bs;go_wp2_with fail;refine⟨⟨k+1,by omega,by go_num,?_,bn.setCell (by simp) _⟩,by simp[Z];omega⟩;show World.ownsRow _ _ _ _ _ _ _;rw[o.out.2.2.2.2.2,a7.out];exact ad.out
    |succ d=>
     obtain⟨bx,q⟩:=bj o.out.1 (show d<p by omega);obtain⟨dp,cs,d2⟩:=ca.out.get q;subst cs;obtain⟨cz,ef⟩:=o.out.2.2.1 bx (bC q);rw[dG,q]at b;simp only[CA,List.reverse_append,List.reverse_cons,List.reverse_nil,fd,List.singleton_append]at b;rw[zw]at b;obtain⟨m,rfl⟩:=ir cz;have b7:m<k:=by omega
     obtain⟨r,B⟩:=bj o.out.2.2.2.2.1 b7;have dz:=o.out.2.2.2.1 m r B;have d1:E.cell? ⟨w.heap.size+1,m,Y⟩=U (.int .i64 r):=by
      rw[a4.out.cellAt m (by omega),ie (by rw[dv,o.out.2.2.2.2.1];exact b7),cj,B];rfl
     have ar:c.getD m 0=r:=by rw[bm,B];rfl
     simp only[rp,ar]at b;have cq:(((d+1:Nat)):Int)-1=(d:Int):=by omega
     rw[cq];have d7:(0:Int)<=(d:Int):=by omega
     have d9:(d:Int)<(p:Int):=by omega
     have ec:(m:Int)<(n:Int):=by omega
     have eb:(0:Int)<=(m:Int):=by omega
     by_cases s:(m:Int)=j-1/\r≠0
     ·rw[ab s]at b;have cb:aia c (N.ks.take d).reverse (j-r) bD:=⟨b⟩;have b1:¬r=0:=s.2;have ap:=s.1;clear b C q B ar s;obtain rfl:j=(m:Int)+1:=by omega
      clear ap;go_wp2_with fail;go_round
      case rel=>exact⟨d,(m:Int)+1-r,by go_num,rfl,by go_num,by omega,by omega,by omega,cb⟩
      case measure=>simp[Z]
     ·rw[aa s]at b;have a7:W (pJ c k N.ks=0):=by
       show pJ c k N.ks=0;unfold pJ;rw[bA.out,<-b]
      have ad:W (E.ownsRow w.heap.size 3 1 (.slice (U ⟨w.heap.size+1,0,Y⟩) n n) n ((gC (a.take (k+1))).map (Q .i64)++T (n-(k+1)) (.int .i64 0))):=by
       have F:=a4.out;show World.ownsRow _ _ _ _ _ _ _;rw[o.out.2.2.2.2.2,a7.out,en];rw[show n-k=(n-(k+1))+1 by omega,List.replicate_succ]at F;rw[cI];exact F
      by_cases ap:(m:Int)=j-1
      ·have b1:r=0:=by
        rcases Int.lt_trichotomy r 0 with g|g|g
        ·omega
        ·exact g
        ·exact absurd ⟨ap,by omega⟩ s
       subst b1;clear b C q B ar s;obtain rfl:j=(m:Int)+1:=by omega
       clear ap;go_wp2_with fail;exact⟨⟨k+1,by omega,by go_num,ad,bn⟩,by simp[Z];omega⟩
      ·clear b C q B ar s;go_wp2_with fail;exact⟨⟨k+1,by omega,by go_num,ad,bn⟩,by simp[Z];omega⟩
  ·obtain rfl:k=n:=by omega
   go_wp2_with fail;go_ret;refine⟨_,rfl,?_,H⟩;have F:=L.out;rw[cw (by rw[a3.out];exact ah _),gj,List.replicate_zero,dA]at F;exact F
open Go.Maps Go.WideMaps
theorem abL{w:Ax}{i:X}{f:List Nd}{N:Nd}{vn vk:X}(c:fp w i f N vn vk)(g:N.k=40):
  A0 Tryz.prog 57 #[.agg #[i],dj N vn vk] w fun e h=>e= .returned (.bool (((N.ks.length:Int)==1)&&ik f N 1 0&&aH N O O O O))/\V w.heap.size w h:=by
 obtain⟨E,H,rfl⟩:=c.t.form;obtain⟨F,I,rfl⟩:=c.n.form;obtain⟨G,J,rfl⟩:=c.k.form;have b:=St.start c;have K:=c.lx;have C:W (N.x.size<=1100000):=by show _<=_;omega
 clear c;have L:=cC g;have ad:=jd g 40 rfl;clear g;cases t0:((N.ks.length:Int)==1)
 case' true=>
  have j:N.ks.length=1:=by have:=fh t0;omega
  have l:W (1<=N.ks.length):=by show _<=_;omega
  have B:W (0<N.ks.length):=by show _<_;omega
  clear j;cases t1:ik f N 1 0
  case' true=>
   cases t2:aH N O O O O
 all_goals
  unfold dj;go_in;go_wp2_with (first|(go_at_call 105;refine(dt _ _ f N _ _ 0 1 b.a.t b.a.n b.a.k b.a.ok l.out b.a.ln b.a.l2).mono ?_;rintro e h ⟨rfl,d⟩;replace b:=b.below d;clear d;obtain⟨m,o,p,q,r,s,u,v,y,z⟩:=au b.bn;have A:=b.bt)|(go_at_call 103;refine(dc _ N _ _ b.a.n b.a.k b.a.l1).mono ?_;rintro e h ⟨rfl,d⟩;replace b:=b.below d;clear d;obtain⟨m,o,p,q,r,s,u,v,y,z⟩:=au b.bn;have A:=b.bt));go_ret;exact⟨rfl,b.bel⟩
theorem ab0{w:Ax}{i:X}{f:List Nd}{N:Nd}{vn vk:X}(c:fp w i f N vn vk)(g:N.k=41):
  A0 Tryz.prog 57 #[.agg #[i],dj N vn vk] w fun e h=>e= .returned (.bool (((N.ks.length:Int)==2)&&ik f N 2 0&&aH N O O O O))/\V w.heap.size w h:=by
 obtain⟨F,I,rfl⟩:=c.t.form;obtain⟨G,J,rfl⟩:=c.n.form;obtain⟨H,K,rfl⟩:=c.k.form;have b:=St.start c;have L:=c.lx;have E:W (N.x.size<=1100000):=by show _<=_;omega
 clear c;have ad:=cC g;have af:=jd g 41 rfl;clear g;cases t0:((N.ks.length:Int)==2)
 case' true=>
  have j:N.ks.length=2:=by have:=fh t0;omega
  have l:W (2<=N.ks.length):=by show _<=_;omega
  have B:W (0<N.ks.length):=by show _<_;omega
  have C:W (1<N.ks.length):=by show _<_;omega
  clear j;cases t1:ik f N 2 0
  case' true=>
   cases t2:aH N O O O O
 all_goals
  unfold dj;go_in;go_wp2_with (first|(go_at_call 105;refine(dt _ _ f N _ _ 0 2 b.a.t b.a.n b.a.k b.a.ok l.out b.a.ln b.a.l2).mono ?_;rintro e h ⟨rfl,d⟩;replace b:=b.below d;clear d;obtain⟨m,o,p,q,r,s,u,v,y,z⟩:=au b.bn;have A:=b.bt)|(go_at_call 103;refine(dc _ N _ _ b.a.n b.a.k b.a.l1).mono ?_;rintro e h ⟨rfl,d⟩;replace b:=b.below d;clear d;obtain⟨m,o,p,q,r,s,u,v,y,z⟩:=au b.bn;have A:=b.bt));go_ret;exact⟨rfl,b.bel⟩
theorem ab1{w:Ax}{i:X}{f:List Nd}{N:Nd}{vn vk:X}(d:fp w i f N vn vk)(h:N.k=42):
  A0 Tryz.prog 57 #[.agg #[i],dj N vn vk] w fun e g=>e= .returned (.bool (((N.ks.length:Int)==1)&&ik f N 1 0&&aH N O O M O&&mH N.x))/\V w.heap.size w g:=by
 obtain⟨E,H,rfl⟩:=d.t.form;obtain⟨F,I,rfl⟩:=d.n.form;obtain⟨G,J,rfl⟩:=d.k.form;have b:=St.start d;have K:=d.lx;have B:W (N.x.size<=1100000):=by show _<=_;omega
 clear d;have L:=cC h;have ad:=jd h 42 rfl;clear h;cases t0:((N.ks.length:Int)==1)
 case' true=>
  have z:N.ks.length=1:=by have:=fh t0;omega
  have A:W (1<=N.ks.length):=by show _<=_;omega
  have C:W (0<N.ks.length):=by show _<_;omega
  clear z;cases t1:ik f N 1 0
  case' true=>
   cases t2:aH N O O M O
   case' true=>
    cases t3:mH N.x
 all_goals
  unfold dj;go_in;go_wp2_with (first|(go_at_call 105;refine(dt _ _ f N _ _ 0 1 b.a.t b.a.n b.a.k b.a.ok A.out b.a.ln b.a.l2).mono ?_;rintro e g ⟨rfl,c⟩;replace b:=b.below c;clear c;obtain⟨j,l,m,o,p,q,r,s,u,v⟩:=au b.bn;have y:=b.bt)|(go_at_call 103;refine(lA _ N _ _ b.a.n b.a.k b.a.l1).mono ?_;rintro e g ⟨rfl,c⟩;replace b:=b.below c;clear c;obtain⟨j,l,m,o,p,q,r,s,u,v⟩:=au b.bn;have y:=b.bt)|(go_at_call 108;refine(mq N.x B.out _).mono ?_;rintro e g ⟨rfl,c⟩;replace b:=b.below c;clear c;obtain⟨j,l,m,o,p,q,r,s,u,v⟩:=au b.bn;have y:=b.bt));go_ret;exact⟨rfl,b.bel⟩
inductive D (tk:Nat->Tk) (n:Nat):Nat->List Int->Nat->Nat->Prop where
 |nil {i:Nat}:D tk n 0 [] i i
 |tok {m:Nat}{s:Int}{r:List Int}{i j:Nat}:s<100->(tk i).k=s->i<n->D tk n m r (i+1) j->D tk n (m+1) (s::r) i j
 |exp {m:Nat}{s:Int}{r:List Int}{i j:Nat}:100<=s->i<n->(xE s (tk i).k).2=true->D tk n m ((xE s (tk i).k).1++r) i j->D tk n (m+1) (s::r) i j
section
variable {tk : Nat → Tk} {n : Nat}
theorem D.split{m:Nat}{st:List Int}{i j:Nat}(h:D tk n m st i j):∀(a b:List Int),st=a++b->∃d e k,D tk n d a i k/\D tk n e b k j/\d+e=m:=by
 induction h with
 |nil=>
  intro a b c;obtain⟨rfl,rfl⟩:a=[]/\b=[]:=by simpa using c.symm
  exact⟨0,0,_,.nil,.nil,rfl⟩
 |@tok m o t i j f g l r s=>
  intro a b c;cases a with
  |nil=>
   rw[fd]at c;exact⟨0,m+1,i,.nil,by rw[<-c];exact .tok f g l r,by omega⟩
  |cons u a=>
   obtain⟨rfl,rfl⟩:o=u/\t=a++b:=by simpa using c
   obtain⟨d,e,k,p,q,v⟩:=s a b rfl;exact⟨d+1,e,k,.tok f g l p,q,by omega⟩
 |@exp m o t i j f g l r s=>
  intro a b c;cases a with
  |nil=>
   rw[fd]at c;exact⟨0,m+1,i,.nil,by rw[<-c];exact .exp f g l r,by omega⟩
  |cons u a=>
   obtain⟨rfl,rfl⟩:o=u/\t=a++b:=by simpa using c
   obtain⟨d,e,k,p,q,v⟩:=s ((xE o (tk i).k).1++a) b (by rw[cI]);exact⟨d+1,e,k,.exp f g l p,q,by omega⟩
theorem D.cut{m:Nat}{s:Int}{r:List Int}{i j:Nat}(h:D tk n m (s::r) i j):∃a b k,D tk n a [s] i k/\D tk n b r k j/\a+b=m:=h.split [s] r rfl
theorem D.nils{m:Nat}{i j:Nat}(h:D tk n m [] i j):i=j:=by cases h;rfl
theorem D.toks{m:Nat}{s:Int}{r:List Int}{i j:Nat}(h:D tk n m (s::r) i j)(f:s<100):(tk i).k=s/\i<n/\∃d,D tk n d r (i+1) j/\d<m:=by
 cases h with
 |tok e a b c=>exact⟨a,b,_,c,by omega⟩
 |exp e a b c=>omega
theorem D.exps{m:Nat}{s:Int}{r:List Int}{i j:Nat}(h:D tk n m (s::r) i j)(f:100<=s):i<n/\(xE s (tk i).k).2=M/\∃d,D tk n d ((xE s (tk i).k).1++r) i j/\d<m:=by
 cases h with
 |tok e a b c=>omega
 |exp e a b c=>exact⟨a,b,_,c,by omega⟩
theorem D.row{m:Nat}{s:Int}{i j:Nat}(h:D tk n m [s] i j)(g:100<=s){x:List Int×Bool}(e:xE s (tk i).k=x):i<n/\x.2=M/\∃a,D tk n a x.1 i j/\a<m:=by
 obtain⟨d,c,a,b,f⟩:=h.exps g;rw[e]at c b;rw[dA]at b;exact⟨d,c,a,b,f⟩
structure Ex (tk:Nat->Tk) (n m:Nat):Prop where
 unit:∀{i j:Nat},D tk n m [120] i j->j<n->∃N ks,P tk n .unit i (one N ks) j
 expr:∀{i j:Nat},D tk n m [119] i j->j<n->∃N ks,P tk n (.expr 0) i (one N ks) j
 exprs:∀{i j:Nat},D tk n m [124] i j->j<n->∃R,P tk n .exprs i R j
 moreE:∀{i j:Nat},D tk n m [125] i j->j<n->∃R,P tk n .moreE i R j
 block:∀{i j:Nat},D tk n m [132] i j->j<n->∃N ks,P tk n .block i (one N ks) j
 stats:∀{i j:Nat},D tk n m [100] i j->j<n->(tk j).k=43\/(tk j).k=6->∃R,P tk n .stats i R j
 body:∀{i j:Nat}(s:Tk),D tk n m [133] i j->j<n->∃N ks,P tk n (.body s) i (one N ks) j
 entries:∀{i j:Nat},D tk n m [129] i j->j<n->(tk j).k=43->∃R,P tk n .entries i R j
 entry:∀{i j:Nat},D tk n m [131] i j->j<n->∃N ks,P tk n .entry i (one N ks) j
 els:∀{i j k k1:Nat}{x b:Fo},(tk i).k=20\/(tk i).k=15->i<n->P tk n (.expr 0) (i+1) x k->P tk n .block k b k1->D tk n m [105] k1 j->j<n->∃N ks,P tk n .branch i (one N ks) j
theorem afy(k:Int):1<=KB k:=by
 unfold KB
 repeat' split
 all_goals omega
theorem D.lt{m:Nat}{s:Int}{r:List Int}{i j:Nat}(h:D tk n m (s::r) i j):i<n:=by cases h<;>assumption
theorem pm{t:Int}(h:dH t=M):t≠6/\t≠41/\t≠43/\t≠5/\t≠44/\t≠48/\t≠46:=by
 refine⟨?_,?_,?_,?_,?_,?_,?_⟩;all_goals
  rintro rfl;revert h;decide
theorem ajB(E:∀i,(tk i).k<100):∀(m:Nat),(∀m',m'<m->Ex tk n m')->∀{k j:Nat},D tk n m [121] k j->j<n->∀(p:Int)(s:Tk)(N:Nd)(ks:Fo),∃o af c m',P tk n (.more p s (one N ks)) k (one o af) c/\D tk n m' [121] c j/\m'<=m/\(ja (tk c).k=M->KB (tk c).k<p):=by
 intro m
 induction m using Nat.strongRecOn with
 |_ m l=>
  intro e k j d h p s N ks;by_cases b:ja (tk k).k=M/\p<=KB (tk k).k
  ·obtain⟨G,_,a7,v,a0⟩:=d.row (by omega) (x:=([(tk k).k,119],M)) (by simp[xE,ae9,b.1]);obtain⟨_,_,a8,w,a1⟩:=v.toks (E k);obtain⟨y,F,a9,z,a2⟩:=w.row (by omega) (x:=([120,121],dH (tk (k+1)).k)) (by simp[xE,ae8]);obtain⟨ao,ap,a6,A,f,a3⟩:=z.cut;obtain⟨u,an,K⟩:=(e ao (by omega)).unit A f.lt;obtain⟨q,ak,L,ar,H,B,a4,_⟩:=l ap (by omega) (fun m' a=>e m' (by omega)) f h (rpw (tk k).k) (tk (k+1)) u an;obtain⟨r,am,ad,av,I,C,a5,J⟩:=l ar (by omega) (fun m' a=>e m' (by omega)) B h p s (pd (tk k).k s (tk (L-1)).t) ((one N ks).app (one q ak));exact⟨r,am,ad,av,.mgo G b.1 b.2 (.ex (pm F).1 y K H) I,C,by omega,J⟩
  ·exact⟨N,ks,k,m,.mstop d.lt (fun a=>by rcases Int.lt_or_le (KB (tk k).k) p with g|g;exact g;exact absurd ⟨a,g⟩ b),d,ah _,fun a=>by rcases Int.lt_or_le (KB (tk k).k) p with g|g;exact g;exact absurd ⟨a,g⟩ b⟩
theorem afz(o:∀i,(tk i).k<100){m:Nat}(d:∀m',m'<m->Ex tk n m'){i j:Nat}(q:D tk n m [119] i j)(t:j<n):∃N ks,P tk n (.expr 0) i (one N ks) j:=by
 obtain⟨s,p,E,f,B⟩:=q.row (by omega) (x:=([120,121],dH (tk i).k)) (by simp[xE,ae8]);obtain⟨z,A,k,g,c,C⟩:=f.cut;obtain⟨N,ks,w⟩:=(d z (by omega)).unit g c.lt;obtain⟨e,y,a,m',u,h,_,v⟩:=ajB o A (fun m' b=>d m' (by omega)) c t 0 (tk i) N ks;have r:ja (tk a).k=O:=by
  cases b:ja (tk a).k with
  |false=>rfl
  |true=>have:=v b;have:=afy (tk a).k;omega
 obtain⟨_,_,F,l,_⟩:=h.row (by omega) (x:=([],M)) (by simp[xE,ae9,r]);obtain rfl:=l.nils;exact⟨e,y,.ex (pm p).1 s w u⟩
def fam(S:Int):Int:=if S<=112 then 1 else if S<=115 then 2 else if S<=118 then 3 else 4
theorem afA{S t:Int}(hS:S=110\/S=111\/S=112\/S=114\/S=115\/S=117\/S=118\/S=122)(h:G5 t=M):∃a c,xE S t=(oh t a c,M)/\(a=110\/a=114\/a=117\/a=122)/\(c=111\/c=115\/c=118\/c=122)/\fam a=fam S/\fam c=fam S:=by
 have b:t=48\/t=44\/t=40:=bc h;rcases hS with rfl|rfl|rfl|rfl|rfl|rfl|rfl|rfl
 ·exact⟨110,111,by rcases b with rfl|rfl|rfl<;>decide,by omega,by omega,rfl,rfl⟩
 ·exact⟨110,111,by rcases b with rfl|rfl|rfl<;>decide,by omega,by omega,rfl,rfl⟩
 ·exact⟨110,111,by rcases b with rfl|rfl|rfl<;>decide,by omega,by omega,rfl,rfl⟩
 ·exact⟨114,115,by rcases b with rfl|rfl|rfl<;>decide,by omega,by omega,rfl,rfl⟩
 ·exact⟨114,115,by rcases b with rfl|rfl|rfl<;>decide,by omega,by omega,rfl,rfl⟩
 ·exact⟨117,118,by rcases b with rfl|rfl|rfl<;>decide,by omega,by omega,rfl,rfl⟩
 ·exact⟨117,118,by rcases b with rfl|rfl|rfl<;>decide,by omega,by omega,rfl,rfl⟩
 ·exact⟨122,122,by rcases b with rfl|rfl|rfl<;>decide,by omega,by omega,rfl,rfl⟩
theorem ajC:∀(m:Nat),(∀m',m'<m->Ex tk n m')->∀{S:Int},(S=110\/S=111\/S=112\/S=114\/S=115\/S=117\/S=118\/S=122)->∀{k j:Nat},D tk n m [S] k j->j<n->∀(s:Tk)(N:Nd)(ks:Fo),∃av a9 L m' a,P tk n (.post s (one N ks)) k (one av a9) L/\D tk n m' [a] L j/\m'<=m/\G5 (tk L).k=O/\(a=110\/a=111\/a=112\/a=114\/a=115\/a=117\/a=118\/a=122)/\fam a=fam S:=by
 intro m
 induction m using Nat.strongRecOn with
 |_ m E=>
  intro q S hS k j J C s N ks;cases hf:G5 (tk k).k with
  |false=>exact⟨N,ks,k,m,S,.pstop J.lt hf,J,ah _,hf,hS,rfl⟩
  |true=>
   obtain⟨u,y,a8,bf,bl,ak,am⟩:=afA hS hf;obtain⟨a3,_,br,o,bn⟩:=J.row (by omega) a8;have a7:(tk k).k=48\/(tk k).k=44\/(tk k).k=40:=bc hf;rcases a7 with e|e|e
   ·rw[show(oh (tk k).k u y,M).1=[48,1,u] by rw[e];rfl]at o;obtain⟨_,_,ar,v,an⟩:=o.toks (by omega);obtain⟨a2,a4,F,p,ao⟩:=v.toks (by omega);obtain⟨b,l,i,af,c,p2,d,bo,f,g,h⟩:=E F (by omega) (fun m' H=>q m' (by omega)) (by omega) p C s (nd 33 s (tk (k+1)).t 0 0 (tk (k+1)).x []) (one N ks);exact⟨b,l,i,af,c,.pdot e a2 a4 p2,d,by omega,f,g,by rw[h,ak]⟩
   ·rw[show(oh (tk k).k u y,M).1=[44,119,45,u] by rw[e];rfl]at o;obtain⟨_,_,ar,v,an⟩:=o.toks (by omega);obtain⟨F,af,ad,p,A,ao⟩:=v.cut;obtain⟨a0,bb,K⟩:=(q F (by omega)).expr p A.lt;obtain⟨z,w,G,B,a6⟩:=A.toks (by omega);obtain⟨b,l,i,r,c,p2,d,ap,f,g,h⟩:=E G (by omega) (fun m' H=>q m' (by omega)) (by omega) B C s (im 32 s (tk ad).t) ((one N ks).app (one a0 bb));exact⟨b,l,i,r,c,.psq e a3 K z w p2,d,by omega,f,g,by rw[h,ak]⟩
   ·rw[show(oh (tk k).k u y,M).1=[40,123,41,y] by rw[e];rfl]at o;obtain⟨_,_,ar,v,an⟩:=o.toks (by omega);obtain⟨F,af,ad,p,A,ao⟩:=v.cut;obtain⟨z,w,G,B,a6⟩:=A.toks (by omega);cases hb:dH (tk (k+1)).k with
    |false=>
     obtain⟨_,_,r,I,_⟩:=p.row (by omega) (x:=([],M)) (by simp[xE,afb,hb]);obtain rfl:=I.nils;obtain⟨b,l,i,r,c,p2,d,ap,f,g,h⟩:=E G (by omega) (fun m' H=>q m' (by omega)) (by omega) B C s (im 34 s (tk (k+1)).t) (one N ks);exact⟨b,l,i,r,c,.pcall0 e z w p2,d,by omega,f,g,by rw[h,am]⟩
    |true=>
     obtain⟨a5,_,r,I,ap⟩:=p.row (by omega) (x:=([124],M)) (by simp[xE,afb,hb]);obtain⟨a1,K⟩:=(q r (by omega)).exprs I w;obtain⟨b,l,i,bd,c,p2,d,bp,f,g,h⟩:=E G (by omega) (fun m' H=>q m' (by omega)) (by omega) B C s (im 34 s (tk ad).t) ((one N ks).app a1);exact⟨b,l,i,bd,c,.pcall e a5 (pm hb).2.1 K z w p2,d,by omega,f,g,by rw[h,am]⟩
theorem Jk{t a c:Int}(h:G5 t=O):oh t a c=[]:=by
 have h:=ig h;unfold oh;rw[aa (by omega),aa (by omega),aa (by omega)]
theorem D.join{o c:Nat}{a b:List Int}{i k j:Nat}(h:D tk n o a i k)(l:D tk n c b k j):D tk n (o+c) (a++b) i j:=by
 induction h with
 |nil=>rw[od];exact l
 |@tok d q r i j e f g p m=>rw[show d+1+c=(d+c)+1 by omega];exact .tok e f g (m l)
 |@exp d q r i j e f g p m=>rw[show d+1+c=(d+c)+1 by omega];exact .exp (r:=r++b) e f g (by rw[<-cI];exact m l)
theorem ab2(N:Nd)(ks:Fo)(s:Tk)(e:Int):∃a b,jG N ks s e=one a b:=by unfold jG;split<;>exact⟨_,_,rfl⟩
theorem E7{m:Nat}(o:∀m',m'<m->Ex tk n m'){S:Int}(hS:S=110\/S=111\/S=112\/S=114\/S=115\/S=117\/S=118\/S=122){i j:Nat}(v:j<n)(hd:D tk n m [1,S] i j\/D tk n m [40,119,41,S] i j):∃z ak q m' a,P tk n .base i (one z ak) q/\D tk n m' [a] q j/\m'<m/\G5 (tk q).k=O/\(a=110\/a=111\/a=112\/a=114\/a=115\/a=117\/a=118\/a=122)/\fam a=fam S:=by
 rcases hd with hd|hd
 ·obtain⟨e,p,y,l,J⟩:=hd.toks (by omega);obtain⟨b,s,r,u,c,p2,d,K,f,g,h⟩:=ajC y (fun m' F=>o m' (by omega)) hS l v (tk i) (nd 26 (tk i) (tk i).t 0 0 (tk i).x []) .nil;exact⟨b,s,r,u,c,.bname e p p2,d,by omega,f,g,h⟩
 ·obtain⟨e,p,y,l,J⟩:=hd.toks (by omega);obtain⟨u,av,ad,G,H,K⟩:=l.cut;obtain⟨C,w,an,I,ap⟩:=H.toks (by omega);obtain⟨B,am,L⟩:=(o u (by omega)).expr G w;obtain⟨A,af,E⟩:=ab2 B am (tk i) (tk ad).t;obtain⟨b,s,r,ao,c,p2,d,ar,f,g,h⟩:=ajC an (fun m' F=>o m' (by omega)) hS I v (tk i) A af;rw[<-E]at p2;exact⟨b,s,r,ao,c,.bopen e p L C w p2,d,by omega,f,g,h⟩
theorem D.names:∀(m:Nat){k j:Nat},D tk n m [104] k j->j<n->∃e,GA tk n k e j/\(tk j).k≠46:=by
 intro m
 induction m using Nat.strongRecOn with
 |_ m r=>
  intro k j c d;by_cases a:(tk k).k=46
  ·obtain⟨l,_,s,b,p⟩:=c.row (by omega) (x:=([46,1,104],M)) (by simp[xE,ae3,a]);obtain⟨_,_,w,g,u⟩:=b.toks (by omega);obtain⟨f,o,t,h,v⟩:=g.toks (by omega);obtain⟨e,q,i⟩:=r t (by omega) h d;exact⟨_,.go a o f q,i⟩
  ·obtain⟨l,_,s,b,p⟩:=c.row (by omega) (x:=([],M)) (by simp[xE,ae3,a]);obtain rfl:=b.nils;exact⟨[],.stop a d,a⟩
theorem params:∀(m:Nat){S:Int},S=126\/S=128->∀{k j:Nat},D tk n m [S,41] k j->j<n->∃t r,Prm tk n k t r j:=by
 intro m
 induction m using Nat.strongRecOn with
 |_ m C=>
  intro S hS k j w f;obtain⟨ad,F,E,c,l,K⟩:=w.cut;obtain⟨g,J,af,v,_⟩:=l.toks (by omega);obtain rfl:=v.nils;by_cases b:(tk k).k=1
  ·obtain⟨p,_,s,a,q⟩:=c.row (by omega) (x:=([1,127],M)) (by rcases hS with rfl|rfl<;>simp[xE,abo,abp,b]);obtain⟨_,_,G,d,z⟩:=a.toks (by omega);by_cases i:(tk (k+1)).k=46
   ·obtain⟨y,_,H,h,A⟩:=d.row (by omega) (x:=([46,128],M)) (by simp[xE,afd,i]);obtain⟨_,_,I,o,L⟩:=h.toks (by omega);obtain⟨t,r,B⟩:=C (I+F) (by omega) (.inr rfl) (k:=k+2) (j:=E+1) (D.join o l) f;exact⟨_,_,.go b i o.lt B⟩
   ·obtain⟨y,_,H,h,A⟩:=d.row (by omega) (x:=([],M)) (by simp[xE,afd,i]);obtain rfl:=h.nils;exact⟨_,_,.last b g f⟩
  ·by_cases e:(tk k).k=49
   ·obtain⟨p,_,s,a,q⟩:=c.row (by omega) (x:=([49],M)) (by rcases hS with rfl|rfl<;>simp[xE,abo,abp,e]);obtain⟨_,_,G,d,z⟩:=a.toks (by omega);obtain rfl:=d.nils;exact⟨_,_,.rest e g f⟩
   ·rcases hS with rfl|rfl
    ·obtain⟨p,_,s,a,q⟩:=c.row (by omega) (x:=([],M)) (by simp[xE,abo,b,e]);obtain rfl:=a.nils;exact⟨_,_,.close g f⟩
    ·obtain⟨_,u,_⟩:=c.row (by omega) (x:=([],O)) (by simp[xE,abp,b,e]);cases u
theorem ab3{m:Nat}(e:∀m',m'<m->Ex tk n m'){i j:Nat}(d:D tk n m [125] i j)(g:j<n):∃R,P tk n .moreE i R j:=by
 by_cases a:(tk i).k=46
 ·obtain⟨f,_,q,b,o⟩:=d.row (by omega) (x:=([46,119,125],M)) (by simp[xE,afc,a]);obtain⟨_,_,z,h,u⟩:=b.toks (by omega);obtain⟨r,s,w,k,c,v⟩:=h.cut;obtain⟨t,y,p⟩:=(e r (by omega)).expr k c.lt;obtain⟨R,l⟩:=(e s (by omega)).moreE c g;exact⟨_,.ego a f p l⟩
 ·obtain⟨f,_,q,b,o⟩:=d.row (by omega) (x:=([],M)) (by simp[xE,afc,a]);obtain rfl:=b.nils;exact⟨_,.estop a g⟩
theorem ab4{m:Nat}(b:∀m',m'<m->Ex tk n m'){i j:Nat}(f:D tk n m [124] i j)(g:j<n):∃R,P tk n .exprs i R j:=by
 obtain⟨p,_,u,c,q⟩:=f.row (by omega) (x:=([119,125],dH (tk i).k)) (by simp[xE,ahI]);obtain⟨k,l,s,d,a,r⟩:=c.cut;obtain⟨o,t,h⟩:=(b k (by omega)).expr d a.lt;obtain⟨R,e⟩:=(b l (by omega)).moreE a g;exact⟨_,.es h e⟩
theorem E8{m:Nat}(l:∀m',m'<m->Ex tk n m'){i j:Nat}(k:D tk n m [132] i j)(p:j<n):∃N ks,P tk n .block i (one N ks) j:=by
 obtain⟨o,h,y,b,t⟩:=k.row (by omega) (x:=([42,100,43],decide ((tk i).k=42))) (by simp[xE,abr]);obtain⟨_,_,z,c,u⟩:=b.toks (by omega);obtain⟨r,A,w,d,e,v⟩:=c.cut;obtain⟨a,q,B,f,_⟩:=e.toks (by omega);obtain rfl:=f.nils;obtain⟨s,g⟩:=(l r (by omega)).stats d q (.inl a);exact⟨_,_,.block (bc h) o g a p⟩
theorem afB{m:Nat}(h:∀m',m'<m->Ex tk n m'){i j:Nat}(s:Tk)(g:D tk n m [133] i j)(l:j<n):∃N ks,P tk n (.body s) i (one N ks) j:=by
 obtain⟨k,f,w,b,r⟩:=g.row (by omega) (x:=([40,126,41,132],decide ((tk i).k=40))) (by simp[xE,afg]);obtain⟨_,_,y,c,t⟩:=b.toks (by omega);obtain⟨p,q,v,d,a,u⟩:=c.split [126,41] [132] rfl;obtain⟨N,ks,e⟩:=(h q (by omega)).block a l;obtain⟨z,A,o⟩:=params p (.inl rfl) d a.lt;exact⟨_,_,.body (bc f) k o e⟩
theorem afC(p:∀i,(tk i).k<100){m:Nat}(g:∀m',m'<m->Ex tk n m'){i j:Nat}(I:D tk n m [120] i j)(b:j<n):∃N ks,P tk n .unit i (one N ks) j:=by
 obtain⟨l,c,C,a,ad⟩:=I.row (by omega) (x:=EG (tk i).k) (by simp[xE,aju]);unfold EG at c a;split at a
 ·rename_i h;obtain⟨_,_,e,d,o⟩:=a.toks (p i);obtain⟨N,ks,u⟩:=(g e (by omega)).unit d b;exact⟨_,_,.upre h l u⟩
 rename_i B;rw[aa B]at c;split at a
 ·rename_i h;obtain⟨N,ks,k,e,S,p2,q,o,r,s,t⟩:=E7 (m:=C) (S:=122) (fun m' h=>g m' (by omega)) (by omega) b (.inl (by rw[h]at a;exact a));obtain rfl:S=122:=by rcases s with rfl|rfl|rfl|rfl|rfl|rfl|rfl|rfl<;>first|rfl|(revert t;decide)
  obtain⟨_,_,E,f,_⟩:=q.row (by omega) (x:=([],M)) (by simp[xE,afa,Jk r]);obtain rfl:=f.nils;exact⟨N,ks,.ubas (.inl h) l p2⟩
 rename_i w;rw[aa w]at c;split at a
 ·rename_i h;obtain⟨N,ks,k,e,S,p2,q,o,r,s,t⟩:=E7 (m:=C) (S:=122) (fun m' h=>g m' (by omega)) (by omega) b (.inr (by rw[h]at a;exact a));obtain rfl:S=122:=by rcases s with rfl|rfl|rfl|rfl|rfl|rfl|rfl|rfl<;>first|rfl|(revert t;decide)
  obtain⟨_,_,E,f,_⟩:=q.row (by omega) (x:=([],M)) (by simp[xE,afa,Jk r]);obtain rfl:=f.nils;exact⟨N,ks,.ubas (.inr h) l p2⟩
 rename_i y;rw[aa y]at c;split at a
 ·rename_i h;obtain⟨_,_,e,d,o⟩:=a.toks (p i);obtain⟨K,ak,k,F,G,af⟩:=d.cut;obtain⟨v,J,E,f,_⟩:=G.toks (by omega);obtain rfl:=f.nils;obtain⟨L,H⟩:=(g K (by omega)).entries F J v;exact⟨_,_,.utab h l H v b⟩
 rename_i z;rw[aa z]at c;split at a
 ·rename_i h;obtain⟨_,_,e,d,o⟩:=a.toks (p i);obtain⟨N,ks,u⟩:=(g e (by omega)).body (tk i) d b;exact⟨N,ks,.ufn h l u⟩
 rename_i A;rw[aa A]at c;obtain⟨_,_,e,d,o⟩:=a.toks (p i);obtain rfl:=d.nils;simp only[dH,B,yr,decide_eq_true_eq]at c;rcases c with h|h|h|h|h|h|h|h|h|h|h
 ·exact absurd h w
 ·exact⟨_,_,.uint h b⟩
 ·exact⟨_,_,.uflt h b⟩
 ·exact⟨_,_,.ustr h b⟩
 ·exact⟨_,_,.unil h b⟩
 ·exact⟨_,_,.utru h b⟩
 ·exact⟨_,_,.ufls h b⟩
 ·exact⟨_,_,.urst h b⟩
 ·exact absurd h A
 ·exact absurd h y
 ·exact absurd h z
theorem ab5{m:Nat}(f:∀m',m'<m->Ex tk n m'){i j:Nat}(l:D tk n m [131] i j)(o:j<n):∃N ks,P tk n .entry i (one N ks) j:=by
 by_cases d:(tk i).k=48
 ·obtain⟨g,_,p,a,q⟩:=l.row (by omega) (x:=([48,1,47,119],M)) (by simp[xE,abq,d]);obtain⟨_,_,H,h,E⟩:=a.toks (by omega);obtain⟨t,_,r,k,F⟩:=h.toks (by omega);obtain⟨u,B,s,c,K⟩:=k.toks (by omega);obtain⟨N,ks,b⟩:=(f s (by omega)).expr c o;exact⟨_,_,.named d t u B b⟩
 by_cases e:(tk i).k=44
 ·obtain⟨g,_,p,a,q⟩:=l.row (by omega) (x:=([44,119,45,47,119],M)) (by simp[xE,abq,e]);obtain⟨_,_,H,h,E⟩:=a.toks (by omega);obtain⟨r,s,af,k,c,F⟩:=h.cut;obtain⟨N,ks,b⟩:=(f r (by omega)).expr k c.lt;obtain⟨v,_,am,y,L⟩:=c.toks (by omega);obtain⟨w,C,I,z,ad⟩:=y.toks (by omega);obtain⟨J,ak,G⟩:=(f I (by omega)).expr z o;exact⟨_,_,.pair e g b v w C G⟩
 ·obtain⟨g,A,p,a,q⟩:=l.row (by omega) (x:=([119],dH (tk i).k)) (by simp[xE,abq,d,e]);obtain⟨N,ks,b⟩:=(f p (by omega)).expr a o;exact⟨_,_,.item d e (pm A).1 g b⟩
theorem Hf{m:Nat}(q:∀m',m'<m->Ex tk n m'){i j:Nat}(p:D tk n m [129] i j)(h:j<n)(f:(tk j).k=43):∃R,P tk n .entries i R j:=by
 by_cases hb:dH (tk i).k=M\/(tk i).k=48\/(tk i).k=44
 ·obtain⟨g,_,y,b,v⟩:=p.row (by omega) (x:=([131,130],M)) (by rcases hb with hb|hb|hb<;>simp[xE,afe,hb]);have o:(tk i).k≠43:=by rcases hb with hb|hb|hb;exact(pm hb).2.2.1;omega;omega
  obtain⟨z,H,k,s,d,E⟩:=b.cut;obtain⟨C,G,r⟩:=(q z (by omega)).entry s d.lt;by_cases c:(tk k).k=46
  ·obtain⟨l,_,A,e,w⟩:=d.row (by omega) (x:=([46,129],M)) (by simp[xE,aff,c]);obtain⟨_,_,B,t,F⟩:=e.toks (by omega);obtain⟨R,u⟩:=(q B (by omega)).entries t h f;exact⟨_,.ncom o g r c l u⟩
  ·obtain⟨l,_,A,e,w⟩:=d.row (by omega) (x:=([],M)) (by simp[xE,aff,c]);obtain rfl:=e.nils;exact⟨_,.nlast o g r c l (.nstop f h)⟩
 ·have b:dH (tk i).k=O:=by cases a:dH (tk i).k with|false=>rfl|true=>exact absurd (.inl a) hb
  obtain⟨g,_,y,b,v⟩:=p.row (by omega) (x:=([],M)) (by simp only[xE,afe,b];rw[aa (by simp),aa (fun a=>hb (.inr (.inl a))),aa (fun a=>hb (.inr (.inr a)))];rfl);obtain rfl:=b.nils;exact⟨_,.nstop f h⟩
theorem aib{m:Nat}(f:∀m',m'<m->Ex tk n m'){i j k g:Nat}{x b:Fo}(l:(tk i).k=20\/(tk i).k=15)(r:i<n)(s:P tk n (.expr 0) (i+1) x k)(o:P tk n .block k b g)(q:D tk n m [105] g j)(v:j<n):∃N ks,P tk n .branch i (one N ks) j:=by
 by_cases d:(tk g).k=15
 ·obtain⟨a,_,y,c,w⟩:=q.row (by omega) (x:=([15,119,132,105],M)) (by simp[xE,abj,d]);obtain⟨_,_,z,h,E⟩:=c.toks (by omega);obtain⟨I,ao,ak,B,t,ad⟩:=h.cut;obtain⟨N,ks,F⟩:=(f I (by omega)).expr B t.lt;obtain⟨J,K,am,C,u,af⟩:=t.cut;obtain⟨A,H,p⟩:=(f J (by omega)).block C u.lt;obtain⟨L,an,G⟩:=(f K (by omega)).els (.inr d) a F p u v;exact⟨_,_,.belif l r s o d a G⟩
 by_cases e:(tk g).k=16
 ·obtain⟨a,_,y,c,w⟩:=q.row (by omega) (x:=([16,132],M)) (by simp[xE,abj,e]);obtain⟨_,_,z,h,E⟩:=c.toks (by omega);obtain⟨A,H,p⟩:=(f z (by omega)).block h v;exact⟨_,_,.belse l r s o e a p⟩
 ·obtain⟨a,_,y,c,w⟩:=q.row (by omega) (x:=([],M)) (by simp[xE,abj,d,e]);obtain rfl:=c.nils;exact⟨_,_,.bno l r s o d e a⟩
theorem afD:∀(m:Nat),(∀m',m'<m->Ex tk n m')->∀{i j:Nat},D tk n m [113] i j->j<n->∃N ks R k l m',P tk n .base i (one N ks) k/\P tk n .moreB k R l/\(tk l).k=47/\l<n/\D tk n m' [124] (l+1) j/\m'<m:=by
 intro m
 induction m using Nat.strongRecOn with
 |_ m af=>
  intro v i j c w;have J:∃a,a<m/\∃S:Int,(S=114\/S=115)/\(D tk n a [1,S] i j\/D tk n a [40,119,41,S] i j):=by
   by_cases t:(tk i).k=1
   ·obtain⟨K,_,a,d,h⟩:=c.row (by omega) (x:=([1,114],M)) (by simp[xE,abl,t]);exact⟨a,h,114,by omega,.inl d⟩
   ·by_cases u:(tk i).k=40
    ·obtain⟨K,_,a,d,h⟩:=c.row (by omega) (x:=([40,119,41,115],M)) (by simp[xE,abl,u]);exact⟨a,h,115,by omega,.inr d⟩
    ·obtain⟨_,b,_⟩:=c.row (by omega) (x:=([],O)) (by simp[xE,abl,t,u]);cases b
  obtain⟨a,h,r,I,d⟩:=J;obtain⟨N,ks,k,a2,S,p2,e,av,F,G,s⟩:=E7 (m:=a) (S:=r) (fun m' b=>v m' (by omega)) (by omega) w d;have H:fam r=2:=by rcases I with rfl|rfl<;>rfl
  rw[H]at s;have y:(tk k).k≠48/\(tk k).k≠44/\(tk k).k≠40:=by have:=ig F;omega
  have hS:S=114\/S=115:=by rcases G with rfl|rfl|rfl|rfl|rfl|rfl|rfl|rfl<;>first|omega|(revert s;decide)
  rcases hS with rfl|rfl
  ·by_cases f:(tk k).k=46
   ·obtain⟨g,_,am,o,L⟩:=e.row (by omega) (x:=([46,113],M)) (by simp[xE,abm,f]);obtain⟨_,_,q,p,ad⟩:=o.toks (by omega);obtain⟨ao,a1,ap,a0,ak,an,z,A,B,C,E,ar⟩:=af q (by omega) (fun m' b=>v m' (by omega)) p w;exact⟨N,ks,_,k,ak,an,p2,.bgo f g z A,B,C,E,by omega⟩
   ·by_cases c:(tk k).k=47
    ·obtain⟨g,_,am,o,L⟩:=e.row (by omega) (x:=([47,124],M)) (by simp[xE,abm,c]);obtain⟨_,_,q,p,ad⟩:=o.toks (by omega);exact⟨N,ks,.nil,k,k,q,p2,.bstop f g,c,g,p,by omega⟩
    ·obtain⟨_,b,_⟩:=e.row (by omega) (x:=([],O)) (by simp[xE,abm,y,f,c]);cases b
  ·obtain⟨_,b,_⟩:=e.row (by omega) (x:=([],O)) (by simp[xE,ahF,y]);cases b
theorem D.blk{m:Nat}{r:List Int}{i j:Nat}(h:D tk n m (132::r) i j):(tk i).k=42/\i<n:=by
 obtain⟨f,g,k,a,d,e⟩:=h.cut;obtain⟨c,b,_⟩:=a.row (by omega) (x:=([42,100,43],decide ((tk i).k=42))) (by simp[xE,abr]);exact⟨bc b,c⟩
theorem aic{m:Nat}(a:∀m',m'<m->Ex tk n m'){i j:Nat}(p:(tk i).k=19)(ao:D tk n m [19,1,106] i j)(E:j<n):∃N ks,P tk n .stat i (one N ks) j:=by
 obtain⟨_,_,bD,am,bl⟩:=ao.toks (by omega);obtain⟨l,bf,bF,B,bp⟩:=am.toks (by omega);by_cases e:(tk (i+2)).k=47
 ·obtain⟨t,_,a8,q,ar⟩:=B.row (by omega) (x:=([47,119,46,119,107,132],M)) (by simp[xE,ae4,e]);obtain⟨_,_,K,r,av⟩:=q.toks (by omega);obtain⟨L,a9,k,b,c,br⟩:=r.cut;obtain⟨af,a4,h⟩:=(a L (by omega)).expr b c.lt;obtain⟨y,H,ad,s,a0⟩:=c.toks (by omega);obtain⟨v,b0,J,d,C,bt⟩:=s.cut;obtain⟨bb,bx,I⟩:=(a v (by omega)).expr d C.lt;obtain⟨bE,a5,bw,z,A,bn⟩:=C.cut;obtain⟨w,G⟩:=A.blk;obtain⟨Nb,a3,f⟩:=(a a5 (by omega)).block A E;by_cases g:(tk J).k=46
  ·obtain⟨u,_,a6,o,ap⟩:=z.row (by omega) (x:=([46,119],M)) (by simp[xE,ae5,g]);obtain⟨_,_,a7,an,bo⟩:=o.toks (by omega);obtain⟨bd,bA,a2⟩:=(a a7 (by omega)).expr an G;exact⟨_,_,.tfor p (by omega) l (.stop (by omega) t) e (.es h (.ego y H I (.ego g u a2 (.estop (by omega) G)))) f⟩
  ·obtain⟨u,_,a6,o,ap⟩:=z.row (by omega) (x:=([],M)) (by simp[xE,ae5,g]);obtain rfl:=o.nils;exact⟨_,_,.tfor p (by omega) l (.stop (by omega) t) e (.es h (.ego y H I (.estop g u))) f⟩
 ·obtain⟨t,_,a8,q,ar⟩:=B.row (by omega) (x:=([104,21,119,132],decide ((tk (i+2)).k=46\/(tk (i+2)).k=21))) (by simp[xE,ae4,e]);obtain⟨K,L,k,r,b,av⟩:=q.cut;obtain⟨b1,a1,_⟩:=D.names K r b.lt;obtain⟨ak,_,a9,c,bs⟩:=b.toks (by omega);obtain⟨ad,v,J,s,d,a0⟩:=c.cut;obtain⟨w,F⟩:=d.blk;obtain⟨af,a4,h⟩:=(a ad (by omega)).expr s F;obtain⟨Nb,a3,f⟩:=(a v (by omega)).block d E;exact⟨_,_,.teach p (by omega) l a1 ak h w F f⟩
theorem Jl{m:Nat}(l:∀m',m'<m->Ex tk n m'){i j:Nat}{a:Int}(H:a=110\/a=112)(o:(tk i).k=1\/(tk i).k=40)(r:i<n)(d:D tk n m [1,a] i j\/D tk n m [40,119,41,a] i j)(e:j<n)(af:(tk j).k=5\/(tk j).k=6\/(tk j).k=43):∃N ks,P tk n .stat i (one N ks) j:=by
 obtain⟨N,ks,k,ap,S,p2,b,ak,F,G,u⟩:=E7 (m:=m) (S:=a) l (by omega) e d;rw[show fam a=1 by rcases H with rfl|rfl<;>rfl]at u;have s:(tk k).k≠48/\(tk k).k≠44/\(tk k).k≠40:=by have:=ig F;omega
 have hS:S=110\/S=111\/S=112:=by rcases G with rfl|rfl|rfl|rfl|rfl|rfl|rfl|rfl<;>first|omega|(revert u;decide)
 rcases hS with rfl|rfl|rfl
 ·by_cases h:(tk k).k=46
  ·obtain⟨f,_,w,c,v⟩:=b.row (by omega) (x:=([46,113],M)) (by simp[xE,abk,h]);obtain⟨_,_,t,p,I⟩:=c.toks (by omega);obtain⟨K,ao,L,am,an,J,z,A,B,C,E,ad⟩:=afD t (fun m' g=>l m' (by omega)) p e;obtain⟨y,q⟩:=(l J (by omega)).exprs E e;exact⟨_,_,.tset o r p2 (.bgo h f z A) B C q⟩
  ·by_cases d:(tk k).k=47
   ·obtain⟨f,_,w,c,v⟩:=b.row (by omega) (x:=([47,124],M)) (by simp[xE,abk,d]);obtain⟨_,_,t,p,I⟩:=c.toks (by omega);obtain⟨y,q⟩:=(l t (by omega)).exprs p e;exact⟨_,_,.tset o r p2 (.bstop h f) d f q⟩
   ·obtain⟨_,g,_⟩:=b.row (by omega) (x:=([],O)) (by simp[xE,abk,s,h,d]);cases g
 ·obtain⟨f,_,w,c,v⟩:=b.row (by omega) (x:=([],M)) (by simp[xE,ahD,s]);obtain rfl:=c.nils;exact⟨_,_,.tdo o r p2 (by omega) (by omega) e⟩
 ·obtain⟨_,g,_⟩:=b.row (by omega) (x:=([],O)) (by simp[xE,ahE,s]);cases g
theorem Jm{m:Nat}(f:∀m',m'<m->Ex tk n m'){i j:Nat}(r:i<n)(E:(gL (tk i).k).2=M)(a:D tk n m (gL (tk i).k).1 i j)(g:j<n)(K:(tk j).k=5\/(tk j).k=6\/(tk j).k=43):(∃N ks,P tk n .stat i (one N ks) j)/\(tk i).k≠5/\(tk i).k≠6/\(tk i).k≠43:=by
 have L:(tk i).k=22\/(tk i).k=13\/(tk i).k=18\/(tk i).k=20\/(tk i).k=31\/(tk i).k=19\/(tk i).k=11\/(tk i).k=23\/(tk i).k=27\/(tk i).k=30\/(tk i).k=28\/(tk i).k=14\/(tk i).k=42\/(tk i).k=1\/(tk i).k=40:=by
  refine Decidable.byContradiction fun a2=>?_;simp only[not_or]at a2;simp[gL,a2]at E
 refine⟨?_,by omega,by omega,by omega⟩;rcases L with e|e|e|e|e|e|e|e|e|e|e|e|e|e|e
 ·rw[show(gL (tk i).k).1=[22,1,104,103] by rw[e];rfl]at a;obtain⟨_,_,o,b,p⟩:=a.toks (by omega);obtain⟨z,bD,d,c,s⟩:=b.toks (by omega);obtain⟨w,G,k,l,t,av⟩:=c.cut;obtain⟨b3,B,_⟩:=D.names w l t.lt;by_cases y:(tk k).k=47
  ·obtain⟨v,_,H,u,a1⟩:=t.row (by omega) (x:=([47,124],M)) (by simp[xE,ae2,y]);obtain⟨_,_,a4,C,bp⟩:=u.toks (by omega);obtain⟨a5,J⟩:=(f a4 (by omega)).exprs C g;exact⟨_,_,.tlet e (by omega) z B y J⟩
  ·obtain⟨v,_,H,u,a1⟩:=t.row (by omega) (x:=([],M)) (by simp[xE,ae2,y]);obtain rfl:=u.nils;exact⟨_,_,.tlet0 e (by omega) z B y⟩
 ·rw[show(gL (tk i).k).1=[13,1,47,119] by rw[e];rfl]at a;obtain⟨_,_,o,b,p⟩:=a.toks (by omega);obtain⟨z,_,d,c,s⟩:=b.toks (by omega);obtain⟨a7,ad,w,l,av⟩:=c.toks (by omega);obtain⟨N,ks,h⟩:=(f w (by omega)).expr l g;exact⟨_,_,.tcon e z a7 ad h⟩
 ·rw[show(gL (tk i).k).1=[18,1,133] by rw[e];rfl]at a;obtain⟨_,_,o,b,p⟩:=a.toks (by omega);obtain⟨z,_,d,c,s⟩:=b.toks (by omega);obtain⟨ad,bn,_⟩:=c.row (by omega) (x:=([40,126,41,132],decide ((tk (i+2)).k=40))) (by simp[xE,afg]);obtain⟨N,ks,h⟩:=(f d (by omega)).body (tk (i+2)) c g;exact⟨_,_,.tfn e z (bc bn) ad h⟩
 ·rw[show(gL (tk i).k).1=[20,119,132,105] by rw[e];rfl]at a;obtain⟨_,_,o,b,p⟩:=a.toks (by omega);obtain⟨d,w,k,c,l,s⟩:=b.cut;obtain⟨N,ks,h⟩:=(f d (by omega)).expr c l.lt;obtain⟨G,H,bt,t,u,a0⟩:=l.cut;obtain⟨af,a3,q⟩:=(f G (by omega)).block t u.lt;obtain⟨bA,b0,bs⟩:=(f H (by omega)).els (.inl e) r h q u g;exact⟨_,_,.tif e r bs⟩
 ·rw[show(gL (tk i).k).1=[31,119,132] by rw[e];rfl]at a;obtain⟨_,_,o,b,p⟩:=a.toks (by omega);obtain⟨d,w,k,c,l,s⟩:=b.cut;obtain⟨N,ks,h⟩:=(f d (by omega)).expr c l.lt;obtain⟨af,a3,q⟩:=(f w (by omega)).block l g;exact⟨_,_,.twhile e r h q⟩
 ·rw[show(gL (tk i).k).1=[19,1,106] by rw[e];rfl]at a;exact aic f e a g
 ·rw[show(gL (tk i).k).1=[11] by rw[e];rfl]at a;obtain⟨_,_,o,b,p⟩:=a.toks (by omega);obtain rfl:=b.nils;exact⟨_,_,.tbreak e g⟩
 ·rw[show(gL (tk i).k).1=[23] by rw[e];rfl]at a;obtain⟨_,_,o,b,p⟩:=a.toks (by omega);obtain rfl:=b.nils;exact⟨_,_,.tnext e g⟩
 ·rw[show(gL (tk i).k).1=[27,108] by rw[e];rfl]at a;obtain⟨_,_,o,b,p⟩:=a.toks (by omega);cases q:dH (tk (i+1)).k with
  |true=>
   obtain⟨v,_,d,c,s⟩:=b.row (by omega) (x:=([124],M)) (by simp[xE,ae6,q]);obtain⟨a5,J⟩:=(f d (by omega)).exprs c g;exact⟨_,_,.tret e v q J⟩
  |false=>
   obtain⟨v,_,d,c,s⟩:=b.row (by omega) (x:=([],M)) (by simp[xE,ae6,q]);obtain rfl:=c.nils;exact⟨_,_,.tret0 e v K⟩
 ·rw[show(gL (tk i).k).1=[30,132,12,1,109,132] by rw[e];rfl]at a;obtain⟨_,_,o,b,p⟩:=a.toks (by omega);obtain⟨d,w,k,c,l,s⟩:=b.cut;obtain⟨N,ks,h⟩:=(f d (by omega)).block c l.lt;obtain⟨am,_,G,t,a0⟩:=l.toks (by omega);obtain⟨an,ar,H,u,a1⟩:=t.toks (by omega);obtain⟨a4,bw,bt,C,ao,bp⟩:=u.cut;obtain⟨a8,ap⟩:=ao.blk;obtain⟨af,a3,q⟩:=(f bw (by omega)).block ao g;by_cases F:(tk (k+2)).k=46
  ·obtain⟨v,_,bx,I,br⟩:=C.row (by omega) (x:=([46,1],M)) (by simp[xE,ae7,F]);obtain⟨_,_,b2,bl,bF⟩:=I.toks (by omega);obtain⟨a6,bo,b1,bf,bE⟩:=bl.toks (by omega);obtain rfl:=bf.nils;exact⟨_,_,.ttry e r h am ar an (.go F bo a6 (.stop (fun A=>by have e:(tk (k+2+2)).k=42:=a8;omega) ap)) q⟩
  ·obtain⟨v,_,bx,I,br⟩:=C.row (by omega) (x:=([],M)) (by simp[xE,ae7,F]);obtain rfl:=I.nils;exact⟨_,_,.ttry e r h am ar an (.stop F ap) q⟩
 ·rw[show(gL (tk i).k).1=[28,119] by rw[e];rfl]at a;obtain⟨_,_,o,b,p⟩:=a.toks (by omega);obtain⟨N,ks,h⟩:=(f o (by omega)).expr b g;exact⟨_,_,.tthrow e r h⟩
 ·rw[show(gL (tk i).k).1=[14,116] by rw[e];rfl]at a;obtain⟨_,_,o,b,p⟩:=a.toks (by omega);have L:∃d,d<m/\(D tk n d [1,117] (i+1) j\/D tk n d [40,119,41,117] (i+1) j):=by
   by_cases y:(tk (i+1)).k=1
   ·obtain⟨_,_,d,c,s⟩:=b.row (by omega) (x:=([1,117],M)) (by simp[xE,abn,y]);exact⟨d,by omega,.inl c⟩
   ·by_cases E:(tk (i+1)).k=40
    ·obtain⟨_,_,d,c,s⟩:=b.row (by omega) (x:=([40,119,41,117],M)) (by simp[xE,abn,E]);exact⟨d,by omega,.inr c⟩
    ·obtain⟨_,A,_⟩:=b.row (by omega) (x:=([],O)) (by simp[xE,abn,y,E]);cases A
  obtain⟨d,s,c⟩:=L;obtain⟨N,ks,k,w,S,p2,ak,av,a9,bb,bd⟩:=E7 (m:=d) (S:=117) (fun m' A=>f m' (by omega)) (by omega) g c;have B:(tk k).k≠48/\(tk k).k≠44/\(tk k).k≠40:=by have:=ig a9;omega
  have hS:S=117\/S=118:=by rcases bb with rfl|rfl|rfl|rfl|rfl|rfl|rfl|rfl<;>first|omega|(revert bd;decide)
  rcases hS with rfl|rfl
  ·obtain⟨_,A,_⟩:=ak.row (by omega) (x:=([],O)) (by simp[xE,ahG,B]);cases A
  ·obtain⟨v,_,G,t,a0⟩:=ak.row (by omega) (x:=([],M)) (by simp[xE,ahH,B]);obtain rfl:=t.nils;exact⟨_,_,.tdefer e r p2⟩
 ·rw[show(gL (tk i).k).1=[132] by rw[e];rfl]at a;obtain⟨_,_,o,b,p⟩:=a.row (by omega) (x:=([42,100,43],decide ((tk i).k=42))) (by simp[xE,abr]);obtain⟨N,ks,h⟩:=E8 f a g;exact⟨N,ks,.tblock e r h⟩
 ·rw[show(gL (tk i).k).1=[1,110] by rw[e];rfl]at a;exact Jl f (.inl rfl) (.inl e) r (.inl a) g K
 ·rw[show(gL (tk i).k).1=[40,119,41,112] by rw[e];rfl]at a;exact Jl f (.inr rfl) (.inr e) r (.inr a) g K
theorem ab6{m:Nat}(f:∀m',m'<m->Ex tk n m'){i j:Nat}(q:D tk n m [100] i j)(h:j<n)(g:(tk j).k=43\/(tk j).k=6):∃R,P tk n .stats i R j:=by
 by_cases d:(tk i).k=5
 ·obtain⟨a,_,y,b,w⟩:=q.row (by omega) (x:=([5,100],M)) (by simp[xE,Kz,d]);obtain⟨_,_,z,c,E⟩:=b.toks (by omega);obtain⟨R,p⟩:=(f z (by omega)).stats c h g;exact⟨R,.ssep d a p⟩
 cases hb:(gL (tk i).k).2 with
 |false=>
  obtain⟨a,_,y,b,w⟩:=q.row (by omega) (x:=([],M)) (by simp[xE,Kz,d,hb]);obtain rfl:=b.nils;exact⟨_,.sstop g h⟩
 |true=>
  obtain⟨a,_,y,b,w⟩:=q.row (by omega) (x:=((gL (tk i).k).1++[101],M)) (by simp[xE,Kz,d,hb]);obtain⟨z,K,k,c,v,E⟩:=b.split _ _ rfl;by_cases e:(tk k).k=5
  ·obtain⟨l,_,H,o,F⟩:=v.row (by omega) (x:=([5,100],M)) (by simp[xE,ae1,e]);obtain⟨_,_,I,C,J⟩:=o.toks (by omega);obtain⟨R,p⟩:=(f I (by omega)).stats C h g;obtain⟨⟨A,G,r⟩,s,t,u⟩:=Jm (fun m' B=>f m' (by omega)) a hb c l (.inl e);exact⟨_,.sgo s t u a r (.ssep e l p)⟩
  ·obtain⟨l,_,H,o,F⟩:=v.row (by omega) (x:=([],M)) (by simp[xE,ae1,e]);obtain rfl:=o.nils;obtain⟨⟨A,G,r⟩,s,t,u⟩:=Jm (fun m' B=>f m' (by omega)) a hb c l (by omega);exact⟨_,.sgo s t u a r (.sstop g h)⟩
theorem afE(b:∀i,(tk i).k<100)(m:Nat):Ex tk n m:=by
 induction m using Nat.strongRecOn with
 |_ m a=>exact⟨afC b a,afz b a,ab4 a,ab3 a,E8 a,ab6 a,fun c=>afB a c,Hf a,ab5 a,aib a⟩
end
