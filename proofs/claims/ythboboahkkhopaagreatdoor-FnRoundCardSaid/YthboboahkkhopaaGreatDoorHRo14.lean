import Derived.Test.YthboboahkkhopaaGreatDoorHRo12
import Derived.Laws.AppendOwnNone
set_option linter.all false
set_option maxRecDepth 100000
set_option maxHeartbeats 25600000
open Bool renaming false->M,true->Y
open Go.IntKind renaming i64->O
open Go.Value renaming slice->T,int->V,int->X,string->A2,agg->A5,bool->A9,string->Br
open Go.Proofs.Tryz renaming prog->U
open List renaming replicate->Z
open Option renaming some->Ax,none->A0
namespace Go.Proofs.YthboboahkkhopaaGreatDoor
open Go.RowKit
variable{N:Nd}{j n:Nat}{ns:List Nd}{tk:Nat->Tk}{vk vn vt:Value}{w:World}
def qF(S:List Int):List Int->Int->Option Int
 |[],a=>Ax a
 |k::r,a=>if k=a-1/\S.getD k.toNat 0≠0 then qF S r (a-S.getD k.toNat 0) else A0
def oy(S:List Int)(i:Nat)(ks:List Int):Int:=match qF S ks.reverse i with|some a=>(i:Int)-a+1|none=>0
def jj(ns:List Nd):List Int:=ns.foldl (λa N=>a++[oy a a.length N.ks]) []
def ux(ns:List Nd)(N:Nd):jj (ns++[N])=jj ns++[oy (jj ns) (jj ns).length N.ks]:=by simp[jj]
def zr{α:Type}{p:List α->Prop}(h0:p [])(h1:∀a x,p a->p (a++[x]))(l:List α):p l:=by
 rw[<-List.reverse_reverse l]
 induction l.reverse with
 |nil=>exact h0
 |cons x r ih=>rw[List.reverse_cons];exact h1 _ x ih
def my:∀(ns:List Nd),(jj ns).length=ns.length:=by
 intro ns;refine zr (p:=λns=>(jj ns).length=ns.length) rfl (λc b a=>?_) ns;rw[ux];simp[a]
structure an9 (S:List Int) (l:List Int) (a:Int) (R:Option Int):Prop where
 out:qF S l a=R
def F6(S:List Int):Prop:=∀(j:Nat) z,S[j]?=Ax z->0<=z/\z<=(j:Int)+1
def abH{S:List Int}(hS:F6 S):∀(l:List Int)(a b:Int),(∀k∈l,0<=k)->0<=a->qF S l a=Ax b->0<=b/\b<=a
 |[],a,b,_,f,h=>by simp[qF]at h;omega
 |k::r,a,b,d,f,h=>by
  rw[qF]at h;split at h
  .rename_i g;have i:=d k (by simp);have e:0<=S.getD k.toNat 0/\S.getD k.toNat 0<=k+1:=by
    rw[aD];cases hs:S[k.toNat]? with
    |none=>simp;omega
    |some c=>have:=hS _ c hs;simp;omega
   have:=abH hS r _ b (λc e=>d c (by simp[e])) (by omega) h;omega
  .cases h
def akD{S:List Int}(hS:F6 S)(i:Nat)(ks:List Int)(b:∀k∈ks,0<=k):0<=oy S i ks/\oy S i ks<=(i:Int)+1:=by
 unfold oy;cases h:qF S ks.reverse i with
 |none=>simp;omega
 |some a=>
  have:=abH hS ks.reverse i a (λk c=>b k (by simpa using c)) (by omega) h;simp;omega
def AJ(ns:List Nd):(∀N∈ns,∀k∈N.ks,0<=k)->F6 (jj ns):=by
 refine zr (p:=λns=>(∀N∈ns,∀k∈N.ks,0<=k)->F6 (jj ns)) (λ_ b h a=>by simp[jj]at a) (λc N n e=>?_) ns;have f:=n (λi l=>e i (by simp[l]));intro b h a;rw[ux]at a;rcases bI b (jj c).length with g|g
 .rw[gq g]at a;exact f b h a
 .rw[dE g]at a;obtain⟨j,d⟩:=List.getElem?_eq_some_iff.1 a;simp at j d;subst d;obtain rfl:b=(jj c).length:=by omega
  exact akD f _ _ (λk m=>e N (by simp) k m)
def G1(A:List Int)(n k:Nat)(z:Int)(a:A.length=k)(c:k<n):(A.map (V O)++Z (n-k) (V O 0)).set k (X O z)=(A++[z]).map (V O)++Z (n-(k+1)) (V O 0):=by
 have b:(A.map (V O)).length=k:=by rw[bC,a]
 rw[acA _ _ (by omega),b,fH,show n-k=(n-(k+1))+1 by omega,List.replicate_succ,fl];simp
def aai(w:World)(v:Value)(ns:List Nd)(h:dy w v ns)(b0:ns.length<=3000)(L:∀N∈ns,N.ks.length<=1048576)(s:∀(i:Nat) N,ns[i]?=Ax N->∀k∈N.ks,0<=k/\k<(i:Int)):
  Calls U 22 #[A5 #[v]] w λe w'=>∃g,e= .returned (T (Ax ⟨g,0,A0⟩) ns.length ns.length)/\w'.ownsRow w.heap.size 3 1 (T (Ax ⟨g,0,A0⟩) ns.length ns.length) ns.length ((jj ns).map (V O))/\be w w':=by
 obtain⟨y,z,rfl⟩:=h.form;have⟨a,ar⟩:=aJ ns.length;have F:=am ar;have bn:Hid (dy w (T y a z) ns):=by rw[<-ar];exact h
 have I:Hid ((∀N∈ns,N.ks.length<=1048576)/\(∀(i:Nat) N,ns[i]?=Ax N->∀k∈N.ks,0<=k/\k<(i:Int))/\∀k,F6 (jj (ns.take k))):=⟨L,s,λk=>AJ _ (λN L a1 m=>by
  have⟨i,ap,e⟩:=iw (CJ L);exact(s i N (by rw[az ap,e]) a1 m).1)⟩
 rw[ar]at b0⊢;have⟨b7,ap,b3,b5,b6⟩:=eu wI;go_in;go_wp2_with (at_make;refine CG _ rfl _ _ 59 rfl w.heap.size 3 b7 (X O 0) 1 Tryz.underlying59 ap b3 b5 O O _ _ a rfl rfl rfl rfl (by rw[b6];omega) (by unfold maxLen;omega) (by simp) ?_;intro bl bh r;have ba:Below (w.alloc (.cells #[T y a z] 25)).heap.size (w.alloc (.cells #[T y a z] 25)) bl:=⟨r.os,r.tape,r.output,r.size,λk s=>r.block k s (by simp)⟩;have dd:bl.cell? ⟨w.heap.size,0,A0⟩=Ax (T y a z):=by {rw[aj _ _ _ _ _ _ ((ba.block _ (by simp)).trans (aB w _))];rfl});have br:=((ah _ w).alloc (af _) _).trans (ba.mono (by simp));rw[dm,show(madeCells (V O 0).cells (a*1)).toList=Z a (V O 0) by rw[uf];exact Cy _ a]at bh;go_loopw [17] (λax wr=>∃k:Nat,k<=a/\ax= X O k/\Hid (wr.ownsRow w.heap.size 3 1 (T (Ax ⟨w.heap.size+1,0,A0⟩) a a) a ((jj (ns.take k)).map (V O)++Z (a-k) (X O 0)))/\be w wr) (λax _=>a-(intOf ax).toNat)
 case atStart=>exact⟨0,aH _,rfl,bh,br⟩
 case round=>
  obtain⟨k,s,rfl,G,B⟩:=hrel;by_cases bd:k<a
  .obtain⟨N,E⟩:=cA F.out bd;have bE:=I.1 N (cG E);have bF:=I.2.1 k N E;have bf:=I.2.2 k;obtain⟨cb,rfl,dc,da,bw⟩:=(bn.below B).get E;obtain⟨ce,cf,cl,cm,cn,c5,cp,bs,bt,b1,bc⟩:=bw;obtain⟨cc,cq,rfl⟩:=b1.form;obtain⟨a5,a6,rfl⟩:=bc.form;have⟨b,ad⟩:=aJ (jj (ns.take k));have a9:b.length=k:=by rw[<-ad,my,eE,F.out];omega
   have b2:jj (ns.take (k+1))=b++[oy b k N.ks]:=by
    rw[jc,E];show jj (ns.take k++[N])=_;rw[ux,ad,a9]
   rw[ad]at G bf;have⟨o,A⟩:=aJ N.ks.length;rw[A]at bt bE;have bD:dh wr (T a5 o a6) N.ks:=by rw[<-A];exact bc
   have j:=ajF A bD bF bf a9 b2;have a3:an9 b (N.ks.take o).reverse k (qF b N.ks.reverse k):=⟨by rw[<-A,yB]⟩;have⟨a4,a8⟩:=aJ (qF b N.ks.reverse k);rw[a8]at a3;have a2:=am a8;generalize N.nm.length=ca at bs;go_wp2_with fail;generalize bx:wr.alloc _=x;obtain⟨a7,al, -⟩:=al1 bx;replace a7:x.cell? ⟨wr.heap.size,8,A0⟩=Ax (T a5 o a6):=(aj _ _ _ _ _ _ a7).trans rfl;have au:=de G.out al;have bo:=j.2.1.below al;have H:=am au;have an:=B.trans (al.mono B.size);have cy:=au.frozenAt k;have cu:x.cell? ⟨w.heap.size+1,k,A0⟩=Ax (X O 0):=by
    rw[au.cellAt k (by omega),dE (by rw[bC,j.out.2.2.2.2.1];exact af _),bC,j.out.2.2.2.2.1,fH,CC,ae (by omega)]
   go_loop [6,7,8] (λb8 b9 a0=>∃(c:Nat) (d:Int),b8= X O d/\b9= A9 Y/\a0= X O ((c:Int)-1)/\c<=o/\0<=d/\d<=(k:Int)/\an9 b (N.ks.take c).reverse d a4) (λ_ _ a0=>(intOf a0+1).toNat)
   case atStart=>exact⟨o,k,rfl,rfl,rfl,af _,by omega,by omega,a3⟩
   case round=>
    obtain⟨c,d,rfl,rfl,rfl,cz,cr,cs,J⟩:=hrel;have f:=J.out;cases c with
    |zero=>
     have m:oy b k N.ks=(k:Int)-d+1:=by
      unfold oy;rw[a2.out];rw[Hq,List.reverse_nil,qF]at f;rw[<-f]
     have K:=am m;have bk:=(H.stored k (X O ((k:Int)-d+1))).1;rw[G1 b a k _ j.out.2.2.2.2.1 bd]at bk;have u:=am bk;go_wp2_with fail;refine⟨⟨k+1,by omega,by go_num,?_,an.setCell (by simp) _⟩,by simp[intOf];omega⟩;show World.ownsRow _ _ _ _ _ _ _;rw[j.out.2.2.2.2.2,K.out];exact u
    |succ c=>
     have⟨a1,m⟩:=cA j.1 (show c<o by omega);have⟨cd,bA,cx⟩:=bo.get m;subst bA;have⟨b4,c9⟩:=j.2.2.1 a1 (cG m);rw[jc,m]at f;simp only[Ia,List.reverse_append,List.reverse_cons,List.reverse_nil,dI,ue]at f;rw[qF]at f;obtain⟨l,rfl⟩:=lr b4;have bj:l<k:=by omega
     obtain⟨n,t⟩:=cA j.2.2.2.2.1 bj;have ct:=j.2.2.2.1 l n t;have cw:x.cell? ⟨w.heap.size+1,l,A0⟩=Ax (X O n):=by
      rw[H.out.cellAt l (by omega),gq (by rw[bC,j.out.2.2.2.2.1];exact bj),ci,t];rfl
     have ao:b.getD l 0=n:=by rw[aD,t];rfl
     simp only[ix,ao]at f;have bv:(((c+1:Nat)):Int)-1=(c:Int):=by omega
     rw[bv];have cB:(0:Int)<=(c:Int):=by omega
     have cF:(c:Int)<(o:Int):=by omega
     have cI:(l:Int)<(a:Int):=by omega
     by_cases p:(l:Int)=d-1/\n≠0
     .rw[ae p]at f;have bp:an9 b (N.ks.take c).reverse (d-n) a4:=⟨f⟩;have bb:=p.2;have C:=p.1;clear f J m t ao p;obtain rfl:d=(l:Int)+1:=by omega
      clear C;go_wp2;go_round
      case rel=>exact⟨c,(l:Int)+1-n,by go_num,rfl,by go_num,by omega,by omega,by omega,bp⟩
      case measure=>simp[intOf]
     .rw[aa p]at f;have K:Hid (oy b k N.ks=0):=by
       show oy b k N.ks=0;unfold oy;rw[a2.out,<-f]
      have u:Hid (x.ownsRow w.heap.size 3 1 (T (Ax ⟨w.heap.size+1,0,A0⟩) a a) a ((jj (ns.take (k+1))).map (V O)++Z (a-(k+1)) (X O 0))):=by
       have q:=H.out;show World.ownsRow _ _ _ _ _ _ _;rw[j.out.2.2.2.2.2,K.out,eK];rw[show a-k=(a-(k+1))+1 by omega,List.replicate_succ]at q;rw[dj];exact q
      by_cases C:(l:Int)=d-1
      .have bb:n=0:=by
        rcases Int.lt_trichotomy n 0 with g|g|g
        .omega
        .exact g
        .exact absurd ⟨C,by omega⟩ p
       subst bb;obtain rfl:d=(l:Int)+1:=by omega
       clear C;go_wp2;exact⟨⟨k+1,by omega,by go_num,u,an⟩,by simp[intOf];omega⟩
      .clear f J m t ao p;go_wp2;exact⟨⟨k+1,by omega,by go_num,u,an⟩,by simp[intOf];omega⟩
  .obtain rfl:k=a:=by omega
   go_wp2;go_ret;refine⟨_,rfl,?_,B⟩;have q:=G.out;rw[cj (by rw[F.out];exact af _),fH,List.replicate_zero,dC]at q;exact q
open Go.Maps Go.WideMaps
def C7:List Int:=[20,21,22,27,23,24,25,26,28,29,32,30,31,33,34,35,36,37,40,41,42]
def akE(A:NArg w vt ns N vn vk)(a:∀c∈C7,N.k≠c):
  Calls U 85 #[A5 #[vt],jG N vn vk] w (gy w (A9 M)):=by
 obtain⟨d,g,rfl⟩:=A.t.form;obtain⟨e,h,rfl⟩:=A.n.form;obtain⟨f,i,rfl⟩:=A.k.form;have b:=St.start A;clear A;have j:∀c:Int,20<=c->c<=37->(N.k==c)=M:=λc _ _=>beq_eq_false_iff_ne.2 (a c (by simp[C7];omega));have l:∀c:Int,40<=c->c<=42->(N.k==c)=M:=λc _ _=>beq_eq_false_iff_ne.2 (a c (by simp[C7];omega));clear a;unfold jG;go_in;go_wp2;go_ret;exact⟨rfl,b.bel⟩
def Eh(ns:List Nd)(N:Nd):Nat->Nat->Bool
 |0,_=>Y
 |f+1,j=>decide (40<=dK ns N j/\dK ns N j<=42)&&Eh ns N f (j+1)
structure aoa (ns:List Nd) (N:Nd) (f j:Nat) (R:Bool):Prop where
 out:Eh ns N f j=R
def ahq(A:NArg w vt ns N vn vk)(B:N.k=35):
  Calls U 85 #[A5 #[vt],jG N vn vk] w (gy w (A9 (Eh ns N N.ks.length 0&&aL N M M M M))):=by
 obtain⟨F,I,rfl⟩:=A.t.form;obtain⟨G,J,rfl⟩:=A.n.form;obtain⟨H,K,rfl⟩:=A.k.form;have b:=St.start A;have a4:=A.l2;clear A;have a5:=kqf B;have a6:=kqs B;clear B;have⟨z,C⟩:=aJ (Eh ns N N.ks.length 0);rw[C];have an:aoa ns N N.ks.length 0 z:=⟨C⟩;clear C;unfold jG;go_in;go_wp2_with fail;generalize (w.alloc (.cells #[T F ns.length I] 25)).alloc (.cells #[X O N.k,X O N.f,X O N.t,X O N.l,X O N.op,X O N.n,Br N.x,T G N.nm.length J,T H N.ks.length K] 61)=au at b⊢;go_loopw [6,7,200] (λ_ _ E wr=>∃(c:Nat),E= X O c/\c<=N.ks.length/\aoa ns N (N.ks.length-c) c z/\St w (T F ns.length I) ns N (T G N.nm.length J) (T H N.ks.length K) wr) (λ_ _ E _=>N.ks.length-(intOf E).toNat)
 case atStart=>exact⟨0,rfl,by omega,an,b⟩
 case round=>
  clear b;obtain⟨c,rfl,a0,al,b⟩:=hrel;have⟨i,j,m,o,p,q,r,s,u,v⟩:=bu b.bn;have y:=b.bt;have d:=al.out;by_cases ap:c<N.ks.length
  .rw[show N.ks.length-c=(N.ks.length-(c+1))+1 by omega,Eh]at d;have ao:(c:Int)<(N.ks.length:Int):=by omega
   have h:=ry b.a c ap;unfold jG at h;generalize dK ns N c=ad at d h;by_cases av:ad<40
   .rw[aE (by omega),fw]at d;have g:=am d;clear d;go_wp2_with (go_at_call 138;refine h.mono ?_;rintro L ak ⟨rfl,e⟩;replace b:=b.below e;clear e;obtain⟨i,j,m,o,p,q,r,s,u,v⟩:=bu b.bn;have y:=b.bt);go_ret;exact⟨by rw[<-g.out];rfl,b.bel⟩
   by_cases ax:42<ad
   .rw[aE (by omega),fw]at d;have g:=am d;clear d;go_wp2_with (go_at_call 138;refine h.mono ?_;rintro L ak ⟨rfl,e⟩;replace b:=b.below e;clear e;obtain⟨i,j,m,o,p,q,r,s,u,v⟩:=bu b.bn;have y:=b.bt);go_ret;exact⟨by rw[<-g.out];rfl,b.bel⟩
   rw[aI (by omega),gE]at d;have g:aoa ns N (N.ks.length-(c+1)) (c+1) z:=⟨d⟩;clear d;go_wp2_with (go_at_call 138;refine h.mono ?_;rintro L ak ⟨rfl,e⟩;replace b:=b.below e;clear e;obtain⟨i,j,m,o,p,q,r,s,u,v⟩:=bu b.bn;have y:=b.bt);exact⟨⟨c+1,by go_num,by omega,g,b⟩,by simp[intOf];omega⟩
  .rw[show N.ks.length-c=0 by omega,Eh]at d;have g:=am d;have ao:¬(c:Int)<(N.ks.length:Int):=by omega
   clear d;go_wp2_with (go_at_call 139;refine b.bare λar b=>?_;obtain⟨i,j,m,o,p,q,r,s,u,v⟩:=bu b.bn;have y:=b.bt);go_ret;exact⟨by rw[<-g.out];rfl,b.bel⟩
def gh(ns:List Nd)(N:Nd):Bool:=
 if N.k=20 then(((N.ks.length:Int)==0)&&aL N M M M M)
 else if N.k=21 then(((N.ks.length:Int)==0)&&aL N M M M M)
 else if N.k=22 then(((N.ks.length:Int)==0)&&aL N M M M M)
 else if N.k=27 then(((N.ks.length:Int)==0)&&aL N M M M M)
 else if N.k=23 then(((N.ks.length:Int)==0)&&aL N M Y M M)
 else if N.k=24 then(((N.ks.length:Int)==0)&&aL N M M Y M&&fok N.x)
 else if N.k=25 then(((N.ks.length:Int)==0)&&aL N M M Y M&&decide ((N.x.size:Int)<=4000))
 else if N.k=26 then(((N.ks.length:Int)==0)&&aL N M M Y M&&jf N.x)
 else if N.k=28 then(((N.ks.length:Int)==2)&&jF ns N 2 0&&aL N M M M M)
 else if N.k=29 then(((N.ks.length:Int)==2)&&jF ns N 2 0&&aL N M M M M)
 else if N.k=32 then(((N.ks.length:Int)==2)&&jF ns N 2 0&&(dK ns N 0 !=27)&&aL N M M M M)
 else if N.k=30 then(((N.ks.length:Int)==1)&&jF ns N 1 0&&aL N Y M M M&&decide ((19:Int)<=N.op)&&decide (N.op<=22))
 else if N.k=31 then(((N.ks.length:Int)==2)&&jF ns N 2 0&&aL N Y M M M&&decide ((1:Int)<=N.op)&&decide (N.op<=18))
 else if N.k=33 then(((N.ks.length:Int)==1)&&jF ns N 1 0&&(dK ns N 0 !=27)&&aL N M M Y M&&jf N.x)
 else if N.k=34 then(decide ((1:Int)<=(N.ks.length:Int))&&jF ns N N.ks.length 0&&(dK ns N 0 !=27)&&aL N M M M M)
 else if N.k=35 then(Eh ns N N.ks.length 0&&aL N M M M M)
 else if N.k=36 then(((N.ks.length:Int)==1)&&(dK ns N 0==1)&&aL N Y M M Y&&fj N 0 200&&(N.op==0||N.op==1))
 else if N.k=37 then(((N.ks.length:Int)==1)&&(dK ns N 0==34||dK ns N 0==27)&&aL N M M M M)
 else if N.k=40 then(((N.ks.length:Int)==1)&&jF ns N 1 0&&aL N M M M M)
 else if N.k=41 then(((N.ks.length:Int)==2)&&jF ns N 2 0&&aL N M M M M)
 else if N.k=42 then(((N.ks.length:Int)==1)&&jF ns N 1 0&&aL N M M Y M&&jf N.x)
 else M
def aob(A:NArg w vt ns N vn vk)(hK:N.k=20\/N.k=21\/N.k=22\/N.k=27\/N.k=23\/N.k=24\/N.k=25\/N.k=26\/N.k=28\/N.k=29\/N.k=41\/N.k=32\/N.k=30\/N.k=31\/N.k=33\/N.k=34\/N.k=40\/N.k=42\/N.k=36\/N.k=37):
  Calls U 85 #[A5 #[vt],jG N vn vk] w (gy w (A9 (gh ns N))):=by
 obtain⟨z,E,rfl⟩:=A.t.form;obtain⟨B,F,rfl⟩:=A.n.form;obtain⟨C,G,rfl⟩:=A.k.form;have a:=St.start A;have y:Hid (N.x.size<=1100000):=di A.lx (by decide);clear A;rcases hK with hK|hK|hK|hK|hK|hK|hK|hK|hK|hK|hK|hK|hK|hK|hK|hK|hK|hK|hK|hK;all_goals
  unfold gh;simp only[hK,reduceIte,Int.reduceEq];have I:=kqf hK;have H:=kqs hK;first
  |(have b:N.k=20\/N.k=21\/N.k=22\/N.k=27:=by first|exact .inl hK|exact .inr (.inl hK)|exact .inr (.inr (.inl hK))|exact .inr (.inr (.inr (hK)))
    clear b hK;cases t0:((N.ks.length:Int)==0)
    case' true=>
     cases t1:aL N M M M M)
  |(have b:N.k=23:=hK
    clear b hK;cases t0:((N.ks.length:Int)==0)
    case' true=>
     cases t1:aL N M Y M M)
  |(have b:N.k=24:=hK
    clear b hK;cases t0:((N.ks.length:Int)==0)
    case' true=>
     cases t1:aL N M M Y M
     case' true=>
      cases t2:fok N.x)
  |(have b:N.k=25:=hK
    clear b hK;cases t0:((N.ks.length:Int)==0)
    case' true=>
     cases t1:aL N M M Y M
     case' true=>
      cases t2:decide ((N.x.size:Int)<=4000))
  |(have b:N.k=26:=hK
    clear b hK;cases t0:((N.ks.length:Int)==0)
    case' true=>
     cases t1:aL N M M Y M
     case' true=>
      cases t2:jf N.x)
  |(have b:N.k=28\/N.k=29\/N.k=41:=by first|exact .inl hK|exact .inr (.inl hK)|exact .inr (.inr (hK))
    clear b hK;cases t0:((N.ks.length:Int)==2)
    case' true=>
     have c:N.ks.length=2:=by have:=jq t0;omega
     have d:Hid (2<=N.ks.length):=by show _<=_;omega
     have e:Hid (0<N.ks.length):=by show _<_;omega
     have u:Hid (1<N.ks.length):=by show _<_;omega
     clear c;cases t1:jF ns N 2 0
     case' true=>
      cases t2:aL N M M M M)
  |(have b:N.k=32:=hK
    clear b hK;cases t0:((N.ks.length:Int)==2)
    case' true=>
     have c:N.ks.length=2:=by have:=jq t0;omega
     have d:Hid (2<=N.ks.length):=by show _<=_;omega
     have e:Hid (0<N.ks.length):=by show _<_;omega
     have u:Hid (1<N.ks.length):=by show _<_;omega
     clear c;cases t1:jF ns N 2 0
     case' true=>
      cases t2:(dK ns N 0 !=27)
      case' true=>
       cases t3:aL N M M M M)
  |(have b:N.k=30:=hK
    clear b hK;cases t0:((N.ks.length:Int)==1)
    case' true=>
     have c:N.ks.length=1:=by have:=jq t0;omega
     have d:Hid (1<=N.ks.length):=by show _<=_;omega
     have e:Hid (0<N.ks.length):=by show _<_;omega
     clear c;cases t1:jF ns N 1 0
     case' true=>
      cases t2:aL N Y M M M
      case' true=>
       cases t3:decide ((19:Int)<=N.op)
       case' true=>
        cases t4:decide (N.op<=22))
  |(have b:N.k=31:=hK
    clear b hK;cases t0:((N.ks.length:Int)==2)
    case' true=>
     have c:N.ks.length=2:=by have:=jq t0;omega
     have d:Hid (2<=N.ks.length):=by show _<=_;omega
     have e:Hid (0<N.ks.length):=by show _<_;omega
     have u:Hid (1<N.ks.length):=by show _<_;omega
     clear c;cases t1:jF ns N 2 0
     case' true=>
      cases t2:aL N Y M M M
      case' true=>
       cases t3:decide ((1:Int)<=N.op)
       case' true=>
        cases t4:decide (N.op<=18))
  |(have b:N.k=33:=hK
    clear b hK;cases t0:((N.ks.length:Int)==1)
    case' true=>
     have c:N.ks.length=1:=by have:=jq t0;omega
     have d:Hid (1<=N.ks.length):=by show _<=_;omega
     have e:Hid (0<N.ks.length):=by show _<_;omega
     clear c;cases t1:jF ns N 1 0
     case' true=>
      cases t2:(dK ns N 0 !=27)
      case' true=>
       cases t3:aL N M M Y M
       case' true=>
        cases t4:jf N.x)
  |(have b:N.k=34:=hK
    clear b hK;cases t0:decide ((1:Int)<=(N.ks.length:Int))
    case' true=>
     have e:Hid (0<N.ks.length):=by show _<_;have:=aG t0;omega
     cases t1:jF ns N N.ks.length 0
     case' true=>
      cases t2:(dK ns N 0 !=27)
      case' true=>
       cases t3:aL N M M M M)
  |(have b:N.k=40:=hK
    clear b hK;cases t0:((N.ks.length:Int)==1)
    case' true=>
     have c:N.ks.length=1:=by have:=jq t0;omega
     have d:Hid (1<=N.ks.length):=by show _<=_;omega
     have e:Hid (0<N.ks.length):=by show _<_;omega
     clear c;cases t1:jF ns N 1 0
     case' true=>
      cases t2:aL N M M M M)
  |(have b:N.k=42:=hK
    clear b hK;cases t0:((N.ks.length:Int)==1)
    case' true=>
     have c:N.ks.length=1:=by have:=jq t0;omega
     have d:Hid (1<=N.ks.length):=by show _<=_;omega
     have e:Hid (0<N.ks.length):=by show _<_;omega
     clear c;cases t1:jF ns N 1 0
     case' true=>
      cases t2:aL N M M Y M
      case' true=>
       cases t3:jf N.x)
  |(have b:N.k=36:=hK
    clear b hK;cases t0:((N.ks.length:Int)==1)
    case' true=>
     have c:N.ks.length=1:=by have:=jq t0;omega
     have d:Hid (1<=N.ks.length):=by show _<=_;omega
     have e:Hid (0<N.ks.length):=by show _<_;omega
     clear c;cases t1:(dK ns N 0==1)
     case' true=>
      cases t2:aL N Y M M Y
      case' true=>
       cases t3:fj N 0 200
       case' true=>
        cases u4:(N.op==0)
        case' false=>cases v4:(N.op==1))
  |(have b:N.k=37:=hK
    clear b hK;cases t0:((N.ks.length:Int)==1)
    case' true=>
     have c:N.ks.length=1:=by have:=jq t0;omega
     have d:Hid (1<=N.ks.length):=by show _<=_;omega
     have e:Hid (0<N.ks.length):=by show _<_;omega
     clear c;cases u1:(dK ns N 0==34)
     case' false=>cases v1:(dK ns N 0==27)
     all_goals
      cases t2:aL N M M M M)
 all_goals
  unfold jG;go_in;go_wp2_with (first|(go_at_call 139;with_reducible refine a.bare λf a=>?_;obtain⟨g,h,i,j,l,m,o,p,q,r⟩:=bu a.bn;have s:=a.bt)|(go_at_call 140;with_reducible refine a.named λf a=>?_;obtain⟨g,h,i,j,l,m,o,p,q,r⟩:=bu a.bn;have s:=a.bt)|(go_at_call 141;(first|with_reducible refine a.ex1 d.out λf a=>?_|with_reducible refine a.ex2 d.out λf a=>?_|with_reducible refine a.exL λf a=>?_);obtain⟨g,h,i,j,l,m,o,p,q,r⟩:=bu a.bn;have s:=a.bt)|(go_at_call 138;(first|with_reducible refine a.kid0 e.out λf a=>?_|with_reducible refine a.kid1 u.out λf a=>?_);obtain⟨g,h,i,j,l,m,o,p,q,r⟩:=bu a.bn;have s:=a.bt)|(go_at_call 144;refine gL (yH _ y.out _) λf v=>?_;replace a:=a.below v;obtain⟨g,h,i,j,l,m,o,p,q,r⟩:=bu a.bn;have s:=a.bt)|(go_at_call 143;refine gL (aac _ y.out _) λf v=>?_;replace a:=a.below v;obtain⟨g,h,i,j,l,m,o,p,q,r⟩:=bu a.bn;have s:=a.bt));go_ret;exact⟨rfl,a.bel⟩
def ahr(A:NArg w vt ns N vn vk)(a:2<N.ks.length):
  Calls U 138 #[A5 #[vt],A5 #[X O N.k,X O N.f,X O N.t,X O N.l,X O N.op,X O N.n,Br N.x,vn,vk],X O 2] w (gy w (X O (dK ns N 2))):=ry A 2 a
def akF(A:NArg w vt ns N vn vk)(d:N.k=7):
  Calls U 84 #[A5 #[vt],jG N vn vk] w (gy w (A9 (aL N M M M M&&(decide (2<=N.ks.length/\N.ks.length<=3)&&(jF ns N 1 0&&(!(dK ns N 1 !=1)&&((N.ks.length:Int)==2||(dK ns N 2==1||dK ns N 2==7)))))))):=by
 obtain⟨z,E,rfl⟩:=A.t.form;obtain⟨B,F,rfl⟩:=A.n.form;obtain⟨C,G,rfl⟩:=A.k.form;have b:=St.start A;have J:=A.l2;clear A;have K:=kqf d;have L:=kqt d 7 rfl;clear d;unfold jG;cases t0:aL N M M M M
 case' true=>
  by_cases H:(N.ks.length:Int)<2
  case' pos=>rw[aE (by omega)]
  case' neg=>
   by_cases I:(3:Int)<(N.ks.length:Int)
   case' pos=>rw[aE (by omega)]
   case' neg=>
    rw[aI (by omega)];have u:Hid (1<=N.ks.length):=by show _<=_;omega
    have v:Hid (1<N.ks.length):=by show _<_;omega
    cases t1:jF ns N 1 0
    case' true=>
     cases t2:(dK ns N 1 !=1)
     case' false=>
      cases t3:((N.ks.length:Int)==2)
      case' false=>
       have x:Hid (2<N.ks.length):=by show _<_;have:=ne_of_beq_false t3;omega
       cases t4:(dK ns N 2==1)
       case' false=>cases t5:(dK ns N 2==7)
 all_goals
  go_in;go_wp2_with (first|(go_at_call 139;refine b.bare λy b=>?_;obtain⟨e,f,g,h,i,j,l,m,o,p⟩:=bu b.bn;have q:=b.bt)|(go_at_call 141;refine(nD _ _ ns N _ _ 0 1 b.a.t b.a.n b.a.k b.a.ok u.out b.a.ln b.a.l2).mono ?_;rintro r s ⟨rfl,c⟩;replace b:=b.below c;clear c;obtain⟨e,f,g,h,i,j,l,m,o,p⟩:=bu b.bn;have q:=b.bt)|(go_at_call 138;with_reducible refine(ahc b.a v.out).mono ?_;rintro r s ⟨rfl,c⟩;replace b:=b.below c;clear c;obtain⟨e,f,g,h,i,j,l,m,o,p⟩:=bu b.bn;have q:=b.bt)|(go_at_call 138;with_reducible refine(ahr b.a x.out).mono ?_;rintro r s ⟨rfl,c⟩;replace b:=b.below c;clear c;obtain⟨e,f,g,h,i,j,l,m,o,p⟩:=bu b.bn;have q:=b.bt));go_ret;exact⟨rfl,b.bel⟩
def KH.pos{k:Nat}{ns:List ByteArray}(h:KH tk n k ns j):k<=j/\j<n:=by
 induction h with
 |stop _ h=>exact⟨af _,h⟩
 |go _ _ _ _ a=>omega
def Prm.pos{k:Nat}{ns:List ByteArray}{r:Bool}(h:Prm tk n k ns r j):k+1<=j/\j<n:=by
 induction h with
 |close _ h=>omega
 |rest _ _ h=>omega
 |last _ _ h=>omega
 |go _ _ _ _ a=>omega
def gG:Tsk->Nat
 | .more _ _ _=>0
 | .post _ _=>0
 | .moreE=>0
 | .moreB=>0
 | .stats=>0
 | .entries=>0
 |_=>1
def slk:Tsk->Nat
 | .more _ _ _=>0
 | .post _ _=>0
 | .moreE=>0
 | .moreB=>0
 | .stats=>0
 | .entries=>0
 | .entry=>1
 | .stat=>1
 | .branch=>1
 |_=>2
def bas:Tsk->Nat
 | .more _ _ x=>x.sz
 | .post _ x=>x.sz
 |_=>0
def akG(N:Nd)(ks:Fo)(s:Tk)(e:Int):(od N ks s e).sz<=(one N ks).sz+1:=by
 unfold od;split
 .rw[dL];omega
 .omega
def P.pos{i:Nat}{t:Tsk}{R:Fo}(h:P tk n t i R j):i+gG t<=j/\j<n/\R.sz+slk t+3*i<=bas t+3*j:=by
 induction h
 case bopen i k j N ks R h1 h2 h3 h4 h5 h6 ih1 ih2=>
  have:=akG N ks (tk i) (tk k).t;simp only[gG,slk,bas,dL,Fo.sz_app,Fo.sz]at *;omega
 case body h1 h2 h3 h4 ih=>
  have:=h3.pos;simp only[gG,slk,bas,dL,Fo.sz_app,Fo.sz]at *;omega
 case tlet0 h1 h2 h3 h4 h5=>have:=h4.pos;simp only[gG,slk,bas,dL,Fo.sz_app,Fo.sz]at *;omega
 case tlet h1 h2 h3 h4 h5 h6 ih=>have:=h4.pos;simp only[gG,slk,bas,dL,Fo.sz_app,Fo.sz]at *;omega
 case tfor h1 h2 h3 h4 h5 h6 h7 ih1 ih2=>have:=h4.pos;simp only[gG,slk,bas,dL,Fo.sz_app,Fo.sz]at *;omega
 case teach h1 h2 h3 h4 h5 h6 h7 h8 h9 ih1 ih2=>have:=h4.pos;simp only[gG,slk,bas,dL,Fo.sz_app,Fo.sz]at *;omega
 case ttry h1 h2 h3 h4 h5 h6 h7 h8 ih1 ih2=>have:=h7.pos;simp only[gG,slk,bas,dL,Fo.sz_app,Fo.sz]at *;omega
 all_goals
  simp only[gG,slk,bas,dL,Fo.sz_app,Fo.sz]at *;omega
def AK(base:Nat)(W:World)(v:Value)(a:List ByteArray):Prop:=W.ownsRow base 9 1 v a.length (a.map A2)
def zt:(Tryz.prog.info? 9).map (λi=>(i.zero,i.size,i.bytes))=Ax (Ax (Br ⟨#[]⟩),1,16):=by kernel_rfl
def Cc{base:Nat}{v:Value}{f:List Value}(e:TypeId)(c:Nat)(d:w.ownsRow base 9 1 v n f):
  (Builtin.append_ #[58,58] e #[v,T A0 0 c]).run U w= .ok v w:=by
 have⟨m,a,j,k,l⟩:=eu zt;rcases d.2 with⟨rfl,rfl⟩|⟨i,g,h,rfl,_,_,b,_⟩
 .simp[Builtin.append_,H9 Tryz.underlying58,sizeOf,typeInfo,a,Builtin.lenOf,Builtin.firstCells]
 .simp[Builtin.append_,H9 Tryz.underlying58,sizeOf,typeInfo,a,Builtin.lenOf,Builtin.firstCells,b,storeCells]
def akH:∀(l:List ByteArray),∀u∈l.map A2,u.oneCell'=Y:=λl u a=>by
 obtain⟨b,_,rfl⟩:=List.mem_map.1 a;rfl
def G4{m:Array Oper}{n:List Oper}{o:Oper}{a:Act}{Q:Exit->Act->World->Prop}(B:o.guard=A0)(s x:Operand)
  (C:o.op= .call {callee:= .builtin .append,args:=#[s,x],argTypes:=#[58,58]}) (base:Nat) (v:Value) (q:List ByteArray) (F:a.eval s=v)
  (al:AK base w v q) (A:base<=w.heap.size) (H:Value) (d:List ByteArray) (y:a.eval x=H) (ak:bi w H d) (a4:q.length<=4194304) (a3:d.length<=4194304) (r:Nat) (u:q.length+d.length=r)
  (h:∀e f w1,AK base w1 (T e r f) (q++d)->Below base w w1->wpList U m Q n (a.put o.dst (T e r f)) w1):
  wpList U m Q (o::n) a w:=by
 subst u;have⟨au,K,ao,ap,ar⟩:=eu zt;have g:=al;have a1:∀b,a.eval x= T A0 0 b->d=[]->wpList U m Q (o::n) a w:=λb z j=>by
  subst j;obtain⟨e,f,rfl⟩:=cg g;refine wpList_plain B λa2 I=>?_;have u:=Cc o.type b g;unfold Oper.wp execOp;simp only[C,resolve,invoke,builtin,Hr,Sem.run_pure,CE,List.map_toArray,dv,List.map_nil,F,z,u];exact I _ _ (h e f w (by rw[dC];exact g) (ah _ _))
 have G:∀c b,a.eval x= T (Ax c) d.length b->(∀k p,d[k]?=Ax p->w.cell? (c.add k)=Ax (Br p))->wpList U m Q (o::n) a w:=λc b z t=>by
  refine wpList_append_own_at _ B s x 58 C base 9 au _ 1 16 Tryz.underlying58 K ao ap ar rfl (by decide) v _ _ F g c d.length b (d.map A2) z (by simp) (λk p i=>?_) (akH d) (by unfold maxLen;omega) (by omega) A ?_
  .rw[ci]at i;obtain⟨a0,an,rfl⟩:=Option.map_eq_some_iff.1 i;exact t k a0 an
  .intro a5 w1 E J _ _;obtain⟨e,f,rfl⟩:=cg E;exact h e f w1 (by unfold AK;rw[bm,eK];exact E) ((ah base w).grown J A (λax L=>(g.lt ax L).1))
 rcases ak with⟨j,c,b,l⟩|⟨c,b,l,t⟩
 .cases c with
  |none=>exact a1 b (y.trans l) j
  |some c=>exact G c b (by rw[y,l,j];rfl) (λk p i=>by rw[j]at i;simp at i)
 .exact G c b (y.trans l) t
def aoc(w:World):(Instr.typeAssert .nilIface 20 67 Y).run U w= .ok (.tuple #[A5 #[X O 0],A9 M]) w:=by kernel_rfl
