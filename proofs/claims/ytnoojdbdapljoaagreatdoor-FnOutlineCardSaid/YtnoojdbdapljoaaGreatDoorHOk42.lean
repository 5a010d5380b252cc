import Derived.Test.YtnoojdbdapljoaaGreatDoorHOk41
import Derived.Test.YtnoojdbdapljoaaGreatDoorHOk27
import Derived.Test.YtnoojdbdapljoaaGreatDoorHOk26
import Derived.Lib.AppendIntMem
set_option linter.all false
set_option maxRecDepth 100000
set_option maxHeartbeats 12800000
open Go.Value renaming int->M,slice->T,string->U,string->A8,int->A9
open Go.IntKind renaming i64->O
open Go.RowKit renaming Below->Q,intOf->A0,Hid->A4
open Option renaming some->V,none->Z
open Go renaming World->X,Value->A3,Calls->A5
open Go.Proofs.Tryz renaming prog->Y
open Go.Obj renaming cells->Ax
open Go.Lib renaming decDigits->A1
open Go.Ending renaming returned->A2
open Bool renaming false->A6,true->Br
open List renaming replicate->A7
namespace Go.Proofs.YtnoojdbdapljoaaGreatDoor
open Go.RowKit Go.Maps Go.WideMaps
def gA(p:Nat->Bool):Nat->Nat->Option Nat
 |0,_=>Z
 |f+1,j=>if p j=Br then V j else gA p f (j+1)
structure ti (p:Nat->Bool) (f j:Nat) (R:Option Nat):Prop where
 out:gA p f j=R
def GC(i:Nat):List Int->List Int->List Int
 |[],D=>D
 |k::r,D=>GC i r (D.set k.toNat (D.getD i 0+1))
def dpN(a:List Nd):Nat->List Int->List Int
 |0,D=>D
 |m+1,D=>dpN a m (GC m (a.getD m AB).ks D)
def Du(a:List Nd):List Int:=dpN a a.length (A7 a.length 0)
def gB(a:List Nd):Bool:=decide (a.length=0\/3000<a.length\/(a.getD (a.length-1) AB).k≠1)
def eu(a:List Nd)(i:Nat):Bool:=!(gG a i (a.getD i AB))
def fI(S:List Int)(i:Nat):Bool:=S.getD i 0==0
def gK(D:List Int)(i:Nat):Bool:=decide (100<D.getD i 0)
def tf4:Option Nat->Int×Int
 |some i=>(4,(i:Int))
 |none=>(0,0)
def tf3(S D:List Int)(n:Nat):Option Nat->Int×Int
 |some i=>(3,(i:Int))
 |none=>if S.getD (n-1) 0≠(n:Int) then(3,(n:Int)-1) else tf4 (gA (gK D) n 0)
def tf2(S D:List Int)(n:Nat):Option Nat->Int×Int
 |some i=>(2,(i:Int))
 |none=>tf3 S D n (gA (fI S) n 0)
def cF(a:List Nd):Int×Int:=if gB a=Br then(1,0) else tf2 (gC a) (Du a) a.length (gA (eu a) a.length 0)
def aae(n:Nat)(D:List Int):Prop:=D.length=n/\∀(a:Nat) z,D[a]?=V z->0<=z/\z<=(n:Int)-1-a
theorem aae.set{n:Nat}{D:List Int}(h:aae n D)(i q:Nat)(g:i<n)(j:q<i):aae n (D.set q (D.getD i 0+1)):=by
 obtain⟨e,b⟩:=h;refine⟨by simp[e],fun d f a=>?_⟩;by_cases c:q=d
 ·subst c;rw[List.getElem?_set_self (by omega)]at a;obtain rfl:=db a;rw[bm,aI (by omega)];have:=b i D[i] (aI (by omega));simp;omega
 ·rw[List.getElem?_set_ne c]at a;exact b d f a
theorem ng{p:Nat->Bool}:∀{f j:Nat},gA p f j=Z->∀k,j<=k->k<j+f->p k=A6
 |0,j,_,k,a,b=>by omega
 |f+1,j,h,k,a,b=>by
  rw[gA]at h;split at h
  ·cases h
  ·rename_i c;rcases jk a with rfl|g
   ·simpa using c
   ·exact ng h k g (by omega)
def ix(b:Nat)(a:X)(c n:Int):Prop:=a.heap[b]?=V (Ax #[M O c,M O n] 45 (0,0))
theorem il{b:Nat}{a:X}{c n:Int}(h:ix b a c n):a.cell? ⟨b,0,Z⟩=V (M O c)/\a.cell? ⟨b,1,Z⟩=V (M O n)/\∀j,a.frozen? ⟨b,j,Z⟩=A6:=by
 unfold ix at h;exact⟨by rw[az _ _ _ _ _ _ h];rfl,by rw[az _ _ _ _ _ _ h];rfl,fun j=>du _ _ _ _ _ h⟩
theorem nh{b:Nat}{a:X}{c n:Int}(h:ix b a c n)(d e:Int):ix b ((a.setCell ⟨b,0,Z⟩ (M O d)).setCell ⟨b,1,Z⟩ (M O e)) d e:=cD _ b 1 _ _ _ (cD _ b 0 _ _ _ h)
theorem ix.below{b:Nat}{a d:X}{c n:Int}(h:ix b a c n)(e:Q a.heap.size a d):ix b d c n:=(e.block _ (ax h)).trans h
theorem Fy(w:X)(v:A3)(a:List Nd)(h:cg w v a)(x:a.length<=1048576)(p:gB a=Br):
  A5 Y 12 #[.agg #[v]] w fun e F=>e= .returned (.agg #[.int .i64 1,.int .i64 0])/\Q w.heap.size w F:=by
 obtain⟨G,H,rfl⟩:=h.form;have j:∀c d,Q w.heap.size w ((w.alloc c).alloc d):=fun c d=>((aj _ w).alloc (ah _) c).alloc (by simp) d;have s:∀c (g:Array A3) (l:TypeId),((w.alloc c).alloc (.cells g l)).heap[w.heap.size+1]?=V (.cells g l (0,0)):=fun c g l=>by
  have:=aw (w.alloc c) (.cells g l);rw[ba]at this;exact this
 have q:=bc p;by_cases f:a.length=0
 ·rw[f];go_in;go_wp2;exact bB (gi rfl _ _ (w.heap.size+1) _ _ _ _ rfl (s _ _ _) Tryz.underlying45 rfl (by kernel_rfl)) rfl ⟨rfl,j _ _⟩
 by_cases i:3000<a.length
 ·have B:(3000:Int)<(a.length:Int):=by omega
  have A:¬(a.length:Int)=0:=by omega
  generalize a.length=t at A B x⊢;clear h p q f i;go_in;go_wp2;exact bB (gi rfl _ _ (w.heap.size+1) _ _ _ _ rfl (s _ _ _) Tryz.underlying45 rfl (by kernel_rfl)) rfl ⟨rfl,j _ _⟩
 ·have C:(a.getD (a.length-1) AB).k≠1:=by rcases q with e|e|e;exact absurd e f;exact absurd e i;exact e
  have r:a.length-1<a.length:=by omega
  obtain⟨m,o⟩:∃m,a[a.length-1]?=V m:=⟨_,aI r⟩;rw[bm,o,gl]at C;obtain⟨z,rfl,ap,ao,u⟩:=h.get o;have n:=u.c0;obtain⟨t,y⟩:=aA a.length;rw[y]at n f i x r⊢;obtain⟨b,E⟩:∃b:Nat,t=b+1:=⟨t-1,by omega⟩;subst E;rw[mh]at n;have K:((b+1:Nat):Int)-1=(b:Int):=by omega
  have af:¬((b+1:Nat):Int)=0:=by omega
  have ak:¬(3000:Int)<((b+1:Nat):Int):=by omega
  have am:(b:Int)<((b+1:Nat):Int):=by omega
  have ad:(0:Int)<=(b:Int):=by omega
  have I:(((b:Int)+1)==0)=A6:=by rw[bg];omega
  have J:decide ((3000:Int)<(b:Int)+1)=A6:=aD (by omega);have an:(b:Int)<(b:Int)+1:=by omega
  have L:∀c d,((w.alloc c).alloc d).cell? (z.add (b*9))=V (.int .i64 m.k):=fun c d=>cell_kept (j c d) n;clear h p q f i o u y r;go_in;go_wp2;exact bB (gi rfl _ _ (w.heap.size+1) _ _ _ _ rfl (s _ _ _) Tryz.underlying45 rfl (by kernel_rfl)) rfl ⟨rfl,j _ _⟩
structure Fz (w:X) (v:A3) (W:X):Prop where
 tb:W.heap[w.heap.size]?=V (.cells #[v] 25 (0,0))
 fb:ix (w.heap.size+1) W 0 0
 bl:Q w.heap.size w W
theorem Fz.below{w:X}{v:A3}{a c:X}(h:Fz w v a)(b:Q a.heap.size a c):Fz w v c:=
 ⟨(b.block _ (ax h.tb)).trans h.tb,h.fb.below b,h.bl.trans (b.mono h.bl.size)⟩
structure aiy (w:X) (v:A3) (gd n:Nat) (ns:List Nd) (t:Nat) (D:List Int) (W:X):Prop where
 tk:Fz w v W
 row:W.ownsRow w.heap.size 3 1 (.slice (V ⟨gd,0,Z⟩) n n) n (D.map (A9 .i64))
 ok:aae n D
 rest:dpN ns t D=Du ns
structure aiz (w:X) (v:A3) (gd n t:Nat) (ks D:List Int) (j:Nat) (E:List Int) (W:X):Prop where
 tk:Fz w v W
 row:W.ownsRow w.heap.size 3 1 (.slice (V ⟨gd,0,Z⟩) n n) n (E.map (A9 .i64))
 ok:aae n E
 rest:GC t (ks.drop j) E=GC t ks D
theorem ch{b:Nat}{a:X}{v:A3}{t:TypeId}(h:a.heap[b]?=V (Ax #[v] t (0,0))):a.cell? ⟨b,0,Z⟩=V v:=by
 rw[az _ _ _ _ _ _ h];rfl
theorem FA(w:X)(v:A3)(c:List Nd)(h:cg w v c)(e6:c.length<=1048576)(d7:∀N∈c,fx N)(b9:gB c=A6):
  A5 Y 12 #[.agg #[v]] w fun e f4=>e= .returned (.agg #[.int .i64 (cF c).1,.int .i64 (cF c).2])/\Q w.heap.size w f4:=by
 obtain⟨f8,m,rfl⟩:=h.form;have bw:=ig b9;have I:=gD h d7 b9;have c9:¬c.length=0:=fun e=>bw (.inl e);have ev:¬3000<c.length:=fun e=>bw (.inr (.inl e));have b5:(c.getD (c.length-1) AB).k=1:=by
  by_cases a9:(c.getD (c.length-1) AB).k=1
  ·exact a9
  ·exact absurd (.inr (.inr a9)) bw
 obtain⟨N,F⟩:∃N,c[c.length-1]?=V N:=⟨_,aI (by omega)⟩;rw[bm,F,gl]at b5;obtain⟨k,rfl,hr,ho,dp⟩:=h.get F;have a8:=dp.c0;rw[b5]at a8;have dn:∀ar B,Q w.heap.size w ((w.alloc ar).alloc B):=fun ar B=>((aj _ w).alloc (ah _) ar).alloc (by simp) B;obtain⟨ap,cf⟩:=aA c.length;obtain⟨C,hF⟩:=aA (cF c);have r:=dx cf hF;rw[hF];rw[cf]at I a8 c9 ev⊢;obtain⟨a,fc⟩:∃a:Nat,ap=a+1:=⟨ap-1,by omega⟩;have d4:ap-1=a:=by omega
 rw[d4]at a8;have d6:(0:Int)<=(a:Int):=by omega
 have fA:¬(ap:Int)=0:=by omega
 have fB:¬(3000:Int)<(ap:Int):=by omega
 have f2:(a:Int)<(ap:Int):=by omega
 have f3:(ap:Int)-1=(a:Int):=by omega
 have gm:(((a:Int)+1)==0)=A6:=by rw[bg];omega
 have gr:decide ((3000:Int)<(a:Int)+1)=A6:=aD (by omega);have hh:(a:Int)<(a:Int)+1:=by omega
 have e1:∀ar B,((w.alloc ar).alloc B).cell? (k.add (a*9))=V (.int .i64 1):=fun ar B=>cell_kept (dn ar B) a8;clear h b9 bw c9 b5 F dp cf e6 d7 hF d4 a8 fA fB f2 f3;subst fc;go_in;go_wp2_with fail;have c7:((w.alloc (.cells #[.slice (V k) (a+1) m] 25)).alloc (.cells #[.int .i64 0,.int .i64 0] 45)).heap[w.heap.size]?=V (.cells #[.slice (V k) (a+1) m] 25 (0,0)):=(dr _ _ _ (by simp)).trans (aw w _);have cv:ix (w.heap.size+1) ((w.alloc (.cells #[.slice (V k) (a+1) m] 25)).alloc (.cells #[.int .i64 0,.int .i64 0] 45)) 0 0:=by
  have:=aw (w.alloc (.cells #[.slice (V k) (a+1) m] 25)) (.cells #[.int .i64 0,.int .i64 0] 45);rw[ba]at this;exact this
 have cu:=dn (.cells #[.slice (V k) (a+1) m] 25) (.cells #[.int .i64 0,.int .i64 0] 45);have cr:Fz w (.slice (V k) (a+1) m) ((w.alloc (.cells #[.slice (V k) (a+1) m] 25)).alloc (.cells #[.int .i64 0,.int .i64 0] 45)):=⟨c7,cv,cu⟩;generalize (w.alloc (.cells #[.slice (V k) (a+1) m] 25)).alloc (.cells #[.int .i64 0,.int .i64 0] 45)=f7 at cr⊢;obtain⟨b2,b7⟩:=aA (gA (eu c) (a+1) 0);have b0:=aq b7;have cy:ti (eu c) (a+1-0) 0 b2:=⟨b7⟩;clear b7 c7 cv cu e1;go_loopw [39] (fun l wr=>∃b:Nat,b<=a+1/\l= .int .i64 b/\ti (eu c) (a+1-b) b b2/\Fz w (.slice (V k) (a+1) m) wr) (fun l _=>a+1-(A0 l).toNat)
 case atStart=>exact⟨0,be _,rfl,cy,cr⟩
 case round=>
  obtain⟨b,dz,rfl,p,z⟩:=hrel;clear cr cy;have d:=p.out;by_cases e8:b<a+1
  ·obtain⟨bp,bb⟩:=bj r.out.1 e8;have d3:(b:Int)<(a:Int)+1:=by omega
   have d0:(0:Int)<=(b:Int):=by omega
   have bE:=Ds wr (.slice (V k) (a+1) m) c b bp (I.out.1.below z.bl) (by rw[r.out.1];omega) bb (I.out.2.1 bp (bC bb));have a1:=ch z.tb;obtain⟨af,am,an⟩:=il z.fb;rw[show a+1-b=(a+1-(b+1))+1 by omega,gA]at d;have A:eu c b=!(gG c b bp):=by unfold eu;rw[bm,bb];rfl
   rw[A]at d;have bo:=aq z;cases hx:gG c b bp with
   |true=>
    rw[hx]at bE d;rw[aa (by decide)]at d;have bf:ti (eu c) (a+1-(b+1)) (b+1) b2:=⟨d⟩;clear d hx A bb z p af am an;go_wp2_with (go_at_call 28;refine bE.mono ?_;rintro e K ⟨rfl,ao⟩);exact⟨⟨b+1,by omega,by go_num,bf,bo.out.below ao⟩,by simp[A0];omega⟩
   |false=>
    rw[hx]at bE d;rw[ab (by decide)]at d;have H:A4 (C=(2,(b:Int))):=by
     show C=(2,(b:Int));rw[<-r.out.2];unfold cF;rw[I.out.2.2,aa (by decide),r.out.1,b0.out,<-d];rfl
    clear d hx A bb z p af am an;go_wp2_with fail;refine bE.mono ?_;rintro e K ⟨rfl,ao⟩;have i:=bo.out.below ao;obtain⟨af,am,an⟩:=il i.fb;have s:=aq i;clear i ao;go_wp2_with fail;have i:=s.out;exact bB (gi rfl _ _ (w.heap.size+1) _ _ _ _ rfl (nh i.fb 2 b) Tryz.underlying45 rfl (by kernel_rfl)) rfl ⟨by rw[H.out],(i.bl.setCell (by simp) _).setCell (by simp) _⟩
  ·obtain rfl:b=a+1:=by omega
   rw[gj,gA]at d;have ef:=aq d.symm;have dk:=ng (show gA (eu c) (a+1) 0=Z by rw[b0.out];exact d.symm);have a6:∀(G:Nat) N,c[G]?=V N->∀j∈N.ks,0<=j/\j<(G:Int):=fun G N F j f=>by
    have bA:G<a+1:=by rw[<-r.out.1];exact(List.getElem?_eq_some_iff.1 F).1
    have J:=dk G (be _) (by omega);unfold eu at J;rw[bm,F,gl]at J;have b6:gG c G N=Br:=by simpa using J
    unfold gG at b6;have ex:D9 N.ks G N.ks.length 0=Br:=by
     rw[aB,aB]at b6;exact b6.2.1
    obtain⟨q,cn,rfl⟩:=fH f;have:=uE N.ks G N.ks.length 0 ex q (by omega) (by omega);rw[bm,aI cn]at this;simpa using this
   have co:=E6 wr (.slice (V k) (a+1) m) c (I.out.1.below z.bl) (by rw[r.out.1];omega) (fun N F=>(I.out.2.1 N F).l2) a6;rw[r.out.1]at co;have c2:=aq a6;have a1:=ch z.tb;have bo:=aq z;have fo:=z.bl.size;have he:w.heap.size+1<wr.heap.size:=ax z.fb;clear d dk a6 z p;go_wp2_with fail;refine co.mono ?_;rintro e K ⟨a9,rfl,cl,ao⟩;have i:=bo.out.below ao;obtain⟨t,hS⟩:=aA (gC c);have df:t.length=a+1:=by rw[<-hS,ii,r.out.1]
   rw[hS]at cl;have c3:A4 (gC c=t/\t.length=a+1/\xo t):=⟨hS,df,by rw[<-hS];exact sL c (fun N F j f=>by
    obtain⟨G,bA,e⟩:=fH F;exact(c2.out G N (by rw[aI bA,e]) j f).1)⟩
   have s:=dx i cl;obtain⟨br,bt⟩:=aA (gA (fI t) (a+1) 0);have f6:=aq bt;have bf:ti (fI t) (a+1-0) 0 br:=⟨bt⟩;have b1:A4 (cF c=tf3 t (Du c) (a+1) br):=by
    show cF c=_;unfold cF;rw[I.out.2.2,aa (by decide),r.out.1,b0.out,ef.out,hS];show tf3 t (Du c) (a+1) (gA (fI t) (a+1) 0)=_;rw[bt]
   clear hS df bt i cl ao co a1;go_wp2_with fail;go_loop [53] (fun l=>∃b:Nat,b<=a+1/\l= .int .i64 b/\ti (fI t) (a+1-b) b br) (fun l=>a+1-(A0 l).toNat)
   case atStart=>exact⟨0,be _,rfl,bf⟩
   case round=>
    obtain⟨b,g4,rfl,p⟩:=hrel;clear bf;have d:=p.out;by_cases e9:b<a+1
    ·have d3:(b:Int)<(a:Int)+1:=by omega
     have d0:(0:Int)<=(b:Int):=by omega
     obtain⟨j,f⟩:=bj c3.out.2.1 e9;have b4:K.cell? ⟨a9,b,Z⟩=V (.int .i64 j):=by rw[s.out.2.cellAt b (by omega),cj,f];rfl
     rw[show a+1-b=(a+1-(b+1))+1 by omega,gA]at d;have A:fI t b=(j==0):=by unfold fI;rw[bm,f];rfl
     rw[A]at d;by_cases bD:j=0
     ·subst bD;rw[ab (by decide)]at d;have H:A4 (C=(3,(b:Int))):=by
       show C=(3,(b:Int));rw[<-r.out.2,b1.out,<-d];rfl
      obtain⟨af,am,an⟩:=il s.out.1.fb;clear d A f p;go_wp2_with fail;have i:=s.out.1;exact bB (gi rfl _ _ (w.heap.size+1) _ _ _ _ rfl (nh i.fb 3 b) Tryz.underlying45 rfl (by kernel_rfl)) rfl ⟨by rw[H.out],(i.bl.setCell (by simp) _).setCell (by simp) _⟩
     ·rw[aa (by simpa using bD)]at d;have bF:ti (fI t) (a+1-(b+1)) (b+1) br:=⟨d⟩;clear d A f p;go_wp2_with fail;go_round
      case rel=>exact⟨b+1,by omega,by go_num,bF⟩
      case measure=>simp[A0];omega
    ·obtain rfl:b=a+1:=by omega
     rw[gj,gA]at d;have eg:=aq d.symm;obtain⟨j,f⟩:=bj c3.out.2.1 (show a<a+1 by omega);have b4:K.cell? ⟨a9,a,Z⟩=V (.int .i64 j):=by rw[s.out.2.cellAt a (by omega),cj,f];rfl
     have a4:t.getD a 0=j:=by rw[bm,f];rfl
     have x:=b1.out;rw[eg.out,tf3,mh,a4]at x;by_cases fz:j=(a:Int)+1
     ·rw[aa (by omega)]at x;have eh:=aq x;subst fz;have a1:=ch s.out.1.tb;clear d x f a4 p;obtain⟨d6,bA,bD,fu,fv⟩:=dC rz;have fk:=s.out.1.bl.size;go_wp2_with (at_make;refine yw _ rfl _ _ 33 rfl w.heap.size 3 d6 (.int .i64 0) 1 Tryz.underlying33 bA bD fu .i64 .i64 _ _ (a+1) rfl rfl rfl rfl (by rw[fv];omega) (by unfold maxLen;omega) fk ?_;intro d9 cm a5;have ca:Q K.heap.size K d9:=⟨a5.os,a5.tape,a5.output,a5.size,fun b dz=>a5.block b dz (by simp)⟩;have el:=cell_kept ca a1);rw[show(madeCells (A9 .i64 0).cells ((a+1)*1)).toList=A7 (a+1) (A9 .i64 0) by rw[tw];exact yl _ _]at cm;have cs:aiy w (.slice (V k) (a+1) m) K.heap.size (a+1) c (a+1) (A7 (a+1) 0) d9:=by
       refine⟨s.out.1.below ca,?_,⟨by simp,fun y j f=>?_⟩,?_⟩
       ·rw[List.map_replicate];exact cm
       ·rw[Cv]at f;split at f
        ·obtain rfl:=db f;omega
        ·cases f
       ·unfold Du;rw[r.out.1]
      have fn:w.heap.size+1<K.heap.size:=ax s.out.1.fb;clear cm a5 ca el a1 b4;obtain⟨u,a4⟩:=aA K.heap.size;rw[a4]at cs fn⊢;have c5:=aq cs;clear cs a4 s b1;go_loopw [8] (fun l wr=>∃(g:Nat) (D:List Int),g<=a+1/\l= .int .i64 ((g:Int)-1)/\A4 (aiy w (.slice (V k) (a+1) m) u (a+1) c g D wr)) (fun l _=>(A0 l+1).toNat)
      case atStart=>exact⟨a+1,_,ah _,by congr 1;omega,c5⟩
      case round=>
       obtain⟨g,D,g9,rfl,o⟩:=hrel;clear c5;cases g with
       |zero=>
        have g6:¬(0:Int)<=((0:Nat):Int)-1:=by omega
        have dd:D=Du c:=o.out.rest;have av:=gD o.out.tk o.out.row o.out.ok.1;have x:=eh.out;rw[<-dd]at x;obtain⟨b3,b8⟩:=aA (gA (gK D) (a+1) 0);rw[b8,r.out.2]at x;have c6:=aq x;have cB:ti (gK D) (a+1-0) 0 b3:=⟨b8⟩;clear x b8 dd o;go_wp2_with fail;go_loop [110] (fun l=>∃b:Nat,b<=a+1/\l= .int .i64 b/\ti (gK D) (a+1-b) b b3) (fun l=>a+1-(A0 l).toNat)
        case atStart=>exact⟨0,be _,rfl,cB⟩
        case round=>
         obtain⟨b,g5,rfl,p⟩:=hrel;clear cB;have d:=p.out;by_cases fa:b<a+1
         ·have d3:(b:Int)<(a:Int)+1:=by omega
          have d0:(0:Int)<=(b:Int):=by omega
          obtain⟨j,f⟩:=bj av.out.2.2 fa;have b4:wr.cell? ⟨u,b,Z⟩=V (.int .i64 j):=by rw[av.out.2.1.cellAt b (by omega),cj,f];rfl
          rw[show a+1-b=(a+1-(b+1))+1 by omega,gA]at d;have A:gK D b=decide (100<j):=by unfold gK;rw[bm,f];rfl
          rw[A]at d;by_cases d5:100<j
          ·rw[ab (bG d5)]at d;have H:A4 (C=(4,(b:Int))):=by
            show C=(4,(b:Int));rw[c6.out,<-d];rfl
           obtain⟨af,am,an⟩:=il av.out.1.fb;clear d A f p;go_wp2_with fail;have i:=av.out.1;exact bB (gi rfl _ _ (w.heap.size+1) _ _ _ _ rfl (nh i.fb 4 b) Tryz.underlying45 rfl (by kernel_rfl)) rfl ⟨by rw[H.out],(i.bl.setCell (by simp) _).setCell (by simp) _⟩
          ·rw[aa (by simpa using d5)]at d;have bF:ti (gK D) (a+1-(b+1)) (b+1) b3:=⟨d⟩;clear d A f p;go_wp2_with fail;go_round
           case rel=>exact⟨b+1,by omega,by go_num,bF⟩
           case measure=>simp[A0];omega
         ·obtain rfl:b=a+1:=by omega
          rw[gj,gA]at d;have H:A4 (C=(0,0)):=by
           show C=(0,0);rw[c6.out,<-d];rfl
          obtain⟨af,am,an⟩:=il av.out.1.fb;clear d p;go_wp2_with fail;have i:=av.out.1;exact bB (gi rfl _ _ (w.heap.size+1) _ _ _ _ rfl (nh i.fb 0 0) Tryz.underlying45 rfl (by kernel_rfl)) rfl ⟨by rw[H.out],(i.bl.setCell (by simp) _).setCell (by simp) _⟩
       |succ g=>
        have eq:(((g+1:Nat)):Int)-1=(g:Int):=by omega
        rw[eq];have hc:(g:Int)<(a:Int)+1:=by omega
        have ha:(0:Int)<=(g:Int):=by omega
        obtain⟨E,a3⟩:=bj r.out.1 (show g<a+1 by omega);obtain⟨f9,eF,hs,hp,cb⟩:=I.out.1.get a3;obtain rfl:=db eF;have eo:=cell_kept o.out.tk.bl cb.c8;have a6:=c2.out g E a3;have ce:=cb.hk;obtain⟨ei,ep,rfl⟩:=ce.form;obtain⟨a0,bs⟩:=aA E.ks.length;have e7:=(I.out.2.1 E (bC a3)).l2;rw[bs]at eo e7;have e5:o.out.rest=o.out.rest:=rfl;have bd:dpN c g (GC g E.ks D)=Du c:=by
         have:=o.out.rest;rw[dpN,bm,a3,gl]at this;exact this
        have bn:=tI bs a6 bd a3;have a1:=ch o.out.tk.tb;have ec:A4 (bi w (.slice ei a0 ep) E.ks):=by rw[<-bs];exact ce
        have cx:A4 (aiz w (.slice (V k) (a+1) m) u (a+1) g E.ks D 0 D wr):=⟨o.out.tk,o.out.row,o.out.ok,rfl⟩;have fo:=o.out.tk.bl.size;clear a6 ce bd cb a3 bs o e5;go_wp2_with fail;go_loopw [95] (fun l f5=>∃(y:Nat) (ad:List Int),y<=a0/\l= .int .i64 y/\A4 (aiz w (.slice (V k) (a+1) m) u (a+1) g E.ks D y ad f5)) (fun l _=>a0-(A0 l).toNat)
        case atStart=>exact⟨0,D,be _,rfl,cx⟩
        case round=>
         obtain⟨y,ad,gv,rfl,n⟩:=hrel;clear cx;by_cases e4:y<a0
         ·have g0:(y:Int)<(a0:Int):=by omega
          have gz:(0:Int)<=(y:Int):=by omega
          obtain⟨j,f⟩:=bj bn.out.1 e4;obtain⟨gb,e0,gu⟩:=(ec.out.below n.out.tk.bl).get f;subst e0;obtain⟨fr,hg⟩:=bn.out.2.1 j (bC f);obtain⟨q,rfl⟩:=ir fr;have cn:q<g:=by omega
          obtain⟨L,bx⟩:=bj n.out.ok.1 (show g<a+1 by omega);obtain⟨es,dq⟩:=bj n.out.ok.1 (show q<a+1 by omega);have gt:=n.out.ok.2 g L bx;have a7:=n.out.row;have gf:wr.cell? ⟨u,g,Z⟩=V (.int .i64 L):=by rw[a7.cellAt g (by omega),cj,bx];rfl
          have ge:wr.cell? ⟨u,q,Z⟩=V (.int .i64 es):=by rw[a7.cellAt q (by omega),cj,dq];rfl
          have gs:=a7.frozenAt q;have e3:=(a7.lt u rfl).1;have cc:ad.getD g 0=L:=by rw[bm,bx];rfl
          have B:=(a7.stored q (.int .i64 (L+1))).1;rw[<-List.map_set]at B;have cp:=n.out.ok.set g q (by omega) cn;rw[cc]at cp;have bd:GC g (E.ks.drop (y+1)) (ad.set q (L+1))=GC g E.ks D:=by
           have J:=n.out.rest;have ds:=(List.getElem?_eq_some_iff.1 f);rw[mg ds.1,ds.2,GC,cc]at J;exact J
          have fg:u≠w.heap.size:=by omega
          have fe:u≠w.heap.size+1:=by omega
          have d8:Fz w (.slice (V k) (a+1) m) (wr.setCell ⟨u,q,Z⟩ (.int .i64 (L+1))):=
           ⟨(bh _ _ _ _ (gI fg)).trans n.out.tk.tb,(bh _ _ _ _ (gI fe)).trans n.out.tk.fb,n.out.tk.bl.setCell e3 _⟩
          have ea:A4 (aiz w (.slice (V k) (a+1) m) u (a+1) g E.ks D (y+1) (ad.set q (L+1)) (wr.setCell ⟨u,q,Z⟩ (.int .i64 (L+1)))):=⟨d8,B,cp,bd⟩;have g8:(q:Int)<(a:Int)+1:=by omega
          have g7:(0:Int)<=(q:Int):=by omega
          clear f n B cp bd d8 a7 bx dq cc;go_wp2_with fail;exact⟨⟨y+1,_,by omega,by go_num,ea⟩,by simp[A0];omega⟩
         ·obtain rfl:y=a0:=by omega
          have e2:A4 (aiy w (.slice (V k) (a+1) m) u (a+1) c g ad wr):=by
           refine⟨n.out.tk,n.out.row,n.out.ok,?_⟩;have J:=n.out.rest;rw[pt (by rw[bn.out.1];exact ah _),GC]at J;rw[J];exact bn.out.2.2.1
          clear n;go_wp2_with fail;exact⟨⟨g,ad,by omega,rfl,e2⟩,by simp[A0]⟩
     ·rw[ab (by omega)]at x;have H:A4 (C=(3,(a:Int))):=by
       show C=(3,(a:Int));rw[<-r.out.2,x]
       congr 1
       omega
      obtain⟨af,am,an⟩:=il s.out.1.fb;clear d x f a4 p;go_wp2_with fail;have i:=s.out.1;exact bB (gi rfl _ _ (w.heap.size+1) _ _ _ _ rfl (nh i.fb 3 a) Tryz.underlying45 rfl (by kernel_rfl)) rfl ⟨by rw[H.out],(i.bl.setCell (by simp) _).setCell (by simp) _⟩
theorem qc(w:X)(v:A3)(a:List Nd)(h:cg w v a)(b:a.length<=1048576)(c:∀N∈a,fx N):
  A5 Y 12 #[.agg #[v]] w fun e d=>e= A2 (.agg #[M O (cF a).1,M O (cF a).2])/\Q w.heap.size w d:=by
 cases hb:gB a with
 |true=>
  have e:cF a=(1,0):=by unfold cF;rw[ab hb]
  rw[e];exact Fy w v a h b hb
 |false=>exact FA w v a h b c hb
structure aiA (ns:List Nd):Prop where
 len:1<=ns.length/\ns.length<=3000
 kid:∀(i:Nat) N,ns[i]?=V N->∀z∈N.ks,0<=z/\z<(i:Int)
 kn:∀N∈ns,N.ks.length<=200
theorem lC{c:List Nd}(h:(cF c).1=0):aiA c:=by
 unfold cF at h;by_cases j:gB c=Br
 ·rw[ab j]at h;exact absurd h (by decide)
 rw[aa j]at h;have r:gB c=A6:=by simpa using j
 have l:=ig r;obtain⟨f,k⟩:∃f,gA (eu c) c.length 0=f:=⟨_,rfl⟩;rw[k]at h;cases f with
 |some a=>rw[tf2]at h;exact absurd h (by simp)
 |none=>
  have q:=ng k;have n:∀(a:Nat) b,c[a]?=V b->gG c a b=Br:=fun a b e=>by
   have m:a<c.length:=(List.getElem?_eq_some_iff.1 e).1;have i:=q a (be _) (by omega);unfold eu at i;rw[bm,e,gl]at i;simpa using i
  refine⟨⟨?_,?_⟩,fun a b e v t=>?_,fun b e=>?_⟩
  ·rcases li c.length with g|g
   ·exact absurd (.inl g) l
   ·exact g
  ·rcases cA 3000 c.length with g|g
   ·exact absurd (.inr (.inl g)) l
   ·exact g
  ·have d:=n a b e;unfold gG at d;have p:D9 b.ks a b.ks.length 0=Br:=by
    rw[aB,aB]at d;exact d.2.1
   obtain⟨u,s,rfl⟩:=fH t;have:=uE b.ks a b.ks.length 0 p u (by omega) (by omega);rw[bm,aI s]at this;simpa using this
  ·obtain⟨a,m,o⟩:=fH e;have d:=n a b (by rw[aI m,o]);unfold gG Bg at d;rw[aB]at d;exact(bc d.1).2.2.2
theorem zL(w:X):A5 Y 43 #[M O 0] w fun e b=>e= A2 (U (bH 0))/\Q w.heap.size w b:=by
 have a:bH 0=⟨#[48]⟩:=by unfold bH Lib.itoa;rw[aa (by decide),show(0:Int).toNat=0 from rfl,A1,oe (by decide)];rfl
 rw[a];go_in;go_wp2_with fail;go_ret;exact⟨rfl,aj _ _⟩
theorem Bh(N:Nat)(a6:N≠0)(bD:N<=9223372036854775808)(w:X):A5 Y 43 #[M O (-(N:Int))] w fun e bw=>e= A2 (U (⟨#[45]⟩++⟨(A1 N).toArray⟩))/\Q w.heap.size w bw:=by
 obtain⟨i,C⟩:∃i:Int,(N:Int)=i:=⟨_,rfl⟩;rw[C];have b7: -i<0:=by omega
 have br:i<=9223372036854775808:=by omega
 have b8:(-i==0)=A6:=by rw[bg];omega
 have a1:=aq C;clear C;go_in;go_wp2_with fail;go_loopw [0,4,5] (fun H bt ca wr=>∃(b:Int) (a:List Int),H= M O (-b)/\0<=b/\b<=9223372036854775808/\A4 (b.toNat<10 ^ (19-a.length)/\a.length<=19/\nJ (A1 N)=pre b.toNat++a.reverse)/\wr.ownsRow w.heap.size 5 1 bt a.length (B8 a)/\Q w.heap.size w wr) (fun H _ _ _=>(-(A0 H)).toNat)
 case atStart=>
  refine⟨i,[],rfl,by omega,br,⟨?_,by simp,?_⟩,bk _ _ _ _,aj _ _⟩
  ·have:(10:Nat) ^ (19-([]:List Int).length)=10000000000000000000:=by decide
   rw[this];omega
  ·rw[show i.toNat=N by have:=a1.out;omega];unfold pre;rw[aa a6];simp
 case round=>
  obtain⟨b,a,rfl,ad,bx,m,n,k⟩:=hrel;by_cases a8:b=0
  ·subst a8;obtain⟨_,an,am⟩:=m.out;have y:nJ (A1 N)=a.reverse:=am;have A:0<a.length:=by
    have e:=congrArg List.length y;rw[ru]at e;have:0<(nJ (A1 N)).length:=by
     rw[A1];split<;>simp[nJ]
    omega
   have I:A4 (ga a.reverse=⟨(A1 N).toArray⟩):=by show _=_;rw[<-y,po]
   rcases n.2 with⟨h,bo⟩|⟨p,af,bA,av,b3,z,_,bl,o,ar⟩
   ·have:a=[]:=by
     have bE:(B8 a).length=a.length:=GD a;have:=n.1;simp at bo;omega
    rw[this]at A;simp at A
   ·have x:∀l,l<a.length->wr.cell? ⟨p,l,Z⟩=V (M .u8 (a.getD l 0)):=fun l bf=>by
     rw[az _ _ _ _ _ _ z];have f:(B8 a)[l]?=V (M .u8 (a.getD l 0)):=by simp[B8,bf,List.getD]
     rw[<-ar,lc]at f;split at f
     ·simpa using f
     ·cases f
    have bb:p<wr.heap.size:=ax z;obtain⟨d,q⟩:=aA a.length;rw[q]at A an x av;subst av;clear m am y n z ar o bl;have ao:∀c,c<d->a.reverse.take (c+1)=a.reverse.take c++[a.getD (d-1-c) 0]:=fun c F=>by
     have e:a.reverse[c]?=V (a.getD (d-1-c) 0):=by
      rw[List.getElem?_reverse (by omega),List.getD,q,aI (by omega)];rfl
     rw[dG,e];rfl
    have o:∀c,c<=d->(ga (a.reverse.take c)).size=c:=fun c F=>by
     have:∀j:List Int,(ga j).size=j.length:=by
      intro j
      induction j with
      |nil=>rfl
      |cons K L bp=>rw[show K::L=[K]++L from rfl,uA,ag,bp,aC];rfl
     rw[this,eJ,ru];omega
    have J:=aq ao;have a0:=aq q;clear ao q;go_wp2_with fail;go_loopw [6,7] (fun bs G wq=>∃c:Nat,c<=d/\G= M O ((d:Int)-1-(c:Int))/\bs= U (⟨#[45]⟩++ga (a.reverse.take c))/\Q wr.heap.size wr wq) (fun _ G _=>(A0 G+1).toNat)
    case atStart=>exact⟨0,by omega,by first|rfl|(congr 1;omega),rfl,aj _ _⟩
    case round=>
     obtain⟨c,F,rfl,rfl,s⟩:=hrel;have ap:((⟨#[45]⟩:ByteArray)++ga (a.reverse.take c)).size=c+1:=by rw[ag,o c F];show 1+c=_;omega
     by_cases bn:c<d
     ·obtain⟨g,a7⟩:∃g:Nat,d-1-c=g:=⟨_,rfl⟩;have a9:=(gF s bb).trans (x g (by omega));have v:=J.out c bn;rw[a7]at v;have u:A4 ((⟨#[45]⟩++ga (a.reverse.take c))++ga [a.getD g 0]=⟨#[45]⟩++ga (a.reverse.take (c+1))):=by show _=_;rw[v,uA,aF]
      generalize a.getD g 0=j at a9 u;have b1:=fun w=>je (oI w j);have b6:(ga [j]).size=1:=rfl;have bd:(d:Int)-1-(c:Int)=(g:Int):=by omega
      have bF:g<d:=by omega
      generalize (⟨#[45]⟩:ByteArray)++ga (a.reverse.take c)=b9 at ap u⊢;rw[bd];clear o v x;go_wp2;go_roundw
      case rel=>exact⟨c+1,by omega,by first|rfl|(congr 1;omega),by rw[u.out],s.alloc s.size _⟩
      case measure=>simp[A0]
     ·obtain rfl:c=d:=by omega
      have b5:¬(0:Int)<=(c:Int)-1-(c:Int):=by omega
      rw[cw (by rw[ru,a0.out];exact ah _)];rw[I.out];clear ap o I J;go_wp2;go_ret;exact⟨rfl,k.trans (s.mono k.size)⟩
  ·have b2:(-b==0)=A6:=by rw[bg];omega
   have b0:(-b !=0)=Br:=by rw[mo];omega
   have an:a.length<=18:=by
    obtain⟨f,a2,_⟩:=m.out;rcases cA a.length 19 with h|h
    ·omega
    ·rw[show 19-a.length=0 by omega]at f;simp at f;omega
   have t:A4 ((b / 10).toNat<10 ^ (19-(a++[48+b%10]).length)/\(a++[48+b%10]).length<=19/\nJ (A1 N)=pre (b / 10).toNat++(a++[48+b%10]).reverse):=by
    obtain⟨f,a2,a3⟩:=m.out;have a5:(a++[48+b%10]).length=a.length+1:=by simp
    refine⟨?_,by omega,?_⟩
    ·rw[a5];have a4:10 ^ (19-a.length)=10 ^ (19-(a.length+1))*10:=by rw[<-Nat.pow_succ];congr 1;omega
     rw[a4]at f;have:(b / 10).toNat=b.toNat / 10:=by omega
     rw[this];omega
    ·rw[a3,Fh b.toNat (by omega),show(b / 10).toNat=b.toNat / 10 by omega,show((b.toNat%10:Nat):Int)=b%10 by omega];simp
   have ak:(-b).tmod 10= -(b%10):=by rw[Int.neg_tmod,Int.tmod_eq_emod_of_nonneg ad]
   have r:(-b).tdiv 10= -(b / 10):=by rw[Int.neg_tdiv,Int.tdiv_eq_ediv_of_nonneg ad]
   clear m;by_cases B:b%10=0
   ·rw[B]at t ak;rw[show(-(0:Int))=0 from rfl]at ak;clear B;go_wp2_with (at_builtin;refine gE rfl (.tmp 20) (.tmp 24) rfl w.heap.size u4 a.length a rfl n k.size (by omega) [48+0] 1 rfl (by decide) (by decide) _ rfl rfl ?_;intro p af w1 E r);go_roundw
    case rel=>exact⟨b / 10,a++[48+0],by first|rfl|(congr 1;omega),by omega,by omega,t,by rw[aC];exact E,k.trans (r.mono (by omega))⟩
    case measure=>simp[A0];omega
   ·have b4: -(b%10)<0:=by omega
    clear B;go_wp2_with (at_builtin;refine gE rfl (.tmp 20) (.tmp 24) rfl w.heap.size u4 a.length a rfl n k.size (by omega) [48+b%10] 1 rfl (by decide) (by decide) _ rfl rfl ?_;intro p af w1 E r);go_roundw
    case rel=>exact⟨b / 10,a++[48+b%10],by first|rfl|(congr 1;omega),by omega,by omega,t,by rw[aC];exact E,k.trans (r.mono (by omega))⟩
    case measure=>simp[A0];omega
theorem lm(n:Int)(c: -9223372036854775808<=n)(d:n<=9223372036854775807)(w:X):A5 Y 43 #[M O n] w fun e b=>e= A2 (U (bH n))/\Q w.heap.size w b:=by
 rcases Int.lt_trichotomy n 0 with h|h|h
 ·refine cd (show A5 Y 43 #[M O n] w _ from by rw[show n= -((n.natAbs:Nat):Int) by omega];exact Bh n.natAbs (by omega) (by omega) w) fun b a=>?_;refine⟨?_,a⟩
  congr 2
  unfold bH Lib.itoa;rw[ab h];apply rn;rw[jj];simp
 ·subst h;exact zL w
 ·refine cd (show A5 Y 43 #[M O n] w _ from by rw[show n=((n.toNat:Nat):Int) by omega];exact sx n.toNat (by omega) (by omega) w) fun b a=>?_;refine⟨?_,a⟩;unfold bH Lib.itoa;rw[aa (by omega)]
def jK:List Int->ByteArray
 |[]=>⟨#[]⟩
 |z::a=>(bH z++iI)++jK a
theorem aaf(a b:List Int):jK (a++b)=jK a++jK b:=by
 induction a with
 |nil=>exact(rD _).symm
 |cons d c e=>show(bH d++iI)++jK (c++b)=((bH d++iI)++jK c)++jK b;rw[e,aF (b:=jK c)]
theorem Id(a:List Int)(k:Nat)(z:Int)(h:a[k]?=V z):jK (a.take (k+1))=jK (a.take k)++(bH z++iI):=by
 rw[dG,h,aaf];show jK (a.take k)++((bH z++iI)++⟨#[]⟩)=_;rw[oq]
def qd(N:Nd):List Int:=[N.k,N.f,N.t,N.l,N.op,N.n]
theorem adv(N:Nd):jK (qd N)=wD N:=by
 unfold qd wD;simp only[jK,rD,oq,aF]
theorem Aa(a:List Int)(h:∀z∈a, -9223372036854775808<=z/\z<=9223372036854775807):(jK a).size<=22*a.length:=by
 induction a with
 |nil=>exact ah _
 |cons b a d=>
  have e:=d fun z c=>h z (dJ _ c);have f:=ft b (h b (cH)).1 (h b (cH)).2;have g:iI.size=1:=rfl;show((bH b++iI)++jK a).size<=22*(a.length+1);rw[ag,ag];omega
theorem yG{N:Nd}(h:qA N):∀z∈qd N, -9223372036854775808<=z/\z<=9223372036854775807:=fun z a=>by
 unfold qd at a;simp only[iF,ld,lh]at a;rcases a with rfl|rfl|rfl|rfl|rfl|rfl
 ·exact h.k
 ·exact h.f
 ·exact h.t
 ·exact h.l
 ·exact h.op
 ·exact h.n
structure Ab (w:X) (N:Nd) (vn vk:A3) (W:X):Prop where
 bx:de w.heap.size W 35 N vn vk
 bl:Q w.heap.size w W
theorem Ab.below{w:X}{N:Nd}{vn vk:A3}{a b:X}(h:Ab w N vn vk a)(c:Q a.heap.size a b):Ab w N vn vk b:=
 ⟨h.bx.below c,h.bl.trans (c.mono h.bl.size)⟩
theorem Ie(w:X)(N:Nd)(vn vk:A3)(bb:bu w vn N.nm)(ad:bi w vk N.ks)(cs:qA N)(ef:N.x.size<=4000)(d6:N.nm.length<=1048576)(d7:N.ks.length<=1048576)(bf:(kH N).size<=70368744177664):
  A5 Y 24 #[dj N vn vk] w fun e cb=>e= A2 (U (kH N++xl))/\Q w.heap.size w cb:=by
 obtain⟨p,q,rfl⟩:=bb.form;obtain⟨v,y,rfl⟩:=ad.form;obtain⟨j,bF⟩:=aA N.nm.length;obtain⟨g,b0⟩:=aA N.ks.length;rw[bF]at bb d6⊢;rw[b0]at ad d7⊢;have o:=aez bb ad cs bf bF b0;unfold dj;clear bb ad cs bf bF b0;go_in;go_wp2_with fail;have br:=aw w (Ax #[M O N.k,M O N.f,M O N.t,M O N.l,M O N.op,M O N.n,U N.x,T p j q,T v g y] 35);have b3:Q w.heap.size w (w.alloc (Ax #[M O N.k,M O N.f,M O N.t,M O N.l,M O N.op,M O N.n,U N.x,T p j q,T v g y] 35)):=(aj _ w).alloc (ah _) _;have b8:(w.alloc (Ax #[M O N.k,M O N.f,M O N.t,M O N.l,M O N.op,M O N.n,U N.x,T p j q,T v g y] 35)).heap.size=w.heap.size+1:=ba _ _;generalize w.alloc (Ax #[M O N.k,M O N.f,M O N.t,M O N.l,M O N.op,M O N.n,U N.x,T p j q,T v g y] 35)=L at br b3 b8⊢;have am:=aw L (Ax #[M O N.k,M O N.f,M O N.t,M O N.l,M O N.op,M O N.n] 2);have b4:Q L.heap.size L (L.alloc (Ax #[M O N.k,M O N.f,M O N.t,M O N.l,M O N.op,M O N.n] 2)):=(aj _ L).alloc (ah _) _;generalize L.alloc (Ax #[M O N.k,M O N.f,M O N.t,M O N.l,M O N.op,M O N.n] 2)=I at am b4⊢;rw[b8]at am;have cx:Ab w N (T p j q) (T v g y) I:=Ab.below ⟨br,b3⟩ b4;have co:∀(d:Nat) h,(qd N)[d]?=V h->I.cell? ⟨w.heap.size+1,d,Z⟩=V (M O h):=fun d h a=>by
  rw[az _ _ _ _ _ _ am];unfold qd at a
  match d,a with
  |0,a=>simp at a;subst a;rfl
  |1,a=>simp at a;subst a;rfl
  |2,a=>simp at a;subst a;rfl
  |3,a=>simp at a;subst a;rfl
  |4,a=>simp at a;subst a;rfl
  |5,a=>simp at a;subst a;rfl
  |(d+6),a=>simp at a
 have cl:A4 (Ab w N (T p j q) (T v g y) I/\(∀(d:Nat) h,(qd N)[d]?=V h->I.cell? ⟨w.heap.size+1,d,Z⟩=V (M O h))/\w.heap.size+1<I.heap.size):=⟨cx,co,ax am⟩;clear br am b3 b4 b8 cx co;go_loopw [3,24] (fun a3 s wr=>∃b:Nat,b<=6/\s= M O b/\a3= U (jK ((qd N).take b))/\A4 (Q I.heap.size I wr)) (fun _ s _=>6-(A0 s).toNat)
 case atStart=>exact⟨0,by omega,rfl,rfl,aj _ _⟩
 case round=>
  obtain⟨b,ad,rfl,rfl,k⟩:=hrel;by_cases ar:b<6
  ·obtain⟨h,a⟩:=bj (show(qd N).length=6 from rfl) ar;have d2:=cell_kept k.out (cl.out.2.1 b h a);have r:=yG o.out.2.2.1 h (bC a);have u:=Id (qd N) b h a;have ec:(jK ((qd N).take b)).size<=132:=by
    have:=Aa ((qd N).take b) (fun a4 av=>yG o.out.2.2.1 a4 (tD av));have e1:((qd N).take b).length<=6:=by rw[eJ];omega
    omega
   have b6:=ft h r.1 r.2;have A:=aq u;have a0:=fun i=>lm h r.1 r.2 i;have eb:(b:Int)<6:=by omega
   have ea:(0:Int)<=(b:Int):=by omega
   generalize jK ((qd N).take b)=af at A ec⊢;generalize bH h=cp at a0 b6 A;clear u a r;go_wp2_with (go_at_call 43;refine(a0 _).mono ?_;rintro e m ⟨rfl,d8⟩);exact⟨⟨b+1,by omega,by go_num,by rw[A.out];rfl,k.out.trans (d8.mono k.out.size)⟩,by simp[A0];omega⟩
  ·obtain rfl:b=6:=by omega
   obtain⟨m,rfl⟩:∃m,m=wr:=⟨wr,rfl⟩;rw[show(qd N).take 6=qd N from rfl,adv];have ca:=cl.out.1.below k.out;have bd:=fun i=>Cc N.x ef i;have b7:=fun i=>lm (j:Int) (by omega) (by omega) i;have cu:=vE N.x;have bn:=ft (j:Int) (by omega) (by omega);have ct:(wD N).size<=132:=by rw[<-adv];have:=Aa (qd N) (yG o.out.2.2.1);have e0:(qd N).length=6:=rfl;omega
   have an:A4 (kH N=(((wD N++((sc N.x++iI)++bH j))++dI N.nm)++(iI++bH g))++dI (N.ks.map bH)):=by
    show kH N=_;unfold kH;rw[o.out.2.2.2.2.1,o.out.2.2.2.2.2]
   change ∀i,A5 Y 44 #[U N.x] i fun e cb=>e= A2 (U (sc N.x))/\Q i.heap.size i cb at bd
   obtain⟨el,em,eo,ep,eq,es,c0,c3,et,ev⟩:=au ca.bx;have cm:=aq ca;have ak:∀i,Q m.heap.size m i->i.cell? ⟨w.heap.size,6,Z⟩=V (U N.x)/\i.cell? ⟨w.heap.size,7,Z⟩=V (T p j q)/\Q m.heap.size m i:=fun i b2=>⟨cell_kept b2 c0,cell_kept b2 c3,b2⟩;have c:Q m.heap.size m m.drew:=aL (aj _ _);generalize wD N=bp at an ct⊢;generalize sc N.x=ap at bd cu an;generalize bH (j:Int)=a6 at b7 bn an;have d3:¬9223372036854775807<ap.size+1:=by omega
   have d4:¬9223372036854775807<ap.size+1+a6.size:=by omega
   have d5:¬9223372036854775807<bp.size+(ap.size+1+a6.size):=by omega
   clear el em eo ep eq es et ev ca k;go_wp2_with fail;go_region_held3 (fun bA=>bA.cell? ⟨w.heap.size,6,Z⟩=V (U N.x)/\bA.cell? ⟨w.heap.size,7,Z⟩=V (T p j q)/\Q m.heap.size m bA) (first|exact ak _ c|exact ak _ (c.trans (C.mono c.size))|exact ak _ (c.trans (B.mono c.size))|exact ak _ ((c.trans (C.mono c.size)).trans (B.mono (c.trans (C.mono c.size)).size))|exact ak _ ((c.trans (B.mono c.size)).trans (C.mono (c.trans (B.mono c.size)).size))|go_keep) (first|(go_at_call 44;refine(bd _).mono ?_;rintro e wq ⟨rfl,C⟩)|(go_at_call 43;refine(b7 _).mono ?_;rintro e cB ⟨rfl,B⟩))
   all_goals first
    |(have bE:Q m.heap.size m cB:=(c.trans (C.mono c.size)).trans (B.mono (c.trans (C.mono c.size)).size);obtain⟨F,rfl⟩:∃F,F=cB:=⟨_,rfl⟩)
    |(have bE:Q m.heap.size m wq:=(c.trans (B.mono c.size)).trans (C.mono (c.trans (B.mono c.size)).size);obtain⟨F,rfl⟩:∃F,F=wq:=⟨_,rfl⟩)
   all_goals (
    have ao:A4 (Ab w N (T p j q) (T v g y) F):=cm.out.below bE;have H:=aq an.out
    change A4 (kH N=(((bp++((ap++⟨#[32]⟩)++a6))++dI N.nm)++(iI++bH g))++dI (N.ks.map bH)) at H
    obtain⟨K,cq⟩:=aA (bp++((ap++⟨#[32]⟩)++a6));rw[cq]at H⊢;have bo:(kH N).size<=70368744177664:=o.out.2.2.2.1;rw[H.out]at bo;simp only[ag]at bo;have bt:=aq bo;obtain⟨c4,c5,c7,c8,c9,dd,df,dk,cf,dn⟩:=au ao.out.bx;clear bo cq bE C B c0 c3 ak c d3 d4 d5 cu bn ct bd b7 cm an;go_wp2_with fail;go_loopw [3,48] (fun a3 s wr=>∃b:Nat,b<=j/\s= M O b/\a3= U (K++dI (N.nm.take b))/\A4 (Q F.heap.size F wr)) (fun _ s _=>j-(A0 s).toNat)
    case atStart=>exact⟨0,by omega,rfl,by rw[iG,show K++dI []=K from oq K],aj _ _⟩
    case round=>
     obtain⟨b,ad,rfl,rfl,k⟩:=hrel;by_cases ar:b<j
     ·obtain⟨a4,av⟩:=bj o.out.2.2.2.2.1 ar;have J:Q w.heap.size w wr:=ao.out.bl.trans (k.out.mono ao.out.bl.size);obtain⟨d1,rfl,eF⟩:=(o.out.1.below J).get av;have u:=sH N.nm b a4 av;have E:=lJ N.nm (b+1);have a:=bt.out;have A:=aq u;rw[u]at E;simp only[ag]at E;have e5:a4.size<=70368744177664:=by omega
      obtain⟨af,z⟩:=aA (K++dI (N.nm.take b));have eh:af.size<=70368744177664:=by rw[<-z,ag];omega
      have bs:=aq z;rw[z];have eb:(b:Int)<(j:Int):=by omega
      have ea:(0:Int)<=(b:Int):=by omega
      clear u E a z av J c4 c5 c7 c8 c9 dd df dk cf dn;go_wp2_with fail;exact⟨⟨b+1,by omega,by go_num,by rw[A.out];show A8 (af++(iI++a4))=_;rw[<-bs.out,aF],k⟩,by simp[A0];omega⟩
     ·obtain rfl:b=j:=by omega
      obtain⟨cc,rfl⟩:∃cc,cc=wr:=⟨wr,rfl⟩;rw[cw (by rw[o.out.2.2.2.2.1];exact ah _)];have dp:=cell_kept k.out cf;have b9:=fun i=>lm (g:Int) (by omega) (by omega) i;have bn:=ft (g:Int) (by omega) (by omega);obtain⟨a5,a8⟩:=aA (K++dI N.nm);have a:=bt.out;have E:a5.size<=70368744177664:=by rw[<-a8,ag];omega
      have cn:A4 (a5.size+(1+(bH g).size)+(dI (N.ks.map bH)).size<=70368744177664):=by show _<=_;rw[<-a8,ag];exact a
      rw[a8]at H⊢;have dz:A4 (Ab w N (T p b q) (T v g y) cc):=ao.out.below k.out;generalize bH (g:Int)=ck at b9 bn H cn;clear c4 c5 c7 c8 c9 dd df dk cf dn a a8 bt ao k;go_wp2_with fail;refine cd (b9 _) fun ce b5=>?_;have a7:A4 (Ab w N (T p b q) (T v g y) ce):=dz.out.below b5;have dq:=cell_kept b5 dp;obtain⟨G,a9⟩:=aA (a5++(iI++ck));have cr:a5++(⟨#[32]⟩++ck)=G:=a9;have d0:A4 (G.size+(dI (N.ks.map bH)).size<=70368744177664):=by
       show _<=_;have:=cn.out;have ei:iI.size=1:=rfl;rw[<-a9,ag,ag,ei];omega
      rw[a9]at H;clear b9 b5 dp a9;go_wp2_with fail;try rw[cr]
      clear cr;go_loopw [3,67] (fun a3 s wr=>∃d:Nat,d<=g/\s= M O d/\a3= U (G++dI ((N.ks.map bH).take d))/\A4 (Q ce.heap.size ce wr)) (fun _ s _=>g-(A0 s).toNat)
      case atStart=>exact⟨0,by omega,rfl,by rw[iG,show G++dI []=G from oq G],aj _ _⟩
      case round=>
       obtain⟨d,e2,rfl,rfl,k⟩:=hrel;by_cases ar:d<g
       ·obtain⟨h,a⟩:=bj o.out.2.2.2.2.2 ar;have J:Q w.heap.size w wr:=a7.out.bl.trans (k.out.mono a7.out.bl.size);obtain⟨d1,rfl,d2⟩:=(o.out.2.1.below J).get a;have r:=o.out.2.2.1.ks h (bC a);have cv:(N.ks.map bH)[d]?=V (bH h):=by rw[cj,a];rfl
        have u:=sH (N.ks.map bH) d (bH h) cv;have E:=lJ (N.ks.map bH) (d+1);have eg:=d0.out;have A:=aq u;rw[u]at E;simp only[ag]at E;have a0:=fun i=>lm h r.1 r.2 i;have b6:=ft h r.1 r.2;obtain⟨af,z⟩:=aA (G++dI ((N.ks.map bH).take d));have eh:af.size<=70368744177664:=by rw[<-z,ag];omega
        have bs:=aq z;rw[z];generalize bH h=cp at a0 b6 A;have e4:(d:Int)<(g:Int):=by omega
        have e3:(0:Int)<=(d:Int):=by omega
        clear u E eg z a cv J r dq;go_wp2_with (go_at_call 43;refine(a0 _).mono ?_;rintro e e7 ⟨rfl,d9⟩);exact⟨⟨d+1,by omega,by go_num,by rw[A.out];show A8 (af++(iI++cp))=_;rw[<-bs.out,aF],k.out.trans (d9.mono k.out.size)⟩,by simp[A0];omega⟩
       ·obtain rfl:d=g:=by omega
        rw[cw (by rw[dv,o.out.2.2.2.2.2];exact ah _),<-H.out];have bf:=o.out.2.2.2.1;have J:Q w.heap.size w wr:=a7.out.bl.trans (k.out.mono a7.out.bl.size);obtain⟨ex,b1⟩:=aA (kH N);have ds:=aq b1;rw[b1]at bf⊢;clear dq b1;go_wp2_with fail;go_ret;exact⟨by rw[ds.out];rfl,J⟩)
theorem Cg(w:X)(q:Nat)(os:Array Obj):Q w.heap.size w (Sort.grow (w.drewN q) os):=
 Lib.below_grow _ w (ah _) q os
def wL(w:X):Prop:=∀a,Q w.heap.size w a->Lib.TabIs Y a "internal/strconv.uint64pow10" .u64 Lib.pow10Tab
theorem wL.below{w a:X}(h:wL w)(b:Q w.heap.size w a):wL a:=fun c d=>h c (b.trans (d.mono b.size))
theorem uF(n:Int)(b: -9223372036854775808<=n)(c:n<=9223372036854775807)(w:X)(d:wL w):
  A5 Y 39 #[M O n] w fun e a=>e= A2 (U (bH n))/\Q w.heap.size w a:=by
 refine(Tryz.strconv_Itoa n b c w (d w (aj _ _))).mono ?_;rintro e a ⟨rfl,f,g,rfl⟩;exact⟨rfl,Cg _ _ _⟩
theorem agt(n:Int)(b: -9223372036854775808<=n)(c:n<=9223372036854775807)(w:X)(d:wL w):
  A5 Y 40 #[M O n,M O 10] w fun e a=>e= A2 (U (bH n))/\Q w.heap.size w a:=by
 refine(Tryz.strconv_FormatInt_10 n b c w (d w (aj _ _))).mono ?_;rintro e a ⟨rfl,f,g,rfl⟩;exact⟨rfl,Cg _ _ _⟩
def si(N:Nd):List Int:=[N.k,N.f,N.t,N.l,N.op]
structure Bi (w:X) (N:Nd) (vn vk:A3) (v:A3) (xs:List ByteArray) (W:X):Prop where
 ln:Ab w N vn vk W
 ws:vA (w.heap.size+1+1) W v xs
 sz:w.heap.size+1+1<=W.heap.size
theorem Bi.below{w:X}{N:Nd}{vn vk v:A3}{d:List ByteArray}{a c:X}(h:Bi w N vn vk v d a)(b:Q a.heap.size a c):Bi w N vn vk v d c:=
 ⟨h.ln.below b,h.ws.below b,bz h.sz b.size⟩
theorem Bi.put{w:X}{N:Nd}{vn vk v:A3}{g:List ByteArray}{c a:X}(h:Bi w N vn vk v g c)(b:Q (w.heap.size+1+1) c a){d:A3}{e:List ByteArray}(f:vA (w.heap.size+1+1) a d e):Bi w N vn vk d e a:=
 ⟨⟨(b.block _ (by omega)).trans h.ln.bx,h.ln.bl.trans (b.mono (by omega))⟩,f,bz h.sz b.size⟩
theorem FC(w:X)(N:Nd)(vn vk:A3)(b0:bu w vn N.nm)(a9:bi w vk N.ks)(eo:qA N)(gf:N.x.size<=4000)(f3:N.nm.length<=1048576)(f4:N.ks.length<=1048576)(e8:(kH N).size<=70368744177664)(e7:wL w):
  A5 Y 22 #[dj N vn vk] w fun e bs=>e= A2 (U (kH N))/\Q w.heap.size w bs:=by
 obtain⟨y,z,rfl⟩:=b0.form;obtain⟨E,F,rfl⟩:=a9.form;obtain⟨c,cq⟩:=aA N.nm.length;obtain⟨j,cr⟩:=aA N.ks.length;rw[cq]at b0 f3⊢;rw[cr]at a9 f4⊢;have k:=ajo b0 a9 eo e8 cq cr e7;unfold dj;clear b0 a9 eo e8 cq cr e7;go_in;go_wp2_with fail;have cc:=aw w (Ax #[M O N.k,M O N.f,M O N.t,M O N.l,M O N.op,M O N.n,U N.x,T y c z,T E j F] 35);have ct:Q w.heap.size w (w.alloc (Ax #[M O N.k,M O N.f,M O N.t,M O N.l,M O N.op,M O N.n,U N.x,T y c z,T E j F] 35)):=(aj _ w).alloc (ah _) _;have b2:(w.alloc (Ax #[M O N.k,M O N.f,M O N.t,M O N.l,M O N.op,M O N.n,U N.x,T y c z,T E j F] 35)).heap.size=w.heap.size+1:=ba _ _;generalize w.alloc (Ax #[M O N.k,M O N.f,M O N.t,M O N.l,M O N.op,M O N.n,U N.x,T y c z,T E j F] 35)=K at cc ct b2⊢;have bA:=aw K (Ax #[M O N.k,M O N.f,M O N.t,M O N.l,M O N.op] 3);have a0:Q K.heap.size K (K.alloc (Ax #[M O N.k,M O N.f,M O N.t,M O N.l,M O N.op] 3)):=(aj _ K).alloc (ah _) _;have c7:(K.alloc (Ax #[M O N.k,M O N.f,M O N.t,M O N.l,M O N.op] 3)).heap.size=w.heap.size+1+1:=by rw[ba,b2]
 generalize K.alloc (Ax #[M O N.k,M O N.f,M O N.t,M O N.l,M O N.op] 3)=bF at bA a0 c7⊢;rw[b2]at bA;have fk:Bi w N (T y c z) (T E j F) (T Z 0 0) [] bF:=⟨Ab.below ⟨cc,ct⟩ a0,bk _ _ _ _,by omega⟩;have eh:∀(d:Nat) q,(si N)[d]?=V q->bF.cell? ⟨w.heap.size+1,d,Z⟩=V (M O q):=fun d q g=>by
  rw[az _ _ _ _ _ _ bA];unfold si at g
  match d,g with
  |0,g=>simp at g;subst g;rfl
  |1,g=>simp at g;subst g;rfl
  |2,g=>simp at g;subst g;rfl
  |3,g=>simp at g;subst g;rfl
  |4,g=>simp at g;subst g;rfl
  |(d+5),g=>simp at g
 have ce:=gD fk eh c7;clear cc bA ct a0 b2 c7 fk eh;go_loopw [3,20] (fun br ap wr=>∃p:Nat,p<=5/\ap= M O p/\(∃ad ak,br= T ad p ak)/\A4 (Bi w N (T y c z) (T E j F) br (((si N).take p).map bH) wr/\Q bF.heap.size bF wr)) (fun _ ap _=>5-(A0 ap).toNat)
 case atStart=>exact⟨0,by omega,rfl,⟨Z,0,rfl⟩,ce.out.1,aj _ _⟩
 case round=>
  obtain⟨p,a9,rfl,⟨ad,ak,rfl⟩,ar⟩:=hrel;by_cases c3:p<5
  ·obtain⟨q,g⟩:=bj (show(si N).length=5 from rfl) c3;have cn:=cell_kept ar.out.2 (ce.out.2.1 p q g);have am:=yG k.out.2.2.1 q (by unfold qd;unfold si at g;have:=bC g;simp only[iF,ld,lh]at this⊢;rcases this with h|h|h|h|h<;>simp[h]);have a7:A4 (((si N).take (p+1)).map bH=((si N).take p).map bH++[bH q]/\(((si N).take p).map bH).length=p):=⟨by rw[dG,g];simp,by rw[dv,eJ,show(si N).length=5 from rfl];omega⟩;have af:Q w.heap.size w wr:=ar.out.1.ln.bl;have H:=uF q am.1 am.2 wr (k.out.2.2.2.2.2.2.below af);have hd:(p:Int)<5:=by omega
   have hc:(0:Int)<=(p:Int):=by omega
   clear g am;go_wp2_with fail;refine H.mono ?_;rintro e i ⟨rfl,es⟩;have et:Q i.heap.size i (i.alloc (Ax #[U (bH q)] 9)):=(aj _ i).alloc (ah _) _;have ef:Q wr.heap.size wr (i.alloc (Ax #[U (bH q)] 9)):=es.trans (et.mono es.size);have dp:=ar.out.1.below ef;have gr:=dp.ws;have bf:=dp.sz;have f8:(((si N).take p).map bH).length<=4194304:=by rw[a7.out.2];omega
   clear H cn et;go_wp2_with (at_builtin;(refine oJ rfl _ _ rfl (w.heap.size+1+1) (T ad p ak) _ rfl gr bf _ [bH q] rfl (um i (bH q)) f8 (by simp) (p+1) (by rw[a7.out.2];rfl) ?_;intro gz g4 a4 bd G));refine⟨⟨p+1,by omega,by go_num,⟨_,_,rfl⟩,?_,?_⟩,by simp[A0];omega⟩
   ·rw[a7.out.1];exact dp.put G bd
   ·have el:=ce.out.2.2;rw[el];have fg:=ar.out.2;rw[el]at fg;exact(fg.trans (ef.mono ar.out.1.sz)).trans G
  ·obtain rfl:p=5:=by omega
   obtain⟨i,rfl⟩:∃i,i=wr:=⟨wr,rfl⟩;have ao:=ar.out.1;rw[show(si N).take 5=si N from rfl]at ao;obtain⟨A,b6⟩:=aA ((si N).map bH);rw[b6]at ao;have fb:A.length=5:=by rw[<-b6];rfl
   obtain⟨ds,dz,d0,d1,d2,d3,d4,d5,d6,d7⟩:=au ao.ln.bx;have a6:=k.out.2.2.1;have af:=ao.ln.bl;have ep:=k.out.2.2.2.2.2.2.below af;have a:Q i.heap.size i i.drew:=aL (aj _ _);have c4:∀b,A5 Y 41 #[U N.x] b fun e bs=>e= A2 (U (sc N.x))/\Q b.heap.size b bs:=fun b=>Kn N.x gf b;have cB:∀b,Q i.heap.size i b->A5 Y 40 #[M O N.n,M O 10] b fun e bs=>e= A2 (U (bH N.n))/\Q b.heap.size b bs:=fun b r=>agt N.n a6.n.1 a6.n.2 b (ep.below r);have v:=gD ao b6 fb;have b7:∀b,Q (w.heap.size+1+1) i b->b.cell? ⟨w.heap.size,5,Z⟩=V (M O N.n)/\b.cell? ⟨w.heap.size,6,Z⟩=V (U N.x)/\Q (w.heap.size+1+1) i b:=fun b r=>⟨(gF r (show w.heap.size<_ by omega)).trans d3,(gF r (show w.heap.size<_ by omega)).trans d4,r⟩;have b3:=ao.sz;have I:∀b,Q i.heap.size i b->b.cell? ⟨w.heap.size,5,Z⟩=V (M O N.n)/\b.cell? ⟨w.heap.size,6,Z⟩=V (U N.x)/\Q (w.heap.size+1+1) i b:=fun b r=>b7 b (r.mono b3);obtain⟨L,cs⟩:=aA (sc N.x);obtain⟨D,cp⟩:=aA (bH N.n);rw[cs]at c4;rw[cp]at cB;have ea:=dx cp cs;clear cs cp;clear ds dz d0 d1 d2 d5 d6 d7 a6 af ep ao b6 fb;have df:=fun (b:X) (r:Q i.heap.size i b)=>(v.out.1.below r).sz;have dd:=fun (b:X) (r:Q i.heap.size i b)=>(v.out.1.below r).ws;have c8:A.length<=4194304:=by have:=v.out.2.2;omega
   have c9:A.length+2=7:=by have:=v.out.2.2;omega
   have s:∀(b:X)(r:Q i.heap.size i b)(dk:Obj),Q i.heap.size i (b.alloc dk):=fun b r dk=>r.alloc r.size dk;go_wp2_with fail;go_region_held3 (fun ck=>ck.cell? ⟨w.heap.size,5,Z⟩=V (M O N.n)/\ck.cell? ⟨w.heap.size,6,Z⟩=V (U N.x)/\Q (w.heap.size+1+1) i ck) (first|exact I _ a|exact I _ (a.trans (o.mono a.size))|exact I _ (a.trans (m.mono a.size))|exact I _ ((a.trans (o.mono a.size)).trans (m.mono (a.trans (o.mono a.size)).size))|exact I _ ((a.trans (m.mono a.size)).trans (o.mono (a.trans (m.mono a.size)).size))|exact I _ (s _ ((a.trans (o.mono a.size)).trans (m.mono (a.trans (o.mono a.size)).size)) _)|exact I _ (s _ ((a.trans (m.mono a.size)).trans (o.mono (a.trans (m.mono a.size)).size)) _)|exact b7 _ (((s _ ((a.trans (o.mono a.size)).trans (m.mono (a.trans (o.mono a.size)).size)) _).mono b3).trans G)|exact b7 _ (((s _ ((a.trans (m.mono a.size)).trans (o.mono (a.trans (m.mono a.size)).size)) _).mono b3).trans G)|go_keep) (first|(go_at_call 41;refine(c4 _).mono ?_;rintro e wq ⟨rfl,o⟩)|(go_at_call 40;refine(cB _ (by first|exact a|exact a.trans (o.mono a.size))).mono ?_;rintro e hu ⟨rfl,m⟩)|(refine I8 (by rfl) _ _ (by rfl) (w.heap.size+1+1) (T ad 5 ak) A (by rfl) (dd _ (s _ ((a.trans (o.mono a.size)).trans (m.mono (a.trans (o.mono a.size)).size)) _)) (df _ (s _ ((a.trans (o.mono a.size)).trans (m.mono (a.trans (o.mono a.size)).size)) _)) ⟨_,0,Z⟩ 2 2 [D,L] (by rfl) rfl (ED _ D L) c8 (by decide) (by decide) 7 c9 ?_;intro co cl a4 bd G)|(refine I8 (by rfl) _ _ (by rfl) (w.heap.size+1+1) (T ad 5 ak) A (by rfl) (dd _ (s _ ((a.trans (m.mono a.size)).trans (o.mono (a.trans (m.mono a.size)).size)) _)) (df _ (s _ ((a.trans (m.mono a.size)).trans (o.mono (a.trans (m.mono a.size)).size)) _)) ⟨_,0,Z⟩ 2 2 [D,L] (by rfl) rfl (ED _ D L) c8 (by decide) (by decide) 7 c9 ?_;intro co cl a4 bd G))
   have bn:Bi w N (T y c z) (T E j F) (T (V ⟨co,0,Z⟩) 7 cl) (A++[D,L]) a4:=(v.out.1.below (s _ ((a.trans (m.mono a.size)).trans (o.mono (a.trans (m.mono a.size)).size)) _)).put G bd;have a6:=k.out.2.2.1;have cf:A4 ((si N).map bH++[bH N.n,sc N.x]=A++[D,L]/\A.length=5):=⟨by rw[v.out.2.1,<-ea.out.1,<-ea.out.2],v.out.2.2⟩;obtain⟨a5,bf⟩:=aA (A++[D,L]);rw[bf]at bn cf;have fc:a5.length=7:=by rw[<-bf,aC,v.out.2.2];rfl
   have J:=dx cf.out.1 fc;have H:=uF (c:Int) (by omega) (by omega) a4 (k.out.2.2.2.2.2.2.below bn.ln.bl);obtain⟨ds,dz,d0,d1,d2,d3,d4,d5,d6,d7⟩:=au bn.ln.bx;have d8:=aq bn;clear I b7 df dd s G bd o m a c8 c9 b3 c4 cB v bn bf fc a6 cf ds dz d0 d1 d2 d3 d4 d6 d7;go_wp2_with fail;refine H.mono ?_;rintro e fr ⟨rfl,cx⟩;have eg:Q a4.heap.size a4 (fr.alloc (Ax #[U (bH (c:Int))] 9)):=cx.alloc cx.size _;have ca:=d8.out.below eg;have fu:=ca.ws;have fn:=ca.sz;have e3:a5.length<=4194304:=by have:=J.out.2;omega
   clear H d5;have eF:(a5++[bH (c:Int)]).length<=4194304:=by rw[aC,J.out.2];simp
   have e0:N.nm.length<=4194304:=by have:=k.out.2.2.2.2.1;omega
   go_wp2_with (first|(at_builtin;refine oJ rfl _ _ rfl (w.heap.size+1+1) (T (V ⟨co,0,Z⟩) 7 cl) a5 rfl fu fn _ [bH (c:Int)] rfl (um fr _) e3 (by simp) 8 (by rw[J.out.2];rfl) ?_;intro fA f1 ht e5 ev;have a3:=ca.put ev e5;have gs:=(au a3.ln.bx).2.2.2.2.2.2.2.1)|(at_builtin;refine oJ rfl _ _ rfl (w.heap.size+1+1) (T fA 8 f1) (a5++[bH (c:Int)]) rfl a3.ws a3.sz (T y c z) N.nm rfl (k.out.1.below a3.ln.bl) eF e0 (8+c) (by rw[aC,J.out.2,k.out.2.2.2.2.1];rfl) ?_;intro fB f2 dq e6 ex;have bp:=a3.put ex e6;have cb:=(au bp.ln.bx).2.2.2.2.2.2.2.2.1));obtain⟨u,b4⟩:=aA ((a5++[bH (c:Int)])++N.nm);rw[b4]at bp;have e9:u.length=8+c:=by rw[<-b4,aC,aC,J.out.2,k.out.2.2.2.2.1];rfl
   have bE:A4 ((((si N).map bH++[bH N.n,sc N.x])++[bH (c:Int)])++N.nm=u/\u.length=8+c):=⟨by rw[J.out.1];exact b4,e9⟩;have d9:=aq bp;have fe:=uF (j:Int) (by omega) (by omega) dq (k.out.2.2.2.2.2.2.below bp.ln.bl);clear a3 bp e5 ev e6 ex gs b4 e9 eF e0 fu fn ca eg e3 d8 J cx;refine fe.mono ?_;rintro e fo ⟨rfl,cu⟩;have ec:Q dq.heap.size dq (fo.alloc (Ax #[U (bH (j:Int))] 9)):=cu.alloc cu.size _;have b8:=d9.out.below ec;have bb:u.length<=4194304:=by have:=bE.out.2;omega
   clear fe cb;go_wp2_with (at_builtin;refine oJ rfl _ _ rfl (w.heap.size+1+1) (T fB (8+c) f2) u rfl b8.ws b8.sz _ [bH (j:Int)] rfl (um fo _) bb (by simp) (9+c) (by rw[bE.out.2];show 8+c+1=_;omega) ?_;intro gu g2 hl e4 a0;have dn:=b8.put a0 e4;have cb:=(au dn.ln.bx).2.2.2.2.2.2.2.2.1);have fv:=aq dn;clear b8 dn e4 a0 ec cu bb d9;go_loopw [3,60] (fun br ap wr=>∃d:Nat,d<=j/\ap= M O d/\(∃ad ak,br= T ad (9+c+d) ak)/\A4 (Bi w N (T y c z) (T E j F) br ((u++[bH (j:Int)])++(N.ks.take d).map bH) wr)) (fun _ ap _=>j-(A0 ap).toNat)
   case atStart=>exact⟨0,by omega,rfl,⟨_,_,rfl⟩,by rw[iG,List.map_nil,dA];exact fv.out⟩
   case round=>
    obtain⟨d,g9,rfl,⟨eb,cm,rfl⟩,C⟩:=hrel;have B:A4 (((u++[bH (j:Int)])++(N.ks.take d).map bH).length=9+c+d):=by
     show _=_;rw[aC,aC,bE.out.2,dv,eJ,k.out.2.2.2.2.2.1];show 8+c+1+min d j=_;omega
    by_cases c3:d<j
    ·obtain⟨q,g⟩:=bj k.out.2.2.2.2.2.1 c3;obtain⟨gt,rfl,cn⟩:=(k.out.2.1.below C.out.ln.bl).get g;have am:=k.out.2.2.1.ks q (bC g);have a7:A4 ((N.ks.take (d+1)).map bH=(N.ks.take d).map bH++[bH q]):=by show _=_;rw[dG,g];simp
     have H:=uF q am.1 am.2 wr (k.out.2.2.2.2.2.2.below C.out.ln.bl);have hb:(d:Int)<(j:Int):=by omega
     have ha:(0:Int)<=(d:Int):=by omega
     clear g am cb;go_wp2_with fail;refine H.mono ?_;rintro e fq ⟨rfl,eq⟩;have f0:Q wr.heap.size wr (fq.alloc (Ax #[U (bH q)] 9)):=eq.alloc eq.size _;have b9:=C.out.below f0;have bb:((u++[bH (j:Int)])++(N.ks.take d).map bH).length<=4194304:=by rw[B.out];omega
     obtain⟨gm,c6⟩:=aA ((u++[bH (j:Int)])++(N.ks.take d).map bH);rw[c6]at b9 bb B;have fz:=aq c6;clear H cn c6;go_wp2_with (at_builtin;refine oJ rfl _ _ rfl (w.heap.size+1+1) (T eb (9+c+d) cm) gm rfl b9.ws b9.sz _ [bH q] rfl (um fq _) bb (by simp) (9+c+(d+1)) (by rw[B.out];rfl) ?_;intro gv g3 hm gb f5);exact⟨⟨d+1,by omega,by go_num,⟨_,_,rfl⟩,by rw[a7.out,<-cI,fz.out];exact b9.put f5 gb⟩,by simp[A0];omega⟩
    ·obtain rfl:d=j:=by omega
     rw[cw (by rw[k.out.2.2.2.2.2.1];exact ah _)]at C B;have fa:(u++[bH (d:Int)])++N.ks.map bH=qB N:=by
      rw[<-bE.out.1];unfold qB si;rw[k.out.2.2.2.2.1,k.out.2.2.2.2.2.1];simp
     rw[fa]at C B;have b1:wr.ownsRow (w.heap.size+1+1) 9 1 (T eb (9+c+d) cm) (qB N).length ((qB N).map A8):=C.out.ws;rw[B.out]at b1;rcases b1.2 with⟨_,g6⟩|⟨em,g0,g1,e,g7,f7,he,f9,gd,ge⟩
     ·omega
     ·cases e;have a8:qB N=bH N.k::([bH N.f,bH N.t,bH N.l,bH N.op,bH N.n,sc N.x,bH N.nm.length]++(N.nm++(bH N.ks.length::N.ks.map bH))):=rfl;have cy:∀(an:Nat) bt,(qB N)[an]?=V bt->wr.cell? ⟨em,an,Z⟩=V (U bt):=fun an bt b5=>by
       have g8:an<9+c+d:=by rw[<-B.out];exact(List.getElem?_eq_some_iff.1 b5).1
       rw[b1.cellAt an (by omega),cj,b5];rfl
      have c0:bH N.k++dI ([bH N.f,bH N.t,bH N.l,bH N.op,bH N.n,sc N.x,bH N.nm.length]++(N.nm++(bH N.ks.length::N.ks.map bH)))=kH N:=by
       have ei:=G8 N;rw[a8,BJ]at ei;exact ei
      have ff:=acC em cm (7+c+d) (bH N.k) ([bH N.f,bH N.t,bH N.l,bH N.op,bH N.n,sc N.x,bH N.nm.length]++(N.nm++(bH N.ks.length::N.ks.map bH))) wr (by have:=B.out;rw[a8,di]at this;omega) (cy 0 _ (by rw[a8];exact List.getElem?_cons_zero)) (fun an bt b5=>cy (an+1) bt (by rw[a8,List.getElem?_cons_succ];exact b5)) (by omega) (by omega) (by rw[c0];exact k.out.2.2.2.1);rw[c0,show 7+c+d+2=9+c+d by omega]at ff;have af:=C.out.ln.bl;clear f7 f9 gd ge cy c0 a8 b1 fa C cb;go_wp2_with (go_at_call 42;refine ff.mono ?_;rintro e hs ⟨rfl,f6⟩);go_ret;exact⟨rfl,af.trans (f6.mono af.size)⟩
