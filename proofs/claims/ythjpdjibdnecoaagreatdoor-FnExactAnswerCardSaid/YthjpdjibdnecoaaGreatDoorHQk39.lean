import Derived.Test.YthjpdjibdnecoaaGreatDoorHQk37
import Derived.Test.YthjpdjibdnecoaaGreatDoorHQk38
set_option linter.all false
set_option maxRecDepth 100000
set_option maxHeartbeats 12800000
open Option renaming some->M,none->O
open Go.Value renaming slice->Q,int->A0,pointer->A3,int->Bs,agg->B3,string->B4
open Go.RowKit renaming Hid->U,intOf->A5,Below->A8
open Go.AllReadyH renaming cons->V,nil->A1
open List renaming set->Z,replicate->B0
open Go.IntKind renaming i64->Ax
open Go renaming wpAnyH_ready->A2,World->A4,Value->A9,wp_region_held_drew->B1
open Go.Obj renaming cells->A6
open Bool renaming false->A7,true->B2
namespace Go.Proofs.YthjpdjibdnecoaaGreatDoor
open Go.RowKit Go.Maps Go.WideMaps
def io(p:Nat->Bool):Nat->Nat->Option Nat
 |0,_=>O
 |f+1,j=>if p j=B2 then M j else io p f (j+1)
structure wm (p:Nat->Bool) (f j:Nat) (R:Option Nat):Prop where
 out:io p f j=R
def Jl(i:Nat):List Int->List Int->List Int
 |[],D=>D
 |k::r,D=>Jl i r (D.set k.toNat (D.getD i 0+1))
def dpN(ns:List Nd):Nat->List Int->List Int
 |0,D=>D
 |m+1,D=>dpN ns m (Jl m (ns.getD m zNd).ks D)
def FI(ns:List Nd):List Int:=dpN ns ns.length (B0 ns.length 0)
def nJ(ns:List Nd):Bool:=decide (ns.length=0\/3000<ns.length\/(ns.getD (ns.length-1) zNd).k≠1)
def ga(ns:List Nd)(i:Nat):Bool:=!(lu ns i (ns.getD i zNd))
def gJ(S:List Int)(i:Nat):Bool:=S.getD i 0==0
def ij(D:List Int)(i:Nat):Bool:=decide (100<D.getD i 0)
def tf4:Option Nat->Int×Int
 |some i=>(4,(i:Int))
 |none=>(0,0)
def tf3(S D:List Int)(n:Nat):Option Nat->Int×Int
 |some i=>(3,(i:Int))
 |none=>if S.getD (n-1) 0≠(n:Int) then(3,(n:Int)-1) else tf4 (io (ij D) n 0)
def tf2(S D:List Int)(n:Nat):Option Nat->Int×Int
 |some i=>(2,(i:Int))
 |none=>tf3 S D n (io (gJ S) n 0)
def dA(ns:List Nd):Int×Int:=if nJ ns=B2 then(1,0) else tf2 (lj ns) (FI ns) ns.length (io (ga ns) ns.length 0)
def ab1(n:Nat)(D:List Int):Prop:=D.length=n/\∀(j:Nat) z,D[j]?=M z->0<=z/\z<=(n:Int)-1-j
theorem ab1.set{n:Nat}{D:List Int}(h:ab1 n D)(i q:Nat)(f:i<n)(g:q<i):ab1 n (D.set q (D.getD i 0+1)):=by
 obtain⟨e,c⟩:=h;refine⟨by simp[e],fun j z a=>?_⟩;by_cases d:q=j
 ·subst d;rw[List.getElem?_set_self (by omega)]at a;obtain rfl:=bu a;rw[cp,bJ (by omega)];have:=c i D[i] (bJ (by omega));simp;omega
 ·rw[List.getElem?_set_ne d]at a;exact c j z a
theorem xL{p:Nat->Bool}:∀{f j:Nat},io p f j=O->∀k,j<=k->k<j+f->p k=A7
 |0,j,_,k,a,c=>by omega
 |f+1,j,h,k,a,c=>by
  rw[io]at h;split at h
  ·cases h
  ·rename_i d;rcases mi a with rfl|g
   ·simpa using d
   ·exact xL h k g (by omega)
def iH(b:Nat)(W:A4)(c n:Int):Prop:=W.heap[b]?=M (A6 #[A0 Ax c,A0 Ax n] 47 (0,0))
theorem iC{b:Nat}{W:A4}{c n:Int}(h:iH b W c n):W.cell? ⟨b,0,O⟩=M (A0 Ax c)/\W.cell? ⟨b,1,O⟩=M (A0 Ax n)/\∀j,W.frozen? ⟨b,j,O⟩=A7:=by
 unfold iH at h;exact⟨by rw[aq _ _ _ _ _ _ h];rfl,by rw[aq _ _ _ _ _ _ h];rfl,fun j=>cC _ _ _ _ _ h⟩
theorem oI{b:Nat}{W:A4}{c n:Int}(h:iH b W c n)(a n2:Int):iH b ((W.setCell ⟨b,0,O⟩ (A0 Ax a)).setCell ⟨b,1,O⟩ (A0 Ax n2)) a n2:=bi _ b 1 _ _ _ (bi _ b 0 _ _ _ h)
theorem iH.below{b:Nat}{W a:A4}{c n:Int}(h:iH b W c n)(d:A8 W.heap.size W a):iH b a c n:=(d.block _ (ah h)).trans h
theorem Iy(w:A4)(v:A9)(ns:List Nd)(h:fx w v ns)(C:ns.length<=1048576)(s:nJ ns=B2):
  Calls Tryz.prog 15 #[.agg #[v]] w fun e w'=>e= .returned (.agg #[.int .i64 1,.int .i64 0])/\A8 w.heap.size w w':=by
 obtain⟨ad,af,rfl⟩:=h.form;have m:∀c d,A8 w.heap.size w ((w.alloc c).alloc d):=fun c d=>((ag _ w).alloc (ae _) c).alloc (by simp) d;have x:∀c (g:Array A9) (n:TypeId),((w.alloc c).alloc (.cells g n)).heap[w.heap.size+1]?=M (.cells g n (0,0)):=fun c g n=>by
  have:=aj (w.alloc c) (.cells g n);rw[aF]at this;exact this
 have t:=aC s;by_cases f:ns.length=0
 ·rw[f];go_in;go_wp2;exact ba (eu rfl _ _ (w.heap.size+1) _ _ _ _ rfl (x _ _ _) Tryz.underlying47 rfl (by kernel_rfl)) rfl ⟨rfl,m _ _⟩
 by_cases l:3000<ns.length
 ·have I:(3000:Int)<(ns.length:Int):=by omega
  have H:¬(ns.length:Int)=0:=by omega
  generalize ns.length=y at H I C⊢;clear h s t f l;go_in;go_wp2;exact ba (eu rfl _ _ (w.heap.size+1) _ _ _ _ rfl (x _ _ _) Tryz.underlying47 rfl (by kernel_rfl)) rfl ⟨rfl,m _ _⟩
 ·have J:(ns.getD (ns.length-1) zNd).k≠1:=by rcases t with e|e|e;exact absurd e f;exact absurd e l;exact e
  have u:ns.length-1<ns.length:=by omega
  obtain⟨o,r⟩:∃o,ns[ns.length-1]?=M o:=⟨_,bJ u⟩;rw[cp,r,ig]at J;obtain⟨G,rfl,a2,a1,A⟩:=h.get r;have p:=A.c0;obtain⟨y,F⟩:=ay ns.length;rw[F]at p f l C u⊢;obtain⟨a,K⟩:∃a:Nat,y=a+1:=⟨y-1,by omega⟩;subst K;rw[mj]at p;have am:((a+1:Nat):Int)-1=(a:Int):=by omega
  have ap:¬((a+1:Nat):Int)=0:=by omega
  have ar:¬(3000:Int)<((a+1:Nat):Int):=by omega
  have av:(a:Int)<((a+1:Nat):Int):=by omega
  have ao:(0:Int)<=(a:Int):=by omega
  have ak:(((a:Int)+1)==0)=A7:=by rw[aK];omega
  have al:decide ((3000:Int)<(a:Int)+1)=A7:=aB (by omega);have a0:(a:Int)<(a:Int)+1:=by omega
  have an:∀c d,((w.alloc c).alloc d).cell? (G.add (a*9))=M (.int .i64 o.k):=fun c d=>ai (m c d) p;clear h s t f l r A F u;go_in;go_wp2;exact ba (eu rfl _ _ (w.heap.size+1) _ _ _ _ rfl (x _ _ _) Tryz.underlying47 rfl (by kernel_rfl)) rfl ⟨rfl,m _ _⟩
structure Iz (w:A4) (v:A9) (W:A4):Prop where
 tb:W.heap[w.heap.size]?=M (.cells #[v] 26 (0,0))
 fb:iH (w.heap.size+1) W 0 0
 bl:A8 w.heap.size w W
theorem Iz.below{w:A4}{v:A9}{W c:A4}(h:Iz w v W)(a:A8 W.heap.size W c):Iz w v c:=
 ⟨(a.block _ (ah h.tb)).trans h.tb,h.fb.below a,h.bl.trans (a.mono h.bl.size)⟩
structure ajw (w:A4) (v:A9) (gd n:Nat) (ns:List Nd) (t:Nat) (D:List Int) (W:A4):Prop where
 tk:Iz w v W
 row:W.ownsRow w.heap.size 3 1 (.slice (M ⟨gd,0,O⟩) n n) n (D.map (Bs .i64))
 ok:ab1 n D
 rest:dpN ns t D=FI ns
structure ajx (w:A4) (v:A9) (gd n t:Nat) (ks D:List Int) (j:Nat) (E:List Int) (W:A4):Prop where
 tk:Iz w v W
 row:W.ownsRow w.heap.size 3 1 (.slice (M ⟨gd,0,O⟩) n n) n (E.map (Bs .i64))
 ok:ab1 n E
 rest:Jl t (ks.drop j) E=Jl t ks D
theorem cG{b:Nat}{W:A4}{v:A9}{t:TypeId}(h:W.heap[b]?=M (A6 #[v] t (0,0))):W.cell? ⟨b,0,O⟩=M v:=by
 rw[aq _ _ _ _ _ _ h];rfl
theorem IA(w:A4)(v:A9)(ns:List Nd)(h:fx w v ns)(e6:ns.length<=1048576)(d9:∀N∈ns,iA N)(cb:nJ ns=A7):
  Calls Tryz.prog 15 #[.agg #[v]] w fun e w'=>e= .returned (.agg #[.int .i64 (dA ns).1,.int .i64 (dA ns).2])/\A8 w.heap.size w w':=by
 obtain⟨f4,n,rfl⟩:=h.form;have bx:=iw cb;have K:=iD h d9 cb;have c9:¬ns.length=0:=fun e=>bx (.inl e);have es:¬3000<ns.length:=fun e=>bx (.inr (.inl e));have b7:(ns.getD (ns.length-1) zNd).k=1:=by
  by_cases bb:(ns.getD (ns.length-1) zNd).k=1
  ·exact bb
  ·exact absurd (.inr (.inr bb)) bx
 obtain⟨N,I⟩:∃N,ns[ns.length-1]?=M N:=⟨_,bJ (by omega)⟩;rw[cp,I,ig]at b7;obtain⟨l,rfl,hc,g9,ds⟩:=h.get I;have a9:=ds.c0;rw[b7]at a9;have dq:∀av F,A8 w.heap.size w ((w.alloc av).alloc F):=fun av F=>((ag _ w).alloc (ae _) av).alloc (by simp) F;obtain⟨ar,ch⟩:=ay ns.length;obtain⟨G,hF⟩:=ay (dA ns);have s:=gK ch hF;rw[hF];rw[ch]at K a9 c9 es⊢;obtain⟨a,fc⟩:∃a:Nat,ar=a+1:=⟨ar-1,by omega⟩;have d6:ar-1=a:=by omega
 rw[d6]at a9;have d8:(0:Int)<=(a:Int):=by omega
 have fv:¬(ar:Int)=0:=by omega
 have fz:¬(3000:Int)<(ar:Int):=by omega
 have fA:(a:Int)<(ar:Int):=by omega
 have fB:(ar:Int)-1=(a:Int):=by omega
 have f9:(((a:Int)+1)==0)=A7:=by rw[aK];omega
 have gb:decide ((3000:Int)<(a:Int)+1)=A7:=aB (by omega);have g8:(a:Int)<(a:Int)+1:=by omega
 have e1:∀av F,((w.alloc av).alloc F).cell? (l.add (a*9))=M (.int .i64 1):=fun av F=>ai (dq av F) a9;clear h cb bx c9 b7 I ds ch e6 d9 hF d6 a9 fv fz fA fB;subst fc;go_in;go_wp2_with fail;have c7:((w.alloc (.cells #[.slice (M l) (a+1) n] 26)).alloc (.cells #[.int .i64 0,.int .i64 0] 47)).heap[w.heap.size]?=M (.cells #[.slice (M l) (a+1) n] 26 (0,0)):=(bm _ _ _ (by simp)).trans (aj w _);have cy:iH (w.heap.size+1) ((w.alloc (.cells #[.slice (M l) (a+1) n] 26)).alloc (.cells #[.int .i64 0,.int .i64 0] 47)) 0 0:=by
  have:=aj (w.alloc (.cells #[.slice (M l) (a+1) n] 26)) (.cells #[.int .i64 0,.int .i64 0] 47);rw[aF]at this;exact this
 have cx:=dq (.cells #[.slice (M l) (a+1) n] 26) (.cells #[.int .i64 0,.int .i64 0] 47);have cv:Iz w (.slice (M l) (a+1) n) ((w.alloc (.cells #[.slice (M l) (a+1) n] 26)).alloc (.cells #[.int .i64 0,.int .i64 0] 47)):=⟨c7,cy,cx⟩;generalize (w.alloc (.cells #[.slice (M l) (a+1) n] 26)).alloc (.cells #[.int .i64 0,.int .i64 0] 47)=f3 at cv⊢;obtain⟨b4,b9⟩:=ay (io (ga ns) (a+1) 0);have b2:=aw b9;have cF:wm (ga ns) (a+1-0) 0 b4:=⟨b9⟩;clear b9 c7 cy cx e1;go_loopw [39] (fun m wr=>∃k:Nat,k<=a+1/\m= .int .i64 k/\wm (ga ns) (a+1-k) k b4/\Iz w (.slice (M l) (a+1) n) wr) (fun m _=>a+1-(A5 m).toNat)
 case atStart=>exact⟨0,aL _,rfl,cF,cv⟩
 case round=>
  obtain⟨k,d3,rfl,r,A⟩:=hrel;clear cv cF;have c:=r.out;by_cases e8:k<a+1
  ·obtain⟨br,bd⟩:=bL s.out.1 e8;have d5:(k:Int)<(a:Int)+1:=by omega
   have d4:(0:Int)<=(k:Int):=by omega
   have b0:=FH wr (.slice (M l) (a+1) n) ns k br (K.out.1.below A.bl) (by rw[s.out.1];omega) bd (K.out.2.1 br (cJ bd));have a3:=cG A.tb;obtain⟨am,an,ao⟩:=iC A.fb;rw[show a+1-k=(a+1-(k+1))+1 by omega,io]at c;have C:ga ns k=!(lu ns k br):=by unfold ga;rw[cp,bd];rfl
   rw[C]at c;have bo:=aw A;cases hx:lu ns k br with
   |true=>
    rw[hx]at b0 c;rw[aa (by decide)]at c;have bk:wm (ga ns) (a+1-(k+1)) (k+1) b4:=⟨c⟩;clear c hx C bd A r am an ao;go_wp2_with (go_at_call 32;refine b0.mono ?_;rintro e af ⟨rfl,ap⟩);exact⟨⟨k+1,by omega,by go_num,bk,bo.out.below ap⟩,by simp[A5];omega⟩
   |false=>
    rw[hx]at b0 c;rw[ab (by decide)]at c;have J:U (G=(2,(k:Int))):=by
     show G=(2,(k:Int));rw[<-s.out.2];unfold dA;rw[K.out.2.2,aa (by decide),s.out.1,b2.out,<-c];rfl
    clear c hx C bd A r am an ao;go_wp2_with fail;refine b0.mono ?_;rintro e af ⟨rfl,ap⟩;have g:=bo.out.below ap;obtain⟨am,an,ao⟩:=iC g.fb;have t:=aw g;clear g ap;go_wp2_with fail;have g:=t.out;exact ba (eu rfl _ _ (w.heap.size+1) _ _ _ _ rfl (oI g.fb 2 k) Tryz.underlying47 rfl (by kernel_rfl)) rfl ⟨by rw[J.out],(g.bl.setCell (by simp) _).setCell (by simp) _⟩
  ·obtain rfl:k=a+1:=by omega
   rw[eB,io]at c;have eg:=aw c.symm;have dn:=xL (show io (ga ns) (a+1) 0=O by rw[b2.out];exact c.symm);have a7:∀(i:Nat) N,ns[i]?=M N->∀z∈N.ks,0<=z/\z<(i:Int):=fun i N I z d=>by
    have bD:i<a+1:=by rw[<-s.out.1];exact(List.getElem?_eq_some_iff.1 I).1
    have ad:=dn i (aL _) (by omega);unfold ga at ad;rw[cp,I,ig]at ad;have b8:lu ns i N=B2:=by simpa using ad
    unfold lu at b8;have ev:Ir N.ks i N.ks.length 0=B2:=by
     rw[be,be]at b8;exact b8.2.1
    obtain⟨q,cn,rfl⟩:=mL d;have:=FE N.ks i N.ks.length 0 ev q (by omega) (by omega);rw[cp,bJ cn]at this;simpa using this
   have cr:=Io wr (.slice (M l) (a+1) n) ns (K.out.1.below A.bl) (by rw[s.out.1];omega) (fun N I=>(K.out.2.1 N I).l2) a7;rw[s.out.1]at cr;have c2:=aw a7;have a3:=cG A.tb;have bo:=aw A;have fm:=A.bl.size;have g6:w.heap.size+1<wr.heap.size:=ah A.fb;clear c dn a7 A r;go_wp2_with fail;refine cr.mono ?_;rintro e af ⟨bb,rfl,cl,ap⟩;have g:=bo.out.below ap;obtain⟨u,hS⟩:=ay (lj ns);have dk:u.length=a+1:=by rw[<-hS,pH,s.out.1]
   rw[hS]at cl;have c3:U (lj ns=u/\u.length=a+1/\FC u):=⟨hS,dk,by rw[<-hS];exact FD ns (fun N I z d=>by
    obtain⟨i,bD,e⟩:=mL I;exact(c2.out i N (by rw[bJ bD,e]) z d).1)⟩
   have t:=gK g cl;obtain⟨bs,bw⟩:=ay (io (gJ u) (a+1) 0);have f2:=aw bw;have bk:wm (gJ u) (a+1-0) 0 bs:=⟨bw⟩;have b3:U (dA ns=tf3 u (FI ns) (a+1) bs):=by
    show dA ns=_;unfold dA;rw[K.out.2.2,aa (by decide),s.out.1,b2.out,eg.out,hS];show tf3 u (FI ns) (a+1) (io (gJ u) (a+1) 0)=_;rw[bw]
   clear hS dk bw g cl ap cr a3;go_wp2_with fail;go_loop [53] (fun m=>∃k:Nat,k<=a+1/\m= .int .i64 k/\wm (gJ u) (a+1-k) k bs) (fun m=>a+1-(A5 m).toNat)
   case atStart=>exact⟨0,aL _,rfl,bk⟩
   case round=>
    obtain⟨k,gs,rfl,r⟩:=hrel;clear bk;have c:=r.out;by_cases e9:k<a+1
    ·have d5:(k:Int)<(a:Int)+1:=by omega
     have d4:(0:Int)<=(k:Int):=by omega
     obtain⟨z,d⟩:=bL c3.out.2.1 e9;have b6:af.cell? ⟨bb,k,O⟩=M (.int .i64 z):=by rw[t.out.2.cellAt k (by omega),cA,d];rfl
     rw[show a+1-k=(a+1-(k+1))+1 by omega,io]at c;have C:gJ u k=(z==0):=by unfold gJ;rw[cp,d];rfl
     rw[C]at c;by_cases bE:z=0
     ·subst bE;rw[ab (by decide)]at c;have J:U (G=(3,(k:Int))):=by
       show G=(3,(k:Int));rw[<-s.out.2,b3.out,<-c];rfl
      obtain⟨am,an,ao⟩:=iC t.out.1.fb;clear c C d r;go_wp2_with fail;have g:=t.out.1;exact ba (eu rfl _ _ (w.heap.size+1) _ _ _ _ rfl (oI g.fb 3 k) Tryz.underlying47 rfl (by kernel_rfl)) rfl ⟨by rw[J.out],(g.bl.setCell (by simp) _).setCell (by simp) _⟩
     ·rw[aa (by simpa using bE)]at c;have b1:wm (gJ u) (a+1-(k+1)) (k+1) bs:=⟨c⟩;clear c C d r;go_wp2_with fail;go_round
      case rel=>exact⟨k+1,by omega,by go_num,b1⟩
      case measure=>simp[A5];omega
    ·obtain rfl:k=a+1:=by omega
     rw[eB,io]at c;have eh:=aw c.symm;obtain⟨z,d⟩:=bL c3.out.2.1 (show a<a+1 by omega);have b6:af.cell? ⟨bb,a,O⟩=M (.int .i64 z):=by rw[t.out.2.cellAt a (by omega),cA,d];rfl
     have a5:u.getD a 0=z:=by rw[cp,d];rfl
     have y:=b3.out;rw[eh.out,tf3,mj,a5]at y;by_cases fu:z=(a:Int)+1
     ·rw[aa (by omega)]at y;have ei:=aw y;subst fu;have a3:=cG t.out.1.tb;clear c y d a5 r;obtain⟨d8,bD,bE,fo,fr⟩:=dt rl;have fk:=t.out.1.bl.size;go_wp2_with (at_make;refine Az _ rfl _ _ 51 rfl w.heap.size 3 d8 (.int .i64 0) 1 Tryz.underlying51 bD bE fo .i64 .i64 _ _ (a+1) rfl rfl rfl rfl (by rw[fr];omega) (by unfold maxLen;omega) fk ?_;intro ec cm a6;have cc:A8 af.heap.size af ec:=⟨a6.os,a6.tape,a6.output,a6.size,fun k d3=>a6.block k d3 (by simp)⟩;have el:=ai cc a3);rw[show(madeCells (Bs .i64 0).cells ((a+1)*1)).toList=B0 (a+1) (Bs .i64 0) by rw[rj];exact Aq _ _]at cm;have cw:ajw w (.slice (M l) (a+1) n) af.heap.size (a+1) ns (a+1) (B0 (a+1) 0) ec:=by
       refine⟨t.out.1.below cc,?_,⟨by simp,fun j z d=>?_⟩,?_⟩
       ·rw[List.map_replicate];exact cm
       ·rw[Eh]at d;split at d
        ·obtain rfl:=bu d;omega
        ·cases d
       ·unfold FI;rw[s.out.1]
      have fl:w.heap.size+1<af.heap.size:=ah t.out.1.fb;clear cm a6 cc el a3 b6;obtain⟨x,a5⟩:=ay af.heap.size;rw[a5]at cw fl⊢;have c5:=aw cw;clear cw a5 t b3;go_loopw [8] (fun m wr=>∃(f:Nat) (D:List Int),f<=a+1/\m= .int .i64 ((f:Int)-1)/\U (ajw w (.slice (M l) (a+1) n) x (a+1) ns f D wr)) (fun m _=>(A5 m+1).toNat)
      case atStart=>exact⟨a+1,_,ae _,by congr 1;omega,c5⟩
      case round=>
       obtain⟨f,D,g0,rfl,p⟩:=hrel;clear c5;cases f with
       |zero=>
        have gu:¬(0:Int)<=((0:Nat):Int)-1:=by omega
        have df:D=FI ns:=p.out.rest;have a0:=iD p.out.tk p.out.row p.out.ok.1;have y:=ei.out;rw[<-df]at y;obtain⟨b5,ca⟩:=ay (io (ij D) (a+1) 0);rw[ca,s.out.2]at y;have c6:=aw y;have cI:wm (ij D) (a+1-0) 0 b5:=⟨ca⟩;clear y ca df p;go_wp2_with fail;go_loop [110] (fun m=>∃k:Nat,k<=a+1/\m= .int .i64 k/\wm (ij D) (a+1-k) k b5) (fun m=>a+1-(A5 m).toNat)
        case atStart=>exact⟨0,aL _,rfl,cI⟩
        case round=>
         obtain⟨k,gt,rfl,r⟩:=hrel;clear cI;have c:=r.out;by_cases fa:k<a+1
         ·have d5:(k:Int)<(a:Int)+1:=by omega
          have d4:(0:Int)<=(k:Int):=by omega
          obtain⟨z,d⟩:=bL a0.out.2.2 fa;have b6:wr.cell? ⟨x,k,O⟩=M (.int .i64 z):=by rw[a0.out.2.1.cellAt k (by omega),cA,d];rfl
          rw[show a+1-k=(a+1-(k+1))+1 by omega,io]at c;have C:ij D k=decide (100<z):=by unfold ij;rw[cp,d];rfl
          rw[C]at c;by_cases d7:100<z
          ·rw[ab (bC d7)]at c;have J:U (G=(4,(k:Int))):=by
            show G=(4,(k:Int));rw[c6.out,<-c];rfl
           obtain⟨am,an,ao⟩:=iC a0.out.1.fb;clear c C d r;go_wp2_with fail;have g:=a0.out.1;exact ba (eu rfl _ _ (w.heap.size+1) _ _ _ _ rfl (oI g.fb 4 k) Tryz.underlying47 rfl (by kernel_rfl)) rfl ⟨by rw[J.out],(g.bl.setCell (by simp) _).setCell (by simp) _⟩
          ·rw[aa (by simpa using d7)]at c;have b1:wm (ij D) (a+1-(k+1)) (k+1) b5:=⟨c⟩;clear c C d r;go_wp2_with fail;go_round
           case rel=>exact⟨k+1,by omega,by go_num,b1⟩
           case measure=>simp[A5];omega
         ·obtain rfl:k=a+1:=by omega
          rw[eB,io]at c;have J:U (G=(0,0)):=by
           show G=(0,0);rw[c6.out,<-c];rfl
          obtain⟨am,an,ao⟩:=iC a0.out.1.fb;clear c r;go_wp2_with fail;have g:=a0.out.1;exact ba (eu rfl _ _ (w.heap.size+1) _ _ _ _ rfl (oI g.fb 0 0) Tryz.underlying47 rfl (by kernel_rfl)) rfl ⟨by rw[J.out],(g.bl.setCell (by simp) _).setCell (by simp) _⟩
       |succ f=>
        have eq:(((f+1:Nat)):Int)-1=(f:Int):=by omega
        rw[eq];have g5:(f:Int)<(a:Int)+1:=by omega
        have g4:(0:Int)<=(f:Int):=by omega
        obtain⟨H,a4⟩:=bL s.out.1 (show f<a+1 by omega);obtain⟨f5,ex,he,ha,ce⟩:=K.out.1.get a4;obtain rfl:=bu ex;have en:=ai p.out.tk.bl ce.c8;have a7:=c2.out f H a4;have cg:=ce.hk;obtain⟨ek,ep,rfl⟩:=cg.form;obtain⟨a1,bt⟩:=ay H.ks.length;have e7:=(K.out.2.1 H (cJ a4)).l2;rw[bt]at en e7;have e5:p.out.rest=p.out.rest:=rfl;have bh:dpN ns f (Jl f H.ks D)=FI ns:=by
         have:=p.out.rest;rw[dpN,cp,a4,ig]at this;exact this
        have bn:=Gu bt a7 bh a4;have a3:=cG p.out.tk.tb;have ef:U (eo w (.slice ek a1 ep) H.ks):=by rw[<-bt];exact cg
        have cB:U (ajx w (.slice (M l) (a+1) n) x (a+1) f H.ks D 0 D wr):=⟨p.out.tk,p.out.row,p.out.ok,rfl⟩;have fm:=p.out.tk.bl.size;clear a7 cg bh ce a4 bt p e5;go_wp2_with fail;go_loopw [95] (fun m fF=>∃(j:Nat) (E:List Int),j<=a1/\m= .int .i64 j/\U (ajx w (.slice (M l) (a+1) n) x (a+1) f H.ks D j E fF)) (fun m _=>a1-(A5 m).toNat)
        case atStart=>exact⟨0,D,aL _,rfl,cB⟩
        case round=>
         obtain⟨j,E,gn,rfl,o⟩:=hrel;clear cB;by_cases e4:j<a1
         ·have gr:(j:Int)<(a1:Int):=by omega
          have gp:(0:Int)<=(j:Int):=by omega
          obtain⟨z,d⟩:=bL bn.out.1 e4;obtain⟨f6,e0,gm⟩:=(ef.out.below o.out.tk.bl).get d;subst e0;obtain⟨fn,g7⟩:=bn.out.2.1 z (cJ d);obtain⟨q,rfl⟩:=tF fn;have cn:q<f:=by omega
          obtain⟨al,bA⟩:=bL o.out.ok.1 (show f<a+1 by omega);obtain⟨er,dz⟩:=bL o.out.ok.1 (show q<a+1 by omega);have gf:=o.out.ok.2 f al bA;have a8:=o.out.row;have f8:wr.cell? ⟨x,f,O⟩=M (.int .i64 al):=by rw[a8.cellAt f (by omega),cA,bA];rfl
          have f7:wr.cell? ⟨x,q,O⟩=M (.int .i64 er):=by rw[a8.cellAt q (by omega),cA,dz];rfl
          have ge:=a8.frozenAt q;have e3:=(a8.lt x rfl).1;have cf:E.getD f 0=al:=by rw[cp,bA];rfl
          have F:=(a8.stored q (.int .i64 (al+1))).1;rw[<-List.map_set]at F;have cs:=o.out.ok.set f q (by omega) cn;rw[cf]at cs;have bh:Jl f (H.ks.drop (j+1)) (E.set q (al+1))=Jl f H.ks D:=by
           have ad:=o.out.rest;have d0:=(List.getElem?_eq_some_iff.1 d);rw[je d0.1,d0.2,Jl,cf]at ad;exact ad
          have fg:x≠w.heap.size:=by omega
          have fd:x≠w.heap.size+1:=by omega
          have ea:Iz w (.slice (M l) (a+1) n) (wr.setCell ⟨x,q,O⟩ (.int .i64 (al+1))):=
           ⟨(aD _ _ _ _ (dD fg)).trans o.out.tk.tb,(aD _ _ _ _ (dD fd)).trans o.out.tk.fb,o.out.tk.bl.setCell e3 _⟩
          have ed:U (ajx w (.slice (M l) (a+1) n) x (a+1) f H.ks D (j+1) (E.set q (al+1)) (wr.setCell ⟨x,q,O⟩ (.int .i64 (al+1)))):=⟨ea,F,cs,bh⟩;have gz:(q:Int)<(a:Int)+1:=by omega
          have gv:(0:Int)<=(q:Int):=by omega
          clear d o F cs bh ea a8 bA dz cf;go_wp2_with fail;exact⟨⟨j+1,_,by omega,by go_num,ed⟩,by simp[A5];omega⟩
         ·obtain rfl:j=a1:=by omega
          have e2:U (ajw w (.slice (M l) (a+1) n) x (a+1) ns f E wr):=by
           refine⟨o.out.tk,o.out.row,o.out.ok,?_⟩;have ad:=o.out.rest;rw[ju (by rw[bn.out.1];exact ae _),Jl]at ad;rw[ad];exact bn.out.2.2.1
          clear o;go_wp2_with fail;exact⟨⟨f,E,by omega,rfl,e2⟩,by simp[A5]⟩
     ·rw[ab (by omega)]at y;have J:U (G=(3,(a:Int))):=by
       show G=(3,(a:Int));rw[<-s.out.2,y]
       congr 1
       omega
      obtain⟨am,an,ao⟩:=iC t.out.1.fb;clear c y d a5 r;go_wp2_with fail;have g:=t.out.1;exact ba (eu rfl _ _ (w.heap.size+1) _ _ _ _ rfl (oI g.fb 3 a) Tryz.underlying47 rfl (by kernel_rfl)) rfl ⟨by rw[J.out],(g.bl.setCell (by simp) _).setCell (by simp) _⟩
theorem Cn(w:A4)(v:A9)(ns:List Nd)(h:fx w v ns)(a:ns.length<=1048576)(c:∀N∈ns,iA N):
  Calls Tryz.prog 15 #[B3 #[v]] w fun e w'=>e= .returned (B3 #[A0 Ax (dA ns).1,A0 Ax (dA ns).2])/\A8 w.heap.size w w':=by
 cases hb:nJ ns with
 |true=>
  have e:dA ns=(1,0):=by unfold dA;rw[ab hb]
  rw[e];exact Iy w v ns h a hb
 |false=>exact IA w v ns h a c hb
section
variable {E : Pe} {W w w' : World} {i j k b q : Nat} {L L1 : List Mb} {B : List (Nat × Array Value)} {X : Fo} {z : Int}
theorem ajy(h:U (uz E W L B w k b q L1 X z))(N:Nd):∃a,((w.alloc (A6 (dy N s0 (Q (M ⟨w.heap.size+1,0,O⟩) 1 1)) 53)).alloc (A6 #[A0 Ax z] 3))=a/\U (fD E W L ((w.heap.size,dy N s0 (Q (M ⟨w.heap.size+1,0,O⟩) 1 1))::B) a k L1 X [z] (M ⟨w.heap.size+1,0,O⟩) 1 1)/\U (TB a b (E.tk q)):=by
 have f:=nA h.out.nw (dy N s0 (Q (M ⟨w.heap.size+1,0,O⟩) 1 1));have e:=bg w (A6 (dy N s0 (Q (M ⟨w.heap.size+1,0,O⟩) 1 1)) 53);have c:=bg (w.alloc (A6 (dy N s0 (Q (M ⟨w.heap.size+1,0,O⟩) 1 1)) 53)) (A6 #[A0 Ax z] 3);have d:=qp (w.alloc (A6 (dy N s0 (Q (M ⟨w.heap.size+1,0,O⟩) 1 1)) 53)) [z] 1 rfl (by decide);rw[aF]at d;have g:=h.out.nw.out.kt.size;exact⟨_,rfl,⟨nB f c,h.out.ac,rfl,iE d (by have:=h.out.nw.out.sp.lt.2;omega),Fr.new (by omega),tm h.out.nw.out.sp (by omega)⟩,tB (tB h.out.tb e) c⟩
theorem tG{e:Fo}{l:List Int}{a:Option Addr}{n c:Nat}{T:Tk}{o:Obj}{d:A4}(h:fD E W L B w k L1 e l a n c)(t:U (TB w b T))(g:(w.alloc o).grownBy d (Value.slice a n c).ownBlock):U (TB d b T):=
 (g.block b (by have:=ah t.out;rw[aF];omega) (fun f=>gA h.ow t.out (by decide) f.symm)).trans (tB t (bg w o)).out
theorem aeG{m Y:Fo}{l:List Int}{c:Option Addr}{n d:Nat}{v:A9}{a:List Int}{g:A4}(h:fD E W L B g k L1 m l c n d)(o:w.ownsRow E.base 3 1 v a.length (a.map (Bs Ax)))(f:Fr g.heap.size v):ll E w v a (Q c n d):=⟨o,fun e r p=>by have:=f e r;have:=(h.ow.lt e p).2;omega⟩
theorem aid{es:Int}{R:Fo}{m:Nat}(G:(E.tk i).k=es)(j9:i<E.n)(hu:(es=1/\k=i+1/\X=one (nd 26 (E.tk i) (E.tk i).t 0 0 (E.tk i).x []) .nil)\/(es=40/\∃N ks bo,Kn E (i+1) (one N ks) bo/\(E.tk bo).k=41/\k=bo+1/\i+1<=bo/\X=jn N ks (E.tk i) (E.tk bo).t))(kb:k<E.n)(cg:Ps E (Kn E) (CLx E) (E.tk i) m X k R j):CB E i R j:=by
 intro W L B f2 kc;have d0:=gl.start f2;have b0:U (Ps E (Kn E) (CLx E) (E.tk i) m X k R j):=cg;have f6:=cg.le;clear f2 cg;rcases hu with⟨rfl,en,cw⟩|⟨rfl,N,ks,bo,d6,hf,en,ka,cw⟩
 case' inl=>
  subst cw en;go_in;go_wp2_with fail;refine aJ (ja G d0 (by omega) (by omega)) fun p cn=>?_;obtain⟨i5,cB,b1,bd⟩:=uv (w:=p) G cn;simp only[ew]at cB;obtain⟨bs,bt,bw,bx,bA,bD⟩:=tC bd G;go_wp2_with fail;refine aJ (fL G _ _) fun i6 d3=>?_;have d9:=tA (tB bd d3) G;have ca:=fun hC=>(d9 hC).2.2.2.2.2;clear d9 cB;go_wp2_with fail;refine(aey (nA (nB b1 d3) _) (by omega) (by omega) ⟨26,(E.tk i).f,0,(E.tk i).l,0,0,(E.tk i).x,[],[]⟩ O O 0 0 0 0 (bc _ _ _ _) (bc _ _ _ _) (by rw[aA]at f6;omega) (Fr.nil _ _ _) (Fr.nil _ _ _) (nd 26 (E.tk i) (E.tk i).t 0 0 (E.tk i).x []) (Ac.nil _ L) rfl).mono ?_;rintro a2 gs ⟨z,ar,rfl,bn,cI,gf⟩;have ds:U (∃k X ar m,Ps E (Kn E) (CLx E) (E.tk i) m X k R j/\uz E W L B gs k p.heap.size i ar X z):=⟨_,_,ar,m,b0.out,⟨(pT cI).out.sp,cI.out.kt,cI.out.bl⟩,cI.out.ac,bn,tK (tB (tB bd d3) (bg _ _)) gf⟩;clear b0 cI gf bn d3 bd b1 cn d0 f6 bs bt bw bx bA bD ca;go_wp2_with fail
 case' inr=>
  subst en;rcases(by omega:N.k=34\/N.k=27\/(N.k≠34/\N.k≠27)) with hN|hN|hN;all_goals
   go_in;go_wp2_with fail;refine aJ (ja G d0 (by omega) (by omega)) fun p cn=>?_;obtain⟨i5,cB,b1,bd⟩:=uv (w:=p) G cn;simp only[ew]at cB;obtain⟨bs,bt,bw,bx,bA,bD⟩:=tC bd G;have ke:(one N ks).sz<=X.sz:=by rw[cw];unfold jn;split<;>simp only[aA]<;>omega
   go_wp2_with fail;refine(d6 _ _ _ b1.out.sp (by omega)).mono ?_;rintro a2 i6 ⟨z,fo,rfl,bn,d8⟩;have eb:=nP b1 d8;have ac:=nL b1 d8;have fA:=tK bd d8.kt;clear d8 cB bs bt bw bx bA bD;go_wp2_with fail;refine aJ (gG hf eb (by omega) (by omega)) fun i7 e0=>?_;have cq:=nX eb e0;have d2:=tK fA e0.2.1;clear e0;obtain⟨bs,bt,bw,bx,bA,bD⟩:=tC d2 G;obtain⟨d9,f7,f8⟩:=ac.out.top;obtain⟨cs,hd,hc,el,f5⟩:=cq.out.sp.kindAt f7;obtain⟨g8,hb,he⟩:=cq.out.sp.cells;obtain⟨q,eq⟩:=ay (L.length+ks.sz);have hy:z=(q:Int):=by rw[xF,eq]at bn;exact(po bn).1.symm
   rw[f8,eq]at el;rw[eq]at f5;subst hy;have hp:(0:Int)<=(q:Int):=by omega
   have ht:(q:Int)<(fo.length:Int):=by omega
   first
    |rw[hN]at el
    |(obtain⟨hg,hh⟩:=hN;have j2:(N.k==34)=A7:=by simp[hg]
      have j1:(N.k==27)=A7:=by simp[hh])
   clear f7 f8 d9;go_wp2_with fail;first
    |(refine(fL G _ _).mono ?_
      rintro a2 gs ⟨rfl,ei⟩;have fq:=nB cq ei;have fB:=tB d2 ei;clear ei;have cy:X=one (fp 37 (E.tk i) (E.tk bo).t) (one N ks):=by rw[cw];unfold jn;rw[ab (by omega)]
      go_wp2_with fail;refine(aas [(q:Int)] _ rfl (by simp) fq (by omega) (by omega) ⟨37,(E.tk i).f,0,(E.tk i).l,0,0,⟨#[]⟩,[],[(q:Int)]⟩ 1 rfl rfl rfl (by rw[ac.out.len];omega) (fp 37 (E.tk i) (E.tk bo).t) ac.out (by rw[bn];rfl)).mono ?_;rintro a2 i8 ⟨z,gu,rfl,f9,c3,gm⟩;rw[cy]at b0;have ds:U (∃k X ar m,Ps E (Kn E) (CLx E) (E.tk i) m X k R j/\uz E W L B i8 k p.heap.size i ar X z):=⟨_,_,gu,m,b0.out,⟨c3.out.sp,c3.out.kt,c3.out.bl⟩,c3.out.ac,f9,tK fB gm⟩;clear c3 gm fq fB cy f9;go_wp2_with fail)
    |(have cy:X=one N ks:=by rw[cw];unfold jn;rw[aa (by omega)]
      rw[cy]at b0;have ds:U (∃k X ar m,Ps E (Kn E) (CLx E) (E.tk i) m X k R j/\uz E W L B i7 k p.heap.size i ar X (q:Int)):=⟨_,_,fo,m,b0.out,cq,ac.out,bn,d2⟩;clear cy)
   clear b0 bn cq d2 eb fA b1 bd cn d0 ac bs bt bw bx bA bD g8 hb hc he el
 all_goals
  obtain⟨k,X,ar,m,cg,f4⟩:=ds.out;have fd:=gK cg f4;clear ds cg f4;go_loopg [3] m (fun gk i3 wr=>∃(k:Nat) (X:Fo) (h:Int) (L1:List Mb),i3= A0 Ax h/\U (Ps E (Kn E) (CLx E) (E.tk i) gk X k R j/\uz E W L B wr k p.heap.size i L1 X h))
  case atStart=>exact⟨k,X,_,ar,rfl,fd.out⟩
  case round=>
   clear fd;obtain⟨o,J,h,cm,rfl,fl⟩:=hrel;obtain⟨f3,d4⟩:=fl.out;have eg:=d4.tb;have ap:U (uz E W L B wr o p.heap.size i cm J h):=d4;have cz:U (cm.length=L.length+J.sz):=d4.ac.len;clear d4 fl;obtain⟨bs,bt,bw,bx,bA,bD⟩:=tC eg G;go_wp2_with fail;refine aJ (fL G _ _) fun a ek=>?_;have fk:U (uz E W L B a o p.heap.size i cm J h):=⟨nB ap.out.nw ek,ap.out.ac,ap.out.tp,tB eg ek⟩;clear ek bs bt bw bx bA bD eg;have cc:U (E.base<=a.heap.size):=fk.out.nw.out.sp.lt.2;obtain⟨kh,ch,al,cr⟩:=ajy fk (nN 33 (E.tk i));simp only[dy]at ch;have kf:=f3.le;cases f3 with
   |stop C F=>
    have j6:((E.tk j).k==48)=A7:=by have:=iw F;simp;omega
    have j5:((E.tk j).k==44)=A7:=by have:=iw F;simp;omega
    have j3:((E.tk j).k==40)=A7:=by have:=iw F;simp;omega
    go_wp2_with fail;refine aJ (iq rfl al.out.nw (by omega)) fun a4 d=>?_;have s:U (fD E W L ((a.heap.size,dy (nN 33 (E.tk i)) s0 (Q (M ⟨a.heap.size+1,0,O⟩) 1 1))::B) a4 _ _ _ _ (M ⟨a.heap.size+1,0,O⟩) 1 1):=al.out.below d;have a7:=tB cr d;clear d;clear ch;go_wp2_with fail;go_ret;exact⟨_,cm,rfl,ap.out.tp,ap.out.ac,s.out.nw.out.sp.tail,s.out.nw.out.kt,s.out.nw.out.bl⟩
   |@dot b4 _ _ _ _ C F ct u=>
    go_wp2_with fail;refine aJ (iq C al.out.nw (by omega)) fun a4 d=>?_;have s:U (fD E W L ((a.heap.size,dy (nN 33 (E.tk i)) s0 (Q (M ⟨a.heap.size+1,0,O⟩) 1 1))::B) a4 _ _ _ _ (M ⟨a.heap.size+1,0,O⟩) 1 1):=al.out.below d;have a7:=tB cr d;clear d;clear ch;go_wp2_with fail;refine aJ (gG C s.out.nw (by omega) (by omega)) fun b6 c=>?_;have H:U (fD E W L ((a.heap.size,dy (nN 33 (E.tk i)) s0 (Q (M ⟨a.heap.size+1,0,O⟩) 1 1))::B) b6 _ _ _ _ (M ⟨a.heap.size+1,0,O⟩) 1 1):=s.out.move c;have b2:=tK a7 c.2.1;clear c;go_wp2_with fail;refine aJ (gG F H.out.nw (by omega) (by omega)) fun a6 c=>?_;have v:U (fD E W L ((a.heap.size,dy (nN 33 (E.tk i)) s0 (Q (M ⟨a.heap.size+1,0,O⟩) 1 1))::B) a6 _ _ _ _ (M ⟨a.heap.size+1,0,O⟩) 1 1):=H.out.move c;have b3:=tK b2 c.2.1;clear c;obtain⟨cl,er,ji,g0⟩:=uv (w:=a6) F v.out.nw;have a8:=tB b3 (bg a6 (A6 (ew 1 (E.tk (o+1))) 96));have y:U (fD E W L _ (a6.alloc (A6 (ew 1 (E.tk (o+1))) 96)) _ _ _ _ _ _ _):=v.out.below (bg a6 (A6 (ew 1 (E.tk (o+1))) 96));rw[er]at a8 y;simp only[ew]at er;obtain⟨bs,bt,bw,bx,bA,bD⟩:=tC g0 F;obtain⟨c4,c6,c7,c8,c9,ca,df,dk,dn,dq⟩:=nC y.out.nw;obtain⟨ff,gb⟩:=y.out.boxq (q:=6) cc.out (B4 (E.tk (o+1)).x);have g:U (fD E W L ((a.heap.size,dy ⟨33,(E.tk i).f,0,(E.tk i).l,0,0,(E.tk (o+1)).x,[],[h]⟩ s0 (Q (M ⟨a.heap.size+1,0,O⟩) 1 1))::B) _ _ _ _ _ _ _ _):=ff;have a9:=tK a8 gb;clear ff gb;obtain⟨e1,e2,e3,e4,e5,e6,e7,e8,e9,fa⟩:=nC g.out.nw;go_wp2_with fail;clear er;refine(aey g.out.nw (by omega) (by omega) ⟨33,(E.tk i).f,0,(E.tk i).l,0,0,(E.tk (o+1)).x,[],[h]⟩ O _ 0 0 1 1 (bc _ _ _ _) g.out.ow (by have:=cz.out;have q:=u.le;rw[aA]at q;omega) (Fr.nil _ _ _) g.out.fr (nd 33 (E.tk i) (E.tk (o+1)).t 0 0 (E.tk (o+1)).x []) g.out.ac (by rw[ap.out.tp];rfl)).mono ?_;rintro a2 b8 ⟨ak,I,rfl,K,e,af⟩;have bE:U (uz E W L B b8 (o+2) p.heap.size i I (one (nd 33 (E.tk i) (E.tk (o+1)).t 0 0 (E.tk (o+1)).x []) J) ak):=⟨⟨(pT e).out.sp,e.out.kt,e.out.bl⟩,e.out.ac,K,tK a9 af⟩;clear e af K;go_wp2_with fail;go_roundg b4
    case measure=>omega
    case rel=>exact⟨o+2,_,ak,I,rfl,u,bE.out⟩
   |@sq b4 _ ad _ _ Y _ C F ct em f1 u=>
    go_wp2_with fail;refine aJ (iq C al.out.nw (by omega)) fun a4 d=>?_;have s:U (fD E W L ((a.heap.size,dy (nN 33 (E.tk i)) s0 (Q (M ⟨a.heap.size+1,0,O⟩) 1 1))::B) a4 _ _ _ _ (M ⟨a.heap.size+1,0,O⟩) 1 1):=al.out.below d;have a7:=tB cr d;clear d;clear ch;go_wp2_with fail;refine aJ (gG C s.out.nw (by omega) (by omega)) fun b6 c=>?_;have H:U (fD E W L ((a.heap.size,dy (nN 33 (E.tk i)) s0 (Q (M ⟨a.heap.size+1,0,O⟩) 1 1))::B) b6 _ _ _ _ (M ⟨a.heap.size+1,0,O⟩) 1 1):=s.out.move c;have b2:=tK a7 c.2.1;clear c;go_wp2_with fail;refine(ct _ _ _ H.out.nw.out.sp (by have:=cz.out;have q:=u.le;simp only[aA,Fo.sz_app]at q;omega)).mono ?_;rintro a2 a6 ⟨ea,i9,rfl,hA,ev⟩;have v:U (fD E W L ((a.heap.size,dy (nN 33 (E.tk i)) s0 (Q (M ⟨a.heap.size+1,0,O⟩) 1 1))::B) a6 _ _ (J.app Y) _ (M ⟨a.heap.size+1,0,O⟩) 1 1):=H.out.up ev;have b3:=tK b2 ev.kt;clear ev;go_wp2_with fail;refine aJ (gG em v.out.nw (by omega) (by omega)) fun cl c=>?_;have y:U (fD E W L ((a.heap.size,dy (nN 33 (E.tk i)) s0 (Q (M ⟨a.heap.size+1,0,O⟩) 1 1))::B) cl _ _ _ _ (M ⟨a.heap.size+1,0,O⟩) 1 1):=v.out.move c;have a8:=tK b3 c.2.1;clear c;obtain⟨c4,c6,c7,c8,c9,ca,df,dk,dn,dq⟩:=nC y.out.nw;obtain⟨br,d5,g,a9⟩:=y.out.boxk cc.out 32 a8;obtain⟨e1,e2,e3,e4,e5,e6,e7,e8,e9,fa⟩:=nC g.out.nw;go_wp2_with (at_builtin;refine dL rfl _ _ rfl E.base _ 1 1 [h] rfl rfl (aE g.out.ow (bg br _)) (by rw[aF];have:=g.out.nw.out.sp.lt.2;omega) br.heap.size ea rfl (aj br _) (by decide) ?_;intro bh a1 gr cF bk cb;have A:U (fD E W L _ gr _ _ _ [h,ea] (M ⟨bh,0,O⟩) 2 a1):=g.out.put cF bk cb;have hj:=bk;obtain⟨hD,hE,hG,hH,hI,hJ,hK,hL,h3,h4⟩:=nC A.out.nw;obtain⟨fg,hB⟩:=A.out.box cc.out (Q (M ⟨bh,0,O⟩) 2 a1);obtain⟨h6,h7,h8,h9,ih,ii,iy,i0,i1,i2⟩:=nC fg.nw;clear cF bk cb);have ao:U (fD E W L _ _ _ _ _ [h,ea] (M ⟨bh,0,O⟩) 2 a1):=fg;have d1:U (TB gr p.heap.size (E.tk i)):=tG g.out a9 hj;have ed:=tK d1 hB;refine(aey ao.out.nw (by omega) (by omega) ⟨32,(E.tk i).f,0,(E.tk i).l,0,0,⟨#[]⟩,[],[h,ea]⟩ O _ 0 0 _ _ (bc _ _ _ _) (by have:=ao.out.ow;have q:=ao.out.ln;simpa [q] using this) (by have:=ao.out.ac.len;have q:=u.le;simp only[aA,Fo.sz_app]at q this;omega) (Fr.nil _ _ _) ao.out.fr (fp 32 (E.tk i) (E.tk ad).t) ao.out.ac (by rw[Fo.tops_app,ap.out.tp,<-cz.out,hA];rfl)).mono ?_;rintro a2 b8 ⟨ak,I,rfl,K,e,af⟩;have bE:U (uz E W L B b8 (ad+1) p.heap.size i I (one (fp 32 (E.tk i) (E.tk ad).t) (J.app Y)) ak):=⟨⟨(pT e).out.sp,e.out.kt,e.out.bl⟩,e.out.ac,K,tK ed af⟩;clear e af K;go_wp2_with fail;go_roundg b4
    case measure=>omega
    case rel=>exact⟨ad+1,_,ak,I,rfl,u,bE.out⟩
   |@call0 b4 _ _ _ _ C F ct u=>
    go_wp2_with fail;refine aJ (iq C al.out.nw (by omega)) fun a4 d=>?_;have s:U (fD E W L ((a.heap.size,dy (nN 33 (E.tk i)) s0 (Q (M ⟨a.heap.size+1,0,O⟩) 1 1))::B) a4 _ _ _ _ (M ⟨a.heap.size+1,0,O⟩) 1 1):=al.out.below d;have a7:=tB cr d;clear d;clear ch;go_wp2_with fail;refine aJ (gG C s.out.nw (by omega) (by omega)) fun b6 c=>?_;have H:U (fD E W L ((a.heap.size,dy (nN 33 (E.tk i)) s0 (Q (M ⟨a.heap.size+1,0,O⟩) 1 1))::B) b6 _ _ _ _ (M ⟨a.heap.size+1,0,O⟩) 1 1):=s.out.move c;have b2:=tK a7 c.2.1;clear c;obtain⟨c4,c6,c7,c8,c9,ca,df,dk,dn,dq⟩:=nC H.out.nw;obtain⟨a6,d5,v,b3⟩:=H.out.boxk cc.out 34 b2;obtain⟨e1,e2,e3,e4,e5,e6,e7,e8,e9,fa⟩:=nC v.out.nw;go_wp2_with fail;refine aJ (iq F v.out.nw (by omega)) fun cl d=>?_;have y:U (fD E W L ((a.heap.size,dy (nN 34 (E.tk i)) s0 (Q (M ⟨a.heap.size+1,0,O⟩) 1 1))::B) cl _ _ _ _ (M ⟨a.heap.size+1,0,O⟩) 1 1):=v.out.below d;have a8:=tB b3 d;clear d d5;go_wp2_with fail;refine aJ (gG F y.out.nw (by omega) (by omega)) fun br c=>?_;have g:U (fD E W L ((a.heap.size,dy (nN 34 (E.tk i)) s0 (Q (M ⟨a.heap.size+1,0,O⟩) 1 1))::B) br _ _ _ _ (M ⟨a.heap.size+1,0,O⟩) 1 1):=y.out.move c;have a9:=tK a8 c.2.1;clear c;obtain⟨h6,h7,h8,h9,ih,ii,iy,i0,i1,i2⟩:=nC g.out.nw;go_wp2_with fail;refine(aey g.out.nw (by omega) (by omega) ⟨34,(E.tk i).f,0,(E.tk i).l,0,0,⟨#[]⟩,[],[h]⟩ O _ 0 0 _ _ (bc _ _ _ _) (by have:=g.out.ow;have q:=g.out.ln;simpa [q] using this) (by have:=g.out.ac.len;have q:=u.le;simp only[aA,Fo.sz_app]at q this;omega) (Fr.nil _ _ _) g.out.fr (fp 34 (E.tk i) (E.tk (o+1)).t) g.out.ac (by rw[ap.out.tp];rfl)).mono ?_;rintro a2 b8 ⟨ak,I,rfl,K,e,af⟩;have bE:U (uz E W L B b8 (o+2) p.heap.size i I (one (fp 34 (E.tk i) (E.tk (o+1)).t) J) ak):=⟨⟨(pT e).out.sp,e.out.kt,e.out.bl⟩,e.out.ac,K,tK a9 af⟩;clear e af K;go_wp2_with fail;go_roundg b4
    case measure=>omega
    case rel=>exact⟨o+2,_,ak,I,rfl,u,bE.out⟩
   |@call b4 _ ad _ _ Y _ C F ct em f1 j7 u=>
    have j4:((E.tk (o+1)).k !=41)=B2:=by simp[ct]
    go_wp2_with fail;refine aJ (iq C al.out.nw (by omega)) fun a4 d=>?_;have s:U (fD E W L ((a.heap.size,dy (nN 33 (E.tk i)) s0 (Q (M ⟨a.heap.size+1,0,O⟩) 1 1))::B) a4 _ _ _ _ (M ⟨a.heap.size+1,0,O⟩) 1 1):=al.out.below d;have a7:=tB cr d;clear d;clear ch;go_wp2_with fail;refine aJ (gG C s.out.nw (by omega) (by omega)) fun b6 c=>?_;have H:U (fD E W L ((a.heap.size,dy (nN 33 (E.tk i)) s0 (Q (M ⟨a.heap.size+1,0,O⟩) 1 1))::B) b6 _ _ _ _ (M ⟨a.heap.size+1,0,O⟩) 1 1):=s.out.move c;have b2:=tK a7 c.2.1;clear c;obtain⟨c4,c6,c7,c8,c9,ca,df,dk,dn,dq⟩:=nC H.out.nw;obtain⟨a6,d5,v,b3⟩:=H.out.boxk cc.out 34 b2;obtain⟨e1,e2,e3,e4,e5,e6,e7,e8,e9,fa⟩:=nC v.out.nw;go_wp2_with fail;refine aJ (iq rfl v.out.nw (by omega)) fun cl d=>?_;have y:U (fD E W L ((a.heap.size,dy (nN 34 (E.tk i)) s0 (Q (M ⟨a.heap.size+1,0,O⟩) 1 1))::B) cl _ _ _ _ (M ⟨a.heap.size+1,0,O⟩) 1 1):=v.out.below d;have a8:=tB b3 d;clear d d5;go_wp2_with fail;refine(em _ _ _ y.out.nw.out.sp (by have:=cz.out;have q:=u.le;simp only[aA,Fo.sz_app]at q;omega)).mono ?_;rintro a2 br ⟨h5,fn,rfl,⟨f0,_⟩,d7,ex⟩;obtain⟨a3,ep⟩:=ay Y.len;obtain⟨r,ce⟩:=ay (Y.tops cm.length);have et:r.length=a3:=by rw[<-ce,Fo.tops_len,ep]
    rw[ep,ce]at d7;have fz:U (ll E br h5 r (Q (M ⟨a.heap.size+1,0,O⟩) 1 1)):=aeG (Y:=Y) y.out (by rw[et];exact d7) f0;have g:U (fD E W L ((a.heap.size,dy (nN 34 (E.tk i)) s0 (Q (M ⟨a.heap.size+1,0,O⟩) 1 1))::B) br _ _ (J.app Y) _ (M ⟨a.heap.size+1,0,O⟩) 1 1):=y.out.up ex;have a9:=tK a8 ex.kt;have kd:a3<=50000000:=by have q:=u.le;have kg:=Y.len_le;simp only[aA,Fo.sz_app]at q;omega
    have dz:=gK ce et;obtain⟨eh,fF,rfl⟩:=bz d7;clear ex f0 d7 ce et ep;have fu:=iD g.out fz.out a9.out;clear g fz a9;go_wp2_with fail;go_loopw [95] (fun fb wr=>∃(q an:Nat) (a0:Option Addr),q<=a3/\fb= A0 Ax q/\U (fD E W L ((a.heap.size,dy (nN 34 (E.tk i)) s0 (Q a0 (q+1) an))::B) wr ad fn (J.app Y) (h::r.take q) a0 (q+1) an/\ll E wr (Q eh a3 fF) r (Q a0 (q+1) an)/\TB wr p.heap.size (E.tk i))) (fun fb _=>a3-(A5 fb).toNat)
    case atStart=>exact⟨0,1,_,aL _,rfl,fu⟩
    case round=>
     clear fu;obtain⟨q,an,a0,f5,rfl,fm⟩:=hrel;obtain⟨ge,gn,gp⟩:=fm.out;have A:U (fD E W L ((a.heap.size,dy (nN 34 (E.tk i)) s0 (Q a0 (q+1) an))::B) _ ad fn (J.app Y) (h::r.take q) a0 (q+1) an):=ge;have d1:U (TB _ p.heap.size (E.tk i)):=gp;have ec:U (ll E _ (Q eh a3 fF) r (Q a0 (q+1) an)):=gn;clear ge gn gp fm;by_cases hn:q<a3
     ·obtain⟨x,d6⟩:=bL dz.out.2 hn;obtain⟨cs,rfl⟩:∃cs,eh=M ⟨cs,0,O⟩:=by
       rcases bp ec.out.ow with⟨j8,_⟩|⟨cs,hd,hw⟩
       ·have:=dz.out.2;omega
       ·exact⟨cs,(AE hw).1⟩
      have j0:=ec.out.at d6;have hp:(0:Int)<=(q:Int):=by omega
      have ht:(q:Int)<(a3:Int):=by omega
      obtain⟨c4,c6,c7,c8,c9,ca,df,dk,dn,dq⟩:=nC A.out.nw;have ho:q+1<=50000000:=by omega
      have hm:(h::r.take q).length=q+1:=A.out.ln;go_wp2_with (first|(at_builtin;refine dL rfl _ _ rfl E.base _ (q+1) an (h::r.take q) rfl hm (aE A.out.ow (bg _ _)) (by rw[aF];have:=A.out.nw.out.sp.lt.2;omega) _ x rfl (aj _ _) ho ?_;intro bh a1 fc cF bk cb;have ao:U (fD E W L _ fc _ _ _ (h::r.take q++[x]) (M ⟨bh,0,O⟩) (q+1+1) a1):=A.out.put cF bk cb;have gv:U (ll E fc _ r (Q (M ⟨bh,0,O⟩) (q+1+1) a1)):=ec.out.put bk cb;have ed:U (TB fc p.heap.size (E.tk i)):=tG A.out d1 bk;obtain⟨hD,hE,hG,hH,hI,hJ,hK,hL,h3,h4⟩:=nC ao.out.nw;obtain⟨gt,gd⟩:=ao.out.box cc.out (Q (M ⟨bh,0,O⟩) (q+1+1) a1);clear cF bk cb)|fail);have ef:=tK ed gd;have gz:U (ll E _ _ r (Q (M ⟨bh,0,O⟩) (q+1+1) a1)):=gv.out.kt gd;have am:=gt;rw[show h::r.take q++[x]=h::r.take (q+1) by rw[fK,d6];rfl]at am;exact⟨⟨q+1,a1,_,by omega,by go_num,am,gz.out,ef.out⟩,by simp[A5];omega⟩
     ·obtain rfl:q=a3:=by omega
      have ce:r.take q=r:=fs (by rw[dz.out.2];exact ae _);rw[ce]at A;go_wp2_with fail;refine aJ (gG f1 A.out.nw (by omega) (by omega)) fun i4 c=>?_;have am:U (fD E W L ((a.heap.size,dy (nN 34 (E.tk i)) s0 (Q a0 (q+1) an))::B) i4 _ _ _ _ a0 (q+1) an):=A.out.move c;have ef:=tK d1 c.2.1;clear c;obtain⟨c4,c6,c7,c8,c9,ca,df,dk,dn,dq⟩:=nC am.out.nw;go_wp2_with fail;refine(aey am.out.nw (by omega) (by omega) ⟨34,(E.tk i).f,0,(E.tk i).l,0,0,⟨#[]⟩,[],h::r⟩ O _ 0 0 _ _ (bc _ _ _ _) (by rw[am.out.ln];exact am.out.ow) (by have:=am.out.ac.len;have q:=u.le;simp only[aA,Fo.sz_app]at q this;omega) (Fr.nil _ _ _) am.out.fr (fp 34 (E.tk i) (E.tk ad).t) am.out.ac (by rw[Fo.tops_app,ap.out.tp,<-cz.out,dz.out.1];rfl)).mono ?_;rintro a2 b8 ⟨ak,I,rfl,K,e,af⟩;have bE:U (uz E W L B b8 (ad+1) p.heap.size i I (one (fp 34 (E.tk i) (E.tk ad).t) (J.app Y)) ak):=⟨⟨(pT e).out.sp,e.out.kt,e.out.bl⟩,e.out.ac,K,tK ef af⟩;clear e af K;go_wp2_with fail;go_roundg b4
      case measure=>omega
      case rel=>exact⟨ad+1,_,ak,I,rfl,u,bE.out⟩
theorem aeH{R:Fo}{m:Nat}(c:(E.tk i).k=1)(a:i<E.n)(d:i+1<E.n)(e:Ps E (Kn E) (CLx E) (E.tk i) m (one (nd 26 (E.tk i) (E.tk i).t 0 0 (E.tk i).x []) .nil) (i+1) R j):CB E i R j:=aid c a (.inl ⟨rfl,rfl,rfl⟩) d e
theorem aeI{R:Fo}{m:Nat}{N:Nd}{ks:Fo}(e:(E.tk i).k=40)(c:i<E.n)(h:Kn E (i+1) (one N ks) k)(a:(E.tk k).k=41)(d:i+1<=k)(f:k+1<E.n)(g:Ps E (Kn E) (CLx E) (E.tk i) m (jn N ks (E.tk i) (E.tk k).t) (k+1) R j):CB E i R j:=aid e c (.inr ⟨rfl,N,ks,k,h,a,rfl,d,rfl⟩) f g
end
section
variable {E : Pe} {i j : Nat}
def CuT(E:Pe)(i:Nat)(w':A4):Prop:=w'.cell? ⟨E.pb,0,O⟩=M (Q (M ⟨E.tb,0,O⟩) E.n E.cap)/\w'.cell? ⟨E.pb,1,O⟩=M (A0 Ax (i:Int))/\w'.cell? ⟨E.tb,i*6,O⟩=M (A0 Ax (E.tk i).k)/\w'.cell? ⟨E.tb,i*6+1,O⟩=M (A0 Ax (E.tk i).f)/\w'.cell? ⟨E.tb,i*6+2,O⟩=M (A0 Ax (E.tk i).t)/\w'.cell? ⟨E.tb,i*6+3,O⟩=M (A0 Ax (E.tk i).l)/\w'.cell? ⟨E.tb,i*6+4,O⟩=M (A0 Ax (E.tk i).n)/\w'.cell? ⟨E.tb,i*6+5,O⟩=M (B4 (E.tk i).x)
theorem Sp.cut{W:A4}{L:List Mb}{B:List (Nat×Array A9)}(h:Sp E W i L B)(e:i<E.n)(d:(E.tk i).k≠6):CuT E i W:=by
 obtain⟨a,c,r⟩:=h.cells;obtain⟨f,g,l,m,o,p⟩:=h.tkw e d;exact⟨a,c,f,g,l,m,o,p⟩
theorem bdN(w:A4)(n:Nat):A8 w.heap.size w (w.drewN n):=⟨rfl,rfl,rfl,ae _,fun _ _=>rfl⟩
theorem ab2{k:Int}(b6:k=1\/k=40)(a2:(E.tk i).k=k)(A:i<E.n){x:Fo}(bA:CB E i x j)(bt:(E.tk j).k≠46)(bw:(E.tk j).k≠47)(bx:j<E.n)(b8:i+1<=j):CI E 102 #[pV E] i (one (fp 6 (E.tk i) (E.tk (j-1)).t) x) j:=by
 intro W L B I a3;have y:(E.tk i).k≠6:=by omega
 have G:=gl.start I;have hS:U (∀w',A8 W.heap.size W w'->CuT E i w'):=fun w' b=>(I.below b).cut A y;have a1:(i:Int)<(E.n:Int):=by omega
 have a0:(0:Int)<=(i:Int):=by omega
 have b7:=I.hn;have a4:IntKind.i64.wrap (i:Int)=(i:Int):=by rw[di];omega
 clear I;go_in;go_wp2_with fail;refine B1 (S:=CuT E i) (by kernel_rfl) (hS.out _ (cj (ag _ _))) (fun a=>?_);simp only[gi,bv,dd,Nat.reduceAdd,gh,gC,gD,de,ej];refine bq 0 (A3 (M ⟨E.pb,0,O⟩)) rfl rfl (by kernel_rfl) (fun _ _ _=>id) a (fun w' ⟨l,m,o,p,r,s,u,v⟩=>by go_simp) ?_;simp only[Z];refine bq 1 (A3 (M ⟨E.pb,0,O⟩)) rfl rfl (by kernel_rfl) (fun _ _ _=>id) a (fun w' ⟨l,m,o,p,r,s,u,v⟩=>by go_simp) ?_;simp only[Z];refine bq 2 (A3 (M ⟨E.pb,0,O⟩)) rfl rfl (by kernel_rfl) (fun _ _ _=>id) a (fun w' ⟨l,m,o,p,r,s,u,v⟩=>by go_simp) ?_;simp only[Z];refine bq 3 (Q (M ⟨E.tb,0,O⟩) E.n E.cap) rfl rfl (by kernel_rfl) (fun _ _ _=>id) a (fun w' ⟨l,m,o,p,r,s,u,v⟩=>by go_simp) ?_;simp only[Z];refine bq 4 (A3 (M ⟨E.pb,0,O⟩)) rfl rfl (by kernel_rfl) (fun _ _ _=>id) a (fun w' ⟨l,m,o,p,r,s,u,v⟩=>by go_simp) ?_;simp only[Z];refine bq 5 (A3 (M ⟨E.pb,0,O⟩)) rfl rfl (by kernel_rfl) (fun _ _ _=>id) a (fun w' ⟨l,m,o,p,r,s,u,v⟩=>by go_simp) ?_;simp only[Z];refine bq 6 (A3 (M ⟨E.pb,1,O⟩)) rfl rfl (by kernel_rfl) (fun _ _ _=>id) a (fun w' ⟨l,m,o,p,r,s,u,v⟩=>by go_simp) ?_;simp only[Z];refine bq 7 (A0 Ax (i:Int)) rfl rfl (by kernel_rfl) (fun _ _ _=>id) a (fun w' ⟨l,m,o,p,r,s,u,v⟩=>by go_simp) ?_;simp only[Z];refine bq 8 (A3 (M ⟨E.tb,i*6,O⟩)) rfl rfl (by kernel_rfl) (fun _ _ _=>id) a (fun w' ⟨l,m,o,p,r,s,u,v⟩=>by go_simp) ?_;simp only[Z];refine bq 9 (B3 (ew (E.tk i).k (E.tk i))) rfl rfl (by kernel_rfl) (fun _ _ _=>id) a (fun w' ⟨l,m,o,p,r,s,u,v⟩=>by go_simp) ?_;simp only[Z];refine A2 (rs:=[10,11]) (by kernel_rfl) (by simp) (V rfl (fun e c=>?_) (V rfl (fun e c=>?_) A1))
 case' refine_1=>
  go_simp;refine aJ (fL a2 _ _) fun an C=>?_;have g:=nB (nB G (cj (ag _ _))) C;refine c.out _ _ (g.out.sp.cut A y) (fun a=>?_);clear c e;try simp only[bG,bH,bI]
  refine A2 (rs:=[11]) (by kernel_rfl) (by simp) (V rfl (fun e c=>?_) A1);go_simp;refine c.out _ _ ((nB g (bg _ _)).out.sp.cut A y) (fun a=>?_);clear c e;try simp only[bG,bH,bI]
  refine A2 (rs:=[12]) (by kernel_rfl) (by simp) (V rfl (fun e c=>?_) A1);go_simp;have h:=nA g (dy (nN 5 (E.tk i)) s0 s0);have d:=aw g.out.sp.lt.2;refine c.out _ _ (h.out.sp.cut A y) (fun a=>?_);clear c e;refine wpAnyH_done (by kernel_rfl) ?_ _;clear g C a;generalize F:an.alloc _=a6 at h⊢;generalize an.heap.size=b at h d⊢;clear F
 case' refine_2=>
  go_simp;have ak:=nB (nA G (dy ⟨0,0,0,0,0,0,⟨#[]⟩,[],[]⟩ s0 s0)) (cj (ag _ _));refine c.out _ _ (ak.out.sp.cut A y) (fun a=>?_);clear c e;try simp only[bG,bH,bI]
  refine A2 (rs:=[10]) (by kernel_rfl) (by simp) (V rfl (fun e c=>?_) A1);go_simp;refine aJ (fL a2 _ _) fun an C=>?_;have g:=nB ak C;refine c.out _ _ (g.out.sp.cut A y) (fun a=>?_);clear c e;try simp only[bG,bH,bI]
  obtain⟨a7,a8,a9,bb,bd,bh,bk,bl,ap,bn⟩:=nC g;refine A2 (rs:=[12]) (by kernel_rfl) (by simp) (V rfl (fun e c=>?_) A1);go_simp;have d:=aw G.out.sp.lt.2;have H:=nS (nS (nS (nS (nS (nS (nS (nS (nS g d.out 0 (A0 Ax 5)) d.out 1 (A0 Ax (E.tk i).f)) d.out 2 (A0 Ax 0)) d.out 3 (A0 Ax (E.tk i).l)) d.out 4 (A0 Ax 0)) d.out 5 (A0 Ax 0)) d.out 6 (B4 ⟨#[]⟩)) d.out 7 s0) d.out 8 s0;refine c.out _ _ (H.out.sp.cut A y) (fun a=>?_);clear c e;refine wpAnyH_done (by kernel_rfl) ?_ _;generalize F:World.setCell _ _ _=a6 at H⊢;have h:=aw H;clear g C ak a a7 a8 a9 bb bd bh bk bl ap bn H F;obtain⟨b,J⟩:=ay W.heap.size;rw[J]at d;rw[show Value.pointer (M ⟨W.heap.size,0,O⟩)=Value.pointer (M ⟨b,0,O⟩) by rw[J]];replace h:U (gl E W a6 i L ((b,dy (nN 5 (E.tk i)) s0 s0)::B)):=by rw[<-J];exact h
  clear J
 all_goals
  clear G hS a1 a0 a4;go_wp2_with fail;refine(bA _ _ _ h.out.sp (by simp only[aA]at a3;omega)).mono ?_;rintro bs a5 ⟨z,bo,rfl,F,am⟩;have K:=nP h am;have ac:=nL h am;clear am;obtain⟨b2,b3,b4⟩:=K.out.sp.cells;obtain⟨ce,b9,ck,cl,cm,cn,cq,cr⟩:=K.out.sp.tok bx;have a1:(j:Int)<(E.n:Int):=by omega
  have a0:(0:Int)<=(j:Int):=by omega
  have cg:((E.tk j).k !=46)=B2:=by simp[bt]
  have ch:((E.tk j).k !=47)=B2:=by simp[bw]
  have a4:IntKind.i64.wrap (j:Int)=(j:Int):=by rw[di];omega
  go_wp2_with fail;go_quiet (fail)
  have ad:=nB K (bdN a5 nq);generalize a5.drewN nq=b0 at ad⊢;obtain⟨a7,a8,a9,bb,bd,bh,bk,bl,ap,bn⟩:=nC ad;obtain⟨ao,cb,af⟩:∃ao,b0.setCell ⟨b,0,O⟩ (A0 Ax 6)=ao/\U (gl E W ao j bo ((b,dy (nN 6 (E.tk i)) s0 s0)::B)):=⟨_,rfl,nS ad d.out 0 _⟩;obtain⟨c2,ca,av,br,cc⟩:=nKI [z] #[A0 Ax z] rfl 1 rfl af d.out (by decide);have ar:=nCA af;have ap:=fun al=>(ar al).1;have c4:=fun al=>(ar al).2;clear ar;obtain⟨cs,ct,cv,cw,cx,cy,cz,cB,cF,cI⟩:=nC av;go_wp2_with fail;refine(mC av (by omega) (by omega) ⟨6,(E.tk i).f,0,(E.tk i).l,0,0,⟨#[]⟩,[],[z]⟩ O _ 0 0 _ _ (bc _ _ _ _) br.out (by rw[ac.out.len];simp only[aA]at a3;omega) (Fr.nil _ _ _) (Fr.new af.out.kt.size) (fp 6 (E.tk i) (E.tk (j-1)).t) ac.out (by rw[F];rfl)).mono ?_;rintro bs c3 ⟨c5,b1,rfl,bD,bE⟩;go_wp2_with fail;go_ret;exact⟨_,_,rfl,bD,(pT bE).out⟩
end
section
variable {E : Pe} {i j : Nat}
abbrev nS5(T:Tk)(q:Int):Nd:=⟨5,T.f,0,T.l,0,q,⟨#[]⟩,[],[]⟩
theorem KB{c7:Int}{k am m:Nat}(hh:c7=1\/c7=40)(eq:(E.tk i).k=c7)(a0:i<E.n){x R Ex:Fo}(gp:CB E i x k)(c4:Ls E (CB E) m k R am)(cw:(E.tk am).k=47)(f5:am<E.n)(f4:CLx E (am+1) Ex j)(f6:k<E.n)(ho:am+1<=j)(hp:j<=E.n):CI E 102 #[pV E] i (one (nd 5 (E.tk i) (E.tk (j-1)).t 0 ((x.app R).len:Nat) z0 []) ((x.app R).app Ex)) j:=by
 have hkk:(E.tk k).k=46\/(E.tk k).k=47:=by
  cases c4 with
  |stop _ _=>exact .inr cw
  |go a8 _ _ _=>exact .inl a8
 have eb:=aw c4;clear c4;intro W L B a8 cF;have ar:(E.tk i).k≠6:=by omega
 have b6:=gl.start a8;have hS:U (∀w',A8 W.heap.size W w'->CuT E i w'):=fun w' b=>(a8.below b).cut a0 ar;have cB:(i:Int)<(E.n:Int):=by omega
 have cz:(0:Int)<=(i:Int):=by omega
 have hm:=a8.hn;have c6:IntKind.i64.wrap (i:Int)=(i:Int):=by rw[di];omega
 clear a8;go_in;go_wp2_with fail;refine B1 (S:=CuT E i) (by kernel_rfl) (hS.out _ (cj (ag _ _))) (fun d=>?_);simp only[gi,bv,dd,Nat.reduceAdd,gh,gC,gD,de,ej];refine bq 0 (A3 (M ⟨E.pb,0,O⟩)) rfl rfl (by kernel_rfl) (fun _ _ _=>id) d (fun w' ⟨G,H,I,J,K,ad,af,ak⟩=>by go_simp) ?_;simp only[Z];refine bq 1 (A3 (M ⟨E.pb,0,O⟩)) rfl rfl (by kernel_rfl) (fun _ _ _=>id) d (fun w' ⟨G,H,I,J,K,ad,af,ak⟩=>by go_simp) ?_;simp only[Z];refine bq 2 (A3 (M ⟨E.pb,0,O⟩)) rfl rfl (by kernel_rfl) (fun _ _ _=>id) d (fun w' ⟨G,H,I,J,K,ad,af,ak⟩=>by go_simp) ?_;simp only[Z];refine bq 3 (Q (M ⟨E.tb,0,O⟩) E.n E.cap) rfl rfl (by kernel_rfl) (fun _ _ _=>id) d (fun w' ⟨G,H,I,J,K,ad,af,ak⟩=>by go_simp) ?_;simp only[Z];refine bq 4 (A3 (M ⟨E.pb,0,O⟩)) rfl rfl (by kernel_rfl) (fun _ _ _=>id) d (fun w' ⟨G,H,I,J,K,ad,af,ak⟩=>by go_simp) ?_;simp only[Z];refine bq 5 (A3 (M ⟨E.pb,0,O⟩)) rfl rfl (by kernel_rfl) (fun _ _ _=>id) d (fun w' ⟨G,H,I,J,K,ad,af,ak⟩=>by go_simp) ?_;simp only[Z];refine bq 6 (A3 (M ⟨E.pb,1,O⟩)) rfl rfl (by kernel_rfl) (fun _ _ _=>id) d (fun w' ⟨G,H,I,J,K,ad,af,ak⟩=>by go_simp) ?_;simp only[Z];refine bq 7 (A0 Ax (i:Int)) rfl rfl (by kernel_rfl) (fun _ _ _=>id) d (fun w' ⟨G,H,I,J,K,ad,af,ak⟩=>by go_simp) ?_;simp only[Z];refine bq 8 (A3 (M ⟨E.tb,i*6,O⟩)) rfl rfl (by kernel_rfl) (fun _ _ _=>id) d (fun w' ⟨G,H,I,J,K,ad,af,ak⟩=>by go_simp) ?_;simp only[Z];refine bq 9 (B3 (ew (E.tk i).k (E.tk i))) rfl rfl (by kernel_rfl) (fun _ _ _=>id) d (fun w' ⟨G,H,I,J,K,ad,af,ak⟩=>by go_simp) ?_;simp only[Z];refine A2 (rs:=[10,11]) (by kernel_rfl) (by simp) (V rfl (fun p g=>?_) (V rfl (fun p g=>?_) A1))
 case' refine_1=>
  go_simp;refine aJ (fL eq _ _) fun A bD=>?_;have u:=nB (nB b6 (cj (ag _ _))) bD;refine g.out _ _ (u.out.sp.cut a0 ar) (fun d=>?_);clear g p;try simp only[bG,bH,bI]
  refine A2 (rs:=[11]) (by kernel_rfl) (by simp) (V rfl (fun p g=>?_) A1);go_simp;refine g.out _ _ ((nB u (bg _ _)).out.sp.cut a0 ar) (fun d=>?_);clear g p;try simp only[bG,bH,bI]
  refine A2 (rs:=[12]) (by kernel_rfl) (by simp) (V rfl (fun p g=>?_) A1);go_simp;have l:=nA u (dy (nN 5 (E.tk i)) s0 s0);have h:=aw u.out.sp.lt.2;refine g.out _ _ (l.out.sp.cut a0 ar) (fun d=>?_);clear g p;refine wpAnyH_done (by kernel_rfl) ?_ _;clear u bD d;generalize a1:A.alloc _=fo at l⊢;generalize A.heap.size=b at l h⊢;clear a1
 case' refine_2=>
  go_simp;have cn:=nB (nA b6 (dy ⟨0,0,0,0,0,0,⟨#[]⟩,[],[]⟩ s0 s0)) (cj (ag _ _));refine g.out _ _ (cn.out.sp.cut a0 ar) (fun d=>?_);clear g p;try simp only[bG,bH,bI]
  refine A2 (rs:=[10]) (by kernel_rfl) (by simp) (V rfl (fun p g=>?_) A1);go_simp;refine aJ (fL eq _ _) fun A bD=>?_;have u:=nB cn bD;refine g.out _ _ (u.out.sp.cut a0 ar) (fun d=>?_);clear g p;try simp only[bG,bH,bI]
  obtain⟨bk,bl,bn,bo,br,bs,bt,bw,a3,bx⟩:=nC u;refine A2 (rs:=[12]) (by kernel_rfl) (by simp) (V rfl (fun p g=>?_) A1);go_simp;have h:=aw b6.out.sp.lt.2;have b8:=nS (nS (nS (nS (nS (nS (nS (nS (nS u h.out 0 (A0 Ax 5)) h.out 1 (A0 Ax (E.tk i).f)) h.out 2 (A0 Ax 0)) h.out 3 (A0 Ax (E.tk i).l)) h.out 4 (A0 Ax 0)) h.out 5 (A0 Ax 0)) h.out 6 (B4 ⟨#[]⟩)) h.out 7 s0) h.out 8 s0;refine g.out _ _ (b8.out.sp.cut a0 ar) (fun d=>?_);clear g p;refine wpAnyH_done (by kernel_rfl) ?_ _;generalize a1:World.setCell _ _ _=fo at b8⊢;have l:=aw b8;clear u bD cn d bk bl bn bo br bs bt bw a3 bx b8 a1;obtain⟨b,cb⟩:=ay W.heap.size;rw[cb]at h;rw[show Value.pointer (M ⟨W.heap.size,0,O⟩)=Value.pointer (M ⟨b,0,O⟩) by rw[cb]];replace l:U (gl E W fo i L ((b,dy (nN 5 (E.tk i)) s0 s0)::B)):=by rw[<-cb];exact l
  clear cb
 all_goals
  clear b6 hS cB cz c6;go_wp2_with fail;refine(gp _ _ _ l.out.sp (by simp only[aA,Fo.sz_app]at cF;omega)).mono ?_;rintro b9 fn ⟨z,cl,rfl,a1,df⟩;have a6:=nP l df;have ac:=nL l df;clear df;obtain⟨fF,f0,f1⟩:=a6.out.sp.cells;obtain⟨hA,f7,ch,dn,dq,ds,dz,d0⟩:=a6.out.sp.tok f6;have cB:(k:Int)<(E.n:Int):=by omega
  have cz:(0:Int)<=(k:Int):=by omega
  have c6:IntKind.i64.wrap (k:Int)=(k:Int):=by rw[di];omega
  go_wp2_with fail;rcases hkk with hkk|hkk;all_goals
   rw[hkk]at ch;go_quiet (fail)
   have ap:=nB a6 (bdN fn nq);generalize fn.drewN nq=d3 at ap⊢;obtain⟨bk,bl,bn,bo,br,bs,bt,bw,a3,bx⟩:=nC ap;obtain⟨fl,gm,b7,ef,gr⟩:=nKI [z] #[A0 Ax z] rfl 1 rfl ap h.out (by decide);have d5:=nCA ap;have a3:=fun c9=>(d5 c9).1;have ha:=fun c9=>(d5 c9).2;clear d5;obtain⟨e7,e8,e9,fa,fb,fc,fd,ff,fg,fk⟩:=nC b7;obtain⟨b1,gn,ed,e0⟩:∃b1,fl.setCell ⟨b,5,O⟩ (A0 Ax 1)=b1/\U (gl E W b1 k cl ((b,dy (nS5 (E.tk i) (1)) s0 (Q (M ⟨d3.heap.size,0,O⟩) 1 1))::B))/\Kt fl b1:=⟨_,rfl,nS b7 h.out 5 _,b7.out.sp.kset 5 _⟩;have d7:U (fi E W L ((b,dy (nS5 (E.tk i) ((1:Nat))) s0 (Q (M ⟨d3.heap.size,0,O⟩) 1 1))::B) b1 k cl x (M ⟨d3.heap.size,0,O⟩) 1 1):=⟨ed,ac.out,by rw[<-Fo.tops_len x L.length,a1];rfl,by rw[a1];exact e0.row ef.out (by decide) (by decide),Fr.new ap.out.kt.size,tm ap.out.sp (ae _)⟩;go_wp2_with fail;clear gm gn fF f0 f1 ch dn dq ds dz d0 cB cz c6 bk bl bn bo br bs bt bw a3 bx e7 e8 e9 fa fb fc fd ff fg fk ha l a6 ap b7 ed ef gr e0 ac a1 f7;go_loopg [4] m (fun gk g9 wr=>∃(k:Nat) (D cq:Fo) (fq:Int) (c:Option Addr) (n a:Nat) (L1:List Mb),g9= A0 Ax fq/\U (Ls E (CB E) gk k cq am/\fi E W L ((b,dy (nS5 (E.tk i) ((n:Int))) s0 (Q c n a))::B) wr k L1 D c n a/\D.app cq=x.app R))
   case atStart=>exact⟨k,x,R,z,_,1,1,cl,rfl,eb.out,d7.out,rfl⟩
   case round=>
    clear d7 eb;obtain⟨gt,D,cq,fq,c,n,a,al,rfl,ck⟩:=hrel;obtain⟨f3,a9,bE⟩:=ck.out;cases f3 with
    |stop en ct=>
     have cm:=a9.nw;have cy:D=x.app R:=by rw[<-bE,Fo.app_nil]
     have a4:=aw a9;clear a9 bE ck;go_wp2_with fail;refine aJ (isN (by rw[cw];decide) cm ct) fun d2 ek=>?_;have an:U (fi E W L ((b,dy (nS5 (E.tk i) (n:Int)) s0 (Q c n a))::B) d2 _ al D c n a):=a4.out.below ek;clear ek;go_wp2_with fail;refine aJ (gG cw an.out.nw f5 (by omega)) fun a2 e5=>?_;have C:U (fi E W L ((b,dy (nS5 (E.tk i) (n:Int)) s0 (Q c n a))::B) a2 (am+1) al D c n a):=an.out.move e5;clear e5;have bA:U (fD E W L ((b,dy (nS5 (E.tk i) (n:Int)) s0 (Q c n a))::B) a2 (am+1) al D (D.tops L.length) c n a):=⟨C.out.nw,C.out.ac,by rw[Fo.tops_len];exact C.out.ln,C.out.ow,C.out.fr,C.out.sv⟩;have es:L.length+(D.app Ex).sz+1<=50000000:=by rw[cy];simp only[aA,Fo.sz_app]at cF⊢;omega
     have cI:al.length=L.length+D.sz:=C.out.ac.len;go_wp2_with fail;refine(f4 _ _ _ bA.out.nw.out.sp (by rw[cI];simp only[Fo.sz_app]at es;omega)).mono ?_;rintro b9 A ⟨g8,ec,rfl,⟨em,_⟩,cg,e4⟩;obtain⟨y,c3⟩:=ay Ex.len;obtain⟨e,bh⟩:=ay (Ex.tops al.length);obtain⟨v,c2⟩:=ay (D.tops L.length);have c8:e.length=y:=by rw[<-bh,Fo.tops_len,c3]
     have e1:D.len=n:=C.out.ln;rw[c3,bh]at cg;rw[c2]at bA;have ei:U (ll E A g8 e (Q c n a)):=aeG (Y:=Ex) bA.out (by rw[c8];exact cg) em;have s:U (fD E W L ((b,dy (nS5 (E.tk i) (n:Int)) s0 (Q c n a))::B) A _ _ (D.app Ex) v c n a):=bA.out.up e4;have hs:n+y<=50000000:=by have hB:=Ex.len_le;have dk:=D.len_le;simp only[Fo.sz_app]at es;omega
     have ao:U ((Ex.tops al.length=e/\D.tops L.length=v/\e.length=y)/\D.len=n/\al.length=L.length+D.sz):=⟨⟨bh,c2,c8⟩,e1,cI⟩;obtain⟨cs,el,rfl⟩:=bz cg;have eg:U (fD E W L ((b,dy (nS5 (E.tk i) (n:Int)) s0 (Q c (n+0) a))::B) A j ec (D.app Ex) (v++e.take 0) c (n+0) a/\ll E A (Q cs y el) e (Q c (n+0) a)):=⟨by rw[rf,da];exact s.out,ei.out⟩;clear e4 em cg bh c8 c3 c2 e1 cI an C bA s ei a4;go_wp2_with fail;go_loopw [76] (fun d1 wr=>∃(q a:Nat) (c:Option Addr),q<=y/\d1= A0 Ax q/\U (fD E W L ((b,dy (nS5 (E.tk i) (n:Int)) s0 (Q c (n+q) a))::B) wr j ec (D.app Ex) (v++e.take q) c (n+q) a/\ll E wr (Q cs y el) e (Q c (n+q) a))) (fun d1 _=>y-(A5 d1).toNat)
     case atStart=>exact⟨0,a,c,aL _,rfl,eg⟩
     case round=>
      clear eg;obtain⟨q,a,c,ht,rfl,ea⟩:=hrel;obtain⟨ce,e6⟩:=ea.out;have o:=aw ce;have cr:=aw e6;clear ce e6 ea;by_cases f9:q<y
      ·obtain⟨d4,et⟩:=bL ao.out.1.2.2 f9;obtain⟨ca,rfl⟩:∃ca,cs=M ⟨ca,0,O⟩:=by
        rcases bp cr.out.ow with⟨hg,_⟩|⟨ca,hd,gf⟩
        ·have:=ao.out.1.2.2;omega
        ·exact⟨ca,(AE gf).1⟩
       have he:=cr.out.at et;have hu:(0:Int)<=(q:Int):=by omega
       have hw:(q:Int)<(y:Int):=by omega
       obtain⟨bk,bl,bn,bo,br,bs,bt,bw,a3,bx⟩:=nC o.out.nw;have gd:n+q<=50000000:=by omega
       have f8:(v++e.take q).length=n+q:=o.out.ln;go_wp2_with (first|(at_builtin;refine dL rfl _ _ rfl E.base _ (n+q) a (v++e.take q) rfl f8 (aE o.out.ow (bg _ _)) (by rw[aF];have:=o.out.nw.out.sp.lt.2;omega) _ d4 rfl (aj _ _) gd ?_;intro F r fm b0 bd bb;have d8:U (fD E W L _ fm _ _ _ (v++e.take q++[d4]) (M ⟨F,0,O⟩) (n+q+1) r):=o.out.put b0 bd bb;have fA:U (ll E fm _ e (Q (M ⟨F,0,O⟩) (n+q+1) r)):=cr.out.put bd bb;obtain⟨ch,dn,dq,ds,dz,d0,gz,g0,g5,g6⟩:=nC d8.out.nw;obtain⟨fu,gs⟩:=d8.out.box h.out (Q (M ⟨F,0,O⟩) (n+q+1) r);clear b0 bd bb)|fail);have fB:U (ll E _ _ e (Q (M ⟨F,0,O⟩) (n+q+1) r)):=fA.out.kt gs;have d9:=fu;rw[show v++e.take q++[d4]=v++e.take (q+1) by rw[fK,et,dh];rfl]at d9;exact⟨⟨q+1,r,_,by omega,by go_num,d9,fB.out⟩,by simp[A5];omega⟩
      ·obtain rfl:q=y:=by omega
       have bh:e.take q=e:=fs (by rw[ao.out.1.2.2];exact ae _);rw[bh]at o;obtain⟨bk,bl,bn,bo,br,bs,bt,bw,a3,bx⟩:=nC o.out.nw;go_wp2_with fail;refine(mC o.out.nw (by omega) (by omega) ⟨5,(E.tk i).f,0,(E.tk i).l,0,(n:Int),⟨#[]⟩,[],v++e⟩ O _ 0 0 _ _ (bc _ _ _ _) (by rw[o.out.ln];exact o.out.ow) (by have:=o.out.ac.len;rw[this];omega) (Fr.nil _ _ _) o.out.fr (nd 5 (E.tk i) (E.tk (j-1)).t 0 ((x.app R).len:Nat) z0 []) o.out.ac (by rw[Fo.tops_app,<-ao.out.2.2,ao.out.1.1,ao.out.1.2.1,<-cy,ao.out.2.1];rfl)).mono ?_;rintro b9 hC ⟨hG,hc,rfl,ev,e2⟩;rw[cy]at ev e2;go_wp2_with fail;go_ret;exact⟨_,_,rfl,ev,(pT e2).out⟩
    |@go gv _ cc _ b3 eh en ct f2 ep=>
     have cm:=a9.nw;have a4:=iD a9 bE ep;have ge:L.length+(D.app (b3.app eh)).sz+1<=50000000:=by rw[bE];simp only[aA,Fo.sz_app]at cF⊢;omega
     have er:=aw ge;clear a9 bE ck ep;go_wp2_with fail;refine aJ (isY en cm ct) fun d2 dk=>?_;have an:U (fi E W L ((b,dy (nS5 (E.tk i) ((n:Int))) s0 (Q c n a))::B) d2 (gt+1) al D c n a):=a4.out.1.move dk;clear dk;go_wp2_with fail;refine(f2 _ _ _ an.out.nw.out.sp (by have:=er.out;rw[an.out.ac.len];simp only[Fo.sz_app]at this;omega)).mono ?_;rintro b9 a2 ⟨d6,b4,rfl,ex,e3⟩;have a7:U (pj E W L ((b,dy (nS5 (E.tk i) ((n:Int))) s0 (Q c n a))::B) a2 cc b4 D b3 d6 c n a):=an.out.up e3 ex;clear e3 ex;have gb:n<=50000000:=by have q:=er.out;have b9:=a7.out.ln;have hf:=D.len_le;simp only[Fo.sz_app]at q;omega
     have hy:IntKind.i64.wrap ((n:Int)+1)=(n:Int)+1:=by rw[di];omega
     obtain⟨bk,bl,bn,bo,br,bs,bt,bw,a3,bx⟩:=nC a7.out.nw;go_wp2_with (at_builtin;refine dL rfl _ _ rfl E.base c n a (D.tops L.length) rfl (by rw[Fo.tops_len];exact a7.out.ln) (aE a7.out.ow (bg a2 _)) (by rw[aF];have:=a7.out.nw.out.sp.lt.2;omega) a2.heap.size d6 rfl (aj a2 _) gb ?_;intro F r A b0 bd bb;have s:U (fi E W L ((b,dy (nS5 (E.tk i) ((n:Int))) s0 (Q c n a))::B) A cc b4 (D.app b3) (M ⟨F,0,O⟩) (n+1) r):=a7.out.put b0 bd bb;obtain⟨ch,dn,dq,ds,dz,d0,gz,g0,g5,g6⟩:=nC s.out.nw;obtain⟨l,ce⟩:=nK s.out.nw h.out (Q (M ⟨F,0,O⟩) (n+1) r);obtain⟨e7,e8,e9,fa,fb,fc,fd,ff,fg,fk⟩:=nC l;clear b0 bd bb);have a6:=nS l h.out 5 (A0 Ax ((n:Int)+1));have gu:=l.out.sp.kset 5 (A0 Ax ((n:Int)+1));have fz:U (fi E W L ((b,dy (nS5 (E.tk i) ((n+1:Nat):Int)) s0 (Q (M ⟨F,0,O⟩) (n+1) r))::B) _ cc b4 (D.app b3) (M ⟨F,0,O⟩) (n+1) r):=⟨by rw[show((n+1:Nat):Int)=(n:Int)+1 by omega];exact a6,s.out.ac,s.out.ln,gu.row (ce.row s.out.ow (by decide) (by decide)) (by decide) (by decide),s.out.fr,s.out.sv⟩;go_roundg gv
     case measure=>omega
     case rel=>exact⟨cc,D.app b3,eh,d6,_,n+1,r,b4,rfl,a4.out.2.2,fz.out,by rw[Fo.app_app];exact a4.out.2.1⟩
end
def PM(E:Pe):wF->Nat->Fo->Nat->Prop
 | .unit,i,R,j=>CI E 159 #[pV E] i R j
 | .expr p,i,R,j=>CX E p i R j
 | .more p s x,i,R,j=>∃m,Ms E (CX E) p s m x i R j
 | .base,i,R,j=>CB E i R j
 | .post s x,i,R,j=>∃m,Ps E (Kn E) (CLx E) s m x i R j
 | .exprs,i,R,j=>CLx E i R j
 | .moreE,i,R,j=>∃m,Ls E (Kn E) m i R j
 | .moreB,i,R,j=>∃m,Ls E (CB E) m i R j
 | .stat,i,R,j=>CSt E i R j
 | .stats,i,R,j=>∃m,Ss E (CSt E) m i R j
 | .block,i,R,j=>CI E 101 #[pV E] i R j
 | .body s,i,R,j=>CI E 109 #[pV E,B3 (dy (nN 36 s) s0 s0)] i R j
 | .entry,i,R,j=>CEn E i R j
 | .entries,i,R,j=>∃m,Es E (CEn E) m i R j
 | .branch,i,R,j=>CI E 110 #[pV E,B3 (ew (E.tk i).k (E.tk i))] (i+1) R j
theorem ajz{k:Int}(h:k=5\/k=6\/k=43):dG k=A7:=by rcases h with rfl|rfl|rfl<;>decide
theorem ajA{k:Int}(h:ld k=B2):k=25\/k=50\/k=62\/k=69:=by
 have:=aC h;omega
theorem ab3{E:Pe}(A:∀q,(E.tk q).k<=78){t:wF}{i j:Nat}{R:Fo}(h:P E.tk E.n t i R j):PM E t i R j:=by
 induction h with
 |upre a c e d=>have:=e.pos;simp only[eK]at this;exact adF (ajA a) rfl c d (by omega) (by omega)
 |uint a c=>exact yw (.inl ⟨rfl,rfl,rfl,rfl⟩) a c
 |uflt a c=>exact yw (.inr (.inl ⟨rfl,rfl,rfl,rfl⟩)) a c
 |ustr a c=>exact yw (.inr (.inr ⟨rfl,rfl,rfl,rfl⟩)) a c
 |unil a c=>exact un (.inl ⟨rfl,rfl⟩) a c
 |utru a c=>exact un (.inr (.inl ⟨rfl,rfl⟩)) a c
 |ufls a c=>exact un (.inr (.inr (.inl ⟨rfl,rfl⟩))) a c
 |urst a c=>exact un (.inr (.inr (.inr ⟨rfl,rfl⟩))) a c
 |ufn a c e d=>exact ag1 a c d
 |utab a c e f g d=>obtain⟨l,d⟩:=d;exact aeF a c d f g
 |ubas a c e d=>exact abw a rfl c d
 |ex a c e f o p=>obtain⟨l,d⟩:=p;exact ajr a c A o d
 |mstop a c=>exact⟨0,.stop a c⟩
 |mgo a c e f g p v=>obtain⟨l,d⟩:=v;have:=f.pos;simp only[eK]at this;exact⟨l+1,.go a c e p (by omega) (by omega) d⟩
 |bname a c e d=>obtain⟨l,d⟩:=d;have:=e.pos;simp only[eK]at this;exact aeH a c (by omega) d
 |bopen a c e f g m o s=>obtain⟨l,d⟩:=s;have:=e.pos;have:=m.pos;simp only[eK]at *;exact aeI a c o f (by omega) (by omega) d
 |pstop a c=>exact⟨0,.stop a c⟩
 |pdot a c e f d=>obtain⟨l,d⟩:=d;have:=f.pos;exact⟨l+1,.dot a c (by omega) d⟩
 |psq a c e f g m o s=>obtain⟨l,d⟩:=s;have:=e.pos;simp only[eK]at this;have:=m.pos;exact⟨l+1,.sq a c o f (by omega) d⟩
 |pcall0 a c e f d=>obtain⟨l,d⟩:=d;have:=f.pos;exact⟨l+1,.call0 a c (by omega) d⟩
 |pcall a c e f g m r p u=>obtain⟨l,d⟩:=u;have:=f.pos;simp only[eK]at this;have:=r.pos;exact⟨l+1,.call a c e p g (by omega) d⟩
 |es a c F G=>obtain⟨l,d⟩:=G;exact ahv F d
 |estop a c=>exact⟨0,.stop a c⟩
 |ego a c e f o p=>obtain⟨l,d⟩:=p;exact⟨l+1,.go a c o d⟩
 |bstop a c=>exact⟨0,.stop a c⟩
 |bgo a c e f o p=>obtain⟨l,d⟩:=p;exact⟨l+1,.go a c o d⟩
 |@body i k j am af al B a c e f d=>
  obtain⟨l,J,K,ak,ad⟩:=Pt.of e;have:=f.pos;simp only[eK]at this;obtain⟨y,rfl⟩:∃y,k=y+1:=⟨k-1,by omega⟩;exact ajv a c J K ad d (by omega) (by omega)
 |block a c e f g d=>obtain⟨l,d⟩:=d;exact ag2 a c (aat (.inl rfl) f d) f g
 |sstop a c=>exact⟨0,.stop c⟩
 |ssep a c e d=>obtain⟨l,d⟩:=d;exact⟨l+1,.sep a c d⟩
 |sgo a c e f g m v s=>obtain⟨l,d⟩:=s;exact⟨l+1,.go a c e f v d⟩
 |nstop a c=>exact⟨0,.stop a c⟩
 |ncom a c e f g m o s=>obtain⟨l,d⟩:=s;exact⟨l+1,.com a c o f g d⟩
 |nlast a c e f g m o s=>obtain⟨l,d⟩:=s;exact⟨l+1,.last a c o f g d⟩
 |item a c e f g d=>have:=g.pos;simp only[eK]at this;exact Kz a c e f d (by omega) (by omega)
 |pair a c e f g m r o u=>have:=e.pos;have:=r.pos;simp only[eK]at *;exact KA a c o f g m u (by omega) (by omega)
 |named a c e f g d=>have:=g.pos;simp only[eK]at this;exact Ix a c e f d (by omega) (by omega)
 |belif a c e f g m r o p u=>have:=e.pos;have:=f.pos;have:=r.pos;simp only[eK]at *;exact Is a rfl c o p m g (by have q:CI E 110 #[pV E,B3 (ew (E.tk _).k (E.tk _))] (_+1) _ _:=u;rw[g]at q;exact q) (by omega) (by omega)
 |belse a c e f g m r o p u=>have:=e.pos;have:=f.pos;have:=r.pos;simp only[eK]at *;exact It a rfl c o p m g u (by omega) (by omega)
 |bno a c e f g m r o p=>have:=e.pos;have:=f.pos;simp only[eK]at *;exact abJ a rfl c o p r g m (by omega)
 |tlet0 a c e f g=>have:=f.pos;exact abK a (by omega) (uu e c f) (by omega) (by omega) g
 |tlet a c e f g m d=>have:=f.pos;have:=m.pos;simp only[eK]at *;exact aeB a (by omega) (uu e c f) (by omega) (by omega) g d (by omega) (by omega)
 |@tcon i j an a c e f g d=>have:=g.pos;simp only[eK]at *;exact Ky a (by omega) (uu c (by omega) (.stop (by rw[e];decide) (by omega))) (by omega) (by omega) e d (by omega) (by omega)
 |tfn a c e f g d=>have:=g.pos;simp only[eK]at *;exact ahx a c e f d (by omega) (by omega)
 |tif a c e d=>exact ahw a c (by have q:CI E 110 #[pV E,B3 (ew (E.tk _).k (E.tk _))] (_+1) _ _:=d;rw[a]at q;exact q)
 |twhile a c e f o p=>have:=e.pos;have:=f.pos;simp only[eK]at *;exact Ks a c o p (by omega) (by omega)
 |tfor a c e f g m r s u=>have:=f.pos;have:=m.pos;have:=r.pos;simp only[eK]at *;exact Iq a (by omega) (aeE a (by omega) (uu e c f) (by omega) g s u (by omega) (by omega))
 |teach a c e f g m r x C s I=>have:=f.pos;have:=m.pos;have:=C.pos;simp only[eK]at *;exact Iq a (by omega) (ab0 a (by omega) (uu e c f) (by omega) g s I (by omega) (by omega))
 |tbreak a c=>exact D4 (.inl ⟨rfl,rfl⟩) a c
 |tnext a c=>exact D4 (.inr ⟨rfl,rfl⟩) a c
 |tret0 a c e=>exact abL a c (ajz e)
 |tret a c e f d=>have:=f.pos;simp only[eK]at *;exact aeC a c e d (by omega) (by omega)
 |ttry a c e f g m r x o H=>have:=e.pos;have:=r.pos;have:=x.pos;simp only[eK]at *;exact aeD a c o f g (uu m g r) H (by omega) (by omega)
 |tthrow a c e d=>have:=e.pos;simp only[eK]at *;exact Ko a c d (by omega) (by omega)
 |tdefer a c e d=>have:=e.pos;simp only[eK]at *;exact Kq a c d (by omega) (by omega)
 |tblock a c e d=>exact Kr a c d
 |tdo a c e f g m d=>have:=e.pos;simp only[eK]at *;exact zu a rfl c (ab2 a rfl c d f g m (by omega))
 |tset a c e f g m r o p u=>obtain⟨l,p⟩:=p;have:=e.pos;have:=f.pos;have:=r.pos;simp only[eK]at *;exact zu a rfl c (KB a rfl c o p g m u (by omega) (by omega) (by omega))
