import Derived.Test.YtkdijoogonigpaaGreatDoorHUk13
set_option linter.all false
set_option maxRecDepth 100000
set_option maxHeartbeats 6400000
open Go.Value renaming int->M,string->U,pointer->B2,agg->B4,tuple->B5
open Go.IntKind renaming i64->O
open ByteArray renaming empty->Q
open Go.Proofs.Tryz renaming prog->S
open Bool renaming true->T,false->W
open Option renaming none->X,some->Ax
open Go.Lib renaming hasPrefix->Y
open Go renaming World->Z,Value->A2,Calls->B3
open Go.Calls renaming quiet_of_same->A0
open Go.Obj renaming cells->Br
open Go.Instr renaming index->B0
open Go.Ending renaming returned->B1
namespace Go.Proofs.YtkdijoogonigpaaGreatDoor
open Go.RowKit Go.Maps Go.WideMaps
def si(s:ByteArray)(p:Nat):Int×ByteArray:=match oa cK (s.extract p (jy s (s.size+1) p)) 22 0 with|some a=>(10+(a:Int),⟨#[]⟩)|none=>(1,s.extract p (jy s (s.size+1) p))
theorem afn(s:ByteArray)(p:Nat):wdT s p= B4 #[M O (si s p).1,M O p,M O (jy s (s.size+1) p),M O 0,M O 0,U (si s p).2]:=by
 unfold wdT si;cases oa cK (s.extract p (jy s (s.size+1) p)) 22 0<;>rfl
theorem E8{b t mb n:Nat}{w c:Z}{D:DataW Unit}(f:w.ownsMap S 9 (plainElem (H:=Unit) S 3) mb n D)(i:mI b t w c)(g:mb≠b)(h:mb≠t):c.ownsMap S 9 (plainElem (H:=Unit) S 3) mb n D:=by
 obtain⟨e,d,a,j⟩:=f;exact⟨e,d,(i.block mb (au a) g h).trans a,j⟩
theorem zu{fr:Int}(s:ByteArray)(b2:s.size<=70000)(b t mb:Nat)(w:Z)(p:Nat)(l av:Int)(a7:p<s.size)(x:b≠t)(bp:mb≠b)(br:mb≠t)(hS:eE b w s (.map (Ax mb)) fr p l W)(ak:cA t w 0 p 0 av 0 Q)(a4:w.ownsMap S 9 (plainElem (H:=Unit) S 3) mb 22 (wkD 22)):
  B3 S 62 #[.pointer (Ax ⟨b,0,X⟩),.pointer (Ax ⟨t,0,X⟩)] w fun e J=>e= .returned (.tuple #[])/\mI b t w J/\eE b J s (.map (Ax mb)) fr (jy s (s.size+1) p:Int) l W/\cA t J (si s p).1 p 0 av 0 (si s p).2:=by
 have b1:b<w.heap.size:=au hS;have b3:t<w.heap.size:=au ak;have bl:=qa s (s.size+1) p (dD a7);have bb:=fun w=>tq s (by omega) p (dD a7) w;obtain⟨i,j,k,m,n,o,q,r⟩:=eB hS;obtain⟨A,B,C,E,F,G,I⟩:=aE ak;unfold si;generalize jy s (s.size+1) p=a at bb bl;obtain⟨bj,L⟩:=aD (oa cK (s.extract p a) 22 0);rw[L];have a1:=ar L;clear L;go_in;go_upto_region 0 with fail
 go_cut [16] from 7 (fun b0 a0=>b0= .int .i64 (a:Int)/\mI b t w a0/\eE b a0 s (.map (Ax mb)) fr a l W/\cA t a0 0 p 0 av 0 Q)
 case first=>
  go_region_with (first|(go_at_call 49;refine(bb _).mono ?_;rintro e J ⟨rfl,bs⟩;obtain rfl:=bs.symm))
  all_goals
   go_wp2_with fail;go_meet
   case rel=>exact⟨rfl,((mI.refl b t w).setB 3 _).drew,hS.setP _,ak.other (de x) _⟩
 case rest=>
  obtain⟨rfl,am,af,al⟩:=hcut;clear i j k m n o q r A B C E F G I;have a5:=E8 a4 am bp br;obtain⟨i,j,k,m,n,o,q,r⟩:=eB af;obtain⟨A,B,C,E,F,G,I⟩:=aE al;go_upto_region 1 with fail
  go_quiet (fail)
  have d:=af.drewN nq;have f:=al.drewN nq;have y:=am.drewN nq;have K:(wc.drewN nq).ownsMap S 9 (plainElem (H:=Unit) S 3) mb 22 (wkD 22):=a5;generalize wc.drewN nq=a2 at d f y K⊢;clear i j k m n o q r A B C E F G I af al am a5 a4;obtain⟨i,j,k,m,n,o,q,r⟩:=eB d;obtain⟨A,B,C,E,F,G,I⟩:=aE f;have bw:b<a2.heap.size:=au d;have bx:t<a2.heap.size:=au f;have a8:(s.extract p a).size<=70000:=by rw[je];omega
  have z:keyOf S 9 (.string (s.extract p a))=Ax (.string (s.extract p a).data.toList):=keyOf_string_mk Tryz.underlying9 (by unfold maxLen;omega);have c:=A5 (H:=Unit) (s.extract p a);have ap:=fun w=>pd (s.extract p a) (by omega) w;unfold nG at c;rw[a1.out]at c;cases bj with
  |some a9=>
   have a6:=aan (H:=Unit) (s.extract p a) a9 a1.out;have h:Maps.has (wkD (H:=Unit) 22) (.string (s.extract p a).data.toList)=T:=c;clear c;generalize s.extract p a=bE at z a6 h ap a8⊢;go_wp2_with (at_lookup;refine wpList_lookup_own_ok_int _ rfl _ _ 38 rfl 9 3 .i64 aai Tryz.underlying38 Tryz.underlying3 (by kernel_rfl) mb 22 _ rfl K _ _ rfl z ?_;intro a3 g bt;rw[h];rw[a6]at g;obtain rfl:10+(a9:Int)=a3:=by injection g with g;injection g);refine bg (fE rfl _ _ _) rfl ?_;exact⟨rfl,y.setT 0 _,d.other x _,f.setKind _⟩
  |none=>
   have h:Maps.has (wkD (H:=Unit) 22) (.string (s.extract p a).data.toList)=W:=c;clear c;obtain⟨bE,an⟩:=aD (s.extract p a);rw[an]at z h ap a8⊢;have bf:=ar an;clear an;go_wp2_with (first|(at_lookup;refine wpList_lookup_own_ok_int _ rfl _ _ 38 rfl 9 3 .i64 aai Tryz.underlying38 Tryz.underlying3 (by kernel_rfl) mb 22 _ rfl K _ _ rfl z ?_;intro a3 g bt;rw[h])|(go_at_call 18;refine(ap _).mono ?_;rintro e b4 ⟨rfl,v⟩;have bn:=d.below v bw;have u:=f.below v bx;have bo:=y.below (v.mono y.size);have tf3:=(aE u).2.2.2.2.2.2;have b5:=(aE u).1;have b6:=(aE u).2.2.2.2.2.1;clear v));go_end0
   exact⟨rfl,(bo.setT 0 _).setT 5 _,(bn.other x _).other x _,by rw[bf.out];exact(u.setKind _).setText _⟩
theorem gv(s:ByteArray)(a b i:Nat)(d:b<=s.size)(e:a+i<b):ao (s.extract a b) i=ao s (a+i):=by
 rw[ll,ll];have c:(s.extract a b).data.toList=(s.data.toList.drop a).take (b-a):=by rw[<-eo,Lib.extract_toList]
 rw[c,oF,ab (by omega),oG]
theorem gk(s:ByteArray)(a b:Nat)(c:b<=s.size):(s.extract a b).size=b-a:=by rw[je];omega
theorem E9(s:ByteArray)(a b p:Nat)(c:b<=s.size):∀n,a+p+n<=b->mJ (s.extract a b) p n=mJ s (a+p) n
 |0,_=>rfl
 |n+1,d=>by
  rw[mJ,mJ,E9 s a b p c n (by omega),gv s a b (p+n) c (by omega),fp]
theorem Fa(s:ByteArray)(a b p:Nat)(c:b<=s.size):∀n,a+p+n<=b->kH (s.extract a b) p n=kH s (a+p) n
 |0,_=>rfl
 |n+1,d=>by
  rw[kH,kH,Fa s a b p c n (by omega),gv s a b (p+n) c (by omega),fp]
def jp(s:ByteArray)(p:Nat):Int×Int×ByteArray:=
 if ao s p=48/\ao s (p+1)=120 then(2,wrap64 (mJ s (p+2) ((bD s p).1-(p+2)):Int),⟨#[]⟩)
 else match (if vf s p=T then X else kH s p ((bD s p).1-p)) with
  |some a=>(2,(a:Int),⟨#[]⟩)
  |none=>(3,0,s.extract p (bD s p).1)
theorem adc(s:ByteArray)(p:Nat)(a:(bD s p).2=T):tI s p= B4 #[M O (jp s p).1,M O p,M O ((bD s p).1:Int),M O 0,M O (jp s p).2.1,U (jp s p).2.2]/\ri s p= -1:=by
 unfold tI ri jp;by_cases b:ao s p=48/\ao s (p+1)=120
 ·have c:bD s p=ie s (p+2):=by unfold bD;rw[ab b]
  rw[c]at a⊢;simp only[ab b];unfold qF hxF;rw[ab a,ab a];exact⟨rfl,rfl⟩
 ·have c:bD s p=jn s (nA1 s (nA0 s p)):=by unfold bD;rw[aa b]
  rw[c]at a⊢;simp only[aa b];unfold nmA nmF;rw[ab a,ab a];cases vf s p with
  |true=>exact⟨rfl,rfl⟩
  |false=>
   simp only[aa (show ¬W=T by simp)];cases kH s p ((jn s (nA1 s (nA0 s p))).1-p)<;>exact⟨rfl,by trivial⟩
theorem Bt(s:ByteArray)(p:Nat)(a:(bD s p).2=W):ri s p=((bD s p).1:Int):=by
 unfold ri;by_cases b:ao s p=48/\ao s (p+1)=120
 ·have c:bD s p=ie s (p+2):=by unfold bD;rw[ab b]
  rw[c]at a⊢;rw[ab b];unfold hxF;rw[aa (by rw[a];simp)]
 ·have c:bD s p=jn s (nA1 s (nA0 s p)):=by unfold bD;rw[aa b]
  rw[c]at a⊢;rw[aa b];unfold nmF;rw[aa (by rw[a];simp)]
theorem Gr(s:ByteArray)(p:Nat)(j:p<s.size)(g:aL (ao s p)=T)(o:¬(ao s p=48/\ao s (p+1)=120)):sr (s.extract p (bD s p).1)=Option.map (fun u:Nat=>(u:Int)) (if vf s p=T then X else kH s p ((bD s p).1-p)):=by
 have c:=pb s p j;have q:=gk s p (bD s p).1 c.2;have b:∀a,p+a<(bD s p).1->ao (s.extract p (bD s p).1) a=ao s (p+a):=fun a i=>gv s p _ a c.2 i;have f:aL (ao (s.extract p (bD s p).1) 0)=T:=by rw[b 0 (by omega)];exact g
 have d:bD s p=jn s (nA1 s (nA0 s p)):=by unfold bD;rw[aa o]
 have k:=ss s p j;have l:=su s _ k.2;have r:=zl s _ l.2;cases hk:vf s p with
 |false=>
  obtain⟨m,e⟩:=uk s p g hk;have t:(bD s p).1=nA0 s p:=by rw[d,m]
  rw[Be _ (by omega) (fun a i=>by rw[b a (by omega)];exact e _ (by omega) (by omega))];rw[q,Fa s p _ 0 c.2 _ (by omega),gK];simp
 |true=>
  simp only[gJ,Option.map_none];unfold vf at hk;rcases aI hk with h|h
  ·have n:nA0 s p<(bD s p).1:=by
    have:nA0 s p<nA1 s (nA0 s p):=by
     unfold nA1;rw[ab h];have:=jo s (nA0 s p+1) (by have:=li h.2;omega);omega
    rw[d];omega
   exact rh _ f (nA0 s p-p) (by omega) (by rw[b _ (by omega),show p+(nA0 s p-p)=nA0 s p by omega,h.1];decide)
  ·have n:nA1 s (nA0 s p)<(bD s p).1:=by
    have e:=In s _ h;have v:=jo s _ e.2;rw[d];unfold jn;rw[ab h];simp only;omega
   exact rh _ f (nA1 s (nA0 s p)-p) (by omega) (by rw[b _ (by omega),show p+(nA1 s (nA0 s p)-p)=nA1 s (nA0 s p) by omega,h];decide)
theorem Bu(s:ByteArray)(F:s.size<=1100000)(p:Nat)(m:p<s.size)(r:aL (ao s p)=T)(v:(bD s p).2=T)(w:Z)(q:uL w):
  B3 S 55 #[U (s.extract p (bD s p).1)] w fun e l=>(((jp s p).1=2/\e= B1 (B5 #[M O (jp s p).2.1,.bool T])/\(jp s p).2.2=⟨#[]⟩)\/((jp s p).1=3/\(∃x,e= B1 (B5 #[M O x,.bool W]))/\(jp s p).2.1=0/\(jp s p).2.2=s.extract p (bD s p).1))/\Below w.heap.size w l:=by
 have f:=pb s p m;have z:=gk s p (bD s p).1 f.2;have c:∀b,p+b<(bD s p).1->ao (s.extract p (bD s p).1) b=ao s (p+b):=fun b u=>gv s p _ b f.2 u;by_cases a:ao s p=48/\ao s (p+1)=120
 ·have e:bD s p=ie s (p+2):=by unfold bD;rw[ab a]
  have t:ie s (p+2)=((bD s p).1,T):=by rw[<-e];exact Prod.ext rfl v
  obtain⟨A,B,C,o⟩:=ve t;refine(xH _ (by rw[c 0 (by omega)];exact a.1) (by rw[c 1 (by omega)];exact a.2) (by omega) (by omega) (fun b g d=>by rw[c b (by omega)];exact o _ (by omega) (by omega)) w).mono ?_;rintro n l ⟨rfl,i⟩;rw[z,E9 s p _ 2 f.2 _ (by omega)];have h:jp s p=(2,wrap64 (mJ s (p+2) ((bD s p).1-(p+2)):Int),⟨#[]⟩):=by unfold jp;rw[ab a]
  rw[h];exact⟨.inl ⟨rfl,by rw[show(bD s p).1-p-2=(bD s p).1-(p+2) by omega],rfl⟩,i⟩
 ·have y:¬(ao (s.extract p (bD s p).1) 0=48/\ao (s.extract p (bD s p).1) 1=120):=by
   rintro ⟨g,d⟩;have E:=ba d (by omega);rw[c 0 (by omega)]at g;rw[c 1 (by omega)]at d;exact a ⟨g,d⟩
  refine(xI _ (by omega) y w q).mono ?_;rintro n l ⟨⟨x,rfl,j⟩,i⟩;rw[Gr s p m r a]at j⊢;refine⟨?_,i⟩;have h:jp s p=match (if vf s p=T then X else kH s p ((bD s p).1-p)) with|some k=>(2,(k:Int),⟨#[]⟩)|none=>(3,0,s.extract p (bD s p).1):=by unfold jp;rw[aa a]
  rw[h];cases hc:(if vf s p=T then X else kH s p ((bD s p).1-p)) with
  |some k=>
   rw[hc]at j;have:=j k rfl;subst this;exact .inl ⟨rfl,rfl,rfl⟩
  |none=>exact .inr ⟨rfl,⟨x,rfl⟩,rfl,rfl⟩
theorem vr{fr:Int}(s:ByteArray)(b5:s.size<=70000)(b t:Nat)(w:Z)(m:A2)(p:Nat)(l a4:Int)(a2:p<s.size)(br:aL (ao s p)=T)(f:b≠t)(hS:eE b w s m fr p l W)(A:cA t w 0 p 0 a4 0 Q)(v:uL w)(b2:8<=b)(b3:8<=t):
  B3 S 63 #[B2 (Ax ⟨b,0,X⟩),B2 (Ax ⟨t,0,X⟩)] w fun e u=>e= B1 (B5 #[])/\mI b t w u/\
   (if(bD s p).2=T then eE b u s m fr ((bD s p).1:Int) l W/\cA t u (jp s p).1 p 0 a4 (jp s p).2.1 (jp s p).2.2 else eE b u s m fr ((bD s p).1:Int) l T/\cA t u 0 p 0 a4 0 Q):=by
 have b4:b<w.heap.size:=au hS;have b6:t<w.heap.size:=au A;have a6:=pb s p a2;have r:=fun w=>pG s (by omega) p a2 w;have q:=fun bt w v=>Bu s (by omega) p a2 br bt w v;obtain⟨ak,al,am,an,ap,av,a0,a1⟩:=eB hS;obtain⟨H,i,j,I,J,K,L⟩:=aE A;generalize jp s p=bo at q;obtain⟨b7,b8,b9⟩:=bo;generalize bD s p=bn at r a6 q;obtain⟨c,b0⟩:=bn;simp only at r a6 q⊢;cases b0 with
 |false=>
  simp only[yJ,if_false];go_in;go_upto_region 0 with fail
  go_quiet ((go_at_call 54;exact A0 (r _)))
  have g:=(hS.drewN nq).setP (c:Int);have h:=(A.drewN nq).other (a:=⟨b,3,X⟩) (de f) (M O (c:Int));have n:=((mI.refl b t w).drewN nq).setB 3 (M O (c:Int));go_wp2;refine bg (fE rfl _ _ _) rfl ?_;exact⟨rfl,n.setB 5 _,g.setK _,h.other (de f) _⟩
 |true=>
  simp only[gJ];have bj:=q rfl;clear q;go_in;go_upto_region 0 with fail
  go_quiet ((go_at_call 54;exact A0 (r _)))
  have g:=(hS.drewN nq).setP (c:Int);have h:=(A.drewN nq).other (a:=⟨b,3,X⟩) (de f) (M O (c:Int));have n:=((mI.refl b t w).drewN nq).setB 3 (M O (c:Int));have x:uL ((w.drewN nq).setCell ⟨b,3,X⟩ (M O (c:Int))):=by
   obtain⟨⟨i,b1,a7⟩,⟨j,p2,a8⟩⟩:=v;refine⟨⟨i,b1,?_⟩,⟨j,p2,?_⟩⟩
   ·unfold World.cell? at a7⊢;rw[bC _ _ _ _ (by simp;omega)];exact a7
   ·unfold World.cell? at a8⊢;rw[bC _ _ _ _ (by simp;omega)];exact a8
  go_upto_region 4 with fail
  generalize (w.drewN nq).setCell ⟨b,3,X⟩ (M O (c:Int))=a5 at g h n x⊢;clear ak al am an ap av a0 a1 H i j I J K L r;obtain⟨ak,al,am,an,ap,av,a0,a1⟩:=eB g;obtain⟨H,i,j,I,J,K,L⟩:=aE h;go_quiet (fail)
  have y:=g.drewN nq;have B:=h.drewN nq;have o:=n.drewN nq;have a9:uL (a5.drewN nq):=⟨x.syn,x.rng⟩;generalize a5.drewN nq=af at y B o a9⊢;clear ak al am an ap av a0 a1 H i j I J K L g h n x v;have bb:b<af.heap.size:=au y;have bf:t<af.heap.size:=au B;have bE:(s.extract p c).size<=70000:=by rw[je];omega
  have a3:=fun w=>pd (s.extract p c) (by omega) w;have G:=bj af a9;clear bj;generalize s.extract p c=ca at a3 G bE⊢;go_wp2_with fail;refine G.mono ?_;rintro e bl ⟨(⟨rfl,rfl,rfl⟩|⟨rfl,⟨cc,rfl⟩,rfl,rfl⟩),d⟩
  ·have z:=y.below d bb;have k:=B.below d bf;have F:=o.below (d.mono o.size);clear d G a3;obtain⟨H,i,j,I,J,K,L⟩:=aE k;go_wp2;refine bg (fE rfl _ _ _) rfl ?_;exact⟨rfl,(F.setT 0 _).setT 4 _,(z.other f _).other f _,(k.setKind _).setNum _⟩
  ·have z:=y.below d bb;have k:=B.below d bf;have F:=o.below (d.mono o.size);have bw:b<bl.heap.size:=au z;have bx:t<bl.heap.size:=au k;clear d G;go_wp2_with (go_at_call 18;refine(a3 _).mono ?_;rintro e cb ⟨rfl,E⟩;have bp:=z.below E bw;have C:=k.below E bx;have bs:=F.below (E.mono F.size);have tf4:=(aE C).2.2.2.2.2.2;have ce:=(aE C).1;have cf:=(aE C).2.2.2.2.2.1;clear E);go_end0
   exact⟨rfl,(bs.setT 0 _).setT 5 _,(bp.other f _).other f _,(C.setKind _).setText _⟩
theorem ags(k:Nat)(a:k<11)(w:Z):(B0 71 (B4 fl) (M O (k:Int))).run S w= .ok (U (bi fl k)) w:=by
 rcases(show k=0\/k=1\/k=2\/k=3\/k=4\/k=5\/k=6\/k=7\/k=8\/k=9\/k=10 by omega) with rfl|rfl|rfl|rfl|rfl|rfl|rfl|rfl|rfl|rfl|rfl;all_goals kernel_rfl
theorem agt(k:Nat)(a:k<18)(w:Z):(B0 72 (B4 gF) (M O (k:Int))).run S w= .ok (U (bi gF k)) w:=by
 rcases(show k=0\/k=1\/k=2\/k=3\/k=4\/k=5\/k=6\/k=7\/k=8\/k=9\/k=10\/k=11\/k=12\/k=13\/k=14\/k=15\/k=16\/k=17 by omega) with rfl|rfl|rfl|rfl|rfl|rfl|rfl|rfl|rfl|rfl|rfl|rfl|rfl|rfl|rfl|rfl|rfl|rfl;all_goals kernel_rfl
theorem osz:∀k:Fin 11,(bi fl k.val).size<=3:=by decide
theorem bsz:∀k:Fin 18,(bi gF k.val).size<=3:=by decide
def ro(V:Array A2)(base:Int)(r:ByteArray):Nat->Nat->Int×Nat->Int×Nat
 |0,_,a=>a
 |f+1,i,a=>ro V base r f (i+1) (if a.2<(bi V i).size/\Y r.data.toList (bi V i).data.toList=T then(base+(i:Int),(bi V i).size) else a)
structure xh (V:Array A2) (base:Int) (r:ByteArray) (f i:Nat) (a R:Int×Nat):Prop where
 out:ro V base r f i a=R
def jz(r:ByteArray):Int:=if ao r 0=59 then 5 else if ao r 0=10 then 7 else(ro gF 61 r 18 0 (ro fl 40 r 11 0 (0,0))).1
theorem zv(r:ByteArray)(bd:r.size<=70000)(a3:0<r.size)(w:Z)(a4:py w):B3 S 83 #[.string r] w fun e a7=>e= .returned (.int .i64 (jz r))/\a7=w:=by
 unfold jz;have H:∀w,(B0 9 (.string r) (.int .i64 0)).run S w= .ok (.int .u8 (ao r 0)) w:=fun w=>ch a3 w;by_cases t:ao r 0=59
 ·rw[ab t];rw[t]at H;go_in;go_wp2;go_ret;exact⟨rfl,rfl⟩
 rw[aa t];by_cases q:ao r 0=10
 ·rw[ab q];rw[q]at H;go_in;go_wp2;go_ret;exact⟨rfl,rfl⟩
 rw[aa q];have a2:(ao r 0==59)=W:=by rw[aC];exact t
 have a1:(ao r 0==10)=W:=by rw[aC];exact q
 generalize ao r 0=bb at H a2 a1;clear t q;obtain⟨-,⟨a5,av,al⟩,⟨a6,a0,ak⟩⟩:=a4;have am:=fun a u w=>ags a u w;have af:=fun a u w=>agt a u w;obtain⟨z,B⟩:∃z:Array A2,fl=z:=⟨_,rfl⟩;obtain⟨y,A⟩:∃y:Array A2,gF=y:=⟨_,rfl⟩;have ap:Hid (∀a:Nat,a<11->∀w,(B0 71 (.agg z) (.int .i64 (a:Int))).run S w= .ok (.string (bi fl a)) w):=by rw[<-B];exact am
 have an:Hid (∀a:Nat,a<18->∀w,(B0 72 (.agg y) (.int .i64 (a:Int))).run S w= .ok (.string (bi gF a)) w):=by rw[<-A];exact af
 rw[B]at al;rw[A]at ak;have a8:z.size=11:=by rw[<-B];rfl
 have a9:y.size=18:=by rw[<-A];rfl
 clear am af B A;obtain⟨k,E⟩:=aD (ro fl 40 r 11 0 (0,0));rw[E];obtain⟨o,F⟩:=aD (ro gF 61 r 18 0 k);rw[F];have K:xh fl 40 r 11 0 (0,0) k:=⟨E⟩;have L:xh gF 61 r 18 0 k o:=⟨F⟩;clear E F;go_in;go_wp2_with (refine yH rfl 71 _ rfl 1 rfl a5 _ av _ al Tryz.underlying71 rfl (by rw[a8];kernel_rfl) ?_);go_loop [3,4,16] (fun I J m=>∃(a c:Nat) (d:Int),a<=11/\c<=3/\I= .int .i64 d/\J= .int .i64 c/\m= .int .i64 a/\xh fl 40 r (11-a) a (d,c) k) (fun _ _ m=>11-(intOf m).toNat)
 case atStart=>exact⟨0,0,0,by omega,by omega,rfl,rfl,rfl,K⟩
 case round=>
  obtain⟨a,c,d,u,n,rfl,rfl,rfl,j⟩:=hrel;by_cases v:a<11
  ·have G:=ap.out a v;have x:(bi fl a).size<=3:=osz ⟨a,v⟩;have b:=j.out;rw[show 11-a=(11-(a+1))+1 by omega,ro]at b;have i:=fun w=>Tryz.strings_HasPrefix r (bi fl a) w;generalize bi fl a=f at G x b i;by_cases p:c<f.size
   ·have C:(c:Int)<(f.size:Int):=by omega
    by_cases g:Y r.data.toList f.data.toList=T
    ·rw[ab ⟨p,g⟩]at b;have h:xh fl 40 r (11-(a+1)) (a+1) (40+(a:Int),f.size) k:=⟨b⟩;rw[g]at i;clear b g;go_wp2_with (go_at_call 39;refine dz (i _) ?_);go_round
     case rel=>exact⟨a+1,f.size,40+(a:Int),by omega,x,by go_num,rfl,by go_num,h⟩
     case measure=>simp[intOf];omega
    ·have s:Y r.data.toList f.data.toList=W:=by simpa using g
     rw[aa (fun l=>g l.2)]at b;have h:xh fl 40 r (11-(a+1)) (a+1) (d,c) k:=⟨b⟩;rw[s]at i;clear b g s;go_wp2_with (go_at_call 39;refine dz (i _) ?_);go_round
     case rel=>exact⟨a+1,c,d,by omega,n,rfl,rfl,by go_num,h⟩
     case measure=>simp[intOf];omega
   ·have C:¬(c:Int)<(f.size:Int):=by omega
    rw[aa (fun l=>p l.1)]at b;have h:xh fl 40 r (11-(a+1)) (a+1) (d,c) k:=⟨b⟩;clear b;go_wp2;go_round
    case rel=>exact⟨a+1,c,d,by omega,n,rfl,rfl,by go_num,h⟩
    case measure=>simp[intOf];omega
  ·obtain rfl:a=11:=by omega
   have b:=j.out;rw[fC,ro]at b;subst b;clear j K;go_wp2_with (refine yH rfl 72 _ rfl 2 rfl a6 _ a0 _ ak Tryz.underlying72 rfl (by rw[a9];kernel_rfl) ?_);go_loop [3,4,35] (fun I J m=>∃(a c:Nat) (d:Int),a<=18/\c<=3/\I= .int .i64 d/\J= .int .i64 c/\m= .int .i64 a/\xh gF 61 r (18-a) a (d,c) o) (fun _ _ m=>18-(intOf m).toNat)
   case atStart=>exact⟨0,c,d,by omega,n,rfl,rfl,rfl,L⟩
   case round=>
    obtain⟨a,c,d,u,n,rfl,rfl,rfl,j⟩:=hrel;by_cases v:a<18
    ·have G:=an.out a v;have x:(bi gF a).size<=3:=bsz ⟨a,v⟩;have b:=j.out;rw[show 18-a=(18-(a+1))+1 by omega,ro]at b;have i:=fun w=>Tryz.strings_HasPrefix r (bi gF a) w;generalize bi gF a=f at G x b i;by_cases p:c<f.size
     ·have C:(c:Int)<(f.size:Int):=by omega
      by_cases g:Y r.data.toList f.data.toList=T
      ·rw[ab ⟨p,g⟩]at b;have h:xh gF 61 r (18-(a+1)) (a+1) (61+(a:Int),f.size) o:=⟨b⟩;rw[g]at i;clear b g;go_wp2_with (go_at_call 39;refine dz (i _) ?_);go_round
       case rel=>exact⟨a+1,f.size,61+(a:Int),by omega,x,by go_num,rfl,by go_num,h⟩
       case measure=>simp[intOf];omega
      ·have s:Y r.data.toList f.data.toList=W:=by simpa using g
       rw[aa (fun l=>g l.2)]at b;have h:xh gF 61 r (18-(a+1)) (a+1) (d,c) o:=⟨b⟩;rw[s]at i;clear b g s;go_wp2_with (go_at_call 39;refine dz (i _) ?_);go_round
       case rel=>exact⟨a+1,c,d,by omega,n,rfl,rfl,by go_num,h⟩
       case measure=>simp[intOf];omega
     ·have C:¬(c:Int)<(f.size:Int):=by omega
      rw[aa (fun l=>p l.1)]at b;have h:xh gF 61 r (18-(a+1)) (a+1) (d,c) o:=⟨b⟩;clear b;go_wp2;go_round
      case rel=>exact⟨a+1,c,d,by omega,n,rfl,rfl,by go_num,h⟩
      case measure=>simp[intOf];omega
    ·obtain rfl:a=18:=by omega
     have b:=j.out;rw[fC,ro]at b;subst b;clear j L;go_wp2;go_ret;exact⟨rfl,rfl⟩
theorem py.setCell{w:Z}(e:py w){a:Addr}(l:8<=a.block)(v:A2):py (w.setCell a v):=by
 obtain⟨⟨i,b,f⟩,⟨j,c,g⟩,⟨k,d,h⟩⟩:=e;exact⟨⟨i,b,(bC w a _ v (by omega)).trans f⟩,⟨j,c,(bC w a _ v (by omega)).trans g⟩,⟨k,d,(bC w a _ v (by omega)).trans h⟩⟩
theorem py.drewN{w:Z}(a:py w)(n:Nat):py (w.drewN n):=⟨a.word,a.mark,a.bin⟩
theorem zw:∀k:Fin 79,(dh (k.val:Int)).size<=6:=by decide+kernel
theorem ID(k:Int):(dh k).size<=6:=by
 by_cases a:0<=k/\k<=78
 ·have:=zw ⟨k.toNat,by omega⟩;simp only[show((k.toNat:Nat):Int)=k by omega]at this;exact this
 ·unfold dh;rw[aa (by omega),aa (by omega),aa (by omega),aa (by omega),aa (by omega)];decide
theorem Dj(V:Array A2)(base:Int)(r:ByteArray)(d:0<=base)(N:Int):∀(f i:Nat)(a:Int×Nat),0<=a.1->a.1<=N->base+((i+f:Nat):Int)<=N+1->0<=(ro V base r f i a).1/\(ro V base r f i a).1<=N
 |0,i,a,b,c,_=>⟨b,c⟩
 |f+1,i,a,b,c,e=>by
  unfold ro;refine Dj V base r d N f (i+1) _ ?_ ?_ (by omega)
  ·split
   ·simp only;omega
   ·exact b
  ·split
   ·simp only;omega
   ·exact c
theorem IE(r:ByteArray):0<=jz r/\jz r<=78:=by
 unfold jz;split
 ·omega
 split
 ·omega
 have a:=Dj fl 40 r (by omega) 50 11 0 (0,0) (by simp) (by simp) (by simp);exact Dj gF 61 r (by omega) 78 18 0 _ a.1 (by omega) (by simp)
def Dk(b t:Nat)(a:Z)(s:ByteArray)(m:A2)(fr:Int)(p:Nat)(l c k:Int):Prop:=
 if k=0 then eE b a s m fr p l T/\cA t a 0 p 0 c 0 Q else eE b a s m fr ((p:Int)+((dh k).size:Int)) (if k=7 then l+1 else l) W/\cA t a k p 0 c 0 Q
theorem zx{fr:Int}(s:ByteArray)(a9:s.size<=70000)(b t:Nat)(w:Z)(m:A2)(p:Nat)(l K:Int)(bb:p<s.size)(a8:0<=l)(a7:l<=100000)(h:b≠t)(hS:eE b w s m fr p l W)(n:cA t w 0 p 0 K 0 Q)(d:py w)(a4:8<=b)(a5:8<=t):
  B3 S 65 #[B2 (Ax ⟨b,0,X⟩),B2 (Ax ⟨t,0,X⟩)] w fun e E=>e= B1 (B5 #[])/\mI b t w E/\Dk b t E s m fr p l K (jz (s.extract p s.size)):=by
 have a6:b<w.heap.size:=au hS;have bf:t<w.heap.size:=au n;have bd:(s.extract p s.size).size=s.size-p:=gk s p s.size (ag _);have i:=fun w d=>zv (s.extract p s.size) (by omega) (by omega) w d;have a1:=IE (s.extract p s.size);generalize jz (s.extract p s.size)=c at i a1;obtain⟨u,v,x,y,z,A,B,C⟩:=eB hS;obtain⟨L,af,ak,al,am,an,ap⟩:=aE n;unfold Dk;by_cases G:c=0
 ·subst G;simp only[gJ];go_in;go_upto_region 0 with fail
  go_quiet ((go_at_call 83;exact A0 (i _ (d.drewN _))))
  go_wp2;refine bg (fE rfl _ _ _) rfl ?_;exact⟨rfl,((mI.refl b t w).drewN _).setB 5 _,(hS.drewN _).setK _,(n.drewN _).other (de h) _⟩
 have a2:(c==0)=W:=by rw[aC];exact G
 have r:=fun w d=>pC c (by omega) (by omega) w d;have av:=ID c;generalize dh c=F at r av;simp only[aa G];by_cases H:c=7
 ·subst H;simp only[gJ];go_in;go_upto_region 0 with fail
  go_quiet ((go_at_call 83;exact A0 (i _ (d.drewN _))))
  have g:=((hS.drewN nq).setL (l+1)).other (a:=⟨t,0,X⟩) h (M O 7);have o:=((n.drewN nq).other (a:=⟨b,4,X⟩) (de h) (M O (l+1))).setKind 7;have q:=(((mI.refl b t w).drewN nq).setB 4 (M O (l+1))).setT 0 (M O 7);have f:=((d.drewN nq).setCell (a:=⟨b,4,X⟩) (by simp;omega) (M O (l+1))).setCell (a:=⟨t,0,X⟩) (by simp;omega) (M O 7);go_upto_region 6 with fail
  generalize ((w.drewN nq).setCell ⟨b,4,X⟩ (M O (l+1))).setCell ⟨t,0,X⟩ (M O 7)=j at g o q f⊢;clear u v x y z A B C L af ak al am an ap i;obtain⟨u,v,x,y,z,A,B,C⟩:=eB g;have k:py j.drew:=⟨f.word,f.mark,f.bin⟩;have J:=r j.drew k;have a0:IntKind.i64.wrap ((p:Int)+(F.size:Int))=(p:Int)+(F.size:Int):=by rw[cB];omega
  clear k f d r;go_region_with (first|(go_at_call 22;refine J.mono ?_;rintro e E ⟨rfl,I⟩;obtain rfl:=I.symm))
  all_goals
   go_end0
   exact⟨rfl,(q.setB 3 _).drew,g.setP _,o.other (de h) _⟩
 ·have a3:(c==7)=W:=by rw[aC];exact H
  simp only[aa H];go_in;go_upto_region 0 with fail
  go_quiet ((go_at_call 83;exact A0 (i _ (d.drewN _))))
  have g:=(hS.drewN nq).other (a:=⟨t,0,X⟩) h (M O c);have o:=(n.drewN nq).setKind c;have q:=((mI.refl b t w).drewN nq).setT 0 (M O c);have f:=(d.drewN nq).setCell (a:=⟨t,0,X⟩) (by simp;omega) (M O c);go_upto_region 6 with fail
  generalize (w.drewN nq).setCell ⟨t,0,X⟩ (M O c)=j at g o q f⊢;clear u v x y z A B C L af ak al am an ap i;obtain⟨u,v,x,y,z,A,B,C⟩:=eB g;have k:py j.drew:=⟨f.word,f.mark,f.bin⟩;have J:=r j.drew k;have a0:IntKind.i64.wrap ((p:Int)+(F.size:Int))=(p:Int)+(F.size:Int):=by rw[cB];omega
  clear k f d r;go_region_with (first|(go_at_call 22;refine J.mono ?_;rintro e E ⟨rfl,I⟩;obtain rfl:=I.symm))
  all_goals
   go_end0
   exact⟨rfl,(q.setB 3 _).drew,g.setP _,o.other (de h) _⟩
structure Rd where
 ok:Bool
 a:Nat
 d:Int
 k:Int
 n:Int
 x:ByteArray
def bB(s:ByteArray)(p:Nat):Rd:=
 if bc (ao s p)=T then⟨T,jy s (s.size+1) p,0,(si s p).1,0,(si s p).2⟩
 else if aL (ao s p)=T then(if(bD s p).2=T then⟨T,(bD s p).1,0,(jp s p).1,(jp s p).2.1,(jp s p).2.2⟩ else⟨W,(bD s p).1,0,0,0,Q⟩)
 else if ao s p=34 then(if(bH s (s.size+1) (p+1) []).1=T then⟨T,(bH s (s.size+1) (p+1) []).2.1,0,4,0,co (bH s (s.size+1) (p+1) []).2.2⟩ else⟨W,(bH s (s.size+1) (p+1) []).2.1,0,0,0,Q⟩)
 else if jz (s.extract p s.size)=0 then⟨W,p,0,0,0,Q⟩ else⟨T,p+(dh (jz (s.extract p s.size))).size,if jz (s.extract p s.size)=7 then 1 else 0,jz (s.extract p s.size),0,Q⟩
def afo(b t:Nat)(w e:Z)(s:ByteArray)(m:A2)(fr:Int)(p:Nat)(l:Int)(c:Rd):Prop:=mI b t w e/\eE b e s m fr (c.a:Int) (l+c.d) (!c.ok)/\cA t e c.k p 0 l c.n c.x
theorem zr.blocks{w f:Z}(m:zr w)(a:∀k,k<8->f.heap[k]?=w.heap[k]?):zr f:=by
 obtain⟨⟨⟨q,g,n⟩,⟨r,h,o⟩,⟨s,i,p⟩⟩,⟨⟨t,j,c⟩,⟨u,l,d⟩⟩,b,e⟩:=m;refine⟨⟨⟨q,g,(a _ (by decide)).trans n⟩,⟨r,h,(a _ (by decide)).trans o⟩,⟨s,i,(a _ (by decide)).trans p⟩⟩,⟨⟨t,j,?_⟩,⟨u,l,?_⟩⟩,?_,?_⟩
 ·unfold World.cell? at c⊢;rw[a _ (by decide)];exact c
 ·unfold World.cell? at d⊢;rw[a _ (by decide)];exact d
 ·unfold Lib.TabIs World.var? at b⊢;rw[show Tryz.prog.globalNamed "internal/strconv.uint64pow10" =Ax 3 by kernel_rfl]at b⊢;simp only[yK]at b⊢;rw[a _ (by decide)];exact b
 ·unfold World.cell? at e⊢;rw[a _ (by decide)];exact e
theorem Dl{x y z:Z}{b:Option Nat}(a:x.grownBy y b)(k:y.grownBy z b):x.grownBy z b:=
 ⟨k.os.trans a.os,k.tape.trans a.tape,k.output.trans a.output,bA a.size k.size,fun e c d=>(k.block e (eI c a.size) d).trans (a.block e c d)⟩
theorem Gs{fr:Int}(s:ByteArray)(bb:s.size<=70000)(b mb:Nat)(w:Z)(p:Nat)(l:Int)(C:p<s.size)(cy:0<=l)(cv:l<=100000)(bt:mb≠b)(ct:8<=b)(hS:eE b w s (.map (Ax mb)) fr p l W)(bl:w.ownsMap S 9 (plainElem (H:=Unit) S 3) mb 22 (wkD 22))(ca:zr w):
  B3 S 40 #[B2 (Ax ⟨b,0,X⟩)] w fun e o=>e= B1 (B4 #[M O (bB s p).k,M O p,M O ((bB s p).a:Int),M O l,M O (bB s p).n,U (bB s p).x])/\w.grownBy o (Ax b)/\eE b o s (.map (Ax mb)) (p:Int) ((bB s p).a:Int) (l+(bB s p).d) (!(bB s p).ok):=by
 have br:b<w.heap.size:=au hS;have cl:mb<w.heap.size:=bl.lt;have cz:=fun w=>ch C w;obtain⟨J,K,L,af,ak,al,am,an⟩:=eB hS;obtain⟨cp,cr⟩:=ED hS;obtain⟨bx,bn⟩:=aD (bB s p);rw[bn];have bj:=ar bn;clear bn;go_in;go_wp2_with fail;have a6:=hS.setF (p:Int);have a3:=E8 (t:=b) bl ((mI.refl b b w).setB 2 (M O (p:Int))) bt bt;have a2:zr (w.setCell ⟨b,2,X⟩ (M O (p:Int))):=ca.blocks (fun k a9=>bC _ _ _ _ (by simp only;omega));have bs:w.grownBy (w.setCell ⟨b,2,X⟩ (M O (p:Int))) (Ax b):=⟨rfl,rfl,rfl,by simp[World.setCell],fun k a9 A=>bC _ _ _ _ (fun e=>A (by rw[e]))⟩;have bd:(w.setCell ⟨b,2,X⟩ (M O (p:Int))).heap.size=w.heap.size:=by simp[World.setCell]
 obtain⟨b0,b1,b2,b3,b4,b6,b7,b8⟩:=eB a6;obtain⟨b5,b9⟩:=ED a6;rw[<-bd];rw[<-bd]at br cl;generalize w.setCell ⟨b,2,X⟩ (M O (p:Int))=wN at a6 a3 a2 bs bd br cl b0 b1 b2 b3 b4 b6 b7 b8 b5 b9⊢;have cm:=ar bs;clear hS bl ca bs bd J K L af ak al am an cp cr;go_region
 have ce:∀x:Z,cA x.heap.size (x.alloc (Br #[M O 0,M O 0,M O 0,M O 0,M O 0,U ⟨#[]⟩] 29)) 0 0 0 0 0 Q:=fun x=>ax x _;have av:Below wN.heap.size wN ((wN.alloc (Br #[M O 0,M O 0,M O 0,M O 0,M O 0,U ⟨#[]⟩] 29)).alloc (Br #[M O 0,M O p,M O 0,M O l,M O 0,U ⟨#[]⟩] 29)):=
  (((aq _ wN).alloc (ag _) _).alloc (by simp) _)
 have a8:cA wN.heap.size ((wN.alloc (Br #[M O 0,M O 0,M O 0,M O 0,M O 0,U ⟨#[]⟩] 29)).alloc (Br #[M O 0,M O p,M O 0,M O l,M O 0,U ⟨#[]⟩] 29)) 0 0 0 0 0 Q:=
  (cg _ _ _ (by simp)).trans (ce wN)
 have bp:cA (wN.heap.size+1) ((wN.alloc (Br #[M O 0,M O 0,M O 0,M O 0,M O 0,U ⟨#[]⟩] 29)).alloc (Br #[M O 0,M O p,M O 0,M O l,M O 0,U ⟨#[]⟩] 29)) 0 p 0 l 0 Q:=by
  have:=ax (wN.alloc (Br #[M O 0,M O 0,M O 0,M O 0,M O 0,U ⟨#[]⟩] 29)) (Br #[M O 0,M O p,M O 0,M O l,M O 0,U ⟨#[]⟩] 29);rw[dI]at this;exact this
 have a7:=a6.below av br;have r:=a2.below av (ag _);have a4:=(a3.alloc (Br #[M O 0,M O 0,M O 0,M O 0,M O 0,U ⟨#[]⟩] 29)).alloc (Br #[M O 0,M O p,M O 0,M O l,M O 0,U ⟨#[]⟩] 29);obtain⟨i,cc⟩:=aD ((wN.alloc (Br #[M O 0,M O 0,M O 0,M O 0,M O 0,U ⟨#[]⟩] 29)).alloc (Br #[M O 0,M O p,M O 0,M O l,M O 0,U ⟨#[]⟩] 29));rw[cc]at av a8 bp a7 r a4⊢;clear cc ce b0 b1 b2 b3 b4 b6 b7 b8 b5 b9;obtain⟨J,K,L,af,ak,al,am,an⟩:=eB a7;have A:b≠wN.heap.size+1:=by omega
 go_wp2_with fail;go_quiet (fail)
 go_upto_block 0 with fail
 have y:eE b (i.drew.drewN nq) s (.map (Ax mb)) p p l W:=a7;have z:cA (wN.heap.size+1) (i.drew.drewN nq) 0 p 0 l 0 Q:=bp;have j:mI b (wN.heap.size+1) i (i.drew.drewN nq):=((mI.refl _ _ _).drew).drewN nq;have a5:(i.drew.drewN nq).ownsMap S 9 (plainElem (H:=Unit) S 3) mb 22 (wkD 22):=a4;have a0:py (i.drew.drewN nq):=⟨r.tabs.word,r.tabs.mark,r.tabs.bin⟩;have a1:uL (i.drew.drewN nq):=⟨r.errs.syn,r.errs.rng⟩;generalize i.drew.drewN nq=I at y z j a5 a0 a1⊢;clear J K L af ak al am an cz;go_cut [] from 4 (fun c7=>afo b (wN.heap.size+1) i c7 s (.map (Ax mb)) p p l bx)
 case first=>
  have bf:=zu s bb b (wN.heap.size+1) mb I p l l C A bt (by omega) y z a5;have E:=fun cu=>vr s bb b (wN.heap.size+1) I (.map (Ax mb)) p l l C cu A y z a1 (by omega) (by omega);have F:=uA s bb b (wN.heap.size+1) I (.map (Ax mb)) p l p l C A y z;have G:=zx s bb b (wN.heap.size+1) I (.map (Ax mb)) p l l C cy cv A y z a0 ct (by omega);have f:=bj.out;unfold bB at f;clear a5 a0 a1 r a4 a2 a3 bj;cases hlt:bc (ao s p) with
  |true=>
   rw[hlt,ab rfl]at f;have q:=ar f;have g:=fun w=>jL (ao s p) w;rw[hlt]at g;clear f hlt E F G;generalize ao s p=bE at g⊢;go_wp2_with (first|(go_at_call 48;refine(g _).mono ?_;rintro e o ⟨rfl,rfl⟩)|(go_at_call 62;refine bf.mono ?_;rintro e bw ⟨rfl,h,c,ap⟩));go_meet
   case rel=>rw[<-q.out];exact⟨j.trans h,by simpa using c,ap⟩
  |false=>
   rw[hlt,aa (by simp)]at f;have g:=fun w=>jL (ao s p) w;rw[hlt]at g;cases hdg:aL (ao s p) with
   |true=>
    rw[hdg,ab rfl]at f;have m:=fun w=>gh (ao s p) w;rw[hdg]at m;have q:=ar f;have c5:=E hdg;clear f hlt hdg bf E F G;generalize ao s p=bE at g m⊢;go_wp2_with (first|(go_at_call 48;refine(g _).mono ?_;rintro e o ⟨rfl,rfl⟩)|(go_at_call 53;refine(m _).mono ?_;rintro e o ⟨rfl,rfl⟩)|(go_at_call 63;refine c5.mono ?_;rintro e bw ⟨rfl,h,c⟩;have B:Hid _:=c;clear c));go_meet
    case rel=>
     rw[<-q.out];have c:=B.out;cases hok:(bD s p).2 with
     |true=>rw[hok]at c;simp only[gJ]at c⊢;exact⟨j.trans h,by simpa using c.1,c.2⟩
     |false=>rw[hok]at c;simp only[yJ,if_false]at c⊢;exact⟨j.trans h,by simpa using c.1,c.2⟩
   |false=>
    rw[hdg,aa (by simp)]at f;have m:=fun w=>gh (ao s p) w;rw[hdg]at m;by_cases u:ao s p=34
    ·rw[ab u]at f;have q:=ar f;rw[u]at g m⊢;generalize bH s (s.size+1) (p+1) []=cn at F q;clear f hlt hdg u bf E G;go_wp2_with (first|(go_at_call 48;refine(g _).mono ?_;rintro e o ⟨rfl,rfl⟩)|(go_at_call 53;refine(m _).mono ?_;rintro e o ⟨rfl,rfl⟩)|(go_at_call 64;refine F.mono ?_;rintro e bw ⟨rfl,h,c⟩;have B:Hid _:=c;clear c));go_meet
     case rel=>
      rw[<-q.out];have c:=B.out;unfold iG at c;obtain⟨c6,dk,dn⟩:=cn;cases c6 with
      |true=>simp only[gJ]at c⊢;exact⟨j.trans h,by simpa using c.1,c.2⟩
      |false=>simp only[yJ,if_false]at c⊢;exact⟨j.trans h,by simpa using c.1,c.2⟩
    ·rw[aa u]at f;have cs:(ao s p==34)=W:=by rw[aC];exact u
     generalize jz (s.extract p s.size)=k at G f;have q:=ar f;clear f hlt hdg u bf E F;generalize ao s p=bE at g m cs⊢;go_wp2_with (first|(go_at_call 48;refine(g _).mono ?_;rintro e o ⟨rfl,rfl⟩)|(go_at_call 53;refine(m _).mono ?_;rintro e o ⟨rfl,rfl⟩)|(go_at_call 65;refine G.mono ?_;rintro e bw ⟨rfl,h,c⟩;have B:Hid _:=c;clear c));go_meet
     case rel=>
      rw[<-q.out];have c:=B.out;unfold Dk at c;by_cases a9:k=0
      ·rw[ab a9]at c⊢;exact⟨j.trans h,by simpa using c.1,c.2⟩
      ·rw[aa a9]at c⊢;refine⟨j.trans h,?_,c.2⟩;have ap:=c.1;have cq:(if k=7 then l+1 else l)=l+(if k=7 then 1 else 0):=by split<;>omega
       rw[cq]at ap;simpa using ap
 case rest=>
  obtain⟨ck,bo,cb⟩:=hcut;have cf:cA wN.heap.size wc 0 0 0 0 0 Q:=(ck.block wN.heap.size (au a8) (by omega) (by omega)).trans a8;clear a7 bp a8 y z j a5 a0 a1 r a4 a2 a3 bj;obtain⟨dg,a,d,k,n,x⟩:=bx;simp only at bo cb⊢;obtain⟨J,K,L,af,ak,al,am,an⟩:=eB bo;obtain⟨ds,dx,d0,d1,d2,d3,d4⟩:=aE cb;obtain⟨z0,c8,c9,da,dc,dd,d5⟩:=aE cf;have df:wN.heap.size<wc.heap.size:=au cf;go_wp2;refine bg (v:= B4 #[M O k,M O p,M O (a:Int),M O l,M O n,U x]) (by simp[results,Tryz.results40,go_sem,z0,c8,c9,da,dc,dd]) rfl ⟨rfl,?_,?_⟩
  ·refine Dl cm.out ?_;exact pJ (pJ (pJ (pJ (pJ (pJ (pJ (acJ av ck (by omega)) _ (by simp)) _ (by simp)) _ (by simp)) _ (by simp)) _ (by simp)) _ (by simp)) _ (by simp)
  ·exact((((((bo.other (by simp;omega) _).other (by simp;omega) _).other (by simp;omega) _).other (by simp;omega) _).other (by simp;omega) _).other (by simp;omega) _).other (by simp;omega) _
def pf(b:Nat)(w:Z)(s:ByteArray)(m:A2)(p l:Int)(k:Bool):Prop:=∃a,eE b w s m a p l k
theorem pf.cells{b:Nat}{w:Z}{s:ByteArray}{m:A2}{p l:Int}{k:Bool}(a:pf b w s m p l k):w.cell? ⟨b,0,X⟩=Ax (U s)/\w.cell? ⟨b,1,X⟩=Ax m/\w.cell? ⟨b,3,X⟩=Ax (M O p)/\w.cell? ⟨b,4,X⟩=Ax (M O l)/\w.cell? ⟨b,5,X⟩=Ax (.bool k)/\
  w.frozen? ⟨b,3,X⟩=W/\w.frozen? ⟨b,4,X⟩=W/\w.frozen? ⟨b,5,X⟩=W:=by obtain⟨c,a⟩:=a;exact eB a
theorem pf.pos{b:Nat}{w:Z}{s:ByteArray}{m:A2}{p:Nat}{l:Int}{k:Bool}(a:pf b w s m p l k):xz b w=p:=by obtain⟨c,a⟩:=a;exact nL a
theorem pf.lt{b:Nat}{w:Z}{s:ByteArray}{m:A2}{p l:Int}{k:Bool}(a:pf b w s m p l k):b<w.heap.size:=by obtain⟨c,a⟩:=a;exact au a
theorem pf.setP{b:Nat}{w:Z}{s:ByteArray}{m:A2}{p l:Int}{k:Bool}(a:pf b w s m p l k)(x:Int):pf b (w.setCell ⟨b,3,X⟩ (M O x)) s m x l k:=by obtain⟨c,a⟩:=a;exact⟨c,a.setP x⟩
theorem pf.heap{b:Nat}{w c:Z}{s:ByteArray}{m:A2}{p l:Int}{k:Bool}(a:pf b w s m p l k)(e:c.heap[b]?=w.heap[b]?):pf b c s m p l k:=by obtain⟨d,a⟩:=a;exact⟨d,e.trans a⟩
theorem aaG(s:ByteArray)(r:s.size<=70000)(b mb:Nat)(w:Z)(p:Nat)(l:Int)(u:p<s.size)(q:0<=l)(o:l<=100000)(t:mb≠b)(i:8<=b)(hS:pf b w s (.map (Ax mb)) p l W)(m:w.ownsMap S 9 (plainElem (H:=Unit) S 3) mb 22 (wkD 22))(j:zr w):
  B3 S 40 #[B2 (Ax ⟨b,0,X⟩)] w fun e c=>e= B1 (B4 #[M O (bB s p).k,M O p,M O ((bB s p).a:Int),M O l,M O (bB s p).n,U (bB s p).x])/\w.grownBy c (Ax b)/\pf b c s (.map (Ax mb)) ((bB s p).a:Int) (l+(bB s p).d) (!(bB s p).ok):=by
 obtain⟨v,hS⟩:=hS;exact(Gs s r b mb w p l u q o t i hS m j).mono fun e c ⟨f,g,h⟩=>⟨f,g,_,h⟩
theorem Fb(i:Nat)(a:i<11):dh (40+(i:Int))=bi fl i:=by
 unfold dh;rw[aa (by omega),aa (by omega),aa (by omega),ab (by omega)];rw[show(40+(i:Int)-40).toNat=i by omega]
theorem Fc(i:Nat)(a:i<18):dh (61+(i:Int))=bi gF i:=by
 unfold dh;rw[aa (by omega),aa (by omega),aa (by omega),aa (by omega),ab (by omega)];rw[show(61+(i:Int)-61).toNat=i by omega]
def Sgn(r:ByteArray)(k:Int)(n:Nat):Prop:=(k=0/\n=0)\/(n=(dh k).size/\1<=n/\Y r.data.toList (dh k).data.toList=T/\k≠0)
theorem rp(V:Array A2)(base:Int)(r:ByteArray)(N:Nat)(d:0<base)(c:∀i,i<N->dh (base+(i:Int))=bi V i):∀(f i:Nat)(a:Int×Nat),i+f<=N->Sgn r a.1 a.2->Sgn r (ro V base r f i a).1 (ro V base r f i a).2
 |0,i,a,_,b=>b
 |f+1,i,a,g,b=>by
  unfold ro;refine rp V base r N d c f (i+1) _ (by omega) ?_;split
  ·rename_i e;refine .inr ⟨?_,?_,?_,?_⟩
   ·show(bi V i).size=_;rw[c i (by omega)]
   ·show 1<=(bi V i).size;omega
   ·show Y _ (dh (base+(i:Int))).data.toList=T;rw[c i (by omega)];exact e.2
   ·show base+(i:Int)≠0;omega
  ·exact b
theorem aaH(r x:ByteArray)(a:Y r.data.toList x.data.toList=T):x.size<=r.size:=by
 unfold Y at a;rw[qz]at a;have:=a.length_le
 rwa [cJ,cJ]at this
theorem un(r:ByteArray)(h:0<r.size)(a:jz r≠0):1<=(dh (jz r)).size/\(dh (jz r)).size<=r.size:=by
 unfold jz at a⊢;split
 ·exact⟨by decide,by show 1<=r.size;omega⟩
 split
 ·exact⟨by decide,by show 1<=r.size;omega⟩
 rename_i c d;rw[aa c,aa d]at a;have f:=rp fl 40 r 11 (by omega) Fb 11 0 (0,0) (by omega) (.inl ⟨rfl,rfl⟩);have g:=rp gF 61 r 18 (by omega) Fc 18 0 _ (by omega) f;rcases g with⟨b,_⟩|⟨b,i,e,_⟩
 ·exact absurd b a
 ·exact⟨by omega,aaH r _ e⟩
theorem Fd(s:ByteArray)(p:Nat)(a:bc (ao s p)=T):p<jy s (s.size+1) p:=by
 have b:p<s.size:=by
  rcases be p s.size with h1|h1
  ·exact h1
  ·exact absurd (.inl a) (zh (by omega))
 rw[jy,ab (.inl a)];have:=qa s s.size (p+1) (by omega);omega
theorem gb(s:ByteArray)(p:Nat)(i:p<s.size)(b:(bB s p).ok=T):p<(bB s p).a/\(bB s p).a<=s.size/\0<=(bB s p).d/\(bB s p).d<=1:=by
 unfold bB at b⊢;split
 ·rename_i h;exact⟨Fd s p h,(qa s _ p (by omega)).2,by simp,by simp⟩
 split
 ·rename_i c e;rw[aa c,ab e]at b;have:=pb s p i;split
  ·exact⟨this.1,this.2,by simp,by simp⟩
  ·rename_i f;rw[aa f]at b;cases b
 split
 ·rename_i c e f;rw[aa c,aa e,ab f]at b;have:=nK s (s.size+1) (p+1) [] (by omega);split
  ·exact⟨by simp only;omega,this.2.1,by simp,by simp⟩
  ·rename_i g;rw[aa g]at b;cases b
 ·rename_i c e f;rw[aa c,aa e,aa f]at b;split
  ·rename_i g;rw[ab g]at b;cases b
  ·rename_i g;have j:=gk s p s.size (ag _);have:=un (s.extract p s.size) (by omega) g;refine⟨by simp only;omega,by simp only;omega,?_,?_⟩
   ·simp only;split<;>omega
   ·simp only;split<;>omega
def Gt(c:Int):Bool:=decide (c≠10/\c≠ -1)
theorem Dm:Gt (-1)=W:=by decide
def vv(s:ByteArray)(p:Nat):Nat:=eH Gt s (s.size+1) p
def blk(s:ByteArray):Nat->Nat->Nat
 |0,p=>p
 |f+1,p=>if s.size<=p then p else if eJ (ao s p)=T then blk s f (p+1) else if ao s p=45/\ao s (p+1)=45 then blk s f (vv s p) else p
theorem oe(s:ByteArray)(p:Nat)(a:p<=s.size):p<=vv s p/\vv s p<=s.size:=jm Gt Dm s _ p a
theorem rq(s:ByteArray)(p:Nat)(a:ao s p=45):p<vv s p:=by
 have b:=ba a (by omega);unfold vv;rw[eH,ab (by rw[a];decide)];have:=jm Gt Dm s s.size (p+1) (by omega);omega
theorem rs(s:ByteArray):∀(f a p:Nat),p<=s.size->s.size<p+f->s.size<p+a->blk s f p=blk s a p
 |0,a,p,b,c,d=>by omega
 |f+1,0,p,b,c,d=>by omega
 |f+1,a+1,p,b,c,d=>by
  unfold blk;split
  ·rfl
  split
  ·exact rs s f a (p+1) (by omega) (by omega) (by omega)
  split
  ·rename_i g;have h:=rq s p g.1;have e:=oe s p b;exact rs s f a _ e.2 (by omega) (by omega)
  ·rfl
theorem gC(s:ByteArray):∀(f p:Nat),p<=s.size->p<=blk s f p/\blk s f p<=s.size
 |0,p,a=>⟨ag _,a⟩
 |f+1,p,a=>by
  unfold blk;split
  ·exact⟨ag _,a⟩
  split
  ·have:=gC s f (p+1) (by omega);omega
  split
  ·have b:=oe s p a;have:=gC s f (vv s p) b.2;omega
  ·exact⟨ag _,a⟩
def qu(s:ByteArray):Nat->Nat->Int->Bool×Nat×List Tk
 |0,_,_=>(T,0,[])
 |f+1,p,l=>
  if s.size<=blk s (s.size+1) p then(T,0,[])
  else if(bB s (blk s (s.size+1) p)).ok=T then
   ((qu s f (bB s (blk s (s.size+1) p)).a (l+(bB s (blk s (s.size+1) p)).d)).1,(qu s f (bB s (blk s (s.size+1) p)).a (l+(bB s (blk s (s.size+1) p)).d)).2.1,
    ⟨(bB s (blk s (s.size+1) p)).k,(blk s (s.size+1) p:Nat),((bB s (blk s (s.size+1) p)).a:Nat),l,(bB s (blk s (s.size+1) p)).n,(bB s (blk s (s.size+1) p)).x⟩::(qu s f (bB s (blk s (s.size+1) p)).a (l+(bB s (blk s (s.size+1) p)).d)).2.2)
  else(W,(bB s (blk s (s.size+1) p)).a,[])
structure tw (s:ByteArray) (E:Bool×Nat×List Tk) (pre:List Tk) (p:Nat) (l:Int) (f:Nat):Prop where
 fu:s.size<p+f
 le:p<=s.size
 l0:0<=l
 l1:l<=(p:Int)+1
 cn:pre.length<=p
 eq:E=((qu s f p l).1,(qu s f p l).2.1,pre++(qu s f p l).2.2)
theorem uo(s:ByteArray)(p q:Nat)(a:blk s (s.size+1) p=blk s (s.size+1) q):∀(f:Nat)(l:Int),qu s f p l=qu s f q l
 |0,_=>rfl
 |f+1,l=>by rw[qu,qu,a]
theorem xL(s:ByteArray)(p:Nat)(b:p<s.size)(a:eJ (ao s p)=T):blk s (s.size+1) p=blk s (s.size+1) (p+1):=by
 rw[blk,aa (by omega),ab a];exact rs s _ _ _ (by omega) (by omega) (by omega)
theorem IF(c:Int)(a:c=45):¬eJ c=T:=by subst a;decide
theorem IG(s:ByteArray)(p:Nat)(a:ao s p=45)(b:ao s (p+1)=45):blk s (s.size+1) p=blk s (s.size+1) (vv s p):=by
 have e:=ba a (by omega);have d:=rq s p a;have c:=oe s p (by omega);rw[blk,aa (by omega),aa (IF _ a),ab ⟨a,b⟩];exact rs s _ _ _ c.2 (by omega) (by omega)
theorem uq(s:ByteArray)(p:Nat)(a:¬eJ (ao s p)=T)(b:¬(ao s p=45/\ao s (p+1)=45)):blk s (s.size+1) p=p:=by
 rw[blk,aa a,aa b];split<;>rfl
theorem zy(s:ByteArray)(p:Nat)(a:s.size<=p):blk s (s.size+1) p=p:=by rw[blk,ab a]
theorem tw.blank{s:ByteArray}{E:Bool×Nat×List Tk}{pre:List Tk}{p b:Nat}{l:Int}(a:tw s E pre p l b)(d:p<s.size)(c:eJ (ao s p)=T):tw s E pre (p+1) l b:=
 ⟨by have:=a.fu;omega,by omega,a.l0,by have:=a.l1;omega,by have:=a.cn;omega,by rw[a.eq,uo s p (p+1) (xL s p d c)]⟩
theorem tw.dash{s:ByteArray}{E:Bool×Nat×List Tk}{pre:List Tk}{p b:Nat}{l:Int}(a:tw s E pre p l b)(c:ao s p=45)(d:ao s (p+1)=45):tw s E pre (vv s p) l b:=by
 have f:=ba c (by omega);have e:=oe s p (by omega);exact⟨by have:=a.fu;omega,e.2,a.l0,by have:=a.l1;omega,by have:=a.cn;omega,by rw[a.eq,uo s p _ (IG s p c d)]⟩
theorem tw.atEnd{s:ByteArray}{E:Bool×Nat×List Tk}{pre:List Tk}{p a:Nat}{l:Int}(c:tw s E pre p l a)(b:s.size<=p):E=(T,0,pre):=by
 rw[c.eq];cases a with
 |zero=>simp[qu]
 |succ a=>rw[qu,zy s p b,ab b];simp
theorem tw.tok{s:ByteArray}{E:Bool×Nat×List Tk}{pre:List Tk}{p b:Nat}{l:Int}(c:tw s E pre p l b)(i:p<s.size)(g:¬eJ (ao s p)=T)(h:¬(ao s p=45/\ao s (p+1)=45))(e:(bB s p).ok=T):
  tw s E (pre++[⟨(bB s p).k,(p:Nat),((bB s p).a:Nat),l,(bB s p).n,(bB s p).x⟩]) (bB s p).a (l+(bB s p).d) (b-1):=by
 have j:=gb s p i e;have m:=c.fu;obtain⟨b,rfl⟩:∃f,b=f+1:=⟨b-1,by omega⟩;refine⟨by omega,j.2.1,by have:=c.l0;omega,by have:=c.l1;omega,by have:=c.cn;simp;omega,?_⟩;rw[c.eq,qu,uq s p g h,aa (by omega),ab e];simp
theorem tw.bad{s:ByteArray}{E:Bool×Nat×List Tk}{pre:List Tk}{p b:Nat}{l:Int}(c:tw s E pre p l b)(i:p<s.size)(e:¬eJ (ao s p)=T)(f:¬(ao s p=45/\ao s (p+1)=45))(g:(bB s p).ok=W):
  E=(W,(bB s p).a,pre):=by
 have h:=c.fu;obtain⟨b,rfl⟩:∃d,b=d+1:=⟨b-1,by omega⟩;rw[c.eq,qu,uq s p e f,aa (by omega),aa (by rw[g];simp)];simp
