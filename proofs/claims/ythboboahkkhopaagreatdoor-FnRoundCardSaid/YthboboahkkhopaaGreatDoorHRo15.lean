import Derived.Test.YthboboahkkhopaaGreatDoorHRo12
set_option linter.all false
set_option maxRecDepth 100000
set_option maxHeartbeats 3200000
open Go.Value renaming int->M,slice->S,agg->V,string->W,bool->X
open Go.IntKind renaming i64->O
open Bool renaming false->Q,true->U
open Go.Proofs.Tryz renaming prog->T
namespace Go.Proofs.YthboboahkkhopaaGreatDoor
open Go.RowKit Go.Maps Go.WideMaps
variable{N:Nd}{ns:List Nd}{vk vn vt:Value}{w:World}
def Ei(ns:List Nd)(N:Nd):Nat->Nat->Bool
 |0,_=>U
 |f+1,j=>eA (dK ns N j)&&Ei ns N f (j+1)
structure aod (ns:List Nd) (N:Nd) (f j:Nat) (R:Bool):Prop where
 out:Ei ns N f j=R
def akI(A:NArg w vt ns N vn vk)(L:N.k=1):
  Calls T 84 #[V #[vt],jG N vn vk] w (gy w (X (Ei ns N N.ks.length 0&&aL N Q Q Q Q))):=by
 obtain⟨F,I,rfl⟩:=A.t.form;obtain⟨G,J,rfl⟩:=A.n.form;obtain⟨H,K,rfl⟩:=A.k.form;have b:=St.start A;have a0:=A.l2;clear A;have a4:(N.k==1)=U:=by rw[L];rfl
 clear L;have⟨j,m⟩:=aJ (Ei ns N N.ks.length 0);rw[m];have al:aod ns N N.ks.length 0 j:=⟨m⟩;clear m;unfold jG;go_in;go_wp2_with fail;generalize (w.alloc (.cells #[S F ns.length I] 25)).alloc (.cells #[M O N.k,M O N.f,M O N.t,M O N.l,M O N.op,M O N.n,W N.x,S G N.nm.length J,S H N.ks.length K] 61)=av at b⊢;go_loopw [6,18] (λ_ o wr=>∃(c:Nat),o= M O c/\c<=N.ks.length/\aod ns N (N.ks.length-c) c j/\St w (S F ns.length I) ns N (S G N.nm.length J) (S H N.ks.length K) wr) (λ_ o _=>N.ks.length-(intOf o).toNat)
 case atStart=>exact⟨0,rfl,by omega,al,b⟩
 case round=>
  clear b;obtain⟨c,rfl,ax,ak,b⟩:=hrel;have⟨p,q,r,s,u,v,y,z,B,C⟩:=bu b.bn;have E:=b.bt;have d:=ak.out;by_cases ap:c<N.ks.length
  .rw[show N.ks.length-c=(N.ks.length-(c+1))+1 by omega,Ei]at d;have ao:(c:Int)<(N.ks.length:Int):=by omega
   have h:=ry b.a c ap;unfold jG at h;generalize dK ns N c=ad at d h;have i:=λw=>DK ad w;cases hx:eA ad with
   |false=>
    rw[hx,fw]at d;rw[hx]at i;have e:=am d;clear d hx;go_wp2_with (first|(go_at_call 138;refine h.mono ?_;rintro an ar ⟨rfl,g⟩;replace b:=b.below g;clear g;obtain⟨p,q,r,s,u,v,y,z,B,C⟩:=bu b.bn;have E:=b.bt)|(go_at_call 83;refine iI (i _) ?_));go_ret;exact⟨by rw[<-e.out];rfl,b.bel⟩
   |true=>
    rw[hx,gE]at d;rw[hx]at i;have e:aod ns N (N.ks.length-(c+1)) (c+1) j:=⟨d⟩;clear d hx;go_wp2_with (first|(go_at_call 138;refine h.mono ?_;rintro an ar ⟨rfl,g⟩;replace b:=b.below g;clear g;obtain⟨p,q,r,s,u,v,y,z,B,C⟩:=bu b.bn;have E:=b.bt)|(go_at_call 83;refine iI (i _) ?_));exact⟨⟨c+1,by go_num,by omega,e,b⟩,by simp[intOf];omega⟩
  .rw[show N.ks.length-c=0 by omega,Ei]at d;have e:=am d;have ao:¬(c:Int)<(N.ks.length:Int):=by omega
   clear d;go_wp2_with (go_at_call 139;refine b.bare λau b=>?_;obtain⟨p,q,r,s,u,v,y,z,B,C⟩:=bu b.bn;have E:=b.bt);go_ret;exact⟨by rw[<-e.out];rfl,b.bel⟩
def ahs(A:NArg w vt ns N vn vk)(b:0<N.ks.length):
  Calls T 138 #[V #[vt],V #[M O N.k,M O N.f,M O N.t,M O N.l,M O N.op,M O N.n,W N.x,vn,vk],M O ((N.ks.length:Int)-1)] w (gy w (M O (dK ns N (N.ks.length-1)))):=by
 have a:=ry A (N.ks.length-1) (by omega);rw[show((N.ks.length-1:Nat):Int)=(N.ks.length:Int)-1 by omega]at a;exact a
def akJ(A:NArg w vt ns N vn vk)(b:0<N.ks.length):
  Calls T 141 #[V #[vt],V #[M O N.k,M O N.f,M O N.t,M O N.l,M O N.op,M O N.n,W N.x,vn,vk],M O 0,M O ((N.ks.length:Int)-1)] w (gy w (X (jF ns N (N.ks.length-1) 0))):=by
 have a:=nD w vt ns N vn vk 0 (N.ks.length-1) A.t A.n A.k A.ok (by omega) A.ln A.l2;rw[show((N.ks.length-1:Nat):Int)=(N.ks.length:Int)-1 by omega]at a;exact a
def akK(A:NArg w vt ns N vn vk)(e:N.k=9):
  Calls T 84 #[V #[vt],jG N vn vk] w (gy w (X (aL N Q Q Q U&&(fj N 1 1&&(((N.ks.length:Int)==3||(N.ks.length:Int)==4)&&(jF ns N (N.ks.length-1) 0&&(dK ns N (N.ks.length-1)==1))))))):=by
 obtain⟨x,B,rfl⟩:=A.t.form;obtain⟨y,C,rfl⟩:=A.n.form;obtain⟨z,E,rfl⟩:=A.k.form;have b:=St.start A;have F:=A.l2;clear A;have G:=kqf e;have H:=kqt e 9 rfl;clear e;unfold jG;cases t0:aL N Q Q Q U
 case' true=>
  cases t1:fj N 1 1
  case' true=>
   cases t2:((N.ks.length:Int)==3)
   case' false=>cases t5:((N.ks.length:Int)==4)
   case' false.true=>
    have d:Hid (0<N.ks.length):=by show _<_;have:=jq t5;omega
    cases t3:jF ns N (N.ks.length-1) 0
    case' true=>cases t4:(dK ns N (N.ks.length-1)==1)
   case' true.true.true=>
    have d:Hid (0<N.ks.length):=by show _<_;have:=jq t2;omega
    cases t3:jF ns N (N.ks.length-1) 0
    case' true=>cases t4:(dK ns N (N.ks.length-1)==1)
 all_goals
  go_in;go_wp2_with (first|(go_at_call 139;refine b.bare λs b=>?_;obtain⟨f,g,h,i,j,l,m,o,p,q⟩:=bu b.bn;have r:=b.bt)|(go_at_call 140;refine b.named λs b=>?_;obtain⟨f,g,h,i,j,l,m,o,p,q⟩:=bu b.bn;have r:=b.bt)|(go_at_call 141;with_reducible refine(akJ b.a d.out).mono ?_;rintro u v ⟨rfl,c⟩;replace b:=b.below c;clear c;obtain⟨f,g,h,i,j,l,m,o,p,q⟩:=bu b.bn;have r:=b.bt)|(go_at_call 138;with_reducible refine(ahs b.a d.out).mono ?_;rintro u v ⟨rfl,c⟩;replace b:=b.below c;clear c;obtain⟨f,g,h,i,j,l,m,o,p,q⟩:=bu b.bn;have r:=b.bt));go_ret;exact⟨rfl,b.bel⟩
def BD(ns:List Nd)(N:Nd):Nat->Nat->Bool
 |0,_=>U
 |f+1,j=>ti (dK ns N j)&&BD ns N f (j+1)
structure aoe (ns:List Nd) (N:Nd) (f j:Nat) (R:Bool):Prop where
 out:BD ns N f j=R
def akL(A:NArg w vt ns N vn vk)(B:N.k=5):
  Calls T 84 #[V #[vt],jG N vn vk] w (gy w (X (aL N Q U Q Q&&(decide (1<=N.n/\N.n<(N.ks.length:Int))&&(BD ns N N.n.toNat 0&&jF ns N (N.ks.length-N.n.toNat) N.n.toNat))))):=by
 obtain⟨al,ar,rfl⟩:=A.t.form;obtain⟨an,au,rfl⟩:=A.n.form;obtain⟨ao,av,rfl⟩:=A.k.form;have b:=St.start A;have a6:=A.l2;clear A;have a9:=kqf B;have ba:=kqt B 5 rfl;clear B;unfold jG;cases t0:aL N Q U Q Q with
 |false=>
  go_in;go_wp2_with (first|(go_at_call 139;refine b.bare λz b=>?_;obtain⟨g,h,i,j,l,m,o,p,q,r⟩:=bu b.bn;have s:=b.bt));go_ret;exact⟨rfl,b.bel⟩
 |true=>
  by_cases a0:N.n<1
  .rw[aE (by omega)];go_in;go_wp2_with (first|(go_at_call 139;refine b.bare λz b=>?_;obtain⟨g,h,i,j,l,m,o,p,q,r⟩:=bu b.bn;have s:=b.bt));go_ret;exact⟨rfl,b.bel⟩
  by_cases a4:(N.ks.length:Int)<=N.n
  .rw[aE (by omega)];go_in;go_wp2_with (first|(go_at_call 139;refine b.bare λz b=>?_;obtain⟨g,h,i,j,l,m,o,p,q,r⟩:=bu b.bn;have s:=b.bt));go_ret;exact⟨rfl,b.bel⟩
  rw[aI (by omega)];obtain⟨d,I⟩:∃d:Nat,N.n=(d:Int):=⟨N.n.toNat,by omega⟩;have J:N.n.toNat=d:=by omega
  rw[J];have a8:d<N.ks.length:=by omega
  have ad:=am I;have⟨y,C⟩:=aJ (BD ns N d 0);rw[C];have ak:aoe ns N d 0 y:=⟨C⟩;clear C I J;go_in;go_wp2_with (first|(go_at_call 139;refine b.bare λz b=>?_;obtain⟨g,h,i,j,l,m,o,p,q,r⟩:=bu b.bn;have s:=b.bt));go_loopw [7] (λG wr=>∃(c:Nat),G= M O c/\c<=d/\aoe ns N (d-c) c y/\St w (S al ns.length ar) ns N (S an N.nm.length au) (S ao N.ks.length av) wr) (λG _=>d-(intOf G).toNat)
  case atStart=>exact⟨0,rfl,by omega,ak,b⟩
  case round=>
   clear b;obtain⟨c,rfl,a5,L,b⟩:=hrel;have⟨bb,bc,bd,bf,bh,bj,bk,bl,bo,bp⟩:=bu b.bn;have br:=b.bt;have e:=L.out;have E:=ad.out;by_cases a7:c<d
   .rw[show d-c=(d-(c+1))+1 by omega,BD]at e;have ax:(c:Int)<N.n:=by omega
    have x:=ry b.a c (by omega);unfold jG at x;have v:=λw=>Iu (dK ns N c) w;clear E;generalize dK ns N c=ap at e x v;cases hx:ti ap with
    |false=>
     rw[hx,fw]at e;rw[hx]at v;have u:=am e;clear e hx;go_wp2_with (first|(go_at_call 138;refine x.mono ?_;rintro H K ⟨rfl,f⟩;replace b:=b.below f;clear f;obtain⟨g,h,i,j,l,m,o,p,q,r⟩:=bu b.bn;have s:=b.bt)|(go_at_call 142;refine iI (v _) ?_));go_ret;exact⟨by rw[<-u.out];rfl,b.bel⟩
    |true=>
     rw[hx,gE]at e;rw[hx]at v;have u:aoe ns N (d-(c+1)) (c+1) y:=⟨e⟩;clear e hx;go_wp2_with (first|(go_at_call 138;refine x.mono ?_;rintro H K ⟨rfl,f⟩;replace b:=b.below f;clear f;obtain⟨g,h,i,j,l,m,o,p,q,r⟩:=bu b.bn;have s:=b.bt)|(go_at_call 142;refine iI (v _) ?_));exact⟨⟨c+1,by go_num,by omega,u,b⟩,by simp[intOf];omega⟩
   .rw[show d-c=0 by omega,BD]at e;have u:=am e;have ax:¬(c:Int)<N.n:=by omega
    have F:=nD _ _ ns N _ _ d N.ks.length b.a.t b.a.n b.a.k b.a.ok (af _) b.a.ln b.a.l2;unfold jG at F;rw[<-E]at F;clear e E;go_wp2_with (go_at_call 141;refine F.mono ?_;rintro H K ⟨rfl,f⟩;replace b:=b.below f;clear f;obtain⟨g,h,i,j,l,m,o,p,q,r⟩:=bu b.bn;have s:=b.bt);go_ret;exact⟨by rw[<-u.out];rfl,b.bel⟩
def alB(c:Int):Bool:=cD c||cJ c
def rz(a b:ByteArray)(i:Nat):aA (a++b) i=if i<a.size then aA a i else aA b (i-a.size):=by
 have e:(a++b).data.toList=a.data.toList++b.data.toList:=by rw[lm,acC]
 have f:a.data.toList.length=a.size:=iG;rw[ut,e];split<;>rename_i c
 all_goals
  by_cases d:i<a.size
  .rw[ae d,ut];rw[gq (by omega)]at c;rw[c]
  .rw[aa d,ut];rw[dE (by omega),f]at c;rw[c]
def Ej(s:ByteArray)(n i:Nat)(c:n<=s.size)(b:i<n):aA (s.extract 0 n) i=aA s i:=by
 rw[ut,ut];have a:(s.extract 0 n).data.toList=(s.data.toList.drop 0).take (n-0):=by rw[<-ja,Lib.extract_toList]
 rw[a,ga,wF,lp,ae b]
def opn(k:Int):Bool:=decide (k=46\/k=47\/k=40\/k=44\/k=10\/k=25\/60<k)
structure Cs (x:ByteArray) (n:Nat):Prop where
 out:2*x.size<=n
def Cs.le{x:ByteArray}{m n:Nat}(h:Cs x m)(a:m<=n):Cs x n:=⟨di h.out a⟩
def wg{x:ByteArray}{n:Nat}(h:2*x.size<=n:=by decide):Cs x n:=⟨h⟩
def aof:Cs ⟨#[]⟩ 0:=⟨by decide⟩
def adr(s:ByteArray):(eD (dA s)).size<=2+4*s.size:=by
 have:=Dm s s.size (af _);rw[sD];unfold dA;rw[bm];simp;omega
def aog(s:ByteArray):Cs (eD (dA s)) (16+18*s.size):=⟨by have:=adr s;omega⟩
def ak0(s:ByteArray)(g:∀i,i<s.size->cJ (aA s i)=U):(eD (dA s)).size=2+s.size:=by
 have e:∀b:List UInt8,(∀a∈b,cJ (a.toNat:Int)=U)->(b.flatMap λa=>esc (a.toNat:Int)).length=b.length:=by
  intro b c
  induction b with
  |nil=>rfl
  |cons a b k=>
   have d:=kF (c a bq);have:esc (a.toNat:Int)=[(a.toNat:Int)]:=by unfold esc;rw[aa (by omega),aa (by omega),aa (by omega),aa (by omega)]
   rw[CD,bm,k (λl j=>c l (dr _ j)),this,bB];simp;omega
 have f:∀a∈s.data.toList,cJ (a.toNat:Int)=U:=λa d=>by
  obtain⟨i,h,rfl⟩:=iw d;have:=(jl s i s.data.toList[i]).1 (az h);rw[<-this.2];exact g i this.1
 rw[sD];unfold dA qt;rw[cj (by rw[iG];exact af _)];have:=e _ f;have c:s.data.toList.length=s.size:=iG;simp only[bm,bB,fs];omega
