import Derived.Test.YtoahhnnflblfaaaGreatDoorRows
import Derived.LaidMore
import Derived.LaidSub
import Derived.OpenVars
import Derived.Stop.Joined
import Derived.Test.YtoahhnnflblfaaaGreatDoorHVk07
import Derived.Test.YtoahhnnflblfaaaGreatDoorHVk14
import Derived.Lib.ItoaLen
set_option linter.all false
set_option maxRecDepth 100000
set_option maxHeartbeats 6400000
open Go.Value renaming int->M,slice->A3,bool->A4
open List renaming replicate->O
open Bool renaming false->Q,true->A1
open Go.RowKit renaming Below->T,Hid->Z,intOf->Ax
open Option renaming some->U,none->A0
open Go renaming World->V,Value->Y,Calls->A2
open Go.Proofs.Tryz renaming prog->X
namespace Go.Proofs.YtoahhnnflblfaaaGreatDoor
open Go.ChangeShapes Go.WideShapes Go.ChangeAt Go.WideMaps Go.WideElems Go.RowKit
theorem Cn{H:Type}{enc:TypeId×Y->H}{P:Program}{w:V}{base:Nat}{B:Nat->Bool}{u:Bool}{fuel:Nat}{t e:TypeId}{n:Nat}{cs:List Y}{d:List (List UInt8)}{p:List MemPlace}
  (z:P.underlying t=U (.array n e)) (r:P.underlying e=U .string) (m:P.cellsOf e=1) (q:P.cellsOf t=n)
  (h:DataW.trod enc P w base B u fuel t cs=U (.agg (d.map fun b=> .lit (.string b)),p)):cs=d.map fun b=>Value.string ⟨b.toArray⟩:=by
 obtain⟨C,F,rfl,f,x,A,s⟩:=DataW.trod_array z h;simp only[pG,DataW.agg.injEq]at f;have y:d.length=n:=by have:=congrArg List.length f.1;simpa [A] using this
 apply List.ext_getElem (by simp[x,q,y]);intro a l E;have v:a<n:=by omega
 have g:=s a v;rw[m,uJ,aE (by omega)]at g;obtain⟨i,j,k,_⟩:=DataW.trod_string r g;have o:cs[a]= .string i:=by
  have:((cs.drop a).take 1)[0]?=U (.string i):=by rw[j];rfl
  simpa [mF,qI,aE l] using this
 have c:(C.map (·.1))[a]?=(d.map fun b=>(DataW.lit (.string b):DataW H))[a]?:=by rw[f.1]
 rw[cA,cA,aE (by omega),aE (by omega)]at c;simp only[uK,iq]at c;rw[k]at c;simp only[DataW.lit.injEq,Lit.string.injEq]at c;rw[o,List.getElem_map,<-c]
theorem own:ownKnob Tryz.prog.godebug=A0:=by kernel_rfl
theorem Ev:laidOutB X=A1:=by kernel_rfl
end Go.Proofs.YtoahhnnflblfaaaGreatDoor
namespace Go.Proofs.YtoahhnnflblfaaaGreatDoor
open Go.RowKit
def rG(S:List Int):List Int->Int->Option Int
 |[],a=>U a
 |k::r,a=>if k=a-1/\S.getD k.toNat 0≠0 then rG S r (a-S.getD k.toNat 0) else A0
def po(S:List Int)(i:Nat)(ks:List Int):Int:=match rG S ks.reverse i with|some a=>(i:Int)-a+1|none=>0
def gC(ns:List Nd):List Int:=ns.foldl (fun a b=>a++[po a a.length b.ks]) []
theorem rj(ns:List Nd)(N:Nd):gC (ns++[N])=gC ns++[po (gC ns) (gC ns).length N.ks]:=by simp[gC]
theorem vK{b:Type}{p:List b->Prop}(c:p [])(d:∀a x,p a->p (a++[x]))(l:List b):p l:=by
 rw[<-List.reverse_reverse l]
 induction l.reverse with
 |nil=>exact c
 |cons x f e=>rw[List.reverse_cons];exact d _ x e
theorem jw:∀(ns:List Nd),(gC ns).length=ns.length:=by
 intro ns;refine vK (p:=fun ns=>(gC ns).length=ns.length) rfl (fun c b a=>?_) ns;rw[rj];simp[a]
structure akc (S:List Int) (l:List Int) (a:Int) (R:Option Int):Prop where
 out:rG S l a=R
def yu(S:List Int):Prop:=∀(a:Nat) z,S[a]?=U z->0<=z/\z<=(a:Int)+1
theorem I3{S:List Int}(hS:yu S):∀(l:List Int)(a b:Int),(∀k∈l,0<=k)->0<=a->rG S l a=U b->0<=b/\b<=a
 |[],a,b,_,f,h=>by simp[rG]at h;omega
 |k::r,a,b,d,f,h=>by
  rw[rG]at h;split at h
  ·rename_i g;have i:=d k (by simp);have e:0<=S.getD k.toNat 0/\S.getD k.toNat 0<=k+1:=by
    rw[bc];cases hs:S[k.toNat]? with
    |none=>simp;omega
    |some c=>have:=hS _ c hs;simp;omega
   have:=I3 hS r _ b (fun c e=>d c (by simp[e])) (by omega) h;omega
  ·cases h
theorem ag9{S:List Int}(hS:yu S)(i:Nat)(ks:List Int)(b:∀k∈ks,0<=k):0<=po S i ks/\po S i ks<=(i:Int)+1:=by
 unfold po;cases h:rG S ks.reverse i with
 |none=>simp;omega
 |some a=>
  have:=I3 hS ks.reverse i a (fun k c=>b k (by simpa using c)) (by omega) h;simp;omega
theorem uw(ns:List Nd):(∀N∈ns,∀k∈N.ks,0<=k)->yu (gC ns):=by
 refine vK (p:=fun ns=>(∀N∈ns,∀k∈N.ks,0<=k)->yu (gC ns)) (fun _ b h a=>by simp[gC]at a) (fun c N n e=>?_) ns;have f:=n (fun i l=>e i (by simp[l]));intro b h a;rw[rj]at a;rcases bv b (gC c).length with g|g
 ·rw[iD g]at a;exact f b h a
 ·rw[gF g]at a;obtain⟨j,d⟩:=List.getElem?_eq_some_iff.1 a;simp at j d;subst d;obtain rfl:b=(gC c).length:=by omega
  exact ag9 f _ _ (fun k m=>e N (by simp) k m)
theorem Dg(a:List Int)(n k:Nat)(b:Int)(c:a.length=k)(e:k<n):(a.map (M .i64)++O (n-k) (M .i64 0)).set k (.int .i64 b)=(a++[b]).map (M .i64)++O (n-(k+1)) (M .i64 0):=by
 have d:(a.map (M .i64)).length=k:=by rw[dL,c]
 rw[List.set_append_right _ _ (by omega),d,gH,show n-k=(n-(k+1))+1 by omega,List.replicate_succ,dw];simp
theorem GA(w:V)(v:Y)(ns:List Nd)(h:co w v ns)(cs:ns.length<=3000)(am:∀N∈ns,N.ks.length<=1048576)(z:∀(i:Nat) N,ns[i]?=U N->∀k∈N.ks,0<=k/\k<(i:Int)):
  A2 X 23 #[.agg #[v]] w fun e b5=>∃g,e= .returned (.slice (U ⟨g,0,A0⟩) ns.length ns.length)/\b5.ownsRow w.heap.size 3 1 (.slice (U ⟨g,0,A0⟩) ns.length ns.length) ns.length ((gC ns).map (M .i64))/\T w.heap.size w b5:=by
 obtain⟨af,al,rfl⟩:=h.form;obtain⟨a,a0⟩:=aA ns.length;have a3:=aj a0;have b6:Z (co w (.slice af a al) ns):=by rw[<-a0];exact h
 have a5:Z ((∀N∈ns,N.ks.length<=1048576)/\(∀(i:Nat) N,ns[i]?=U N->∀k∈N.ks,0<=k/\k<(i:Int))/\∀k,yu (gC (ns.take k))):=⟨am,z,fun k=>uw _ (fun N am br p=>by
  obtain⟨i,bk,e⟩:=fL (ze am);exact(z i N (by rw[aE bk,e]) br p).1)⟩
 rw[a0]at cs⊢;clear h a0 am z;obtain⟨cB,bk,cu,cy,cz⟩:=fl pJ;go_in;go_wp2_with (at_make;refine zb _ rfl _ _ 31 rfl w.heap.size 3 cB (.int .i64 0) 1 Tryz.underlying31 bk cu cy .i64 .i64 _ _ a rfl rfl rfl rfl (by rw[cz];omega) (by unfold maxLen;omega) (by simp) ?_;intro a2 a1 y;have bf:T (w.alloc (.cells #[.slice af a al] 26)).heap.size (w.alloc (.cells #[.slice af a al] 26)) a2:=⟨y.os,y.tape,y.output,y.size,fun k z=>y.block k z (by simp)⟩;have dc:a2.cell? ⟨w.heap.size,0,A0⟩=U (.slice af a al):=by {rw[ay _ _ _ _ _ _ ((bf.block _ (by simp)).trans (ar w _))];rfl});have bw:T w.heap.size w a2:=((ai _ w).alloc (ag _) _).trans (bf.mono (by simp));rw[bu,show(madeCells (M .i64 0).cells (a*1)).toList=O a (M .i64 0) by rw[uJ];exact yJ _ a]at a1;have ct:w.heap.size+1<a2.heap.size:=(a1.lt (w.heap.size+1) rfl).2;clear dc bf y;go_loopw [17] (fun bp wr=>∃k:Nat,k<=a/\bp= .int .i64 k/\Z (wr.ownsRow w.heap.size 3 1 (.slice (U ⟨w.heap.size+1,0,A0⟩) a a) a ((gC (ns.take k)).map (M .i64)++O (a-k) (.int .i64 0)))/\T w.heap.size w wr) (fun bp _=>a-(Ax bp).toNat)
 case atStart=>exact⟨0,aG _,rfl,a1,bw⟩
 case round=>
  obtain⟨k,z,rfl,K,G⟩:=hrel;clear a1 bw ct;by_cases b1:k<a
  ·obtain⟨N,I⟩:=bH a3.out b1;have cr:=a5.out.1 N (dl I);have b0:=a5.out.2.1 k N I;have bn:=a5.out.2.2 k;obtain⟨dd,rfl,ec,eb,cp⟩:=(b6.out.below G).get I;have d2:(k:Int)<(a:Int):=by omega
   have d1:(0:Int)<=(k:Int):=by omega
   obtain⟨b9,ca,cb,cc,ce,cf,cl,bx,bA,b2,bl⟩:=cp;obtain⟨a9,ba,rfl⟩:=b2.form;obtain⟨s,u,rfl⟩:=bl.form;obtain⟨c,an⟩:=aA (gC (ns.take k));have bd:c.length=k:=by rw[<-an,jw,gx,a3.out];omega
   have b3:gC (ns.take (k+1))=c++[po c k N.ks]:=by
    rw[gG,I];show gC (ns.take k++[N])=_;rw[rj,an,bd]
   rw[an]at K bn;obtain⟨o,F⟩:=aA N.ks.length;rw[F]at bA cr;have bE:aK wr (.slice s o u) N.ks:=by rw[<-F];exact bl
   have n:=ano F bE b0 bn bd b3;have a6:akc c (N.ks.take o).reverse k (rG c N.ks.reverse k):=⟨by rw[<-F,za]⟩;obtain⟨bt,bb⟩:=aA (rG c N.ks.reverse k);rw[bb]at a6;have bs:=aj bb;generalize N.nm.length=a8 at bx;clear I b2 bl bE b0 bn bd b3 an F bb;go_wp2_with fail;have H:T wr.heap.size wr (wr.alloc (.cells #[.int .i64 N.k,.int .i64 N.f,.int .i64 N.t,.int .i64 N.l,.int .i64 N.op,.int .i64 N.n,.string N.x,.slice a9 a8 ba,.slice s o u] 36)):=(ai _ wr).alloc (ag _) _;have cm:(wr.alloc (.cells #[.int .i64 N.k,.int .i64 N.f,.int .i64 N.t,.int .i64 N.l,.int .i64 N.op,.int .i64 N.n,.string N.x,.slice a9 a8 ba,.slice s o u] 36)).cell? ⟨wr.heap.size,8,A0⟩=U (.slice s o u):=by rw[ay _ _ _ _ _ _ (ar wr _)];rfl
   have J:=aI K.out H;generalize wr.alloc (.cells #[.int .i64 N.k,.int .i64 N.f,.int .i64 N.t,.int .i64 N.l,.int .i64 N.op,.int .i64 N.n,.string N.x,.slice a9 a8 ba,.slice s o u] 36)=C at H cm J⊢;have b7:Z (aK C (.slice s o u) N.ks):=n.out.2.1.below H;have a4:=aj J;have bj:T w.heap.size w C:=G.trans (H.mono G.size);have d0:=J.frozenAt k;have dp:C.cell? ⟨w.heap.size+1,k,A0⟩=U (.int .i64 0):=by
    rw[J.cellAt k (by omega),gF (by rw[dL,n.out.2.2.2.2.1];exact ag _),dL,n.out.2.2.2.2.1,gH,D1,ab (by omega)]
   clear K J b9 ca cb cc ce cf cl bx bA G H;go_loop [6,7,8] (fun c9 da bq=>∃(d:Nat) (j:Int),c9= .int .i64 j/\da= .bool A1/\bq= .int .i64 ((d:Int)-1)/\d<=o/\0<=j/\j<=(k:Int)/\akc c (N.ks.take d).reverse j bt) (fun _ _ bq=>(Ax bq+1).toNat)
   case atStart=>exact⟨o,k,rfl,rfl,rfl,ag _,by omega,by omega,a6⟩
   case round=>
    obtain⟨d,j,rfl,rfl,rfl,d3,dg,dj,B⟩:=hrel;clear a6;have b:=B.out;cases d with
    |zero=>
     have p:po c k N.ks=(k:Int)-j+1:=by
      unfold po;rw[bs.out];rw[yI,List.reverse_nil,rG]at b;rw[<-b]
     have a7:=aj p;have d6:¬(0:Int)<=((0:Nat):Int)-1:=by omega
     have bo:=(a4.out.stored k (.int .i64 ((k:Int)-j+1))).1;rw[Dg c a k _ n.out.2.2.2.2.1 b1]at bo;have L:=aj bo;clear b B p bo;go_wp2_with fail;refine⟨⟨k+1,by omega,by go_num,?_,bj.setCell (by simp) _⟩,by simp[Ax];omega⟩;show World.ownsRow _ _ _ _ _ _ _;rw[n.out.2.2.2.2.2,a7.out];exact L.out
    |succ d=>
     obtain⟨br,p⟩:=bH n.out.1 (show d<o by omega);obtain⟨df,cq,dx⟩:=b7.out.get p;subst cq;obtain⟨cx,ea⟩:=n.out.2.2.1 br (dl p);rw[gG,p]at b;simp only[D5,List.reverse_append,List.reverse_cons,List.reverse_nil,fx,Kk]at b;rw[rG]at b;obtain⟨m,rfl⟩:=gc cx;have b4:m<k:=by omega
     obtain⟨q,A⟩:=bH n.out.2.2.2.2.1 b4;have dn:=n.out.2.2.2.1 m q A;have ds:C.cell? ⟨w.heap.size+1,m,A0⟩=U (.int .i64 q):=by
      rw[a4.out.cellAt m (by omega),iD (by rw[dL,n.out.2.2.2.2.1];exact b4),cA,A];rfl
     have ap:c.getD m 0=q:=by rw[bc,A];rfl
     simp only[fD,ap]at b;have cn:(((d+1:Nat)):Int)-1=(d:Int):=by omega
     rw[cn];have d4:(0:Int)<=(d:Int):=by omega
     have d5:(d:Int)<(o:Int):=by omega
     have d9:(m:Int)<(a:Int):=by omega
     have d7:(0:Int)<=(m:Int):=by omega
     by_cases r:(m:Int)=j-1/\q≠0
     ·rw[ab r]at b;have b8:akc c (N.ks.take d).reverse (j-q) bt:=⟨b⟩;have bD:¬q=0:=r.2;have ao:=r.1;clear b B p A ap r;obtain rfl:j=(m:Int)+1:=by omega
      clear ao;go_wp2_with fail;go_round
      case rel=>exact⟨d,(m:Int)+1-q,by go_num,rfl,by go_num,by omega,by omega,by omega,b8⟩
      case measure=>simp[Ax]
     ·rw[aa r]at b;have a7:Z (po c k N.ks=0):=by
       show po c k N.ks=0;unfold po;rw[bs.out,<-b]
      have L:Z (C.ownsRow w.heap.size 3 1 (.slice (U ⟨w.heap.size+1,0,A0⟩) a a) a ((gC (ns.take (k+1))).map (M .i64)++O (a-(k+1)) (.int .i64 0))):=by
       have E:=a4.out;show World.ownsRow _ _ _ _ _ _ _;rw[n.out.2.2.2.2.2,a7.out,fK];rw[show a-k=(a-(k+1))+1 by omega,List.replicate_succ]at E;rw[dC];exact E
      by_cases ao:(m:Int)=j-1
      ·have bD:q=0:=by
        rcases Int.lt_trichotomy q 0 with g|g|g
        ·omega
        ·exact g
        ·exact absurd ⟨ao,by omega⟩ r
       subst bD;clear b B p A ap r;obtain rfl:j=(m:Int)+1:=by omega
       clear ao;go_wp2_with fail;exact⟨⟨k+1,by omega,by go_num,L,bj⟩,by simp[Ax];omega⟩
      ·clear b B p A ap r;go_wp2_with fail;exact⟨⟨k+1,by omega,by go_num,L,bj⟩,by simp[Ax];omega⟩
  ·obtain rfl:k=a:=by omega
   go_wp2_with fail;go_ret;refine⟨_,rfl,?_,G⟩;have E:=K.out;rw[cI (by rw[a3.out];exact ag _),gH,List.replicate_zero,fj]at E;exact E
open Go.Maps Go.WideMaps
theorem adD{w:V}{h:Y}{ns:List Nd}{N:Nd}{vn vk:Y}(d:gn w h ns N vn vk)(g:N.k=36):
  A2 X 46 #[.agg #[h],dy N vn vk] w fun e f=>e= .returned (A4 (((N.ks.length:Int)==1)&&(eu ns N 0==1)&&aD N A1 Q Q A1&&ez N 0 200&&(N.op==0||N.op==1)))/\T w.heap.size w f:=by
 obtain⟨C,G,rfl⟩:=d.t.form;obtain⟨E,H,rfl⟩:=d.n.form;obtain⟨F,I,rfl⟩:=d.k.form;have b:=St.start d;have J:=d.lx;have B:Z (N.x.size<=1100000):=by show _<=_;omega
 clear d;have K:=ci g;have L:=kH g 36 rfl;clear g;cases t0:((N.ks.length:Int)==1)
 case' true=>
  have y:N.ks.length=1:=by have:=ga t0;omega
  have A:Z (1<=N.ks.length):=by show _<=_;omega
  have z:Z (0<N.ks.length):=by show _<_;omega
  clear y;cases t1:(eu ns N 0==1)
  case' true=>
   cases t2:aD N A1 Q Q A1
   case' true=>
    cases t3:ez N 0 200
    case' true=>
     cases u4:(N.op==0)
     case' false=>cases v4:(N.op==1)
 all_goals
  unfold dy;go_in;go_wp2_with (first|(go_at_call 96;refine(lg b.a 0 z.out).mono ?_;rintro e f ⟨rfl,c⟩;replace b:=b.below c;clear c;obtain⟨i,j,l,m,o,p,q,r,s,u⟩:=aq b.bn;have v:=b.bt)|(go_at_call 97;refine(Gk _ N _ _ b.a.n b.a.k b.a.l1).mono ?_;rintro e f ⟨rfl,c⟩;replace b:=b.below c;clear c;obtain⟨i,j,l,m,o,p,q,r,s,u⟩:=aq b.bn;have v:=b.bt)|(go_at_call 98;refine(jy _ N _ _ 0 200 b.a.n b.a.k b.a.l1 b.a.ls).mono ?_;rintro e f ⟨rfl,c⟩;replace b:=b.below c;clear c;obtain⟨i,j,l,m,o,p,q,r,s,u⟩:=aq b.bn;have v:=b.bt));go_ret;exact⟨rfl,b.bel⟩
theorem adE{w:V}{h:Y}{ns:List Nd}{N:Nd}{vn vk:Y}(c:gn w h ns N vn vk)(f:N.k=37):
  A2 X 46 #[.agg #[h],dy N vn vk] w fun e g=>e= .returned (A4 (((N.ks.length:Int)==1)&&(eu ns N 0==34||eu ns N 0==27)&&aD N Q Q Q Q))/\T w.heap.size w g:=by
 obtain⟨C,G,rfl⟩:=c.t.form;obtain⟨E,H,rfl⟩:=c.n.form;obtain⟨F,I,rfl⟩:=c.k.form;have b:=St.start c;have J:=c.lx;have B:Z (N.x.size<=1100000):=by show _<=_;omega
 clear c;have K:=ci f;have L:=kH f 37 rfl;clear f;cases t0:((N.ks.length:Int)==1)
 case' true=>
  have i:N.ks.length=1:=by have:=ga t0;omega
  have A:Z (1<=N.ks.length):=by show _<=_;omega
  have j:Z (0<N.ks.length):=by show _<_;omega
  clear i;cases u1:(eu ns N 0==34)
  case' false=>cases v1:(eu ns N 0==27)
  all_goals
   cases t2:aD N Q Q Q Q
 all_goals
  unfold dy;go_in;go_wp2_with (first|(go_at_call 96;refine(lg b.a 0 j.out).mono ?_;rintro e g ⟨rfl,d⟩;replace b:=b.below d;clear d;obtain⟨l,m,o,p,q,r,s,u,v,y⟩:=aq b.bn;have z:=b.bt)|(go_at_call 97;refine(de _ N _ _ b.a.n b.a.k b.a.l1).mono ?_;rintro e g ⟨rfl,d⟩;replace b:=b.below d;clear d;obtain⟨l,m,o,p,q,r,s,u,v,y⟩:=aq b.bn;have z:=b.bt));go_ret;exact⟨rfl,b.bel⟩
def akd(s:ByteArray):ByteArray:=fa (dF s)
theorem I4(x:List Int):(fa x).size=x.length:=by
 have d:∀(x:List Int)(a:ByteArray),(x.foldl (fun b e=>b.push (UInt8.ofNat e.toNat)) a).size=a.size+x.length:=by
  intro x
  induction x with
  |nil=>intro a;rfl
  |cons f b c=>intro a;show(b.foldl _ (a.push _)).size=_;rw[c];simp;omega
 have:=d x ByteArray.empty;unfold fa;rw[this];simp
theorem abp(s:ByteArray):(akd s).size<=2+4*s.size:=by
 unfold akd;rw[I4];unfold dF;have:=D9 s s.size (ag _);simp;omega
theorem F8.pos{tk:Nat->Tk}{n k j:Nat}{ns:List ByteArray}(h:F8 tk n k ns j):k<=j/\j<n:=by
 induction h with
 |stop _ h=>exact⟨ag _,h⟩
 |go _ _ _ _ a=>omega
theorem KA.pos{tk:Nat->Tk}{n k j:Nat}{ns:List ByteArray}{r:Bool}(h:KA tk n k ns r j):k+1<=j/\j<n:=by
 induction h with
 |close _ h=>omega
 |rest _ _ h=>omega
 |last _ _ h=>omega
 |go _ _ _ _ a=>omega
def fh:wF->Nat
 | .more _ _ _=>0
 | .post _ _=>0
 | .moreE=>0
 | .moreB=>0
 | .stats=>0
 | .entries=>0
 |_=>1
def slk:wF->Nat
 | .more _ _ _=>0
 | .post _ _=>0
 | .moreE=>0
 | .moreB=>0
 | .stats=>0
 | .entries=>0
 | .entry=>1
 | .stat=>1
 | .branch=>1
 |_=>2
def bas:wF->Nat
 | .more _ _ x=>x.sz
 | .post _ x=>x.sz
 |_=>0
theorem aha(N:Nd)(ks:Fo)(s:Tk)(e:Int):(mo N ks s e).sz<=(one N ks).sz+1:=by
 unfold mo;split
 ·rw[aJ];omega
 ·omega
theorem P.pos{tk:Nat->Tk}{n i j:Nat}{t:wF}{R:Fo}(h:P tk n t i R j):i+fh t<=j/\j<n/\R.sz+slk t+3*i<=bas t+3*j:=by
 induction h
 case bopen i k j N ks R h1 h2 h3 h4 h5 h6 ih1 ih2=>
  have:=aha N ks (tk i) (tk k).t;simp only[fh,slk,bas,aJ,Fo.sz_app,Fo.sz]at *;omega
 case body h1 h2 h3 h4 ih=>
  have:=h3.pos;simp only[fh,slk,bas,aJ,Fo.sz_app,Fo.sz]at *;omega
 case tlet0 h1 h2 h3 h4 h5=>have:=h4.pos;simp only[fh,slk,bas,aJ,Fo.sz_app,Fo.sz]at *;omega
 case tlet h1 h2 h3 h4 h5 h6 ih=>have:=h4.pos;simp only[fh,slk,bas,aJ,Fo.sz_app,Fo.sz]at *;omega
 case tfor h1 h2 h3 h4 h5 h6 h7 ih1 ih2=>have:=h4.pos;simp only[fh,slk,bas,aJ,Fo.sz_app,Fo.sz]at *;omega
 case teach h1 h2 h3 h4 h5 h6 h7 h8 h9 ih1 ih2=>have:=h4.pos;simp only[fh,slk,bas,aJ,Fo.sz_app,Fo.sz]at *;omega
 case ttry h1 h2 h3 h4 h5 h6 h7 h8 ih1 ih2=>have:=h7.pos;simp only[fh,slk,bas,aJ,Fo.sz_app,Fo.sz]at *;omega
 all_goals
  simp only[fh,slk,bas,aJ,Fo.sz_app,Fo.sz]at *;omega
theorem GB{s t:ByteArray}(h:s≠t):(s.toList==t.toList)=Q:=by
 rw[aL];intro a;apply h;rw[gw,gw]at a;cases s;cases t;simp only at a
 congr 1
 exact Array.toList_inj.1 a
theorem adF{s t:ByteArray}(h:s=t):(s.toList==t.toList)=A1:=by subst h;simp
theorem I5(w:V)(E F:Y)(c d:List ByteArray)(n:bF w E c)(o:bF w F d)(x:c.length<=1048576)(y:d.length<=1048576):
  A2 X 103 #[E,F] w fun e al=>e= .returned (A4 (decide (c=d)))/\T w.heap.size w al:=by
 obtain⟨J,L,rfl⟩:=n.form;obtain⟨K,af,rfl⟩:=o.form;by_cases q:c.length=d.length
 ·obtain⟨m,r⟩:=aA (decide (c=d));rw[r];obtain⟨f,k⟩:=aA c.length;have p:d.length=f:=by rw[<-q];exact k
  have h:=jn k p r;have u:Z (bF w (A3 J f L) c/\bF w (A3 K f af) d):=⟨by rw[<-k];exact n,by rw[<-p];exact o⟩;rw[k]at x⊢;rw[p];clear n o k p r q y;go_in;go_wp2_with fail;go_loopw [13] (fun t wr=>∃b:Nat,b<=f/\t= .int .i64 b/\Z (∀a,a<b->c[a]?=d[a]?)/\T w.heap.size w wr) (fun t _=>f-(Ax t).toNat)
  case atStart=>exact⟨0,by omega,rfl,fun a ak=>by omega,ai _ _⟩
  case round=>
   obtain⟨b,a0,rfl,v,j⟩:=hrel;by_cases z:b<f
   ·obtain⟨B,i⟩:=bH h.out.1 z;obtain⟨C,l⟩:=bH h.out.2.1 z;obtain⟨am,rfl,ao⟩:=(u.out.1.below j).get i;obtain⟨an,rfl,ap⟩:=(u.out.2.below j).get l;have a4:(b:Int)<(f:Int):=by omega
    have a3:(0:Int)<=(b:Int):=by omega
    by_cases s:B=C
    ·subst s;have G:Z (∀a,a<b+1->c[a]?=d[a]?):=fun a ak=>by
      rcases bv a b with g|g
      ·exact v.out a g
      ·obtain rfl:a=b:=by omega
       rw[i,l]
     clear i l;go_wp2_with fail;go_quiet (fail)
     go_wp2_with fail;exact⟨⟨b+1,by omega,by go_num,G,lH j _⟩,by simp[Ax];omega⟩
    ·have H:Z (m=Q):=by
      show m=Q;rw[<-h.out.2.2];refine az fun e=>s ?_;rw[e,l]at i;exact(db i).symm
     have av:(B.toList==C.toList)=Q:=GB s;clear i l;go_wp2_with fail;go_quiet (fail)
     go_wp2_with fail;go_ret;exact⟨by rw[H.out];rfl,lH j _⟩
   ·obtain rfl:b=f:=by omega
    have I:Z (m=A1):=by
     show m=A1;rw[<-h.out.2.2];refine bg (List.ext_getElem? fun a=>?_);rcases bv a b with g|g
     ·exact v.out a g
     ·rw[fm (by rw[h.out.1];exact g),fm (by rw[h.out.2.1];exact g)]
    go_wp2_with fail;go_ret;exact⟨by rw[I.out];rfl,j⟩
 ·rw[az (fun e=>q (by rw[e]))];have A:¬(c.length:Int)=(d.length:Int):=by omega
  generalize c.length=a5 at A x⊢;generalize d.length=a6 at A y⊢;clear n o q;go_in;go_wp2;go_ret;exact⟨rfl,ai _ _⟩
def xL(a N:Nd):Bool:=decide (a.op=N.op/\a.n=N.n/\a.x=N.x/\a.nm=N.nm)
theorem As(w:V)(b N:Nd)(af ak vn vk:Y)(l:bF w af b.nm)(m:bF w vn N.nm)(an:∃a n c,ak= A3 a n c)(am:∃a n c,vk= A3 a n c)(ao:b.nm.length<=1048576)(ap:N.nm.length<=1048576):
  A2 X 48 #[dy b af ak,dy N vn vk] w fun e av=>e= .returned (A4 (xL b N))/\T w.heap.size w av:=by
 have k:∀g h,T w.heap.size w ((w.alloc g).alloc h):=fun g h=>((ai _ w).alloc (ag _) g).alloc (by simp) h;have f:=fun g h=>I5 ((w.alloc g).alloc h) af vn b.nm N.nm (l.below (k g h)) (m.below (k g h)) ao ap;obtain⟨a7,bb,rfl⟩:=l.form;obtain⟨a8,bd,rfl⟩:=m.form;obtain⟨a9,bk,bf,rfl⟩:=an;obtain⟨ba,bl,bj,rfl⟩:=am;unfold dy xL;generalize b.nm.length=a0 at f⊢;generalize N.nm.length=a5 at f⊢;by_cases i:b.op=N.op
 ·by_cases o:b.n=N.n
  ·by_cases j:b.x=N.x
   ·have e:decide (b.op=N.op/\b.n=N.n/\b.x=N.x/\b.nm=N.nm)=decide (b.nm=N.nm):=by
     by_cases p:b.nm=N.nm
     ·rw[bg p,bg ⟨i,o,j,p⟩]
     ·rw[az p,az (fun d=>p d.2.2.2)]
    rw[e];have L:=adF j;generalize decide (b.nm=N.nm)=a6 at f⊢;clear e j l m;obtain⟨r,q,z,t,y,u,A,v,s⟩:=b;obtain⟨C,B,J,F,I,G,K,H,E⟩:=N;simp only at i o L⊢;go_in;go_wp2_with (go_at_call 103;refine(f _ _).mono ?_;rintro e bn ⟨rfl,al⟩);go_ret;exact⟨rfl,(k _ _).trans (al.mono (by simp;omega))⟩
   ·rw[az (fun d=>j d.2.2.1)];have L:=GB j;clear j l m f;obtain⟨r,q,z,t,y,u,A,v,s⟩:=b;obtain⟨C,B,J,F,I,G,K,H,E⟩:=N;simp only at i o L⊢;go_in;go_wp2;go_ret;exact⟨rfl,k _ _⟩
  ·rw[az (fun d=>o d.2.1)];clear l m f;obtain⟨r,q,z,t,y,u,A,v,s⟩:=b;obtain⟨C,B,J,F,I,G,K,H,E⟩:=N;simp only at i o⊢;go_in;go_wp2;go_ret;exact⟨rfl,k _ _⟩
 ·rw[az (fun d=>i d.1)];clear l m f;obtain⟨r,q,z,t,y,u,A,v,s⟩:=b;obtain⟨C,B,J,F,I,G,K,H,E⟩:=N;simp only at i⊢;go_in;go_wp2;go_ret;exact⟨rfl,k _ _⟩
def Ew(b:Nat):Deferred:={target:= .collected b,args:=#[]}
structure ug (B:Nat) (c:List Nat) (W:V):Prop where
 nd:c.Nodup
 lo:∀b∈c,B<=b
 at_:∀b∈c,W.heap[b]?=U (.deferred (U []))
structure Ey (c:List Nat) (W W':V):Prop where
 os:W'.os=W.os
 tape:W'.tape=W.tape
 output:W'.output=W.output
 size:W'.heap.size=W.heap.size
 same:∀k,k ∉ c->W'.heap[k]?=W.heap[k]?
theorem rk{k:Fence}{n:Nat}{P:Program}{l:Func}{tmps:Array Y}{R:Ending->V->Prop}(j:Nat):∀(c:List Nat)(d:V),ug j c d->(∀g,Ey c d g->LeavesInM k n P l tmps R [] .returning g)->LeavesInM k n P l tmps R (c.map Ew) .returning d
 |[],d,_,h=>h d ⟨rfl,rfl,rfl,rfl,fun _ _=>rfl⟩
 |b::c,d,i,h=>by
  have m:=i.at_ b (by simp);have o:=List.nodup_cons.1 i.nd;have p:b<d.heap.size:=(Array.getElem?_eq_some_iff.1 m).1;refine⟨by simp,.inl ⟨b,_,rfl,run_takeDeferred m,?_⟩⟩;refine rk j c _ ⟨o.2,fun f a=>i.lo f (by simp[a]),fun f a=>?_⟩ (fun g e=>?_)
  ·exact(World.putObj_heap_other (by rintro rfl;exact o.1 a)).trans (i.at_ f (by simp[a]))
  ·refine h g ⟨e.os,e.tape,e.output,e.size.trans (by simp),fun f a=>?_⟩;simp at a;exact(e.same f a.2).trans (World.putObj_heap_other a.1)
theorem Ey.below{c:List Nat}{w f g:V}{d:Nat}(h:Ey c f g)(a:T d w f)(i:∀b∈c,d<=b)(l:d<=w.heap.size):T d w g:=
 ⟨h.os.trans a.os,h.tape.trans a.tape,h.output.trans a.output,by rw[h.size];exact a.size,fun e j=>(h.same e (fun k=>by have:=i e k;omega)).trans (a.block e j)⟩
theorem ug.below{d:Nat}{c:List Nat}{a e:V}(h:ug d c a)(g:T a.heap.size a e):ug d c e:=
 ⟨h.nd,h.lo,fun b f=>(g.block b (Array.getElem?_eq_some_iff.1 (h.at_ b f)).1).trans (h.at_ b f)⟩
theorem ug.keeps{a:Nat}{c:List Nat}{b d:V}(h:ug a c b)(f:KeepsOthers b d):ug a c d:=
 ⟨h.nd,h.lo,fun e g=>f.same e _ (h.at_ e g) rfl⟩
