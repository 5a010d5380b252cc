import Derived.Test.YthjpdjibdnecoaaGreatDoorHQk13
import Derived.Test.YthjpdjibdnecoaaGreatDoorHQk26
set_option linter.all false
set_option maxRecDepth 100000
set_option maxHeartbeats 6400000
open Go.Value renaming int->M
open List renaming replicate->O
open Bool renaming false->Q,true->V
open Option renaming some->T,none->U
namespace Go.Proofs.YthjpdjibdnecoaaGreatDoor
open Go.RowKit Go.Maps Go.WideMaps
theorem aet{w:World}{h:Value}{ns:List Nd}{N:Nd}{vn vk:Value}(d:fI w h ns N vn vk)(g:N.k=36):
  Calls Tryz.prog 67 #[.agg #[h],eC N vn vk] w fun e f=>e= .returned (.bool (((N.ks.length:Int)==1)&&(dH ns N 0==1)&&aI N V Q Q V&&fh N 0 200&&(N.op==0||N.op==1)))/\Below w.heap.size w f:=by
 obtain⟨C,G,rfl⟩:=d.t.form;obtain⟨E,H,rfl⟩:=d.n.form;obtain⟨F,I,rfl⟩:=d.k.form;have b:=St.start d;have J:=d.lx;have B:Hid (N.x.size<=1100000):=by show _<=_;omega
 clear d;have K:=nF g;have L:=sn g 36 rfl;clear g;cases t0:((N.ks.length:Int)==1)
 case' true=>
  have y:N.ks.length=1:=by have:=ft t0;omega
  have A:Hid (1<=N.ks.length):=by show _<=_;omega
  have z:Hid (0<N.ks.length):=by show _<_;omega
  clear y;cases t1:(dH ns N 0==1)
  case' true=>
   cases t2:aI N V Q Q V
   case' true=>
    cases t3:fh N 0 200
    case' true=>
     cases u4:(N.op==0)
     case' false=>cases v4:(N.op==1)
 all_goals
  unfold eC;go_in;go_wp2_with (first|(go_at_call 113;refine(jz b.a 0 z.out).mono ?_;rintro e f ⟨rfl,c⟩;replace b:=b.below c;clear c;obtain⟨i,j,l,m,o,p,q,r,s,u⟩:=ax b.bn;have v:=b.bt)|(go_at_call 114;refine(Hb _ N _ _ b.a.n b.a.k b.a.l1).mono ?_;rintro e f ⟨rfl,c⟩;replace b:=b.below c;clear c;obtain⟨i,j,l,m,o,p,q,r,s,u⟩:=ax b.bn;have v:=b.bt)|(go_at_call 115;refine(iK _ N _ _ 0 200 b.a.n b.a.k b.a.l1 b.a.ls).mono ?_;rintro e f ⟨rfl,c⟩;replace b:=b.below c;clear c;obtain⟨i,j,l,m,o,p,q,r,s,u⟩:=ax b.bn;have v:=b.bt));go_ret;exact⟨rfl,b.bel⟩
theorem aeu{w:World}{h:Value}{ns:List Nd}{N:Nd}{vn vk:Value}(c:fI w h ns N vn vk)(f:N.k=37):
  Calls Tryz.prog 67 #[.agg #[h],eC N vn vk] w fun e g=>e= .returned (.bool (((N.ks.length:Int)==1)&&(dH ns N 0==34||dH ns N 0==27)&&aI N Q Q Q Q))/\Below w.heap.size w g:=by
 obtain⟨C,G,rfl⟩:=c.t.form;obtain⟨E,H,rfl⟩:=c.n.form;obtain⟨F,I,rfl⟩:=c.k.form;have b:=St.start c;have J:=c.lx;have B:Hid (N.x.size<=1100000):=by show _<=_;omega
 clear c;have K:=nF f;have L:=sn f 37 rfl;clear f;cases t0:((N.ks.length:Int)==1)
 case' true=>
  have i:N.ks.length=1:=by have:=ft t0;omega
  have A:Hid (1<=N.ks.length):=by show _<=_;omega
  have j:Hid (0<N.ks.length):=by show _<_;omega
  clear i;cases u1:(dH ns N 0==34)
  case' false=>cases v1:(dH ns N 0==27)
  all_goals
   cases t2:aI N Q Q Q Q
 all_goals
  unfold eC;go_in;go_wp2_with (first|(go_at_call 113;refine(jz b.a 0 j.out).mono ?_;rintro e g ⟨rfl,d⟩;replace b:=b.below d;clear d;obtain⟨l,m,o,p,q,r,s,u,v,y⟩:=ax b.bn;have z:=b.bt)|(go_at_call 114;refine(cE _ N _ _ b.a.n b.a.k b.a.l1).mono ?_;rintro e g ⟨rfl,d⟩;replace b:=b.below d;clear d;obtain⟨l,m,o,p,q,r,s,u,v,y⟩:=ax b.bn;have z:=b.bt));go_ret;exact⟨rfl,b.bel⟩
def FA(S:List Int):List Int->Int->Option Int
 |[],a=>T a
 |k::r,a=>if k=a-1/\S.getD k.toNat 0≠0 then FA S r (a-S.getD k.toNat 0) else U
def tj(S:List Int)(i:Nat)(ks:List Int):Int:=match FA S ks.reverse i with|some a=>(i:Int)-a+1|none=>0
def lj(ns:List Nd):List Int:=ns.foldl (fun a b=>a++[tj a a.length b.ks]) []
theorem xJ(ns:List Nd)(N:Nd):lj (ns++[N])=lj ns++[tj (lj ns) (lj ns).length N.ks]:=by simp[lj]
theorem FB{α:Type}{p:List α->Prop}(b:p [])(c:∀a x,p a->p (a++[x]))(l:List α):p l:=by
 rw[<-List.reverse_reverse l]
 induction l.reverse with
 |nil=>exact b
 |cons x e d=>rw[List.reverse_cons];exact c _ x d
theorem pH:∀(ns:List Nd),(lj ns).length=ns.length:=by
 intro ns;refine FB (p:=fun ns=>(lj ns).length=ns.length) rfl (fun c b a=>?_) ns;rw[xJ];simp[a]
structure ajq (S:List Int) (l:List Int) (a:Int) (R:Option Int):Prop where
 out:FA S l a=R
def FC(S:List Int):Prop:=∀(a:Nat) z,S[a]?=T z->0<=z/\z<=(a:Int)+1
theorem aev{S:List Int}(hS:FC S):∀(l:List Int)(a b:Int),(∀k∈l,0<=k)->0<=a->FA S l a=T b->0<=b/\b<=a
 |[],a,b,_,f,h=>by simp[FA]at h;omega
 |k::r,a,b,d,f,h=>by
  rw[FA]at h;split at h
  ·rename_i g;have i:=d k (by simp);have e:0<=S.getD k.toNat 0/\S.getD k.toNat 0<=k+1:=by
    rw[cp];cases hs:S[k.toNat]? with
    |none=>simp;omega
    |some c=>have:=hS _ c hs;simp;omega
   have:=aev hS r _ b (fun c e=>d c (by simp[e])) (by omega) h;omega
  ·cases h
theorem ahu{S:List Int}(hS:FC S)(i:Nat)(ks:List Int)(b:∀k∈ks,0<=k):0<=tj S i ks/\tj S i ks<=(i:Int)+1:=by
 unfold tj;cases h:FA S ks.reverse i with
 |none=>simp;omega
 |some a=>
  have:=aev hS ks.reverse i a (fun k c=>b k (by simpa using c)) (by omega) h;simp;omega
theorem FD(ns:List Nd):(∀N∈ns,∀k∈N.ks,0<=k)->FC (lj ns):=by
 refine FB (p:=fun ns=>(∀N∈ns,∀k∈N.ks,0<=k)->FC (lj ns)) (fun _ b h a=>by simp[lj]at a) (fun c N n e=>?_) ns;have f:=n (fun i l=>e i (by simp[l]));intro b h a;rw[xJ]at a;rcases co b (lj c).length with g|g
 ·rw[ie g]at a;exact f b h a
 ·rw[fJ g]at a;obtain⟨j,d⟩:=List.getElem?_eq_some_iff.1 a;simp at j d;subst d;obtain rfl:b=(lj c).length:=by omega
  exact ahu f _ _ (fun k m=>e N (by simp) k m)
theorem D3(a:List Int)(n k:Nat)(z:Int)(b:a.length=k)(d:k<n):(a.map (M .i64)++O (n-k) (M .i64 0)).set k (.int .i64 z)=(a++[z]).map (M .i64)++O (n-(k+1)) (M .i64 0):=by
 have c:(a.map (M .i64)).length=k:=by rw[dc,b]
 rw[List.set_append_right _ _ (by omega),c,eB,show n-k=(n-(k+1))+1 by omega,List.replicate_succ,bH];simp
theorem Io(w:World)(v:Value)(ns:List Nd)(h:fx w v ns)(ct:ns.length<=3000)(al:∀N∈ns,N.ks.length<=1048576)(z:∀(i:Nat) N,ns[i]?=T N->∀k∈N.ks,0<=k/\k<(i:Int)):
  Calls Tryz.prog 33 #[.agg #[v]] w fun e b7=>∃g,e= .returned (.slice (T ⟨g,0,U⟩) ns.length ns.length)/\b7.ownsRow w.heap.size 3 1 (.slice (T ⟨g,0,U⟩) ns.length ns.length) ns.length ((lj ns).map (M .i64))/\Below w.heap.size w b7:=by
 obtain⟨ad,af,rfl⟩:=h.form;obtain⟨a,ap⟩:=ay ns.length;have a1:=aw ap;have b8:Hid (fx w (.slice ad a af) ns):=by rw[<-ap];exact h
 have a3:Hid ((∀N∈ns,N.ks.length<=1048576)/\(∀(i:Nat) N,ns[i]?=T N->∀k∈N.ks,0<=k/\k<(i:Int))/\∀k,FC (lj (ns.take k))):=⟨al,z,fun k=>FD _ (fun N al bt p=>by
  obtain⟨i,bk,e⟩:=mL (Ej al);exact(z i N (by rw[bJ bk,e]) bt p).1)⟩
 rw[ap]at ct⊢;clear h ap al z;obtain⟨cF,bk,cx,cz,cB⟩:=dt rl;go_in;go_wp2_with (at_make;refine Az _ rfl _ _ 51 rfl w.heap.size 3 cF (.int .i64 0) 1 Tryz.underlying51 bk cx cz .i64 .i64 _ _ a rfl rfl rfl rfl (by rw[cB];omega) (by unfold maxLen;omega) (by simp) ?_;intro a0 ar y;have bd:Below (w.alloc (.cells #[.slice ad a af] 26)).heap.size (w.alloc (.cells #[.slice ad a af] 26)) a0:=⟨y.os,y.tape,y.output,y.size,fun k z=>y.block k z (by simp)⟩;have zc:a0.cell? ⟨w.heap.size,0,U⟩=T (.slice ad a af):=by {rw[aq _ _ _ _ _ _ ((bd.block _ (by simp)).trans (aj w _))];rfl});have bA:Below w.heap.size w a0:=((ag _ w).alloc (ae _) _).trans (bd.mono (by simp));rw[aF,show(madeCells (M .i64 0).cells (a*1)).toList=O a (M .i64 0) by rw[rj];exact Aq _ a]at ar;have cw:w.heap.size+1<a0.heap.size:=(ar.lt (w.heap.size+1) rfl).2;clear zc bd y;go_loopw [17] (fun br wr=>∃k:Nat,k<=a/\br= .int .i64 k/\Hid (wr.ownsRow w.heap.size 3 1 (.slice (T ⟨w.heap.size+1,0,U⟩) a a) a ((lj (ns.take k)).map (M .i64)++O (a-k) (.int .i64 0)))/\Below w.heap.size w wr) (fun br _=>a-(intOf br).toNat)
 case atStart=>exact⟨0,aL _,rfl,ar,bA⟩
 case round=>
  obtain⟨k,z,rfl,K,G⟩:=hrel;clear ar bA cw;by_cases b3:k<a
  ·obtain⟨N,I⟩:=bL a1.out b3;have cs:=a3.out.1 N (cJ I);have b2:=a3.out.2.1 k N I;have bn:=a3.out.2.2 k;obtain⟨df,rfl,ef,ed,cq⟩:=(b8.out.below G).get I;have d4:(k:Int)<(a:Int):=by omega
   have d3:(0:Int)<=(k:Int):=by omega
   obtain⟨cb,cc,ce,cf,cg,ch,cl,bD,bE,b4,bl⟩:=cq;obtain⟨a7,a8,rfl⟩:=b4.form;obtain⟨s,u,rfl⟩:=bl.form;obtain⟨c,am⟩:=ay (lj (ns.take k));have bb:c.length=k:=by rw[<-am,pH,jy,a1.out];omega
   have b5:lj (ns.take (k+1))=c++[tj c k N.ks]:=by
    rw[fK,I];show lj (ns.take k++[N])=_;rw[xJ,am,bb]
   rw[am]at K bn;obtain⟨o,F⟩:=ay N.ks.length;rw[F]at bE cs;have b1:eo wr (.slice s o u) N.ks:=by rw[<-F];exact bl
   have n:=acl F b1 b2 bn bb b5;have a4:ajq c (N.ks.take o).reverse k (FA c N.ks.reverse k):=⟨by rw[<-F,Av]⟩;obtain⟨bx,a9⟩:=ay (FA c N.ks.reverse k);rw[a9]at a4;have bw:=aw a9;generalize N.nm.length=a6 at bD;clear I b4 bl b1 b2 bn bb b5 am F a9;go_wp2_with fail;have H:Below wr.heap.size wr (wr.alloc (.cells #[.int .i64 N.k,.int .i64 N.f,.int .i64 N.t,.int .i64 N.l,.int .i64 N.op,.int .i64 N.n,.string N.x,.slice a7 a6 a8,.slice s o u] 53)):=(ag _ wr).alloc (ae _) _;have cm:(wr.alloc (.cells #[.int .i64 N.k,.int .i64 N.f,.int .i64 N.t,.int .i64 N.l,.int .i64 N.op,.int .i64 N.n,.string N.x,.slice a7 a6 a8,.slice s o u] 53)).cell? ⟨wr.heap.size,8,U⟩=T (.slice s o u):=by rw[aq _ _ _ _ _ _ (aj wr _)];rfl
   have J:=aE K.out H;generalize wr.alloc (.cells #[.int .i64 N.k,.int .i64 N.f,.int .i64 N.t,.int .i64 N.l,.int .i64 N.op,.int .i64 N.n,.string N.x,.slice a7 a6 a8,.slice s o u] 53)=C at H cm J⊢;have b9:Hid (eo C (.slice s o u) N.ks):=n.out.2.1.below H;have a2:=aw J;have bh:Below w.heap.size w C:=G.trans (H.mono G.size);have d2:=J.frozenAt k;have dz:C.cell? ⟨w.heap.size+1,k,U⟩=T (.int .i64 0):=by
    rw[J.cellAt k (by omega),fJ (by rw[dc,n.out.2.2.2.2.1];exact ae _),dc,n.out.2.2.2.2.1,eB,Eh,ab (by omega)]
   clear K J cb cc ce cf cg ch cl bD bE G H;go_loop [6,7,8] (fun cI c9 bs=>∃(d:Nat) (j:Int),cI= .int .i64 j/\c9= .bool V/\bs= .int .i64 ((d:Int)-1)/\d<=o/\0<=j/\j<=(k:Int)/\ajq c (N.ks.take d).reverse j bx) (fun _ _ bs=>(intOf bs+1).toNat)
   case atStart=>exact⟨o,k,rfl,rfl,rfl,ae _,by omega,by omega,a4⟩
   case round=>
    obtain⟨d,j,rfl,rfl,rfl,d5,dn,dq,B⟩:=hrel;clear a4;have b:=B.out;cases d with
    |zero=>
     have p:tj c k N.ks=(k:Int)-j+1:=by
      unfold tj;rw[bw.out];rw[rf,List.reverse_nil,FA]at b;rw[<-b]
     have a5:=aw p;have d9:¬(0:Int)<=((0:Nat):Int)-1:=by omega
     have bo:=(a2.out.stored k (.int .i64 ((k:Int)-j+1))).1;rw[D3 c a k _ n.out.2.2.2.2.1 b3]at bo;have L:=aw bo;clear b B p bo;go_wp2_with fail;refine⟨⟨k+1,by omega,by go_num,?_,bh.setCell (by simp) _⟩,by simp[intOf];omega⟩;show World.ownsRow _ _ _ _ _ _ _;rw[n.out.2.2.2.2.2,a5.out];exact L.out
    |succ d=>
     obtain⟨bt,p⟩:=bL n.out.1 (show d<o by omega);obtain⟨dk,cr,d1⟩:=b9.out.get p;subst cr;obtain⟨cy,ec⟩:=n.out.2.2.1 bt (cJ p);rw[fK,p]at b;simp only[Ek,List.reverse_append,List.reverse_cons,List.reverse_nil,de,wI]at b;rw[FA]at b;obtain⟨m,rfl⟩:=tF cy;have b6:m<k:=by omega
     obtain⟨q,A⟩:=bL n.out.2.2.2.2.1 b6;have ds:=n.out.2.2.2.1 m q A;have d0:C.cell? ⟨w.heap.size+1,m,U⟩=T (.int .i64 q):=by
      rw[a2.out.cellAt m (by omega),ie (by rw[dc,n.out.2.2.2.2.1];exact b6),cA,A];rfl
     have ao:c.getD m 0=q:=by rw[cp,A];rfl
     simp only[tJ,ao]at b;have cn:(((d+1:Nat)):Int)-1=(d:Int):=by omega
     rw[cn];have d6:(0:Int)<=(d:Int):=by omega
     have d7:(d:Int)<(o:Int):=by omega
     have eb:(m:Int)<(a:Int):=by omega
     have ea:(0:Int)<=(m:Int):=by omega
     by_cases r:(m:Int)=j-1/\q≠0
     ·rw[ab r]at b;have ca:ajq c (N.ks.take d).reverse (j-q) bx:=⟨b⟩;have b0:¬q=0:=r.2;have an:=r.1;clear b B p A ao r;obtain rfl:j=(m:Int)+1:=by omega
      clear an;go_wp2_with fail;go_round
      case rel=>exact⟨d,(m:Int)+1-q,by go_num,rfl,by go_num,by omega,by omega,by omega,ca⟩
      case measure=>simp[intOf]
     ·rw[aa r]at b;have a5:Hid (tj c k N.ks=0):=by
       show tj c k N.ks=0;unfold tj;rw[bw.out,<-b]
      have L:Hid (C.ownsRow w.heap.size 3 1 (.slice (T ⟨w.heap.size+1,0,U⟩) a a) a ((lj (ns.take (k+1))).map (M .i64)++O (a-(k+1)) (.int .i64 0))):=by
       have E:=a2.out;show World.ownsRow _ _ _ _ _ _ _;rw[n.out.2.2.2.2.2,a5.out,ee];rw[show a-k=(a-(k+1))+1 by omega,List.replicate_succ]at E;rw[dh];exact E
      by_cases an:(m:Int)=j-1
      ·have b0:q=0:=by
        rcases Int.lt_trichotomy q 0 with g|g|g
        ·omega
        ·exact g
        ·exact absurd ⟨an,by omega⟩ r
       subst b0;clear b B p A ao r;obtain rfl:j=(m:Int)+1:=by omega
       clear an;go_wp2_with fail;exact⟨⟨k+1,by omega,by go_num,L,bh⟩,by simp[intOf];omega⟩
      ·clear b B p A ao r;go_wp2_with fail;exact⟨⟨k+1,by omega,by go_num,L,bh⟩,by simp[intOf];omega⟩
  ·obtain rfl:k=a:=by omega
   go_wp2_with fail;go_ret;refine⟨_,rfl,?_,G⟩;have E:=K.out;rw[fs (by rw[a1.out];exact ae _),eB,List.replicate_zero,da]at E;exact E
