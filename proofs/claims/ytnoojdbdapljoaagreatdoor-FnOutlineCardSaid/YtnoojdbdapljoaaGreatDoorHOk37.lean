import Derived.Test.YtnoojdbdapljoaaGreatDoorHOk27
set_option linter.all false
set_option maxRecDepth 100000
set_option maxHeartbeats 12800000
open Go.Value renaming slice->M,int->Q,string->U
open Option renaming some->O,none->T
open Go.IntKind renaming i64->R
open Go.RowKit renaming Hid->S,intOf->W
open Go renaming World->V
namespace Go.Proofs.YtnoojdbdapljoaaGreatDoor
open Go.RowKit
def EnW(w0:V)(c:Value)(t:Int)(E:Int->ByteArray)(X:Nd):Prop:=
 (X.k=41/\∃a b:Nat,X.ks[0]?=O (a:Int)/\X.ks[1]?=O (b:Int)/\Wr w0 c t 123 #[pW w0,Q R (a:Int),Q R 0] (E a)/\Wr w0 c t 123 #[pW w0,Q R (b:Int),Q R 0] (E b))
  \/(X.k≠41/\∃a:Nat,X.ks[0]?=O (a:Int)/\Wr w0 c t 123 #[pW w0,Q R (a:Int),Q R 0] (E a))
theorem aac(w0:V)(p1:Addr)(n c1:Nat)(w:List Nd)(dq:cg w0 (M (O p1) n c1) w)(ds:ij w0 p1 w)(ef:w.length=n)(ex:n<=1048576)(E:Int->ByteArray)(tab:Int)(N:Nd)(vn vk:Value)(cv:bi w0 vk N.ks)(eb:N.ks.length<=1048576)
  (dp:∀z∈N.ks,∃k:Nat,z=(k:Int)/\k<w.length/\EnW w0 (M (O p1) n c1) tab E (al w k)):Wr w0 (M (O p1) n c1) tab 159 #[pW w0,dj N vn vk] (acG w E N):=by
 intro h cr H av;obtain⟨c2,c4,rfl⟩:=cv.form;obtain⟨bF,cu⟩:=aA N.ks.length;rw[cu]at cv eb⊢;have ec:=H.lt;have t:S (Bx w0 (M (O p1) n c1) tab cr N vn (M c2 bF c4) h (cr.alloc (ia N vn (M c2 bF c4)))):=Bx.new H N _ _;obtain⟨v,cx⟩:∃v,(N.ks.map fun k=>my w E (al w k))=v:=⟨_,rfl⟩;have dz:v.length=bF:=by rw[<-cx,dv];exact cu
 have ar:acG w E N=⟨#[123]⟩++cE v++⟨#[125]⟩:=by unfold acG;rw[cx]
 rw[ar]at av⊢;have d0:h.size+(1+(cE v).size+1)<=140737488355328:=by rw[ag,ag]at av;exact av
 have a5:=dx dq ds;have bE:=ajo cv dp cu cx dz d0 ef;clear H dq ds cv dp cu cx dz ar av d0;unfold dj;go_in;go_wp2_with fail;refine(aE w0 _ h ⟨#[123]⟩ tab _ t.out.pr (by have:=bE.out.2.2.2.2.2.1;show h.size+1<=_;omega)).mono ?_;rintro G eh ⟨rfl,d3,d1⟩;have s:S (Bx w0 (M (O p1) n c1) tab cr N vn (M c2 bF c4) (h++⟨#[123]⟩) eh):=t.out.next ec d3 d1
 have d6:=s.out.cells.2.2.2.2.2.2.2.2;clear d3 d1;go_wp2_with fail;go_loopw [12] (fun c9 wr=>∃k:Nat,k<=bF/\c9= Q R k/\S (Pr w0 (M (O p1) n c1) (h++⟨#[123]⟩++cE (v.take k)) tab wr/\Kq w0.heap.size cr wr)) (fun c9 _=>bF-(W c9).toNat)
 case atStart=>exact⟨0,by omega,rfl,by rw[show h++⟨#[123]⟩++cE (v.take 0)=h++⟨#[123]⟩ from ByteArray.append_empty];exact s.out.pr,s.out.kq⟩
 case round=>
  clear d6;obtain⟨k,ep,rfl,y⟩:=hrel;by_cases ea:k<bF
  ·obtain⟨z,b9⟩:=bj bE.out.2.2.1 ea;obtain⟨b6,rfl,a6,cy⟩:=bE.out.2.1 z (bC b9);obtain⟨dk,rfl,c5⟩:=(bE.out.1.below y.out.1.bel).get b9;have es:(k:Int)<(bF:Int):=by omega
   have eq:(0:Int)<=(k:Int):=by omega
   have c7:v[k]?=O (my w E (al w b6)):=by rw[<-bE.out.2.2.2.1,cj,b9];rfl
   have cm:=pc v k _ c7;have dn:=yC v (k+1);have e0:(b6:Int)<(n:Int):=by have:=bE.out.2.2.2.2.2.2;omega
   have eF:(0:Int)<=(b6:Int):=by omega
   have cz:(h++⟨#[123]⟩++cE (v.take (k+1))).size<=140737488355328:=by
    have el:=bE.out.2.2.2.2.2.1;rw[ag,ag];show h.size+1+_<=_;omega
   obtain⟨a,ar⟩:=aA (al w b6);rw[ar]at cm cy;have ct:=aq cy;have d5:=aq b9;by_cases cl:k=0
   ·have F:S (h++⟨#[123]⟩++cE (v.take (k+1))=(h++⟨#[123]⟩++cE (v.take k))++my w E a/\((h++⟨#[123]⟩++cE (v.take k))++my w E a).size<=140737488355328):=by
     have G:h++⟨#[123]⟩++cE (v.take (k+1))=(h++⟨#[123]⟩++cE (v.take k))++my w E a:=by rw[cm,ab cl];simp only[aF]
     exact⟨G,by rw[<-G];exact cz⟩
    have em:wr.cell? dk=O (Q R (b6:Int)):=by subst cl;simpa [Addr.add] using c5
    have ev:¬(0:Int)<(k:Int):=by omega
    obtain⟨A,cp⟩:=aA (h++⟨#[123]⟩++cE (v.take k));rw[cp]at F y;subst cl;clear cm dn b9 c7 cy cz c5 cp;by_cases C:a.k=41
    ·have b0:∃e ap:Nat,a.ks[0]?=O (e:Int)/\a.ks[1]?=O (ap:Int)/\Wr w0 (M (O p1) n c1) tab 123 #[pW w0,Q R (e:Int),Q R 0] (E e)/\Wr w0 (M (O p1) n c1) tab 123 #[pW w0,Q R (ap:Int),Q R 0] (E ap):=by
      rcases ct.out with⟨_,H⟩|⟨H,_⟩
      ·exact H
      ·exact absurd C H
     obtain⟨e,ap,i,b1,am,co⟩:=b0;obtain⟨o,m,p,ce,c,g,d⟩:=eG a5.out.1 a5.out.2 a6;rw[ar]at d;obtain⟨b,rfl⟩:=d.ks.ptr (by have:=dh i;omega);have bb:=d.hL;have cq:(0:Int)<(c:Int):=by have:=dh i;omega
     have d9:(1:Int)<(c:Int):=by have:=dh b1;omega
     have I:=y.out.1.lt;obtain⟨z0,bA,bD⟩:=y.out.1.cells;obtain⟨bf,bl,bn,bo,bp,br,bs,bt,bw,_,_⟩:=d.rd wr y.out.1.bel;have t:S (Bx w0 (M (O p1) n c1) tab wr a (M o m p) (M (O b) c g) (A) (wr.alloc (ia a (M o m p) (M (O b) c g)))):=Bx.new y.out.1 a _ _;have u:S (∀(h:ByteArray)(f:V),Bx w0 (M (O p1) n c1) tab wr a (M o m p) (M (O b) c g) h f->f.cell? ⟨wr.heap.size,0,T⟩=O (Q R a.k)/\f.cell? ⟨wr.heap.size,6,T⟩=O (U a.x)/\f.cell? ⟨wr.heap.size,8,T⟩=O (M (O b) c g)/\f.cell? b=O (Q R (e:Int))/\f.cell? ⟨b.block,b.off+1,T⟩=O (Q R (ap:Int))):=fun h f q=>⟨q.cells.1,q.cells.2.2.2.2.2.2.1,q.cells.2.2.2.2.2.2.2.2,q.kid0 d.ks i,q.kid d.ks b1 (by decide)⟩;have a7:S (Wr w0 (M (O p1) n c1) tab 63 _ (⟨#[91]⟩)):=fun a8 a9 bd av=>aE w0 _ a8 (⟨#[91]⟩) _ a9 bd av;have b5:=aq am;have cB:S (Wr w0 (M (O p1) n c1) tab 63 _ (⟨#[93,32,61,32]⟩)):=fun a8 a9 bd av=>aE w0 _ a8 (⟨#[93,32,61,32]⟩) _ a9 bd av;have c0:=aq co;have B:my w E a=⟨#[91]⟩++E (e:Int)++⟨#[93,32,61,32]⟩++E (ap:Int):=by unfold my;rw[ab C,show cL a 0=(e:Int) by unfold cL;rw[List.getD,i];rfl,show cL a 1=(ap:Int) by unfold cL;rw[List.getD,b1];rfl]
     have ao:=F.out.2;rw[B]at ao;have af:=dx F.out.1 B;simp only[ag]at ao;have cf:(a.k==41)=true:=by simpa using C
     have cb:=aq d;have cc:=aq i;clear d ar B C bA bD i bb F am a6 b1 co;obtain⟨J,K,L,ad,b2⟩:=u.out _ _ t.out;go_wp2_with fail;refine(a7.out _ _ t.out.pr (by(try simp only[ag]);omega)).mono ?_;rintro G bx ⟨rfl,l,j⟩;have s:S (Bx w0 (M (O p1) n c1) tab wr a (M o m p) (M (O b) c g) (A++(⟨#[91]⟩)) bx):=t.out.next I l j
     obtain⟨J,K,L,ad,b2⟩:=u.out _ _ s.out;clear l j bf bl bn bo bp br bs bt bw z0;go_wp2_with fail;refine(b5.out _ _ s.out.pr (by(try simp only[ag]);omega)).mono ?_;rintro G b7 ⟨rfl,l,j⟩;have a0:S (Bx w0 (M (O p1) n c1) tab wr a (M o m p) (M (O b) c g) (A++(⟨#[91]⟩)++(E (e:Int))) b7):=s.out.next I l j
     obtain⟨J,K,L,ad,b2⟩:=u.out _ _ a0.out;clear l j;go_wp2_with fail;refine(cB.out _ _ a0.out.pr (by(try simp only[ag]);omega)).mono ?_;rintro G dd ⟨rfl,l,j⟩;have b3:S (Bx w0 (M (O p1) n c1) tab wr a (M o m p) (M (O b) c g) (A++(⟨#[91]⟩)++(E (e:Int))++(⟨#[93,32,61,32]⟩)) dd):=a0.out.next I l j
     obtain⟨J,K,L,ad,b2⟩:=u.out _ _ b3.out;clear l j;go_wp2_with fail;refine(c0.out _ _ b3.out.pr (by(try simp only[ag]);omega)).mono ?_;rintro G df ⟨rfl,l,j⟩;have b4:S (Bx w0 (M (O p1) n c1) tab wr a (M o m p) (M (O b) c g) (A++(⟨#[91]⟩)++(E (e:Int))++(⟨#[93,32,61,32]⟩)++(E (ap:Int))) df):=b3.out.next I l j
     obtain⟨J,K,L,ad,b2⟩:=u.out _ _ b4.out;clear l j;go_wp2_with fail;refine⟨⟨0+1,by omega,by go_num,?_,y.out.2.trans b4.out.kq⟩,by simp[W];omega⟩;rw[af.out.1,af.out.2];have:=b4.out.pr;simpa only[aF] using this
    ·have b0:∃e:Nat,a.ks[0]?=O (e:Int)/\Wr w0 (M (O p1) n c1) tab 123 #[pW w0,Q R (e:Int),Q R 0] (E e):=by
      rcases ct.out with⟨H,_⟩|⟨_,H⟩
      ·exact absurd H C
      ·exact H
     by_cases a4:a.k=42
     ·skip
      obtain⟨e,i,am⟩:=b0;obtain⟨o,m,p,ce,c,g,d⟩:=eG a5.out.1 a5.out.2 a6;rw[ar]at d;obtain⟨b,rfl⟩:=d.ks.ptr (by have:=dh i;omega);have bb:=d.hL;have cq:(0:Int)<(c:Int):=by have:=dh i;omega
      have I:=y.out.1.lt;obtain⟨z0,bA,bD⟩:=y.out.1.cells;obtain⟨bf,bl,bn,bo,bp,br,bs,bt,bw,_,_⟩:=d.rd wr y.out.1.bel;have t:S (Bx w0 (M (O p1) n c1) tab wr a (M o m p) (M (O b) c g) (A) (wr.alloc (ia a (M o m p) (M (O b) c g)))):=Bx.new y.out.1 a _ _;have u:S (∀(h:ByteArray)(f:V),Bx w0 (M (O p1) n c1) tab wr a (M o m p) (M (O b) c g) h f->f.cell? ⟨wr.heap.size,0,T⟩=O (Q R a.k)/\f.cell? ⟨wr.heap.size,6,T⟩=O (U a.x)/\f.cell? ⟨wr.heap.size,8,T⟩=O (M (O b) c g)/\f.cell? b=O (Q R (e:Int))):=fun h f q=>⟨q.cells.1,q.cells.2.2.2.2.2.2.1,q.cells.2.2.2.2.2.2.2.2,q.kid0 d.ks i⟩;have a7:S (Wr w0 (M (O p1) n c1) tab 63 _ (⟨#[46]⟩++a.x++⟨#[32,61,32]⟩)):=fun a8 a9 bd av=>aE w0 _ a8 (⟨#[46]⟩++a.x++⟨#[32,61,32]⟩) _ a9 bd av;have b5:=aq am;have B:my w E a=(⟨#[46]⟩++a.x++⟨#[32,61,32]⟩)++E (e:Int):=by unfold my;rw[aa C,ab a4,show cL a 0=(e:Int) by unfold cL;rw[List.getD,i];rfl]
      have ao:=F.out.2;rw[B]at ao;have af:=dx F.out.1 B;simp only[ag]at ao;have cf:(a.k==41)=false:=by simpa using C
      have c6:(a.k==42)=true:=by simpa using a4
      have cb:=aq d;have cc:=aq i;clear d ar B C bA bD i bb F am a6 a4;obtain⟨J,K,L,ad⟩:=u.out _ _ t.out;go_wp2_with fail;refine(a7.out _ _ t.out.pr (by(try simp only[ag]);omega)).mono ?_;rintro G bx ⟨rfl,l,j⟩;have s:S (Bx w0 (M (O p1) n c1) tab wr a (M o m p) (M (O b) c g) (A++(⟨#[46]⟩++a.x++⟨#[32,61,32]⟩)) bx):=t.out.next I l j
      obtain⟨J,K,L,ad⟩:=u.out _ _ s.out;clear l j bf bl bn bo bp br bs bt bw z0;go_wp2_with fail;refine(b5.out _ _ s.out.pr (by(try simp only[ag]);omega)).mono ?_;rintro G b7 ⟨rfl,l,j⟩;have a0:S (Bx w0 (M (O p1) n c1) tab wr a (M o m p) (M (O b) c g) (A++(⟨#[46]⟩++a.x++⟨#[32,61,32]⟩)++(E (e:Int))) b7):=s.out.next I l j
      obtain⟨J,K,L,ad⟩:=u.out _ _ a0.out;clear l j;go_wp2_with fail;refine⟨⟨0+1,by omega,by go_num,?_,y.out.2.trans a0.out.kq⟩,by simp[W];omega⟩;rw[af.out.1,af.out.2];have:=a0.out.pr;simpa only[aF] using this
     ·skip
      obtain⟨e,i,am⟩:=b0;obtain⟨o,m,p,ce,c,g,d⟩:=eG a5.out.1 a5.out.2 a6;rw[ar]at d;obtain⟨b,rfl⟩:=d.ks.ptr (by have:=dh i;omega);have bb:=d.hL;have cq:(0:Int)<(c:Int):=by have:=dh i;omega
      have I:=y.out.1.lt;obtain⟨z0,bA,bD⟩:=y.out.1.cells;obtain⟨bf,bl,bn,bo,bp,br,bs,bt,bw,_,_⟩:=d.rd wr y.out.1.bel;have t:S (Bx w0 (M (O p1) n c1) tab wr a (M o m p) (M (O b) c g) (A) (wr.alloc (ia a (M o m p) (M (O b) c g)))):=Bx.new y.out.1 a _ _;have u:S (∀(h:ByteArray)(f:V),Bx w0 (M (O p1) n c1) tab wr a (M o m p) (M (O b) c g) h f->f.cell? ⟨wr.heap.size,0,T⟩=O (Q R a.k)/\f.cell? ⟨wr.heap.size,6,T⟩=O (U a.x)/\f.cell? ⟨wr.heap.size,8,T⟩=O (M (O b) c g)/\f.cell? b=O (Q R (e:Int))):=fun h f q=>⟨q.cells.1,q.cells.2.2.2.2.2.2.1,q.cells.2.2.2.2.2.2.2.2,q.kid0 d.ks i⟩;have a7:=aq am;have B:my w E a=E (e:Int):=by unfold my;rw[aa C,aa a4,show cL a 0=(e:Int) by unfold cL;rw[List.getD,i];rfl]
      have ao:=F.out.2;rw[B]at ao;have af:=dx F.out.1 B;simp only[ag]at ao;have cf:(a.k==41)=false:=by simpa using C
      have c6:(a.k==42)=false:=by simpa using a4
      have cb:=aq d;have cc:=aq i;clear d ar B C bA bD i bb F am a6 a4;obtain⟨J,K,L,ad⟩:=u.out _ _ t.out;go_wp2_with fail;refine(a7.out _ _ t.out.pr (by(try simp only[ag]);omega)).mono ?_;rintro G bx ⟨rfl,l,j⟩;have s:S (Bx w0 (M (O p1) n c1) tab wr a (M o m p) (M (O b) c g) (A++(E (e:Int))) bx):=t.out.next I l j
      obtain⟨J,K,L,ad⟩:=u.out _ _ s.out;clear l j bf bl bn bo bp br bs bt bw z0;go_wp2_with fail;refine⟨⟨0+1,by omega,by go_num,?_,y.out.2.trans s.out.kq⟩,by simp[W];omega⟩;rw[af.out.1,af.out.2];have:=s.out.pr;simpa only[aF] using this
   ·have F:S (h++⟨#[123]⟩++cE (v.take (k+1))=(h++⟨#[123]⟩++cE (v.take k)++ej)++my w E a/\((h++⟨#[123]⟩++cE (v.take k)++ej)++my w E a).size<=140737488355328):=by
     have G:h++⟨#[123]⟩++cE (v.take (k+1))=(h++⟨#[123]⟩++cE (v.take k)++ej)++my w E a:=by rw[cm,aa cl];simp only[aF]
     exact⟨G,by rw[<-G];exact cz⟩
    have et:(0:Int)<(k:Int):=by omega
    clear cm dn b9 c7 cy cz;obtain⟨A,cp⟩:=aA (h++⟨#[123]⟩++cE (v.take k));rw[cp]at F y;clear cp;go_wp2_with fail;refine(aE w0 _ A ej tab _ y.out.1 (by have:=F.out.2;simp only[ag]at this;omega)).mono ?_;rintro G r ⟨rfl,c8,d2⟩;have a3:S (Pr w0 (M (O p1) n c1) (A++ej) tab r/\Kq w0.heap.size cr r):=⟨c8,y.out.2.trans d2⟩;have eo:r.cell? (dk.add k)=O (Q R (b6:Int)):=by
     obtain⟨ei,d8,d7⟩:=(bE.out.1.below c8.bel).get (show N.ks[k]?=O (b6:Int) from d5.out);cases d8;exact d7
    clear c8 d2 c5 cl y;by_cases C:a.k=41
    ·have b0:∃e ap:Nat,a.ks[0]?=O (e:Int)/\a.ks[1]?=O (ap:Int)/\Wr w0 (M (O p1) n c1) tab 123 #[pW w0,Q R (e:Int),Q R 0] (E e)/\Wr w0 (M (O p1) n c1) tab 123 #[pW w0,Q R (ap:Int),Q R 0] (E ap):=by
      rcases ct.out with⟨_,H⟩|⟨H,_⟩
      ·exact H
      ·exact absurd C H
     obtain⟨e,ap,i,b1,am,co⟩:=b0;obtain⟨o,m,p,ce,c,g,d⟩:=eG a5.out.1 a5.out.2 a6;rw[ar]at d;obtain⟨b,rfl⟩:=d.ks.ptr (by have:=dh i;omega);have bb:=d.hL;have cq:(0:Int)<(c:Int):=by have:=dh i;omega
     have d9:(1:Int)<(c:Int):=by have:=dh b1;omega
     have I:=a3.out.1.lt;obtain⟨z0,bA,bD⟩:=a3.out.1.cells;obtain⟨bf,bl,bn,bo,bp,br,bs,bt,bw,_,_⟩:=d.rd r a3.out.1.bel;have t:S (Bx w0 (M (O p1) n c1) tab r a (M o m p) (M (O b) c g) (A++ej) (r.alloc (ia a (M o m p) (M (O b) c g)))):=Bx.new a3.out.1 a _ _;have u:S (∀(h:ByteArray)(f:V),Bx w0 (M (O p1) n c1) tab r a (M o m p) (M (O b) c g) h f->f.cell? ⟨r.heap.size,0,T⟩=O (Q R a.k)/\f.cell? ⟨r.heap.size,6,T⟩=O (U a.x)/\f.cell? ⟨r.heap.size,8,T⟩=O (M (O b) c g)/\f.cell? b=O (Q R (e:Int))/\f.cell? ⟨b.block,b.off+1,T⟩=O (Q R (ap:Int))):=fun h f q=>⟨q.cells.1,q.cells.2.2.2.2.2.2.1,q.cells.2.2.2.2.2.2.2.2,q.kid0 d.ks i,q.kid d.ks b1 (by decide)⟩;have a7:S (Wr w0 (M (O p1) n c1) tab 63 _ (⟨#[91]⟩)):=fun a8 a9 bd av=>aE w0 _ a8 (⟨#[91]⟩) _ a9 bd av;have b5:=aq am;have cB:S (Wr w0 (M (O p1) n c1) tab 63 _ (⟨#[93,32,61,32]⟩)):=fun a8 a9 bd av=>aE w0 _ a8 (⟨#[93,32,61,32]⟩) _ a9 bd av;have c0:=aq co;have B:my w E a=⟨#[91]⟩++E (e:Int)++⟨#[93,32,61,32]⟩++E (ap:Int):=by unfold my;rw[ab C,show cL a 0=(e:Int) by unfold cL;rw[List.getD,i];rfl,show cL a 1=(ap:Int) by unfold cL;rw[List.getD,b1];rfl]
     have ao:=F.out.2;rw[B]at ao;have af:=dx F.out.1 B;simp only[ag]at ao;have cf:(a.k==41)=true:=by simpa using C
     have cb:=aq d;have cc:=aq i;clear d ar B C bA bD i bb F am a6 b1 co;obtain⟨J,K,L,ad,b2⟩:=u.out _ _ t.out;go_wp2_with fail;refine(a7.out _ _ t.out.pr (by(try simp only[ag]);omega)).mono ?_;rintro G bx ⟨rfl,l,j⟩;have s:S (Bx w0 (M (O p1) n c1) tab r a (M o m p) (M (O b) c g) (A++ej++(⟨#[91]⟩)) bx):=t.out.next I l j
     obtain⟨J,K,L,ad,b2⟩:=u.out _ _ s.out;clear l j bf bl bn bo bp br bs bt bw z0;go_wp2_with fail;refine(b5.out _ _ s.out.pr (by(try simp only[ag]);omega)).mono ?_;rintro G b7 ⟨rfl,l,j⟩;have a0:S (Bx w0 (M (O p1) n c1) tab r a (M o m p) (M (O b) c g) (A++ej++(⟨#[91]⟩)++(E (e:Int))) b7):=s.out.next I l j
     obtain⟨J,K,L,ad,b2⟩:=u.out _ _ a0.out;clear l j;go_wp2_with fail;refine(cB.out _ _ a0.out.pr (by(try simp only[ag]);omega)).mono ?_;rintro G dd ⟨rfl,l,j⟩;have b3:S (Bx w0 (M (O p1) n c1) tab r a (M o m p) (M (O b) c g) (A++ej++(⟨#[91]⟩)++(E (e:Int))++(⟨#[93,32,61,32]⟩)) dd):=a0.out.next I l j
     obtain⟨J,K,L,ad,b2⟩:=u.out _ _ b3.out;clear l j;go_wp2_with fail;refine(c0.out _ _ b3.out.pr (by(try simp only[ag]);omega)).mono ?_;rintro G df ⟨rfl,l,j⟩;have b4:S (Bx w0 (M (O p1) n c1) tab r a (M o m p) (M (O b) c g) (A++ej++(⟨#[91]⟩)++(E (e:Int))++(⟨#[93,32,61,32]⟩)++(E (ap:Int))) df):=b3.out.next I l j
     obtain⟨J,K,L,ad,b2⟩:=u.out _ _ b4.out;clear l j;go_wp2_with fail;refine⟨⟨k+1,by omega,by go_num,?_,a3.out.2.trans b4.out.kq⟩,by simp[W];omega⟩;rw[af.out.1,af.out.2];have:=b4.out.pr;simpa only[aF] using this
    ·have b0:∃e:Nat,a.ks[0]?=O (e:Int)/\Wr w0 (M (O p1) n c1) tab 123 #[pW w0,Q R (e:Int),Q R 0] (E e):=by
      rcases ct.out with⟨H,_⟩|⟨_,H⟩
      ·exact absurd H C
      ·exact H
     by_cases a4:a.k=42
     ·skip
      obtain⟨e,i,am⟩:=b0;obtain⟨o,m,p,ce,c,g,d⟩:=eG a5.out.1 a5.out.2 a6;rw[ar]at d;obtain⟨b,rfl⟩:=d.ks.ptr (by have:=dh i;omega);have bb:=d.hL;have cq:(0:Int)<(c:Int):=by have:=dh i;omega
      have I:=a3.out.1.lt;obtain⟨z0,bA,bD⟩:=a3.out.1.cells;obtain⟨bf,bl,bn,bo,bp,br,bs,bt,bw,_,_⟩:=d.rd r a3.out.1.bel;have t:S (Bx w0 (M (O p1) n c1) tab r a (M o m p) (M (O b) c g) (A++ej) (r.alloc (ia a (M o m p) (M (O b) c g)))):=Bx.new a3.out.1 a _ _;have u:S (∀(h:ByteArray)(f:V),Bx w0 (M (O p1) n c1) tab r a (M o m p) (M (O b) c g) h f->f.cell? ⟨r.heap.size,0,T⟩=O (Q R a.k)/\f.cell? ⟨r.heap.size,6,T⟩=O (U a.x)/\f.cell? ⟨r.heap.size,8,T⟩=O (M (O b) c g)/\f.cell? b=O (Q R (e:Int))):=fun h f q=>⟨q.cells.1,q.cells.2.2.2.2.2.2.1,q.cells.2.2.2.2.2.2.2.2,q.kid0 d.ks i⟩;have a7:S (Wr w0 (M (O p1) n c1) tab 63 _ (⟨#[46]⟩++a.x++⟨#[32,61,32]⟩)):=fun a8 a9 bd av=>aE w0 _ a8 (⟨#[46]⟩++a.x++⟨#[32,61,32]⟩) _ a9 bd av;have b5:=aq am;have B:my w E a=(⟨#[46]⟩++a.x++⟨#[32,61,32]⟩)++E (e:Int):=by unfold my;rw[aa C,ab a4,show cL a 0=(e:Int) by unfold cL;rw[List.getD,i];rfl]
      have ao:=F.out.2;rw[B]at ao;have af:=dx F.out.1 B;simp only[ag]at ao;have cf:(a.k==41)=false:=by simpa using C
      have c6:(a.k==42)=true:=by simpa using a4
      have cb:=aq d;have cc:=aq i;clear d ar B C bA bD i bb F am a6 a4;obtain⟨J,K,L,ad⟩:=u.out _ _ t.out;go_wp2_with fail;refine(a7.out _ _ t.out.pr (by(try simp only[ag]);omega)).mono ?_;rintro G bx ⟨rfl,l,j⟩;have s:S (Bx w0 (M (O p1) n c1) tab r a (M o m p) (M (O b) c g) (A++ej++(⟨#[46]⟩++a.x++⟨#[32,61,32]⟩)) bx):=t.out.next I l j
      obtain⟨J,K,L,ad⟩:=u.out _ _ s.out;clear l j bf bl bn bo bp br bs bt bw z0;go_wp2_with fail;refine(b5.out _ _ s.out.pr (by(try simp only[ag]);omega)).mono ?_;rintro G b7 ⟨rfl,l,j⟩;have a0:S (Bx w0 (M (O p1) n c1) tab r a (M o m p) (M (O b) c g) (A++ej++(⟨#[46]⟩++a.x++⟨#[32,61,32]⟩)++(E (e:Int))) b7):=s.out.next I l j
      obtain⟨J,K,L,ad⟩:=u.out _ _ a0.out;clear l j;go_wp2_with fail;refine⟨⟨k+1,by omega,by go_num,?_,a3.out.2.trans a0.out.kq⟩,by simp[W];omega⟩;rw[af.out.1,af.out.2];have:=a0.out.pr;simpa only[aF] using this
     ·skip
      obtain⟨e,i,am⟩:=b0;obtain⟨o,m,p,ce,c,g,d⟩:=eG a5.out.1 a5.out.2 a6;rw[ar]at d;obtain⟨b,rfl⟩:=d.ks.ptr (by have:=dh i;omega);have bb:=d.hL;have cq:(0:Int)<(c:Int):=by have:=dh i;omega
      have I:=a3.out.1.lt;obtain⟨z0,bA,bD⟩:=a3.out.1.cells;obtain⟨bf,bl,bn,bo,bp,br,bs,bt,bw,_,_⟩:=d.rd r a3.out.1.bel;have t:S (Bx w0 (M (O p1) n c1) tab r a (M o m p) (M (O b) c g) (A++ej) (r.alloc (ia a (M o m p) (M (O b) c g)))):=Bx.new a3.out.1 a _ _;have u:S (∀(h:ByteArray)(f:V),Bx w0 (M (O p1) n c1) tab r a (M o m p) (M (O b) c g) h f->f.cell? ⟨r.heap.size,0,T⟩=O (Q R a.k)/\f.cell? ⟨r.heap.size,6,T⟩=O (U a.x)/\f.cell? ⟨r.heap.size,8,T⟩=O (M (O b) c g)/\f.cell? b=O (Q R (e:Int))):=fun h f q=>⟨q.cells.1,q.cells.2.2.2.2.2.2.1,q.cells.2.2.2.2.2.2.2.2,q.kid0 d.ks i⟩;have a7:=aq am;have B:my w E a=E (e:Int):=by unfold my;rw[aa C,aa a4,show cL a 0=(e:Int) by unfold cL;rw[List.getD,i];rfl]
      have ao:=F.out.2;rw[B]at ao;have af:=dx F.out.1 B;simp only[ag]at ao;have cf:(a.k==41)=false:=by simpa using C
      have c6:(a.k==42)=false:=by simpa using a4
      have cb:=aq d;have cc:=aq i;clear d ar B C bA bD i bb F am a6 a4;obtain⟨J,K,L,ad⟩:=u.out _ _ t.out;go_wp2_with fail;refine(a7.out _ _ t.out.pr (by(try simp only[ag]);omega)).mono ?_;rintro G bx ⟨rfl,l,j⟩;have s:S (Bx w0 (M (O p1) n c1) tab r a (M o m p) (M (O b) c g) (A++ej++(E (e:Int))) bx):=t.out.next I l j
      obtain⟨J,K,L,ad⟩:=u.out _ _ s.out;clear l j bf bl bn bo bp br bs bt bw z0;go_wp2_with fail;refine⟨⟨k+1,by omega,by go_num,?_,a3.out.2.trans s.out.kq⟩,by simp[W];omega⟩;rw[af.out.1,af.out.2];have:=s.out.pr;simpa only[aF] using this
  ·obtain rfl:k=bF:=by omega
   go_wp2_with fail;refine(aE w0 _ _ ⟨#[125]⟩ _ _ y.out.1 (by have:=yC v k;have:=bE.out.2.2.2.2.2.1;rw[ag,ag];show h.size+1+_+1<=_;omega)).mono ?_;rintro G e1 ⟨rfl,d4,eg⟩;go_wp2_with fail;go_end0
   refine⟨rfl,?_,y.out.2.trans eg⟩;rw[cw (by rw[bE.out.2.2.2.2.1];exact ah _)]at d4;rw[<-aF,<-aF];exact d4
