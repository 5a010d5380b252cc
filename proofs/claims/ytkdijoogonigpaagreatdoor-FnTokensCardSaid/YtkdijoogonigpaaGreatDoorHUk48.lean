import Derived.Test.YtkdijoogonigpaaGreatDoorHUk36
set_option linter.all false
set_option maxRecDepth 100000
set_option maxHeartbeats 12800000
open Go.Value renaming slice->M,int->Q,string->U
open Option renaming some->O,none->T
open Go.IntKind renaming i64->R
open Go.RowKit renaming Hid->S,intOf->W
open Go renaming World->V
namespace Go.Proofs.YtkdijoogonigpaaGreatDoor
open Go.RowKit
def EnW(w0:V)(c:Value)(t:Int)(E:Int->ByteArray)(X:Nd):Prop:=
 (X.k=41/\∃a b:Nat,X.ks[0]?=O (a:Int)/\X.ks[1]?=O (b:Int)/\Wr w0 c t 110 #[pW w0,Q R (a:Int),Q R 0] (E a)/\Wr w0 c t 110 #[pW w0,Q R (b:Int),Q R 0] (E b))
  \/(X.k≠41/\∃a:Nat,X.ks[0]?=O (a:Int)/\Wr w0 c t 110 #[pW w0,Q R (a:Int),Q R 0] (E a))
theorem Hj(w0:V)(p1:Addr)(n c1:Nat)(ns:List Nd)(d1:bI w0 (M (O p1) n c1) ns)(d2:fI w0 p1 ns)(ej:ns.length=n)(ex:n<=1048576)(E:Int->ByteArray)(tab:Int)(N:Nd)(vn vk:Value)(c0:aJ w0 vk N.ks)(eg:N.ks.length<=1048576)
  (d0:∀z∈N.ks,∃k:Nat,z=(k:Int)/\k<ns.length/\EnW w0 (M (O p1) n c1) tab E (nodeI ns k)):Wr w0 (M (O p1) n c1) tab 142 #[pW w0,cE N vn vk] (GI ns E N):=by
 intro h cy G a0;obtain⟨c8,c9,rfl⟩:=c0.form;obtain⟨b2,cF⟩:=aD N.ks.length;rw[cF]at c0 eg⊢;have eh:=G.lt;have t:S (Bx w0 (M (O p1) n c1) tab cy N vn (M c8 b2 c9) h (cy.alloc (fx N vn (M c8 b2 c9)))):=Bx.new G N _ _;obtain⟨v,c2⟩:∃v,(N.ks.map fun k=>iD ns E (nodeI ns k))=v:=⟨_,rfl⟩;have d3:v.length=b2:=by rw[<-c2,du];exact cF
 have av:GI ns E N=⟨#[123]⟩++bv v++⟨#[125]⟩:=by unfold GI;rw[c2]
 rw[av]at a0⊢;have d4:h.size+(1+(bv v).size+1)<=140737488355328:=by rw[ae,ae]at a0;exact a0
 have a6:=cH d1 d2;have b1:=agf c0 d0 cF c2 d3 d4 ej;clear G d1 d2 c0 d0 cF c2 d3 av a0 d4;unfold cE;go_in;go_wp2_with fail;refine(az w0 _ h ⟨#[123]⟩ tab _ t.out.pr (by have:=b1.out.2.2.2.2.2.1;show h.size+1<=_;omega)).mono ?_;rintro F el ⟨rfl,d7,d5⟩;have s:S (Bx w0 (M (O p1) n c1) tab cy N vn (M c8 b2 c9) (h++⟨#[123]⟩) el):=t.out.next eh d7 d5
 have ea:=s.out.cells.2.2.2.2.2.2.2.2;clear d7 d5;go_wp2_with fail;go_loopw [12] (fun dg wr=>∃k:Nat,k<=b2/\dg= Q R k/\S (Pr w0 (M (O p1) n c1) (h++⟨#[123]⟩++bv (v.take k)) tab wr/\Kq w0.heap.size cy wr)) (fun dg _=>b2-(W dg).toNat)
 case atStart=>exact⟨0,by omega,rfl,by rw[show h++⟨#[123]⟩++bv (v.take 0)=h++⟨#[123]⟩ from ByteArray.append_empty];exact s.out.pr,s.out.kq⟩
 case round=>
  clear ea;obtain⟨k,er,rfl,w⟩:=hrel;by_cases ef:k<b2
  ·obtain⟨z,ce⟩:=eA b1.out.2.2.1 ef;obtain⟨cb,rfl,a7,c4⟩:=b1.out.2.1 z (dC ce);obtain⟨ds,rfl,da⟩:=(b1.out.1.below w.out.1.bel).get ce;have et:(k:Int)<(b2:Int):=by omega
   have es:(0:Int)<=(k:Int):=by omega
   have dd:v[k]?=O (iD ns E (nodeI ns cb)):=by rw[<-b1.out.2.2.2.1,dj,ce];rfl
   have cr:=kJ v k _ dd;have dx:=uu v (k+1);have e0:(cb:Int)<(n:Int):=by have:=b1.out.2.2.2.2.2.2;omega
   have eF:(0:Int)<=(cb:Int):=by omega
   have c5:(h++⟨#[123]⟩++bv (v.take (k+1))).size<=140737488355328:=by
    have en:=b1.out.2.2.2.2.2.1;rw[ae,ae];show h.size+1+_<=_;omega
   obtain⟨a,av⟩:=aD (nodeI ns cb);rw[av]at cr c4;have cz:=ar c4;have d9:=ar ce;by_cases cq:k=0
   ·have C:S (h++⟨#[123]⟩++bv (v.take (k+1))=(h++⟨#[123]⟩++bv (v.take k))++iD ns E a/\((h++⟨#[123]⟩++bv (v.take k))++iD ns E a).size<=140737488355328):=by
     have F:h++⟨#[123]⟩++bv (v.take (k+1))=(h++⟨#[123]⟩++bv (v.take k))++iD ns E a:=by rw[cr,ab cq];simp only[aB]
     exact⟨F,by rw[<-F];exact c5⟩
    have ep:wr.cell? ds=O (Q R (cb:Int)):=by subst cq;simpa [Addr.add] using da
    have ew:¬(0:Int)<(k:Int):=by omega
    obtain⟨y,cu⟩:=aD (h++⟨#[123]⟩++bv (v.take k));rw[cu]at C w;subst cq;clear cr dx ce dd c4 c5 da cu;by_cases B:a.k=41
    ·have b3:∃e ap:Nat,a.ks[0]?=O (e:Int)/\a.ks[1]?=O (ap:Int)/\Wr w0 (M (O p1) n c1) tab 110 #[pW w0,Q R (e:Int),Q R 0] (E e)/\Wr w0 (M (O p1) n c1) tab 110 #[pW w0,Q R (ap:Int),Q R 0] (E ap):=by
      rcases cz.out with⟨_,G⟩|⟨G,_⟩
      ·exact G
      ·exact absurd B G
     obtain⟨e,ap,i,b4,al,ct⟩:=b3;obtain⟨o,m,p,cm,c,g,d⟩:=dH a6.out.1 a6.out.2 a7;rw[av]at d;obtain⟨b,rfl⟩:=d.ks.ptr (by have:=cd i;omega);have bd:=d.hL;have cv:(0:Int)<(c:Int):=by have:=cd i;omega
     have ee:(1:Int)<(c:Int):=by have:=cd b4;omega
     have H:=w.out.1.lt;obtain⟨z0,bE,b0⟩:=w.out.1.cells;obtain⟨bj,bl,bn,bo,bp,br,bs,bt,bw,_,_⟩:=d.rd wr w.out.1.bel;have t:S (Bx w0 (M (O p1) n c1) tab wr a (M o m p) (M (O b) c g) (y) (wr.alloc (fx a (M o m p) (M (O b) c g)))):=Bx.new w.out.1 a _ _;have u:S (∀(h:ByteArray)(f:V),Bx w0 (M (O p1) n c1) tab wr a (M o m p) (M (O b) c g) h f->f.cell? ⟨wr.heap.size,0,T⟩=O (Q R a.k)/\f.cell? ⟨wr.heap.size,6,T⟩=O (U a.x)/\f.cell? ⟨wr.heap.size,8,T⟩=O (M (O b) c g)/\f.cell? b=O (Q R (e:Int))/\f.cell? ⟨b.block,b.off+1,T⟩=O (Q R (ap:Int))):=fun h f q=>⟨q.cells.1,q.cells.2.2.2.2.2.2.1,q.cells.2.2.2.2.2.2.2.2,q.kid0 d.ks i,q.kid d.ks b4 (by decide)⟩;have a8:S (Wr w0 (M (O p1) n c1) tab 81 _ (⟨#[91]⟩)):=fun a9 bb bf a0=>az w0 _ a9 (⟨#[91]⟩) _ bb bf a0;have b9:=ar al;have c6:S (Wr w0 (M (O p1) n c1) tab 81 _ (⟨#[93,32,61,32]⟩)):=fun a9 bb bf a0=>az w0 _ a9 (⟨#[93,32,61,32]⟩) _ bb bf a0;have c7:=ar ct;have A:iD ns E a=⟨#[91]⟩++E (e:Int)++⟨#[93,32,61,32]⟩++E (ap:Int):=by unfold iD;rw[ab B,show bz a 0=(e:Int) by unfold bz;rw[List.getD,i];rfl,show bz a 1=(ap:Int) by unfold bz;rw[List.getD,b4];rfl]
     have am:=C.out.2;rw[A]at am;have af:=cH C.out.1 A;simp only[ae]at am;have cp:(a.k==41)=true:=by simpa using B
     have cf:=ar d;have cl:=ar i;clear d av A B bE b0 i bd C al a7 b4 ct;obtain⟨I,J,K,L,b5⟩:=u.out _ _ t.out;go_wp2_with fail;refine(a8.out _ _ t.out.pr (by(try simp only[ae]);omega)).mono ?_;rintro F bx ⟨rfl,l,j⟩;have s:S (Bx w0 (M (O p1) n c1) tab wr a (M o m p) (M (O b) c g) (y++(⟨#[91]⟩)) bx):=t.out.next H l j
     obtain⟨I,J,K,L,b5⟩:=u.out _ _ s.out;clear l j bj bl bn bo bp br bs bt bw z0;go_wp2_with fail;refine(b9.out _ _ s.out.pr (by(try simp only[ae]);omega)).mono ?_;rintro F cc ⟨rfl,l,j⟩;have a3:S (Bx w0 (M (O p1) n c1) tab wr a (M o m p) (M (O b) c g) (y++(⟨#[91]⟩)++(E (e:Int))) cc):=s.out.next H l j
     obtain⟨I,J,K,L,b5⟩:=u.out _ _ a3.out;clear l j;go_wp2_with fail;refine(c6.out _ _ a3.out.pr (by(try simp only[ae]);omega)).mono ?_;rintro F dk ⟨rfl,l,j⟩;have b6:S (Bx w0 (M (O p1) n c1) tab wr a (M o m p) (M (O b) c g) (y++(⟨#[91]⟩)++(E (e:Int))++(⟨#[93,32,61,32]⟩)) dk):=a3.out.next H l j
     obtain⟨I,J,K,L,b5⟩:=u.out _ _ b6.out;clear l j;go_wp2_with fail;refine(c7.out _ _ b6.out.pr (by(try simp only[ae]);omega)).mono ?_;rintro F dn ⟨rfl,l,j⟩;have b7:S (Bx w0 (M (O p1) n c1) tab wr a (M o m p) (M (O b) c g) (y++(⟨#[91]⟩)++(E (e:Int))++(⟨#[93,32,61,32]⟩)++(E (ap:Int))) dn):=b6.out.next H l j
     obtain⟨I,J,K,L,b5⟩:=u.out _ _ b7.out;clear l j;go_wp2_with fail;refine⟨⟨0+1,by omega,by go_num,?_,w.out.2.trans b7.out.kq⟩,by simp[W];omega⟩;rw[af.out.1,af.out.2];have:=b7.out.pr;simpa only[aB] using this
    ·have b3:∃e:Nat,a.ks[0]?=O (e:Int)/\Wr w0 (M (O p1) n c1) tab 110 #[pW w0,Q R (e:Int),Q R 0] (E e):=by
      rcases cz.out with⟨G,_⟩|⟨_,G⟩
      ·exact absurd G B
      ·exact G
     by_cases a5:a.k=42
     ·skip
      obtain⟨e,i,al⟩:=b3;obtain⟨o,m,p,cm,c,g,d⟩:=dH a6.out.1 a6.out.2 a7;rw[av]at d;obtain⟨b,rfl⟩:=d.ks.ptr (by have:=cd i;omega);have bd:=d.hL;have cv:(0:Int)<(c:Int):=by have:=cd i;omega
      have H:=w.out.1.lt;obtain⟨z0,bE,b0⟩:=w.out.1.cells;obtain⟨bj,bl,bn,bo,bp,br,bs,bt,bw,_,_⟩:=d.rd wr w.out.1.bel;have t:S (Bx w0 (M (O p1) n c1) tab wr a (M o m p) (M (O b) c g) (y) (wr.alloc (fx a (M o m p) (M (O b) c g)))):=Bx.new w.out.1 a _ _;have u:S (∀(h:ByteArray)(f:V),Bx w0 (M (O p1) n c1) tab wr a (M o m p) (M (O b) c g) h f->f.cell? ⟨wr.heap.size,0,T⟩=O (Q R a.k)/\f.cell? ⟨wr.heap.size,6,T⟩=O (U a.x)/\f.cell? ⟨wr.heap.size,8,T⟩=O (M (O b) c g)/\f.cell? b=O (Q R (e:Int))):=fun h f q=>⟨q.cells.1,q.cells.2.2.2.2.2.2.1,q.cells.2.2.2.2.2.2.2.2,q.kid0 d.ks i⟩;have a8:S (Wr w0 (M (O p1) n c1) tab 81 _ (⟨#[46]⟩++a.x++⟨#[32,61,32]⟩)):=fun a9 bb bf a0=>az w0 _ a9 (⟨#[46]⟩++a.x++⟨#[32,61,32]⟩) _ bb bf a0;have b9:=ar al;have A:iD ns E a=(⟨#[46]⟩++a.x++⟨#[32,61,32]⟩)++E (e:Int):=by unfold iD;rw[aa B,ab a5,show bz a 0=(e:Int) by unfold bz;rw[List.getD,i];rfl]
      have am:=C.out.2;rw[A]at am;have af:=cH C.out.1 A;simp only[ae]at am;have cp:(a.k==41)=false:=by simpa using B
      have dc:(a.k==42)=true:=by simpa using a5
      have cf:=ar d;have cl:=ar i;clear d av A B bE b0 i bd C al a7 a5;obtain⟨I,J,K,L⟩:=u.out _ _ t.out;go_wp2_with fail;refine(a8.out _ _ t.out.pr (by(try simp only[ae]);omega)).mono ?_;rintro F bx ⟨rfl,l,j⟩;have s:S (Bx w0 (M (O p1) n c1) tab wr a (M o m p) (M (O b) c g) (y++(⟨#[46]⟩++a.x++⟨#[32,61,32]⟩)) bx):=t.out.next H l j
      obtain⟨I,J,K,L⟩:=u.out _ _ s.out;clear l j bj bl bn bo bp br bs bt bw z0;go_wp2_with fail;refine(b9.out _ _ s.out.pr (by(try simp only[ae]);omega)).mono ?_;rintro F cc ⟨rfl,l,j⟩;have a3:S (Bx w0 (M (O p1) n c1) tab wr a (M o m p) (M (O b) c g) (y++(⟨#[46]⟩++a.x++⟨#[32,61,32]⟩)++(E (e:Int))) cc):=s.out.next H l j
      obtain⟨I,J,K,L⟩:=u.out _ _ a3.out;clear l j;go_wp2_with fail;refine⟨⟨0+1,by omega,by go_num,?_,w.out.2.trans a3.out.kq⟩,by simp[W];omega⟩;rw[af.out.1,af.out.2];have:=a3.out.pr;simpa only[aB] using this
     ·skip
      obtain⟨e,i,al⟩:=b3;obtain⟨o,m,p,cm,c,g,d⟩:=dH a6.out.1 a6.out.2 a7;rw[av]at d;obtain⟨b,rfl⟩:=d.ks.ptr (by have:=cd i;omega);have bd:=d.hL;have cv:(0:Int)<(c:Int):=by have:=cd i;omega
      have H:=w.out.1.lt;obtain⟨z0,bE,b0⟩:=w.out.1.cells;obtain⟨bj,bl,bn,bo,bp,br,bs,bt,bw,_,_⟩:=d.rd wr w.out.1.bel;have t:S (Bx w0 (M (O p1) n c1) tab wr a (M o m p) (M (O b) c g) (y) (wr.alloc (fx a (M o m p) (M (O b) c g)))):=Bx.new w.out.1 a _ _;have u:S (∀(h:ByteArray)(f:V),Bx w0 (M (O p1) n c1) tab wr a (M o m p) (M (O b) c g) h f->f.cell? ⟨wr.heap.size,0,T⟩=O (Q R a.k)/\f.cell? ⟨wr.heap.size,6,T⟩=O (U a.x)/\f.cell? ⟨wr.heap.size,8,T⟩=O (M (O b) c g)/\f.cell? b=O (Q R (e:Int))):=fun h f q=>⟨q.cells.1,q.cells.2.2.2.2.2.2.1,q.cells.2.2.2.2.2.2.2.2,q.kid0 d.ks i⟩;have a8:=ar al;have A:iD ns E a=E (e:Int):=by unfold iD;rw[aa B,aa a5,show bz a 0=(e:Int) by unfold bz;rw[List.getD,i];rfl]
      have am:=C.out.2;rw[A]at am;have af:=cH C.out.1 A;simp only[ae]at am;have cp:(a.k==41)=false:=by simpa using B
      have dc:(a.k==42)=false:=by simpa using a5
      have cf:=ar d;have cl:=ar i;clear d av A B bE b0 i bd C al a7 a5;obtain⟨I,J,K,L⟩:=u.out _ _ t.out;go_wp2_with fail;refine(a8.out _ _ t.out.pr (by(try simp only[ae]);omega)).mono ?_;rintro F bx ⟨rfl,l,j⟩;have s:S (Bx w0 (M (O p1) n c1) tab wr a (M o m p) (M (O b) c g) (y++(E (e:Int))) bx):=t.out.next H l j
      obtain⟨I,J,K,L⟩:=u.out _ _ s.out;clear l j bj bl bn bo bp br bs bt bw z0;go_wp2_with fail;refine⟨⟨0+1,by omega,by go_num,?_,w.out.2.trans s.out.kq⟩,by simp[W];omega⟩;rw[af.out.1,af.out.2];have:=s.out.pr;simpa only[aB] using this
   ·have C:S (h++⟨#[123]⟩++bv (v.take (k+1))=(h++⟨#[123]⟩++bv (v.take k)++di)++iD ns E a/\((h++⟨#[123]⟩++bv (v.take k)++di)++iD ns E a).size<=140737488355328):=by
     have F:h++⟨#[123]⟩++bv (v.take (k+1))=(h++⟨#[123]⟩++bv (v.take k)++di)++iD ns E a:=by rw[cr,aa cq];simp only[aB]
     exact⟨F,by rw[<-F];exact c5⟩
    have ev:(0:Int)<(k:Int):=by omega
    clear cr dx ce dd c4 c5;obtain⟨y,cu⟩:=aD (h++⟨#[123]⟩++bv (v.take k));rw[cu]at C w;clear cu;go_wp2_with fail;refine(az w0 _ y di tab _ w.out.1 (by have:=C.out.2;simp only[ae]at this;omega)).mono ?_;rintro F r ⟨rfl,df,d6⟩;have a4:S (Pr w0 (M (O p1) n c1) (y++di) tab r/\Kq w0.heap.size cy r):=⟨df,w.out.2.trans d6⟩;have eq:r.cell? (ds.add k)=O (Q R (cb:Int)):=by
     obtain⟨em,ec,eb⟩:=(b1.out.1.below df.bel).get (show N.ks[k]?=O (cb:Int) from d9.out);cases ec;exact eb
    clear df d6 da cq w;by_cases B:a.k=41
    ·have b3:∃e ap:Nat,a.ks[0]?=O (e:Int)/\a.ks[1]?=O (ap:Int)/\Wr w0 (M (O p1) n c1) tab 110 #[pW w0,Q R (e:Int),Q R 0] (E e)/\Wr w0 (M (O p1) n c1) tab 110 #[pW w0,Q R (ap:Int),Q R 0] (E ap):=by
      rcases cz.out with⟨_,G⟩|⟨G,_⟩
      ·exact G
      ·exact absurd B G
     obtain⟨e,ap,i,b4,al,ct⟩:=b3;obtain⟨o,m,p,cm,c,g,d⟩:=dH a6.out.1 a6.out.2 a7;rw[av]at d;obtain⟨b,rfl⟩:=d.ks.ptr (by have:=cd i;omega);have bd:=d.hL;have cv:(0:Int)<(c:Int):=by have:=cd i;omega
     have ee:(1:Int)<(c:Int):=by have:=cd b4;omega
     have H:=a4.out.1.lt;obtain⟨z0,bE,b0⟩:=a4.out.1.cells;obtain⟨bj,bl,bn,bo,bp,br,bs,bt,bw,_,_⟩:=d.rd r a4.out.1.bel;have t:S (Bx w0 (M (O p1) n c1) tab r a (M o m p) (M (O b) c g) (y++di) (r.alloc (fx a (M o m p) (M (O b) c g)))):=Bx.new a4.out.1 a _ _;have u:S (∀(h:ByteArray)(f:V),Bx w0 (M (O p1) n c1) tab r a (M o m p) (M (O b) c g) h f->f.cell? ⟨r.heap.size,0,T⟩=O (Q R a.k)/\f.cell? ⟨r.heap.size,6,T⟩=O (U a.x)/\f.cell? ⟨r.heap.size,8,T⟩=O (M (O b) c g)/\f.cell? b=O (Q R (e:Int))/\f.cell? ⟨b.block,b.off+1,T⟩=O (Q R (ap:Int))):=fun h f q=>⟨q.cells.1,q.cells.2.2.2.2.2.2.1,q.cells.2.2.2.2.2.2.2.2,q.kid0 d.ks i,q.kid d.ks b4 (by decide)⟩;have a8:S (Wr w0 (M (O p1) n c1) tab 81 _ (⟨#[91]⟩)):=fun a9 bb bf a0=>az w0 _ a9 (⟨#[91]⟩) _ bb bf a0;have b9:=ar al;have c6:S (Wr w0 (M (O p1) n c1) tab 81 _ (⟨#[93,32,61,32]⟩)):=fun a9 bb bf a0=>az w0 _ a9 (⟨#[93,32,61,32]⟩) _ bb bf a0;have c7:=ar ct;have A:iD ns E a=⟨#[91]⟩++E (e:Int)++⟨#[93,32,61,32]⟩++E (ap:Int):=by unfold iD;rw[ab B,show bz a 0=(e:Int) by unfold bz;rw[List.getD,i];rfl,show bz a 1=(ap:Int) by unfold bz;rw[List.getD,b4];rfl]
     have am:=C.out.2;rw[A]at am;have af:=cH C.out.1 A;simp only[ae]at am;have cp:(a.k==41)=true:=by simpa using B
     have cf:=ar d;have cl:=ar i;clear d av A B bE b0 i bd C al a7 b4 ct;obtain⟨I,J,K,L,b5⟩:=u.out _ _ t.out;go_wp2_with fail;refine(a8.out _ _ t.out.pr (by(try simp only[ae]);omega)).mono ?_;rintro F bx ⟨rfl,l,j⟩;have s:S (Bx w0 (M (O p1) n c1) tab r a (M o m p) (M (O b) c g) (y++di++(⟨#[91]⟩)) bx):=t.out.next H l j
     obtain⟨I,J,K,L,b5⟩:=u.out _ _ s.out;clear l j bj bl bn bo bp br bs bt bw z0;go_wp2_with fail;refine(b9.out _ _ s.out.pr (by(try simp only[ae]);omega)).mono ?_;rintro F cc ⟨rfl,l,j⟩;have a3:S (Bx w0 (M (O p1) n c1) tab r a (M o m p) (M (O b) c g) (y++di++(⟨#[91]⟩)++(E (e:Int))) cc):=s.out.next H l j
     obtain⟨I,J,K,L,b5⟩:=u.out _ _ a3.out;clear l j;go_wp2_with fail;refine(c6.out _ _ a3.out.pr (by(try simp only[ae]);omega)).mono ?_;rintro F dk ⟨rfl,l,j⟩;have b6:S (Bx w0 (M (O p1) n c1) tab r a (M o m p) (M (O b) c g) (y++di++(⟨#[91]⟩)++(E (e:Int))++(⟨#[93,32,61,32]⟩)) dk):=a3.out.next H l j
     obtain⟨I,J,K,L,b5⟩:=u.out _ _ b6.out;clear l j;go_wp2_with fail;refine(c7.out _ _ b6.out.pr (by(try simp only[ae]);omega)).mono ?_;rintro F dn ⟨rfl,l,j⟩;have b7:S (Bx w0 (M (O p1) n c1) tab r a (M o m p) (M (O b) c g) (y++di++(⟨#[91]⟩)++(E (e:Int))++(⟨#[93,32,61,32]⟩)++(E (ap:Int))) dn):=b6.out.next H l j
     obtain⟨I,J,K,L,b5⟩:=u.out _ _ b7.out;clear l j;go_wp2_with fail;refine⟨⟨k+1,by omega,by go_num,?_,a4.out.2.trans b7.out.kq⟩,by simp[W];omega⟩;rw[af.out.1,af.out.2];have:=b7.out.pr;simpa only[aB] using this
    ·have b3:∃e:Nat,a.ks[0]?=O (e:Int)/\Wr w0 (M (O p1) n c1) tab 110 #[pW w0,Q R (e:Int),Q R 0] (E e):=by
      rcases cz.out with⟨G,_⟩|⟨_,G⟩
      ·exact absurd G B
      ·exact G
     by_cases a5:a.k=42
     ·skip
      obtain⟨e,i,al⟩:=b3;obtain⟨o,m,p,cm,c,g,d⟩:=dH a6.out.1 a6.out.2 a7;rw[av]at d;obtain⟨b,rfl⟩:=d.ks.ptr (by have:=cd i;omega);have bd:=d.hL;have cv:(0:Int)<(c:Int):=by have:=cd i;omega
      have H:=a4.out.1.lt;obtain⟨z0,bE,b0⟩:=a4.out.1.cells;obtain⟨bj,bl,bn,bo,bp,br,bs,bt,bw,_,_⟩:=d.rd r a4.out.1.bel;have t:S (Bx w0 (M (O p1) n c1) tab r a (M o m p) (M (O b) c g) (y++di) (r.alloc (fx a (M o m p) (M (O b) c g)))):=Bx.new a4.out.1 a _ _;have u:S (∀(h:ByteArray)(f:V),Bx w0 (M (O p1) n c1) tab r a (M o m p) (M (O b) c g) h f->f.cell? ⟨r.heap.size,0,T⟩=O (Q R a.k)/\f.cell? ⟨r.heap.size,6,T⟩=O (U a.x)/\f.cell? ⟨r.heap.size,8,T⟩=O (M (O b) c g)/\f.cell? b=O (Q R (e:Int))):=fun h f q=>⟨q.cells.1,q.cells.2.2.2.2.2.2.1,q.cells.2.2.2.2.2.2.2.2,q.kid0 d.ks i⟩;have a8:S (Wr w0 (M (O p1) n c1) tab 81 _ (⟨#[46]⟩++a.x++⟨#[32,61,32]⟩)):=fun a9 bb bf a0=>az w0 _ a9 (⟨#[46]⟩++a.x++⟨#[32,61,32]⟩) _ bb bf a0;have b9:=ar al;have A:iD ns E a=(⟨#[46]⟩++a.x++⟨#[32,61,32]⟩)++E (e:Int):=by unfold iD;rw[aa B,ab a5,show bz a 0=(e:Int) by unfold bz;rw[List.getD,i];rfl]
      have am:=C.out.2;rw[A]at am;have af:=cH C.out.1 A;simp only[ae]at am;have cp:(a.k==41)=false:=by simpa using B
      have dc:(a.k==42)=true:=by simpa using a5
      have cf:=ar d;have cl:=ar i;clear d av A B bE b0 i bd C al a7 a5;obtain⟨I,J,K,L⟩:=u.out _ _ t.out;go_wp2_with fail;refine(a8.out _ _ t.out.pr (by(try simp only[ae]);omega)).mono ?_;rintro F bx ⟨rfl,l,j⟩;have s:S (Bx w0 (M (O p1) n c1) tab r a (M o m p) (M (O b) c g) (y++di++(⟨#[46]⟩++a.x++⟨#[32,61,32]⟩)) bx):=t.out.next H l j
      obtain⟨I,J,K,L⟩:=u.out _ _ s.out;clear l j bj bl bn bo bp br bs bt bw z0;go_wp2_with fail;refine(b9.out _ _ s.out.pr (by(try simp only[ae]);omega)).mono ?_;rintro F cc ⟨rfl,l,j⟩;have a3:S (Bx w0 (M (O p1) n c1) tab r a (M o m p) (M (O b) c g) (y++di++(⟨#[46]⟩++a.x++⟨#[32,61,32]⟩)++(E (e:Int))) cc):=s.out.next H l j
      obtain⟨I,J,K,L⟩:=u.out _ _ a3.out;clear l j;go_wp2_with fail;refine⟨⟨k+1,by omega,by go_num,?_,a4.out.2.trans a3.out.kq⟩,by simp[W];omega⟩;rw[af.out.1,af.out.2];have:=a3.out.pr;simpa only[aB] using this
     ·skip
      obtain⟨e,i,al⟩:=b3;obtain⟨o,m,p,cm,c,g,d⟩:=dH a6.out.1 a6.out.2 a7;rw[av]at d;obtain⟨b,rfl⟩:=d.ks.ptr (by have:=cd i;omega);have bd:=d.hL;have cv:(0:Int)<(c:Int):=by have:=cd i;omega
      have H:=a4.out.1.lt;obtain⟨z0,bE,b0⟩:=a4.out.1.cells;obtain⟨bj,bl,bn,bo,bp,br,bs,bt,bw,_,_⟩:=d.rd r a4.out.1.bel;have t:S (Bx w0 (M (O p1) n c1) tab r a (M o m p) (M (O b) c g) (y++di) (r.alloc (fx a (M o m p) (M (O b) c g)))):=Bx.new a4.out.1 a _ _;have u:S (∀(h:ByteArray)(f:V),Bx w0 (M (O p1) n c1) tab r a (M o m p) (M (O b) c g) h f->f.cell? ⟨r.heap.size,0,T⟩=O (Q R a.k)/\f.cell? ⟨r.heap.size,6,T⟩=O (U a.x)/\f.cell? ⟨r.heap.size,8,T⟩=O (M (O b) c g)/\f.cell? b=O (Q R (e:Int))):=fun h f q=>⟨q.cells.1,q.cells.2.2.2.2.2.2.1,q.cells.2.2.2.2.2.2.2.2,q.kid0 d.ks i⟩;have a8:=ar al;have A:iD ns E a=E (e:Int):=by unfold iD;rw[aa B,aa a5,show bz a 0=(e:Int) by unfold bz;rw[List.getD,i];rfl]
      have am:=C.out.2;rw[A]at am;have af:=cH C.out.1 A;simp only[ae]at am;have cp:(a.k==41)=false:=by simpa using B
      have dc:(a.k==42)=false:=by simpa using a5
      have cf:=ar d;have cl:=ar i;clear d av A B bE b0 i bd C al a7 a5;obtain⟨I,J,K,L⟩:=u.out _ _ t.out;go_wp2_with fail;refine(a8.out _ _ t.out.pr (by(try simp only[ae]);omega)).mono ?_;rintro F bx ⟨rfl,l,j⟩;have s:S (Bx w0 (M (O p1) n c1) tab r a (M o m p) (M (O b) c g) (y++di++(E (e:Int))) bx):=t.out.next H l j
      obtain⟨I,J,K,L⟩:=u.out _ _ s.out;clear l j bj bl bn bo bp br bs bt bw z0;go_wp2_with fail;refine⟨⟨k+1,by omega,by go_num,?_,a4.out.2.trans s.out.kq⟩,by simp[W];omega⟩;rw[af.out.1,af.out.2];have:=s.out.pr;simpa only[aB] using this
  ·obtain rfl:k=b2:=by omega
   go_wp2_with fail;refine(az w0 _ _ ⟨#[125]⟩ _ _ w.out.1 (by have:=uu v k;have:=b1.out.2.2.2.2.2.1;rw[ae,ae];show h.size+1+_+1<=_;omega)).mono ?_;rintro F e1 ⟨rfl,d8,ek⟩;go_wp2_with fail;go_end0
   refine⟨rfl,?_,w.out.2.trans ek⟩;rw[cC (by rw[b1.out.2.2.2.2.1];exact ag _)]at d8;rw[<-aB,<-aB];exact d8
