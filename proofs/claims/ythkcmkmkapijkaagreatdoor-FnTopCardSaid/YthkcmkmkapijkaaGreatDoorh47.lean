import Derived.Test.YthkcmkmkapijkaaGreatDoorh41
import Derived.Test.YthkcmkmkapijkaaGreatDoorh39
import Derived.Lib.AppendIntMem
set_option linter.all false
set_option maxRecDepth 100000
set_option maxHeartbeats 12800000
open Go.Proofs.Tryz
open List renaming length->M
open Go.RowKit renaming Below->Q,Hid->A0,intOf->A2
open Go.Value renaming string->T,slice->V,string->Br
open Go.Lib renaming decDigits->X
open Go.Proofs.Tryz renaming prog->Y
open Option renaming some->Ax
open Go.Ending renaming returned->A1
open Go renaming World->A3,Value->A5,Calls->A9
namespace Go.Proofs.YthkcmkmkapijkaaGreatDoor
open Go.RowKit Go.Maps Go.WideMaps
variable{N:Nd}{W W' w:World}{vk vn:Value}
theorem ar0(a c al L bn bA)(bl:Tp a al L bn bA)(t)(b7:t<=100000)(i)(bt:i<M al)(N)(br:ab al i=N)(b0:M N.ks<=1048576)(S)(hS:∀z∈N.ks,Jk a c L (t+1) z<|S z<|t+1):
  Pw a c 71 #[vP c,kH a t,nV<|qj L i] (Ab S N.ks t):=by
 intro f b q;have⟨F,_,a2,h,a3,ad,o⟩:=Ai bl bt;rw[br]at ad o;have y:=λb=>eD F b;have b4:=λb=>sr a.heap.size (gB t) b;have b2:=λb=>aaa a.heap.size (gB t) b;have b1:=λb=>agI a.heap.size (gB t) b;have b3:=λb=>aaa a.heap.size (gB<|t+1) b;have bz:=o.hn;have bx:=λb=>sF (eG N.k) F b;have a0:A0 (Pw a c 403 #[th a t,T ⟨#[123]⟩] ⟨#[123]⟩):=mm a c t _ Z;have bf:=ah<|aa5 a c (t+1) O;have bh:=ah<|aa5 a c t O;have bj:=ah (λp=>ajg a t O p);have bd:A0 (∀z∈N.ks,Pw a c 106 #[vP c,kH a<|t+1,nV<|qj L z]<|S z<|t+1):=hS;have a1:A0 (∀f b,Ps a c f b->∀B,CallsD Y 403 #[th a t,T ⟨#[125]⟩] B b λg am j=>am=B/\(g=A1 (.tuple #[])/\Ps a c (f++⟨#[125]⟩) j/\Kq a.heap.size b j)):=λf b q B=>pu a c t _ f Z B b q;have G:A0 (∀p,Q a.heap.size a p->p.cell? (aj F 5)=Ax (V a2 h a3)):=λp bs=>(o.cells bs).2.1;have av:=ah q;have ao:=G.out _ q.pg.bel;rw[ad];obtain⟨e,K⟩:∃e,(N.ks.map λd=>gA (t+1)++S d (t+1))=e:=⟨_,R⟩;have a5:M e=h:=U;have ar:A0 (Ab S N.ks t=ite (N.ks=[]) ⟨#[123,125]⟩ (⟨#[123]⟩++iw e++gA t++⟨#[125]⟩)):=by show _=_;unfold Ab;rw[K]
 have C:A0 (uu a L (V a2 h a3) N.ks/\M N.ks=h/\M e=h/\(N.ks.map λd=>gA (t+1)++S d (t+1))=e):=⟨o.ks,bz,a5,K⟩;generalize nC (eG N.k)=ca at bx⊢;unfold kH th at *;generalize gB t=b8 at *;generalize gB (t+1)=b9 at *;clear q o ad K a5 hS;by_cases a4:h=0
 .have w:N.ks=[]:=ze O;rw[ar.out,ae w];subst a4;clear w;go_enter_defers func71,ntmps71
  go_wp2_with (first|(go_at_call 404;refine(y _).mono ?_;rintro g j ⟨rfl,af⟩;subst j)|(go_at_call 403;fail));apply(a0.out _ _ av.out).mono;rintro g u ⟨rfl,k,s⟩;have n:A0 (Ps a c (f++⟨#[123]⟩) u/\Kq a.heap.size b u):=⟨k,s⟩;have ao:=G.out _ k.pg.bel;clear k s;go_wp2_with (first|(go_at_call 404;apply(y _).mono;rintro g j ⟨rfl,af⟩;subst j));apply pf I<|xd _ _ _ _;apply(a1.out _ _ n.out.1 _).mono;rintro g am bD ⟨rfl,rfl,A,ak⟩;refine⟨_,fE R _ _ _,R,?_,n.out.2.trans ak⟩;rw[aB]at A;exact A
 .have w:N.ks≠[]:=λg=>a4 U;have bc:A0 (Ab S N.ks t=⟨#[123]⟩++iw e++gA t++⟨#[125]⟩):=U;have b5:¬(h:Int)=0:=O;have b6:((h:Int)==0)=false:=U;clear w ar;go_enter_defers func71,ntmps71
  go_wp2_with (first|(go_at_call 404;refine(y _).mono ?_;rintro g j ⟨rfl,af⟩;subst j)|(go_at_call 403;fail));apply(a0.out _ _ av.out).mono;rintro g u ⟨rfl,k,s⟩;have n:A0 (Ps a c (f++⟨#[123]⟩) u/\Kq a.heap.size b u):=⟨k,s⟩;have ao:=G.out _ k.pg.bel;clear k s;go_wp2_with (first|(go_at_call 404;apply(y _).mono;rintro g j ⟨rfl,af⟩;subst j)|(go_at_call 401;fail));apply(bj.out _).mono;rintro g a9 ⟨rfl,H⟩;have ax:A0 (Ps a c (f++⟨#[123]⟩) a9/\Kq a.heap.size b a9):=⟨n.out.1.below H,n.out.2.trans<|Kq.of_below H⟩;clear H;go_wp2;go_loopw [26] (λan wr=>∃d:Nat,d<=h/\an=zI d/\A0 (Ps a c (f++⟨#[123]⟩++iw (e.take d)) wr/\Kq a.heap.size b wr)) (λan _=>h-(A2 an).toNat)
  .exact⟨0,O,R,by rw[show f++⟨#[123]⟩++iw (e.take 0)=f++⟨#[123]⟩ from lj];exact ax.out.1,ax.out.2⟩
  .
   clear ao;obtain⟨d,_,rfl,l⟩:=hrel;by_cases bw:d<h
   .obtain⟨z,x⟩:=bg O bw;obtain⟨_,rfl,_,bo⟩:=(C.out.1.below l.out.1.pg.bel).get x;have bF:(d:Int)<(h:Int):=O;have bE:(0:Int)<=(d:Int):=O;have a6:e[d]?=Ax (gA (t+1)++S z (t+1)):=by rw[<-C.out.2.2.2,cJ,x];rfl
    have bb:=ah<|vF e d _ a6;have E:=bd.out z<|db x;generalize nV (qj L z)=cb at bo E;have bk:=ah E;clear x a6 E;go_wp2_with (go_at_call 402;fail);apply(bf.out _ _ l.out.1).mono;rintro g v ⟨rfl,p2,r⟩;have m:A0 (Ps a c (f++⟨#[123]⟩++iw (e.take d)++gA (t+1)) v/\Kq a.heap.size b v):=⟨p2,l.out.2.trans r⟩;clear p2 r;go_wp2_with (go_at_call 106;fail);apply(bk.out _ _ m.out.1).mono;rintro g ba ⟨rfl,a8,a7⟩;have ap:A0 (Ps a c (f++⟨#[123]⟩++iw (e.take d)++gA (t+1)++S z (t+1)) ba/\Kq a.heap.size b ba):=⟨a8,m.out.2.trans a7⟩;clear a8 a7;go_wp2_with fail;refine⟨⟨d+1,O,by go_num,?_,ap.out.2⟩,by simp[A2];omega⟩;rw[bb.out];have:=ap.out.1;simpa only[aB] using this
   .obtain rfl:d=h:=O;have x:e.take d=e:=ci (by rw[C.out.2.2.1];exact fG _);rw[x]at l;clear x;go_wp2_with (go_at_call 402;fail);apply(bh.out _ _ l.out.1).mono;rintro g v ⟨rfl,p2,r⟩;have m:A0 (Ps a c (f++⟨#[123]⟩++iw e++gA t) v/\Kq a.heap.size b v):=⟨p2,l.out.2.trans r⟩;clear p2 r;go_wp2_with fail;apply pf I<|xd _ _ _ _;apply(a1.out _ _ m.out.1 _).mono;rintro g am bD ⟨rfl,rfl,A,ak⟩;refine⟨_,fE R _ _ _,R,?_,m.out.2.trans ak⟩;rw[bc.out];simpa only[aB] using A
theorem ar1(a d s L an a4)(am:Tp a s L an a4)(i)(ax:i<M s)(N)(ar:ab s i=N)(a9:M N.ks<=1048576)(S:Int->Bz)(hS:∀z∈N.ks,Jk a d L 0 z<|S z):
  Pw a d 33 #[vP d,kH a 0,nV<|qj L i] (iw<|N.ks.map λk=>S k++⟨#[10]⟩):=by
 intro h e p;have⟨o,_,w,c,x,r,g⟩:=Ai am ax;rw[ar]at r g;have a3:=λe=>eD o e;have ba:=λe=>aaa a.heap.size (gB 0) e;have a2:=g.hn;have a1:=λe=>sF (eG N.k) o e;have ak:A0 (Pw a d 402 #[th a 0] ⟨#[10]⟩):=aa5 a d 0 O;have ad:A0 (∀z∈N.ks,Pw a d 106 #[vP d,kH a 0,nV<|qj L z]<|S z):=hS;have ao:A0 (∀n,Q a.heap.size a n->n.cell? (aj o 5)=Ax (V w c x)):=λn av=>(g.cells av).2.1;have af:=ah p;have a6:=ao.out _ p.pg.bel;rw[r];obtain⟨b,q⟩:∃b,(N.ks.map λk=>S k++(⟨#[10]⟩))=b:=⟨_,R⟩;have A:M b=c:=U;have l:A0 (uu a L (V w c x) N.ks/\M N.ks=c/\M b=c/\(N.ks.map λk=>S k++(⟨#[10]⟩:Bz))=b):=⟨g.ks,a2,A,q⟩;rw[q];generalize nC (eG N.k)=bc at a1⊢;unfold kH th at *;generalize gB 0=bb at *;clear p g r q A hS;go_enter func33,ntmps33;go_wp2_with (first|(go_at_call 404;apply(a3 _).mono;rintro y a5 ⟨rfl,_⟩;subst a5));go_loopw [14] (λt wr=>∃k:Nat,k<=c/\t=zI k/\A0 (Ps a d (h++iw (b.take k)) wr/\Kq a.heap.size e wr)) (λt _=>c-(A2 t).toNat)
 .exact⟨0,O,R,by rw[show h++iw (b.take 0)=h from lj];exact af.out,Kq.refl _ _⟩
 .
  clear a6;obtain⟨k,_,rfl,f⟩:=hrel;by_cases a0:k<c
  .obtain⟨z,j⟩:=bg O a0;obtain⟨_,rfl,_,ap⟩:=(l.out.1.below f.out.1.pg.bel).get j;have a8:(k:Int)<(c:Int):=O;have a7:(0:Int)<=(k:Int):=O;have B:b[k]?=Ax (S z++⟨#[10]⟩):=by rw[<-l.out.2.2.2,cJ,j];rfl
   have K:=ah<|vF b k _ B;have m:=ad.out z<|db j;generalize nV (qj L z)=bd at ap m;have al:=ah m;clear j B m;go_wp2_with (go_at_call 106;fail);apply(al.out _ _ f.out.1).mono;rintro y G ⟨rfl,p2,C⟩;have u:A0 (Ps a d (h++iw (b.take k)++S z) G/\Kq a.heap.size e G):=⟨p2,f.out.2.trans C⟩;clear p2 C;go_wp2_with (go_at_call 402;fail);apply(ak.out _ _ u.out.1).mono;rintro y H ⟨rfl,F,E⟩;have v:A0 (Ps a d (h++iw (b.take k)++S z++⟨#[10]⟩) H/\Kq a.heap.size e H):=⟨F,u.out.2.trans E⟩;clear F E;go_wp2_with fail;refine⟨⟨k+1,O,by go_num,?_,v.out.2⟩,by simp[A2];omega⟩;rw[K.out];have:=v.out.1;simpa only[aB] using this
  .obtain rfl:k=c:=O;have j:=ci (by rw[l.out.2.2.1];exact fG _);rw[j]at f;clear j;go_wp2_with fail;go_end0
   exact⟨R,f.out.1,f.out.2⟩
def ar2(s):(dK<|eJ s).size<=2+4*s.size:=by
 have:=GC s _ eE;rw[zr];unfold eJ;rw[aG];simp;omega
def ar3:Rq 39 [] 120 (PS 16010):=by
 intro _ _ b _ h _;have a:=h.cw;clear h;go_in
 repeat' (go_wp2_with fail;first
  |(go_at_call 38;(first
   |(with_reducible refine Cw.run a gc ?_;clear a;rintro _ b ⟨f,rfl,z0,g⟩ a -)
   |(have i:=a.cu;apply Cw.run a.al gc;clear a;rintro _ b ⟨f,rfl,z0,g⟩ a c;obtain⟨_,e,rfl,d,_⟩:=Km i c z0 (by exact g);clear i c)))
  |(go_at_call 119;apply Cw.run a ahd;clear a;rintro _ b ⟨f,rfl,z0,g⟩ a -)
  |(go_at_call 117;apply Cw.run a aug;clear a;rintro _ b ⟨e,rfl,d⟩ a -)
  |(go_at_call 120;apply Cw.run a axt;clear a;rintro _ b ⟨e,rfl,d⟩ a -)
  |(go_at_call 122;apply Cw.run a asC;clear a;rintro _ b ⟨e,rfl,d⟩ a -)
  |(go_at_call 40;apply Cw.run a<|Gb (n:=1);clear a;rintro _ b ⟨e,rfl,d⟩ a -)
  |(go_at_call 118;refine dd (Ki _ z0 O _) λb c=>?_;replace a:=a.below c;clear c;have d:=Ee f O)|(go_at_call 121;refine dd (Hc _ O _) λb c=>?_;replace a:=a.below c;clear c;have i:=ar2 e)|(go_at_call 123;apply(tB _).mono;rintro _ _ ⟨rfl,rfl⟩)
  |(go_at_call 124;apply(xG _).mono;rintro _ _ ⟨rfl,rfl⟩)
  |(go_ret;exact⟨_,R,⟨_,R,by first|omega|decide⟩,a.fin O⟩))
def Jc(w):A9 Y 30 #[zI 0] w λe b=>e=A1 (T<|bJ 0)/\Q w.heap.size w b:=by
 have a:bJ 0=⟨#[48]⟩:=by unfold bJ Lib.itoa;rw[aa Z,show(0:Int).toNat=0 from rfl,X,pc Z];rfl
 rw[a];go_in;go_wp2;go_ret;exact⟨R,blR⟩
def JH(N:Nat)(ao:N≠0)(ba:N<=9223372036854775808)(w):A9 Y 30 #[zI (-(N:Int))] w λe a8=>e=A1 (T<|⟨#[45]⟩++⟨(X N).toArray⟩)/\Q w.heap.size w a8:=by
 obtain⟨i,z⟩:∃i:Int,N=i:=⟨_,R⟩;rw[z];have bf: -i<0:=O;have a5:i<=9223372036854775808:=O;have bh:(-i==0)=false:=by rw[fC];omega
 have an:=ah z;clear z;go_in;go_wp2;go_loopw [0,4,5] (λC a7 _ wr=>∃c a,C=zI (-c)/\0<=c/\c<=9223372036854775808/\A0 (c.toNat<10 ^ (19-M a)/\M a<=19/\uH (X N)=pre c.toNat++a.reverse)/\wr.ownsRow w.heap.size 5 1 a7 (M a) (B8 a)/\Q w.heap.size w wr) (λC _ _ _=>(-(A2 C)).toNat)
 .
  refine⟨i,[],R,O,a5,⟨?_,I,?_⟩,onN,blR⟩
  .have:(10:Nat) ^ (19-M ([]:zLI))=10000000000000000000:=Z;rw[this];omega
  .rw[show i.toNat=N by have:=an.out;omega];unfold pre;rw[aa ao];simp
 .
  obtain⟨c,a,rfl,G,_,m,n,k⟩:=hrel;by_cases ar:c=0
  .subst ar;have⟨_,L,K⟩:=m.out;have v:uH (X N)=a.reverse:=K;have y:0<M a:=by
    have e:=congrArg M v;rw[F3]at e;have:0<M (uH<|X N):=by
     rw[X];split<;>simp[uH]
    omega
   have E:A0 (dK a.reverse=⟨(X N).toArray⟩):=by show _=_;rw[<-v,uI]
   obtain⟨h,a4⟩|⟨t,H,_,al,_,x,_,a2,o,ak⟩:=n.2
   .have:a=[]:=by
     have b:=akw a;have:=n.1;simp at a4;omega
    rw[this]at y;simp at y
   .have u:∀l,l<M a->wr.cell? (aj t l)=Ax (zU<|a.getD l 0):=λl a1=>by
     rw[oe x];have f:(B8 a)[l]?=Ax (zU<|a.getD l 0):=by simp[B8,a1]
     rw[<-ak,zh]at f;split at f
     .simpa using f
     .cases f
    have ax:=ai x;have⟨d,p⟩:=aw<|M a;rw[p]at y L u al;subst al;clear m K v n x ak o a2;have ad:∀b,b<d->a.reverse.take (b+1)=a.reverse.take b++[a.getD (d-1-b) 0]:=λb A=>by
     have e:a.reverse[b]?=Ax (a.getD (d-1-b) 0):=by
      rw[List.getElem?_reverse O,List.getD,p,bm O];rfl
     rw[gD,e];rfl
    have o:∀b,b<=d->(dK<|a.reverse.take b).size=b:=λb A=>by
     have:∀j:zLI,(dK j).size=M j:=by
      intro j
      induction j with
      |nil=>rfl|cons g q r=>rw[show g::q=[g]++q from rfl,yl,az,r,aG];rfl
     rw[this,mA,F3];omega
    have F:=ah ad;have am:=ah p;clear ad p;go_wp2;go_loopw [6,7] (λa6 B a9=>∃b:Nat,b<=d/\B=zI (d-1-b)/\a6=T (⟨#[45]⟩++dK (a.reverse.take b))/\Q wr.heap.size wr a9) (λ_ B _=>(A2 B+1).toNat)
    .exact⟨0,O,by(congr 1;omega),R,blR⟩
    .
     obtain⟨b,A,rfl,rfl,q⟩:=hrel;have af:((⟨#[45]⟩:Bz)++dK (a.reverse.take b)).size=b+1:=by rw[az,o b A];show 1+b=_;omega
     by_cases a3:b<d
     .obtain⟨g,ap⟩:∃g:Nat,d-1-b=g:=⟨_,R⟩;have av:=(ma q ax).trans<|u g O;have s:=F.out b a3;rw[ap]at s;have r:A0 ((⟨#[45]⟩++dK (a.reverse.take b))++dK [a.getD g 0]=⟨#[45]⟩++dK (a.reverse.take<|b+1)):=by show _=_;rw[s,yl,aB]
      generalize a.getD g 0=j at av r;have bc:=λw=>lK<|uy w j;have bd:(dK [j]).size=1:=rfl;have a0:(d:Int)-1-(b:Int)=(g:Int):=O;have bb:g<d:=O;generalize (⟨#[45]⟩:Bz)++dK (a.reverse.take b)=bj at af r⊢;rw[a0];clear o s u;go_wp2;go_roundw
      .exact⟨b+1,O,by(congr 1;omega),by rw[r.out],q.alloc q.size _⟩
      simp[A2]
     .obtain rfl:b=d:=O;have g:¬(0:Int)<=(b:Int)-1-(b:Int):=O;rw[ci (by rw[F3,am.out];exact fG _)];rw[E.out];clear af o E F;exact gwX<|k.trans<|q.mono k.size
  .have p:(-c==0)=false:=by rw[fC];omega
   have o:(-c !=0)=true:=by rw[bne_iff_ne];omega
   have L:M a<=18:=by
    have⟨f,d,_⟩:=m.out;obtain h|h:=cG (M a) 19
    .omega
    .rw[(O:19-M a=0)]at f;simp at f;omega
   have b:A0 ((c / 10).toNat<10 ^ (19-M (a++[48+c%10]))/\M (a++[48+c%10])<=19/\uH (X N)=pre (c / 10).toNat++(a++[48+c%10]).reverse):=by
    have⟨f,d,g⟩:=m.out;have l:M (a++[48+c%10])=M a+1:=I;refine⟨?_,O,?_⟩
    .rw[l];have j:10 ^ (19-M a)=10 ^ (19-(M a+1))*10:=by rw[<-Nat.pow_succ];congr 1;omega
     rw[j]at f;have:(c / 10).toNat=c.toNat / 10:=O;rw[this];omega
    .rw[g,acH _ O,(O:(c / 10).toNat=c.toNat / 10),(O:((c.toNat%10:Nat):Int)=c%10)];simp
   have g:(-c).tmod 10= -(c%10):=by rw[Int.neg_tmod,Int.tmod_eq_emod_of_nonneg G]
   have j:(-c).tdiv 10= -(c / 10):=by rw[Int.neg_tdiv,Int.tdiv_eq_ediv_of_nonneg G]
   clear m;by_cases d:c%10=0
   .rw[d]at b g;rw[show(-(0:Int))=0 from rfl]at g;clear d;go_wp2_with (at_builtin;apply js R _ _ R _ u4 _ a R n k.size O [48+0] 1 R Z Z _ R R;intro t H w1 f j);go_roundw
    .exact⟨_,_,byR,O,O,b,by rw[aG];exact f,k.trans O⟩
    simp[A2];omega
   .have l: -(c%10)<0:=O;clear d;go_wp2_with (at_builtin;apply js R _ _ R _ u4 _ a R n k.size O [48+c%10] 1 R Z Z _ R R;intro t H w1 f j);go_roundw
    .exact⟨_,_,byR,O,O,b,by rw[aG];exact f,k.trans O⟩
    simp[A2];omega
def nG(n)(c: -9223372036854775808<=n)(d:n<=9223372036854775807)(w):A9 Y 30 #[zI n] w λe b=>e=A1 (T<|bJ n)/\Q w.heap.size w b:=by
 obtain h|h|h:=Int.lt_trichotomy n 0
 .refine dd (by rw[(O:n= -((n.natAbs:Nat):Int))];exact JH _ O O w) λb a=>?_;refine⟨?_,a⟩
  congr 2
  unfold bJ Lib.itoa;rw[ae h];apply nK;rw[vJ];simp
 .subst h;exact Jc w
 .refine dd (by rw[(O:n=((n.toNat:Nat):Int))];exact Ar _ O O w) λb a=>?_;refine⟨?_,a⟩;unfold bJ Lib.itoa;rw[aa O]
def pH:zLI->Bz|[]=>zE0|z::l=>(bJ z++oq)++pH l
def akj(a b):pH (a++b)=pH a++pH b:=by
 induction a with
 |nil=>rfl|cons d c e=>show(bJ d++oq)++pH (c++b)=((bJ d++oq)++pH c)++pH b;rw[e,aB (b:=pH c)]
def af5(l:zLI)(k z)(h:l[k]?=Ax z):pH (l.take<|k+1)=pH (l.take k)++(bJ z++oq):=by
 rw[gD,h,akj];show pH (l.take k)++((bJ z++oq)++zE0)=_;rw[tE]
def Ak(N:Nd):zLI:=[N.k,N.f,N.t,N.l,N.op,N.n]
def aoF(N):pH (Ak N)=EE N:=by
 unfold Ak EE;simp[pH,L8,tE,aB]
theorem Jd(l)(h:∀z∈l, -9223372036854775808<=z/\z<=9223372036854775807):(pH l).size<=22*M l:=by
 induction l with
 |nil=>exact fG _|cons a l c=>
  have d:=c λz b=>h z<|dJ _ b;have e:=iz a (h a<|bG).1 (h a<|bG).2;have f:oq.size=1:=rfl;show((bJ a++oq)++pH l).size<=22*(M l+1);grind
def Gy(h:oC N):∀z∈Ak N, -9223372036854775808<=z/\z<=9223372036854775807:=λz a=>by
 unfold Ak at a;simp[rl]at a;obtain rfl|rfl|rfl|rfl|rfl|rfl:=a
 .exact h.k
 .exact h.f
 .exact h.t
 .exact h.l
 .exact h.op
 .exact h.n
structure af6 (w:A3) (N:Nd) (vn vk:A5) (W:A3):Prop where
 bx:nA w.heap.size W 37 N vn vk
 bl:Q w.heap.size w W
def af6.below(h:af6 w N vn vk W)(a:Q W.heap.size W W'):af6 w N vn vk W':=
 ⟨h.bx.below a,h.bl.trans<|a.mono h.bl.size⟩
theorem af7(w N cb ca)(am:bv w cb N.nm)(B:dt w ca N.ks)(b2:oC N)(c9:N.x.size<=4000)(c5:M N.nm<=1048576)(c7:M N.ks<=1048576)(ao:(qJ N).size<=70368744177664):
  A9 Y 67 #[jq N cb ca] w λe bk=>e=A1 (T<|qJ N++He)/\Q w.heap.size w bk:=by
 obtain⟨a5,a6,rfl⟩:=am.form;obtain⟨cB,cF,rfl⟩:=B.form;have⟨i,a9⟩:=aw<|M N.nm;have⟨j,ba⟩:=aw<|M N.ks;rw[a9]at am c5⊢;rw[ba]at B c7⊢;have h:=aku am B b2 ao a9 ba;unfold jq;clear am B b2 ao a9 ba;go_in;go_wp2_with fail;generalize p:w.alloc _=cw;have⟨bo,b3,b5⟩:=al1 p;clear p;generalize p:cw.alloc _=z;have⟨af,b4,_⟩:=al1 p;clear p;rw[b5]at af;have b9:=af6.below ⟨bo,b3⟩ b4;have bA:∀(b:Nat) d,(Ak N)[b]?=Ax d->z.cell? (aj (w.heap.size+1) b)=Ax (zI d):=λb d g=>by
  rw[oe af];unfold Ak at g;grind
 have bs:A0 (af6 w N (V a5 i a6) (V cB j cF) z/\(∀(b:Nat) d,(Ak N)[b]?=Ax d->z.cell? (aj (w.heap.size+1) b)=Ax (zI d))/\w.heap.size+1<z.heap.size):=⟨b9,bA,ai af⟩;clear bo af b3 b4 b5 b9 bA;go_loopw [3,24] (λL n wr=>∃a:Nat,a<=6/\n=zI a/\L=T (pH<|(Ak N).take a)/\A0 (Q z.heap.size z wr)) (λ_ n _=>6-(A2 n).toNat)
 .exact⟨0,O,R,R,blR⟩
 .
  obtain⟨a,B,rfl,rfl,f⟩:=hrel;by_cases H:a<6
  .have⟨d,g⟩:=bg (show(Ak N).length=6 from rfl) H;have cI:=ag f.out<|bs.out.2.1 a d g;have m:=Gy h.out.2.2.1 d<|db g;have o:=af5 _ a d g;have r:(pH<|(Ak N).take a).size<=132:=by
    have:=Jd ((Ak N).take a) (λad s=>Gy h.out.2.2.1 ad<|Ce s);grind
   have bd:=iz d m.1 m.2;have q:=ah o;have K:=λc=>nG d m.1 m.2 c;have a7:(a:Int)<6:=O;have al:(0:Int)<=(a:Int):=O;generalize pH ((Ak N).take a)=C at q r⊢;generalize bJ d=bE at K bd q;clear o g m;go_wp2_with (go_at_call 30;apply(K _).mono;rintro e l ⟨rfl,k⟩);exact⟨⟨a+1,O,by go_num,by rw[q.out];rfl,f.out.trans<|k.mono f.out.size⟩,by simp[A2];omega⟩
  .obtain rfl:a=6:=O;obtain⟨l,rfl⟩:∃l,l=wr:=⟨wr,R⟩;rw[show(Ak N).take 6=Ak N from rfl,aoF];have bj:=bs.out.1.below f.out;have an:=λc=>Kb _ c9 c;have bf:=λc=>nG i O O c;have b7:=zA N.x;have ap:=iz i O O;have b6:(EE N).size<=132:=by rw[<-aoF];have:=Jd _<|Gy h.out.2.2.1;have d2:M (Ak N)=6:=rfl;omega
   have E:A0 (qJ N=(((EE N++((ye N.x++oq)++bJ i))++gj N.nm)++(oq++bJ j))++gj (N.ks.map bJ)):=by
    show qJ N=_;unfold qJ;rw[h.out.2.2.2.2.1,h.out.2.2.2.2.2]
   change ∀c,A9 Y 121 #[T N.x] c λe bk=>e=A1 (T<|ye N.x)/\Q c.heap.size c bk at an
   have⟨dk,dn,dq,ds,dx,dz,ce,cf,d0,d1⟩:=aE bj.bx;have bt:=ah bj;have sX:∀c,Q l.heap.size l c->c.cell? (aj w.heap.size 6)=Ax (T N.x)/\c.cell? (aj w.heap.size 7)=Ax (V a5 i a6)/\Q l.heap.size l c:=λc p=>⟨ag p ce,ag p cf,p⟩;have k:Q l.heap.size l l.drew:=blW;generalize EE N=ax at E b6⊢;generalize ye N.x=G at an b7 E;generalize bJ (i:Int)=ak at bf ap E;have c0:¬9223372036854775807<G.size+1:=O;have c3:¬9223372036854775807<G.size+1+ak.size:=O;have c4:¬9223372036854775807<ax.size+(G.size+1+ak.size):=O;clear dk dn dq ds dx dz d0 d1 bj f;go_wp2_with fail;go_region_held3 (λa4=>a4.cell? (aj w.heap.size 6)=Ax (T N.x)/\a4.cell? (aj w.heap.size 7)=Ax (V a5 i a6)/\Q l.heap.size l a4) (first|exact sX _ k|exact sX _ (k.trans<|A.mono k.size)|exact sX _ _|exact sX _ ((k.trans<|A.mono k.size).trans<|bc.mono (k.trans<|A.mono k.size).size)|exact sX _ _|go_keep) (first|(go_at_call 121;apply(an _).mono;rintro e _ ⟨rfl,A⟩)|(go_at_call 30;apply(bf _).mono;rintro e df ⟨rfl,bc⟩))
   all_goals (have bF:=(k.trans<|A.mono k.size).trans<|bc.mono (k.trans<|A.mono k.size).size;obtain⟨av,rfl⟩:∃av,av=df:=⟨_,R⟩)
   all_goals (
    have F:=ah<|bt.out.below bF;have t:=ah E.out
    change A0 (qJ N=(((ax++((G++⟨#[32]⟩)++ak))++gj N.nm)++(oq++bJ j))++gj (N.ks.map bJ)) at t
    obtain⟨y,b0⟩:=aw<|ax++((G++⟨#[32]⟩)++ak);rw[b0]at t⊢;have ar:=h.out.2.2.2.1;rw[t.out]at ar;simp[az]at ar;have a3:=ah ar;have⟨cg,ch,ck,cl,cm,cn,cp,cq,bn,cr⟩:=aE F.out.bx;clear ar b0 bF A bc ce cf sX k c0 c3 c4 b7 ap b6 an bf bt E;go_wp2;go_loopw [3,48] (λL n wr=>∃a:Nat,a<=i/\n=zI a/\L=T (y++gj (N.nm.take a))/\A0 (Q av.heap.size av wr)) (λ_ n _=>i-(A2 n).toNat)
    .exact⟨0,O,R,by rw[vK,show y++gj []=y from tE y],blR⟩
    .
     obtain⟨a,B,rfl,rfl,f⟩:=hrel;by_cases H:a<i
     .have⟨ad,s⟩:=bg h.out.2.2.2.2.1 H;have u:=F.out.bl.trans<|f.out.mono F.out.bl.size;obtain⟨cx,rfl,_⟩:=(h.out.1.below u).get s;have o:=AH _ a ad s;have r:=qI N.nm<|a+1;have g:=a3.out;have q:=ah o;rw[o]at r;simp[az]at r;have a8:ad.size<=70368744177664:=O;have⟨C,v⟩:=aw<|y++gj (N.nm.take a);have dc:C.size<=70368744177664:=U;have a0:=ah v;rw[v];have a7:(a:Int)<(i:Int):=O;have al:(0:Int)<=(a:Int):=O;clear o r g v s u cg ch ck cl cm cn cp cq bn cr;go_wp2;exact⟨⟨a+1,O,by go_num,by rw[q.out];show Br (C++(oq++ad))=_;rw[<-a0.out,aB],f⟩,by simp[A2];omega⟩
     .obtain rfl:a=i:=O;obtain⟨cc,rfl⟩:∃cc,cc=wr:=⟨wr,R⟩;rw[ci (by rw[h.out.2.2.2.2.1];omega)];have cs:=ag f.out bn;have bh:=λc=>nG j O O c;have ap:=iz j O O;have⟨ad,a7⟩:=aw<|y++gj N.nm;have g:=a3.out;have r:ad.size<=70368744177664:=U;have bz:A0 (ad.size+(1+(bJ j).size)+(gj<|N.ks.map bJ).size<=70368744177664):=by show _<=_;rw[<-a7,az];exact g
      rw[a7]at t⊢;have cu:=ah<|F.out.below f.out;generalize bJ (j:Int)=br at bh ap t bz;clear cg ch ck cl cm cn cp cq bn cr g a7 a3 F f;go_wp2_with fail;refine dd (bh _) λcd bb=>?_;have al:=ah<|cu.out.below bb;have ct:=ag bb cs;have⟨s,a8⟩:=aw<|ad++(oq++br);have b1:ad++(⟨#[32]⟩++br)=s:=a8;have cv:A0 (s.size+(gj<|N.ks.map bJ).size<=70368744177664):=by
       show _<=_;have:=bz.out;have b8:oq.size=1:=rfl;grind
      rw[a8]at t;clear bh bb cs a8;go_wp2_with fail;try rw[b1]
      clear b1;go_loopw [3,67] (λL n wr=>∃b:Nat,b<=j/\n=zI b/\L=T (s++gj ((N.ks.map bJ).take b))/\A0 (Q cd.heap.size cd wr)) (λ_ n _=>j-(A2 n).toNat)
      .exact⟨0,O,R,by rw[vK,show s++gj []=s from tE s],blR⟩
      .
       obtain⟨b,_,rfl,rfl,f⟩:=hrel;by_cases H:b<j
       .have⟨d,g⟩:=bg h.out.2.2.2.2.2 H;have u:=al.out.bl.trans<|f.out.mono al.out.bl.size;obtain⟨cx,rfl,cI⟩:=(h.out.2.1.below u).get g;have m:=h.out.2.2.1.ks d<|db g;have b8:(N.ks.map bJ)[b]?=Ax (bJ d):=U;have o:=AH _ b _ b8;have r:=qI (N.ks.map bJ)<|b+1;have da:=cv.out;have q:=ah o;rw[o]at r;simp[az]at r;have K:=λc=>nG d m.1 m.2 c;have bd:=iz d m.1 m.2;have⟨C,v⟩:=aw<|s++gj ((N.ks.map bJ).take b);have dc:C.size<=70368744177664:=U;have a0:=ah v;rw[v];generalize bJ d=bE at K bd q;have d4:(b:Int)<(j:Int):=O;have d3:(0:Int)<=(b:Int):=O;clear o r da v g b8 u m ct;go_wp2_with (go_at_call 30;apply(K _).mono;rintro e _ ⟨rfl,c8⟩);exact⟨⟨b+1,O,by go_num,by rw[q.out];show Br (C++(oq++bE))=_;rw[<-a0.out,aB],f.out.trans<|c8.mono f.out.size⟩,by simp[A2];omega⟩
       .obtain rfl:b=j:=O;rw[ci (by rw[dm,h.out.2.2.2.2.2];omega),<-t.out];have ao:=h.out.2.2.2.1;have u:=al.out.bl.trans<|f.out.mono al.out.bl.size;have⟨_,m⟩:=aw<|qJ N;have o:=ah m;rw[m]at ao⊢;clear ct m;go_wp2;go_ret;exact⟨by rw[o.out];rfl,u⟩)
def Ld(w q a):Q w.heap.size w (Sort.grow (w.drewN q) a):=
 Lib.below_grow _ w eE q a
def Fe(w:A3):Prop:=∀W,Q w.heap.size w W->Lib.TabIs Y W "internal/strconv.uint64pow10" .u64 Lib.pow10Tab
def Fe.below(h:Fe w)(a:Q w.heap.size w W):Fe W:=λb c=>h b<|a.trans<|c.mono a.size
def yI(n)(b: -9223372036854775808<=n)(c:n<=9223372036854775807)(w)(d:Fe w):
  A9 Y 66 #[zI n] w λe a=>e=A1 (T<|bJ n)/\Q w.heap.size w a:=by
 apply(Tryz.strconv_Itoa n b c w<|d w blR).mono;rintro e a ⟨rfl,_,_,rfl⟩;exact⟨R,Ld _ _ _⟩
def ar5(n)(b: -9223372036854775808<=n)(c:n<=9223372036854775807)(w)(d:Fe w):
  A9 Y 158 #[zI n,zI 10] w λe a=>e=A1 (T<|bJ n)/\Q w.heap.size w a:=by
 apply(Tryz.strconv_FormatInt_10 n b c w<|d w blR).mono;rintro e a ⟨rfl,_,_,rfl⟩;exact⟨R,Ld _ _ _⟩
def Bq(N:Nd):zLI:=[N.k,N.f,N.t,N.l,N.op]
structure abw (w:A3) (N:Nd) (vn vk:A5) (v:A5) (xs:zLB) (W:A3):Prop where
 ln:af6 w N vn vk W
 ws:uk (w.heap.size+1+1) W v xs
 sz:w.heap.size+1+1<=W.heap.size
def abw.below{v xs}(h:abw w N vn vk v xs W)(a:Q W.heap.size W W'):abw w N vn vk v xs W':=
 ⟨h.ln.below a,h.ws.below a,bK h.sz a.size⟩
def abw.put{v xs}(h:abw w N vn vk v xs W)(a:Q (w.heap.size+1+1) W W'){b c}(d:uk (w.heap.size+1+1) W' b c):abw w N vn vk b c W':=
 ⟨⟨(a.block _ O).trans h.ln.bx,h.ln.bl.trans<|a.mono O⟩,d,bK h.sz a.size⟩
theorem aef(w N eh eg)(a9:bv w eh N.nm)(ap:dt w eg N.ks)(df:oC N)(ew:N.x.size<=4000)(eo:M N.nm<=1048576)(ep:M N.ks<=1048576)(d6:(qJ N).size<=70368744177664)(d5:Fe w):
  A9 Y 58 #[jq N eh eg] w λe cm=>e=A1 (T<|qJ N)/\Q w.heap.size w cm:=by
 obtain⟨bA,bF,rfl⟩:=a9.form;obtain⟨bE,b0,rfl⟩:=ap.form;have⟨g,b3⟩:=aw<|M N.nm;have⟨q,b4⟩:=aw<|M N.ks;rw[b3]at a9 eo⊢;rw[b4]at ap ep⊢;have k:=ayL a9 ap df d6 b3 b4 d5;unfold jq;clear a9 ap df d6 b3 b4 d5;go_in;go_wp2_with fail;generalize j:w.alloc _=em;have⟨cB,dn,cc⟩:=al1 j;clear j;generalize j:em.alloc _=a8;have⟨br,ao,cd⟩:=al1 j;clear j;rw[cc]at cd;rw[cc]at br;have ee:abw w N (V bA g bF) (V bE q b0) fe [] a8:=⟨af6.below ⟨cB,dn⟩ ao,onN,O⟩;have c6:∀(c:Nat) r,(Bq N)[c]?=Ax r->a8.cell? (aj (w.heap.size+1) c)=Ax (zI r):=λc r b=>by
  rw[oe br];unfold Bq at b
  match c,b with
  |0,b=>simp at b;subst b;rfl|1,b=>simp at b;subst b;rfl|2,b=>simp at b;subst b;rfl|3,b=>simp at b;subst b;rfl|4,b=>simp at b;subst b;rfl|(c+5),b=>simp at b
 have bs:=jG ee c6 cd;clear cB br dn ao cc cd ee c6;go_loopw [3,20] (λa5 K wr=>∃p:Nat,p<=5/\K=zI p/\(∃af ak,a5=V af p ak)/\A0 (abw w N (V bA g bF) (V bE q b0) a5 (((Bq N).take p).map bJ) wr/\Q a8.heap.size a8 wr)) (λ_ K _=>5-(A2 K).toNat)
 .exact⟨0,O,R,U,bs.out.1,blR⟩
 .
  obtain⟨p,ap,rfl,⟨af,ak,rfl⟩,L⟩:=hrel;by_cases b9:p<5
  .have⟨r,b⟩:=bg (show(Bq N).length=5 from rfl) b9;have b1:=ag L.out.2<|bs.out.2.1 p r b;have G:=Gy k.out.2.2.1 r (by unfold Ak;unfold Bq at b;have:=db b;simp[rl]at this⊢;obtain h|h|h|h|h:=this<;>simp[h]);have an:A0 (((Bq N).take<|p+1).map bJ=((Bq N).take p).map bJ++[bJ r]/\M (((Bq N).take p).map bJ)=p):=⟨by rw[gD,b];simp,U⟩;have F:=L.out.1.ln.bl;have B:=yI r G.1 G.2 _<|k.out.2.2.2.2.2.2.below F;have C:(p:Int)<5:=O;have z:(0:Int)<=(p:Int):=O;clear b G;go_wp2_with fail;apply B.mono;rintro e i ⟨rfl,o⟩;have s:Q i.heap.size i (i.alloc<|.cells #[T<|bJ r] 9):=blR.alloc O _;have d:=o.trans<|s.mono o.size;have a:=L.out.1.below d;have y:=a.ws;have a0:=a.sz;have v:M (((Bq N).take p).map bJ)<=4194304:=by rw[an.out.2];omega
   clear B b1 s;go_wp2_with (at_builtin;(refine qe R _ _ R _ _ _ R y a0 _ _ R (CD _ _) v I (p+1) (by rw[an.out.2];rfl) ?_;intro _ _ bk ax A));refine⟨⟨_,O,by go_num,⟨_,_,R⟩,?_,?_⟩,by simp[A2];omega⟩
   .rw[an.out.1];exact a.put A ax
   .have m:=bs.out.2.2;rw[m];have u:=L.out.2;rw[m]at u;exact(u.trans<|d.mono L.out.1.sz).trans A
  .obtain rfl:p=5:=O;obtain⟨i,rfl⟩:∃i,i=wr:=⟨_,R⟩;have H:=L.out.1;rw[show(Bq N).take 5=Bq N from rfl]at H;have⟨C,bd⟩:=aw<|(Bq N).map bJ;rw[bd]at H;have ea:M C=5:=by rw[<-bd];rfl
   have⟨cn,cp,cq,cr,cs,ct,cu,cw,cx,cy⟩:=aE H.ln.bx;have am:=k.out.2.2.1;have F:=H.ln.bl;have dk:=k.out.2.2.2.2.2.2.below F;have a:Q i.heap.size i i.drew:=blW;have ca:∀d,A9 Y 159 #[T N.x] d λe cm=>e=A1 (T<|ye N.x)/\Q d.heap.size d cm:=λd=>J3 _ ew d;have b8:=λd j=>ar5 _ am.n.1 am.n.2 d<|dk.below j;have z:=jG H bd ea;have bf:∀d,Q (w.heap.size+1+1) i d->d.cell? (aj w.heap.size 5)=Ax (zI N.n)/\d.cell? (aj w.heap.size 6)=Ax (T N.x)/\Q (w.heap.size+1+1) i d:=λd j=>⟨(ma j U).trans ct,(ma j U).trans cu,j⟩;have bb:=H.sz;have sX:∀d,Q i.heap.size i d->d.cell? (aj w.heap.size 5)=Ax (zI N.n)/\d.cell? (aj w.heap.size 6)=Ax (T N.x)/\Q (w.heap.size+1+1) i d:=λd j=>bf d<|j.mono bb;have⟨ad,b5⟩:=aw<|ye N.x;have⟨D,b2⟩:=aw<|bJ N.n;rw[b5]at ca;rw[b2]at b8;have c0:=fs b2 b5;clear b5 b2;clear cn cp cq cr cs cw cx cy am F dk H bd ea;have ch:=λd (j:Q i.heap.size i d)=>(z.out.1.below j).sz;have cg:=λd (j:Q i.heap.size i d)=>(z.out.1.below j).ws;have ce:M C<=4194304:=by have:=z.out.2.2;omega
   have cf:M C+2=7:=by have:=z.out.2.2;omega
   have s:∀(d:A3)(j:Q i.heap.size i d)(ck:Obj),Q i.heap.size i (d.alloc ck):=λd j ck=>j.alloc j.size ck;go_wp2_with fail;go_region_held3 (λbz=>bz.cell? (aj w.heap.size 5)=Ax (zI N.n)/\bz.cell? (aj w.heap.size 6)=Ax (T N.x)/\Q (w.heap.size+1+1) i bz) (first|exact sX _ a|exact sX _ (a.trans<|o.mono a.size)|exact sX _ (a.trans<|m.mono a.size)|exact sX _ ((a.trans<|o.mono a.size).trans<|m.mono (a.trans<|o.mono a.size).size)|exact sX _ ((a.trans<|m.mono a.size).trans<|o.mono (a.trans<|m.mono a.size).size)|exact sX _ (s _ ((a.trans<|o.mono a.size).trans<|m.mono (a.trans<|o.mono a.size).size) _)|exact sX _ (s _ ((a.trans<|m.mono a.size).trans<|o.mono (a.trans<|m.mono a.size).size) _)|exact bf _ (((s _ ((a.trans<|o.mono a.size).trans<|m.mono (a.trans<|o.mono a.size).size) _).mono bb).trans A)|exact bf _ (((s _ ((a.trans<|m.mono a.size).trans<|o.mono (a.trans<|m.mono a.size).size) _).mono bb).trans A)|go_keep) (first|(go_at_call 159;apply(ca _).mono;rintro e _ ⟨rfl,o⟩)|(go_at_call 158;apply(b8 _ O).mono;rintro e _ ⟨rfl,m⟩)|(refine agK byR _ _ byR (w.heap.size+1+1) (V af 5 ak) C byR (cg _<|s _ ((a.trans<|o.mono a.size).trans<|m.mono (a.trans<|o.mono a.size).size) _) (ch _<|s _ ((a.trans<|o.mono a.size).trans<|m.mono (a.trans<|o.mono a.size).size) _) ⟨_,0,none⟩ 2 2 [D,ad] byR R (acA _ D ad) ce Z Z 7 cf ?_;intro dc c7 bk ax A)|(refine agK byR _ _ byR (w.heap.size+1+1) (V af 5 ak) C byR (cg _<|s _ ((a.trans<|m.mono a.size).trans<|o.mono (a.trans<|m.mono a.size).size) _) (ch _<|s _ ((a.trans<|m.mono a.size).trans<|o.mono (a.trans<|m.mono a.size).size) _) ⟨_,0,none⟩ 2 2 [D,ad] byR R (acA _ D ad) ce Z Z 7 cf ?_;intro dc c7 bk ax A))
   have a3:=(z.out.1.below<|s _ ((a.trans<|m.mono a.size).trans<|o.mono (a.trans<|m.mono a.size).size) _).put A ax;have am:=k.out.2.2.1;have bt:A0 ((Bq N).map bJ++[bJ N.n,ye N.x]=C++[D,ad]/\M C=5):=⟨by rw[z.out.2.1,<-c0.out.1,<-c0.out.2],O⟩;have⟨a6,a0⟩:=aw<|C++[D,ad];rw[a0]at a3 bt;have eb:M a6=7:=by rw[<-a0,aG,z.out.2.2];rfl
   have E:=fs bt.out.1 eb;have B:=yI g O O _<|k.out.2.2.2.2.2.2.below a3.ln.bl;have⟨cn,cp,cq,cr,cs,ct,cu,cw,cx,cy⟩:=aE a3.ln.bx;have cF:=ah a3;clear sX bf ch cg s A ax o m a ce cf bb ca b8 z a3 a0 eb am bt cn cp cq cr cs ct cu cx cy;go_wp2_with fail;apply B.mono;rintro e ei ⟨rfl,b7⟩;have c4:Q bk.heap.size bk (ei.alloc<|.cells #[T<|bJ (g:Int)] 9):=b7.alloc b7.size _;have bj:=cF.out.below c4;have el:=bj.ws;have ef:=bj.sz;have d1:M a6<=4194304:=by have:=E.out.2;omega
   clear B cw;have dz:M (a6++[bJ (g:Int)])<=4194304:=by rw[aG,E.out.2];simp
   have d0:M N.nm<=4194304:=by have:=k.out.2.2.2.2.1;omega
   go_wp2_with (first|(at_builtin;refine qe R _ _ R (w.heap.size+1+1) (bI dc 7 c7) a6 R el ef _ [bJ (g:Int)] rfl (CD ei _) d1 I 8 (by rw[E.out.2];rfl) ?_;intro _ _ _ d3 dq;have al:=bj.put dq d3;have ey:=(aE al.ln.bx).2.2.2.2.2.2.2.1)|(at_builtin;apply qe R _ _ R _ _ _ R al.ws al.sz (V _ _ _) _ R (k.out.1.below al.ln.bl) dz d0 (8+g) (by rw[aG,E.out.2,k.out.2.2.2.2.1];rfl);intro _ _ ek d4 ds;have a4:=al.put ds d4;have bn:=(aE a4.ln.bx).2.2.2.2.2.2.2.2.1));have⟨u,bc⟩:=aw<|(a6++[bJ g])++N.nm;rw[bc]at a4;have d7:M u=8+g:=by rw[<-bc,aG,aG,E.out.2,k.out.2.2.2.2.1];rfl
   have a7:A0 ((((Bq N).map bJ++[bJ N.n,ye N.x])++[bJ (g:Int)])++N.nm=u/\M u=8+g):=⟨by rw[E.out.1];exact bc,d7⟩;have cI:=ah a4;have ec:=yI q O O _<|k.out.2.2.2.2.2.2.below a4.ln.bl;clear al a4 d3 dq d4 ds ey bc d7 dz d0 el ef bj c4 d1 cF E b7;apply ec.mono;rintro e ex ⟨rfl,b6⟩;have c3:Q ek.heap.size ek (ex.alloc<|.cells #[T<|bJ (q:Int)] 9):=b6.alloc b6.size _;have bh:=cI.out.below c3;have ar:M u<=4194304:=by have:=a7.out.2;omega
   clear ec bn;go_wp2_with (at_builtin;refine qe R _ _ R _ _ _ R bh.ws bh.sz _ _ R (CD _ _) ar I (9+g) (by rw[a7.out.2];show 8+g+1=_;omega) ?_;intro _ _ _ d2 ao;have cl:=bh.put ao d2;have bn:=(aE cl.ln.bx).2.2.2.2.2.2.2.2.1);have eF:=ah cl;clear bh cl d2 ao c3 b6 ar cI;go_loopw [3,60] (λa5 K wr=>∃c:Nat,c<=q/\K=zI c/\(∃af ak,a5=V af (9+g+c) ak)/\A0 (abw w N (V bA g bF) (V bE q b0) a5 ((u++[bJ q])++(N.ks.take c).map bJ) wr)) (λ_ K _=>q-(A2 K).toNat)
   .exact⟨0,O,R,⟨_,_,R⟩,U⟩
   .
    obtain⟨c,_,rfl,⟨en,c8,rfl⟩,y⟩:=hrel;have v:A0 (M ((u++[bJ (q:Int)])++(N.ks.take c).map bJ)=9+g+c):=by
     show _=_;rw[aG,aG,a7.out.2,dm,mA,k.out.2.2.2.2.2.1];show 8+g+1+min c q=_;omega
    by_cases b9:c<q
    .have⟨r,b⟩:=bg k.out.2.2.2.2.2.1 b9;obtain⟨_,rfl,b1⟩:=(k.out.2.1.below y.out.ln.bl).get b;have G:=k.out.2.2.1.ks r U;have an:A0 ((N.ks.take<|c+1).map bJ=(N.ks.take c).map bJ++[bJ r]):=by show _=_;rw[gD,b];simp
     have B:=yI r G.1 G.2 _<|k.out.2.2.2.2.2.2.below y.out.ln.bl;have es:(c:Int)<(q:Int):=O;have er:(0:Int)<=(c:Int):=O;clear b G bn;go_wp2_with fail;apply B.mono;rintro e eq ⟨rfl,c9⟩;have dx:Q wr.heap.size wr (eq.alloc<|.cells #[T<|bJ r] 9):=c9.alloc c9.size _;have ba:=y.out.below dx;have ar:M ((u++[bJ (q:Int)])++(N.ks.take c).map bJ)<=4194304:=by rw[v.out];omega
     have⟨_,cb⟩:=aw<|(u++[bJ q])++(N.ks.take c).map bJ;rw[cb]at ba ar v;have da:=ah cb;clear B b1 cb;go_wp2_with (at_builtin;refine qe R _ _ R _ _ _ R ba.ws ba.sz _ _ R (CD _ _) ar I (9+g+(c+1)) (by rw[v.out];rfl) ?_;intro _ _ _ d9 d8);exact⟨⟨_,O,by go_num,⟨_,_,R⟩,by rw[an.out,<-fL,da.out];exact ba.put d8 d9⟩,by simp[A2];omega⟩
    .obtain rfl:c=q:=O;rw[ci (by rw[k.out.2.2.2.2.2.1];exact fG _)]at y v;have d8:(u++[bJ (c:Int)])++N.ks.map bJ=yg N:=by
      rw[<-a7.out.1];unfold yg Bq;rw[k.out.2.2.2.2.1,k.out.2.2.2.2.2.1];simp
     rw[d8]at y v;have ba:wr.ownsRow (w.heap.size+1+1) 9 1 (V en (9+g+c) c8) (M<|yg N) ((yg N).map Br):=y.out.ws;rw[v.out]at ba;obtain⟨_,_⟩|⟨da,_,_,e,_,er,_,es,et,ev⟩:=ba.2
     .omega
     .cases e;have an:yg N=bJ N.k::([bJ N.f,bJ N.t,bJ N.l,bJ N.op,bJ N.n,ye N.x,bJ<|M N.nm]++(N.nm++(bJ (M N.ks)::N.ks.map bJ))):=rfl;have dx:∀(G:Nat) cb,(yg N)[G]?=Ax cb->wr.cell? (aj da G)=Ax (T cb):=λG cb d9=>by
       have b1:G<9+g+c:=by rw[<-v.out];exact(dr.1 d9).1
       rw[ba.cellAt G O,cJ,d9];rfl
      have b1:bJ N.k++gj ([bJ N.f,bJ N.t,bJ N.l,bJ N.op,bJ N.n,ye N.x,bJ<|M N.nm]++(N.nm++(bJ (M N.ks)::N.ks.map bJ)))=qJ N:=by
       have c9:=aeF N;rw[an,Kg]at c9;exact c9
      have c9:=amJ da c8 (7+g+c) _ ([bJ N.f,bJ N.t,bJ N.l,bJ N.op,bJ N.n,ye N.x,bJ<|M N.nm]++(N.nm++(bJ (M N.ks)::N.ks.map bJ))) _ (by have:=v.out;rw[an,dD]at this;omega) (dx 0 _ (by rw[an];exact List.getElem?_cons_zero)) U O O (by rw[b1];exact k.out.2.2.2.1);rw[b1,(O:7+g+c+2=9+g+c)]at c9;have F:=y.out.ln.bl;clear er es et ev dx b1 an ba d8 y bn;go_wp2_with (go_at_call 160;apply c9.mono;rintro e _ ⟨rfl,eq⟩);go_ret;exact⟨R,F.trans<|eq.mono F.size⟩
