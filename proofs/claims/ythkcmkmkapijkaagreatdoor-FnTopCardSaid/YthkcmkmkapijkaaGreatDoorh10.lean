import Derived.Test.YthkcmkmkapijkaaGreatDoorh03
import Derived.Test.YthkcmkmkapijkaaGreatDoorh07
import Derived.Test.YthkcmkmkapijkaaGreatDoorh09
set_option linter.all false
set_option maxRecDepth 100000
set_option maxHeartbeats 6400000
open List renaming length->M
open Go.Proofs.Tryz renaming prog->T
open Go.Ending renaming returned->V
open Bool renaming true->X,false->Y
open Go.Value renaming slice->Ax,string->A0,bool->A3,agg->A9,tuple->B4
open Go renaming Calls->A1,Value->B1,World->B2
open Go.RowKit renaming Below->A2,intOf->Br,Hid->B0
open Option renaming none->A5,some->B5
open Go.Obj renaming cells->B3
namespace Go.Proofs.YthkcmkmkapijkaaGreatDoor
open Go.RowKit Go.Maps Go.WideMaps
variable{N:Nd}{W w:World}{m:Nat}{ns:zLD}{vk vn vt:Value}
def yj(s i c)(d:0<c:=by omega):(lk s i==c)=decide (aq s i=c):=by
 unfold lk;split
 .by_cases a:aq s i=c<;>simp[a]
 .rename_i a;rw[dH];have b:((0:Int)==c)=Y:=by rw[fC];omega
  rw[b];symm;rw[agh];omega
def Ju(s:Bz)(p:Nat):Bool:=decide ((aq s (nA0 s p)=46/\co (aq s<|nA0 s p+1)=X)\/aq s (nA1 s<|nA0 s p)=101)
def ap7(s:Bz)(p E:Nat)(R1:zON):B1:=match R1 with
 |some a=> A9 #[zI 2,zI p,zI (E:Int),zI 0,zI (a:Int),nh]|none=> A9 #[zI 3,zI p,zI (E:Int),zI 0,zI 0,A0<|s.extract p E]
def nmA(s:Bz)(p:Nat):B1:=
 if(qF s<|nA1 s<|nA0 s p).2=X then
  (if Ju s p=X then A9 #[zI 3,zI p,zI ((qF s<|nA1 s<|nA0 s p).1:Int),zI 0,zI 0,A0<|s.extract p (qF s<|nA1 s<|nA0 s p).1]
  else ap7 s p (qF s<|nA1 s<|nA0 s p).1 (ux s p<|(qF s<|nA1 s<|nA0 s p).1-p))
 else A9 #[zI 3,zI p,zI 0,zI 0,zI 0,nh]
def nmF(s:Bz)(p:Nat):Int:=if(qF s<|nA1 s<|nA0 s p).2=X then -1 else((qF s<|nA1 s<|nA0 s p).1:Int)
def acB(s p j)(h:ux s p j=A5):∀n,j<=n->ux s p n=A5
 |0,a=>by
  obtain rfl:j=0:=O;exact h
 |n+1,a=>by
  obtain rfl|h2:=jx a
  .exact h
  .rw[ux,acB s p j h n O]
theorem aab(s p)(d:co (aq s p)=X)(b:Ju s p=Y):(qF s<|nA1 s<|nA0 s p)=(nA0 s p,X)/\∀i,p<=i->i<nA0 s p->co (aq s i)=X:=by
 rw[Ju,agh]at b;have c:nA1 s (nA0 s p)=nA0 s p:=by rw[nA1,aa U]
 rw[c]at b⊢;refine⟨by unfold qF;rw[aa O],λi e a=>?_⟩;obtain rfl|h3:=jx e
 .exact d
 .unfold nA0 at a;split at a
  .omega
  .exact xL _ s _ _ i h3 a
theorem atH(s a)(h:aq s a=101)(c:co (aq s<|xr s a)=Y):qF s a=(xr s a,Y):=by
 have b:wh s (xr s a)=xr s a:=by rw[wh,jp,aa U]
 rw[qF,ae h,b];simp
def ap8(s a)(e:a<s.size)(h:aq s a=101)(b:co (aq s<|xr s a)=X):qF s a=(wh s<|xr s a,X):=by
 have f:=ui b;have d:=ru _ LI s s.size (xr s a+1) O;have c:wh s (xr s a)=jp co s s.size (xr s a+1):=by
  show jp co s (s.size+1) (xr s a)=_;rw[jp,ae b]
 rw[qF,ae h,c];simp;omega
theorem alw(s a)(h:aq s a=101):a<xr s a/\xr s a<=s.size:=by
 have b:=bp h;unfold xr;split
 .rename_i hs;obtain hs|hs:=hs
  .have:=bp hs;omega
  .have:=bp hs;omega
 .omega
def su(s k):co (aq s k)=X\/co (aq s k)=Y:=by cases co (aq s k)<;>simp
theorem aac(s)(B:s.size<=1100000)(p)(cn:p<s.size)(b0:co (aq s p)=X)(C:¬(aq s p=48/\aq s (p+1)=120))(w):A1 T 204 #[A0 s,A9 #[zI 0,zI p,zI 0,zI 0,zI 0,nh]] w λe t=>e=V (B4 #[nmA s p,zI<|nmF s p])/\A2 w.heap.size w t:=by
 have⟨cs,bw⟩:=aw<|nmA s p;have⟨_,bz⟩:=aw<|nmF s p;rw[bw,bz];have j:=ah bw;have n:=ah bz;clear bw bz;have b1:=λw=>dy cn w;go_in;go_upto_region 3 with fail
 generalize ca:(w.alloc _).alloc _=bd;obtain⟨a,b4,bx, -⟩:=Eu ca;have bl:eK w.heap.size bd 2 p 0 0 0 zE0:=a;have bn:eK (w.heap.size+1) bd 0 0 0 0 0 zE0:=b4;clear ca a b4;have cy:w.heap.size+1<bd.heap.size:=ai bn;have⟨H,K,L,ad,af,ak,al⟩:=aJ bl;go_cut [22] from 9 (λc0 o=>c0=A3 Y/\o=bd)
 .
  by_cases u:aq s p=48
  .rw[u]at b1;have b:¬aq s (p+1)=120:=O;have c:(lk s (p+1)==120)=Y:=by rw[yj _ _ _];simpa using b
   have f:∀w,A1 T 200 #[A0 s,zI<|(p:Int)+1] w λe t=>e=V (zU<|lk s<|p+1)/\t=w:=λw=>jd s B _ _ O w;generalize lk s (p+1)=m at f c;clear u b C b0 j n;go_wp2_with (go_at_call 200;apply ez<|f _);go_meet
   exact rr
  .have v:(aq s p==48)=Y:=by rw[fC];exact u
   generalize aq s p=m at b1 v;clear u C j n;go_wp2_with fail;go_meet
   exact rr
 .
  obtain⟨rfl,rfl⟩:=hcut;go_upto_if 34 with fail
  go_cut [6] from 9 (λa2 o=>a2=zI (nA0 s p:Int)/\o=wc)
  .
   by_cases u:aq s p=48
   .have b:B0 (nA0 s p=p+1):=by show _=_;unfold nA0;rw[ae u]
    rw[u];clear u C j n;go_wp2_with fail;go_meet
    exact⟨by rw[b.out];go_num,R⟩
   .have z:B0 (jp co s (s.size+1) (p+1)=nA0 s p):=by show _=_;rw[nA0,aa u];rfl
    have v:(aq s p !=48)=X:=by rw[bne_iff_ne];exact u
    rw[v];have⟨k,r⟩:=aw<|nA0 s p;rw[r]at z;have x:=ah r;clear u C j n v r;go_wp2;go_loop [6] (λi=>∃b g,b<=s.size/\s.size<b+g/\i=zI b/\B0 (jp co s g b=k)) (λi=>s.size-(Br i).toNat)
    .exact⟨_,_,O,O,byR,z⟩
    .
     obtain⟨b,g,cc,cb,rfl,a7⟩:=hrel;obtain⟨g,rfl⟩:∃a8,g=a8+1:=⟨g-1,O⟩;have d:=a7.out;unfold jp at d;have f:=λw=>jd s B _ b R w;obtain h1|h1:=su s b
     .have cd:b<s.size:=ui h1;have c:=λw=>eH ((rL s b).trans h1) w;rw[ae h1]at d;have l:=ah d;generalize lk s b=m at f c;clear d h1;go_wp2_with (first|(go_at_call 200;apply ez<|f _)|(go_at_call 203;apply ez<|c _));go_round
      .exact⟨_,g,O,O,by go_num,l⟩
      simp[Br];omega
     .have c:=λw=>eH ((rL s b).trans h1) w;rw[aa (by rw[h1];simp)]at d;have l:=ah d;generalize lk s b=m at f c;clear d h1;go_wp2_with (first|(go_at_call 200;apply ez<|f _)|(go_at_call 203;apply ez<|c _));go_meet
      exact⟨by rw[x.out,<-l.out],R⟩
  .
   obtain⟨rfl,rfl⟩:=hcut;have bt:=Ha s p cn;go_upto_region 9 with fail
   obtain⟨D,b9⟩:∃D:Bool,decide (aq s (nA0 s p)=46/\co (aq s<|nA0 s p+1)=X)=D:=⟨_,R⟩;have u:=ah b9;clear b9;go_cut [51] from 9 (λc3 o=>c3=A3 D/\o=wc)
   .
    have f:=λw=>jd s B _ (nA0 s p) R w;have y:∀w,A1 T 200 #[A0 s,zI<|(nA0 s p:Int)+1] w λe t=>e=V (zU<|lk s<|nA0 s p+1)/\t=w:=λw=>jd s B _ _ O w;have E:=yj s (nA0 s p) 46;by_cases A:aq s (nA0 s p)=46
    .rw[eI A]at E;have v:=u.out;obtain h1|h1:=su s<|nA0 s p+1
     .have c:=λw=>eH ((rL s _).trans h1) w;rw[eI ⟨A,h1⟩]at v;subst v;generalize lk s (nA0 s p+1)=F at y c;generalize lk s (nA0 s p)=m at f E;clear A h1 u j n;go_wp2_with (first|(go_at_call 200;first|(with_reducible refine ez (f _) ?_)|(apply ez<|y _))|(go_at_call 203;apply ez<|c _));go_meet
      exact rr
     .have c:=λw=>eH ((rL s _).trans h1) w;rw[bq U]at v;subst v;generalize lk s (nA0 s p+1)=F at y c;generalize lk s (nA0 s p)=m at f E;clear A h1 u j n;go_wp2_with (first|(go_at_call 200;first|(with_reducible refine ez (f _) ?_)|(apply ez<|y _))|(go_at_call 203;apply ez<|c _));go_meet
      exact rr
    .rw[bq A]at E;have v:=u.out;rw[bq O]at v;subst v;generalize lk s (nA0 s p)=m at f E;clear A u j n;go_wp2_with (first|(go_at_call 200;apply ez<|f _));go_meet
     exact rr
   .
    obtain⟨rfl,rfl⟩:=hcut;go_upto_if 51 with fail
    go_cut [6] from 9 (λa2 o=>a2=zI (nA1 s (nA0 s p):Int)/\eK w.heap.size o (ite (D=X) 3 2) p 0 0 0 zE0/\eK (w.heap.size+1) o 0 0 0 0 0 zE0/\A2 w.heap.size w o)
    .
     cases D with
     |true=>
      have v:=aL u.out;have z:B0 (jp co s (s.size+1) (nA0 s p+1)=nA1 s (nA0 s p)):=by show _=_;rw[nA1,ae v];rfl
      have G:=ui v.2;have⟨k,r⟩:=aw<|nA1 s<|nA0 s p;rw[r]at z;have x:=ah r;generalize nA0 s p=am at z G bt⊢;clear v u j n C r;have F:=bl.setKind 3;have A:=bn.other (a:=⟨w.heap.size,0,A5⟩) I<|zI 3;have E:A2 w.heap.size w (wc.setCell (aj w.heap.size 0)<|zI 3):=bx.setCell I _;go_wp2;go_loop [6] (λi=>∃b g,b<=s.size/\s.size<b+g/\i=zI b/\B0 (jp co s g b=k)) (λi=>s.size-(Br i).toNat)
      .exact⟨_,_,O,O,byR,z⟩
      .
       obtain⟨b,g,cc,cb,rfl,a7⟩:=hrel;obtain⟨g,rfl⟩:∃a8,g=a8+1:=⟨g-1,O⟩;have d:=a7.out;unfold jp at d;have f:=λw=>jd s B _ b R w;obtain h1|h1:=su s b
       .have cd:b<s.size:=ui h1;have c:=λw=>eH ((rL s b).trans h1) w;rw[ae h1]at d;have l:=ah d;generalize lk s b=m at f c;clear d h1;go_wp2_with (first|(go_at_call 200;apply ez<|f _)|(go_at_call 203;apply ez<|c _));go_round
        .exact⟨_,g,O,O,by go_num,l⟩
        simp[Br];omega
       .have c:=λw=>eH ((rL s b).trans h1) w;rw[aa (by rw[h1];simp)]at d;have l:=ah d;generalize lk s b=m at f c;clear d h1;go_wp2_with (first|(go_at_call 200;apply ez<|f _)|(go_at_call 203;apply ez<|c _));go_meet
        exact⟨by rw[x.out,<-l.out],F,A,E⟩
     |false=>
      have v:=jJ u.out;have r:nA1 s (nA0 s p)=nA0 s p:=by rw[nA1,aa v]
      have x:=ah r;clear v u j n C r;go_wp2_with fail;go_meet
      exact⟨by rw[x.out],bl,bn,bx⟩
    .
     obtain⟨rfl,ax,a5,bk⟩:=hcut;clear bl bn bx H K L ad af ak al cy;have b6:=Hb s _ bt.2;have f:=λw=>jd s B _ (nA1 s<|nA0 s p) R w;have b7:=yj s (nA1 s<|nA0 s p) 101;obtain⟨av,bF⟩:∃av:Bool,decide (aq s (nA1 s<|nA0 s p)=101)=av:=⟨_,R⟩;have a3:=ah bF;rw[bF]at b7;clear bF;have⟨H,K,L,ad,af,ak,al⟩:=aJ ax;have⟨z0,am,an,ao,ap,ar,br⟩:=aJ a5;have a6:w.heap.size<wc.heap.size:=ai ax;have bo:w.heap.size+1<wc.heap.size:=ai a5;go_upto_if 64 with(go_at_call 200;apply(f _).mono;rintro e t ⟨rfl,v⟩;obtain rfl:=v.symm)
     clear f b7;go_cut [6] from 9 (λa2 o=>a2=zI ((qF s<|nA1 s<|nA0 s p).1:Int)/\(qF s<|nA1 s<|nA0 s p).2=X/\eK w.heap.size o (if(D||av)=X then 3 else 2) p 0 0 0 zE0/\eK (w.heap.size+1) o 0 0 0 0 0 zE0/\A2 w.heap.size w o)
     .
      cases av with
      |false=>
       have G:=jJ a3.out;have x:B0 (qF s (nA1 s<|nA0 s p)=(nA1 s<|nA0 s p,X)):=by show _=_;rw[qF,aa G]
       rw[<-Lg D]at ax;clear G a3 j n u C;go_wp2_with fail;go_meet
       exact⟨by rw[x.out],by rw[x.out],ax,a5,bk⟩|true=>
       have G:=aL a3.out;have a9:=atH s _ G;have ba:=ap8 s _ (bp G) G;have b5:=alw s _ G;have y:∀w,A1 T 200 #[A0 s,zI<|(nA1 s (nA0 s p):Int)+1] w λe t=>e=V (zU<|lk s<|nA1 s (nA0 s p)+1)/\t=w:=λw=>jd s B _ _ O w;have bh:=yj s (nA1 s (nA0 s p)+1) 43;have bj:=yj s (nA1 s (nA0 s p)+1) 45;have a4:B0 (xr s (nA1 s<|nA0 s p)=ite (decide (aq s (nA1 s (nA0 s p)+1)=43)=X\/decide (aq s (nA1 s (nA0 s p)+1)=45)=X) (nA1 s (nA0 s p)+1+1) (nA1 s (nA0 s p)+1)):=by show _=_;unfold xr;simp
       generalize decide (aq s (nA1 s (nA0 s p)+1)=43)=bs at bh a4;generalize decide (aq s (nA1 s (nA0 s p)+1)=45)=bc at bj a4;have F:=ax.setKind 3;have A:=a5.other (a:=⟨w.heap.size,0,A5⟩) I<|zI 3;have E:A2 w.heap.size w (wc.setCell (aj w.heap.size 0)<|zI 3):=bk.setCell I _;have⟨bf,bD⟩:=aw<|wc.setCell (aj w.heap.size 0)<|zI 3;rw[bD]at F A E;have b3:=ah bD;clear G a3 u C bD;go_upto_region 17 with fail
       rw[b3.out];clear b3 ax a5 bk H K L ad af ak al z0 am an ao ap ar br a6 bo;have⟨H,K,L,ad,af,ak,al⟩:=aJ F;have⟨z0,am,an,ao,ap,ar,br⟩:=aJ A;have a6:w.heap.size<bf.heap.size:=ai F;have bo:w.heap.size+1<bf.heap.size:=ai A;go_cut [77] from 9 (λce o=>ce=A3 (bc||bs)/\o=bf)
       .
        generalize lk s (nA1 s (nA0 s p)+1)=m at y bh bj;clear j n a9 ba a4;cases bc with
        |true=>
         go_wp2_with (first|(go_at_call 200;apply(y _).mono;rintro e t ⟨rfl,v⟩;obtain rfl:=v.symm));go_meet
         exact rr
        |false=>
         go_wp2_with (first|(go_at_call 200;apply(y _).mono;rintro e t ⟨rfl,v⟩;obtain rfl:=v.symm));go_meet
         exact rr
       .
        obtain⟨rfl,bb⟩:=hcut;obtain rfl:=bb.symm;clear bb;go_upto_if 77 with fail
        go_cut [6] from 9 (λa2 o=>a2=zI (xr s (nA1 s<|nA0 s p):Int)/\o=bf)
        .
         clear j n a9 ba bh bj y;obtain⟨a0,bA⟩:∃a0:Bool,(bc||bs)=a0:=⟨_,R⟩;have b8:B0 (xr s (nA1 s<|nA0 s p)=ite (a0=X) (nA1 s (nA0 s p)+1+1) (nA1 s (nA0 s p)+1)):=by show _=_;rw[a4.out,<-bA];cases bc<;>cases bs<;>simp
         rw[bA];clear bA a4;cases a0 with
         |true=>
          go_wp2_with fail;go_meet
          exact⟨by rw[b8.out];simp only[oL];go_num,R⟩|false=>
          go_wp2_with fail;go_meet
          exact⟨by rw[b8.out];simp,R⟩
        .
         obtain⟨rfl,bb⟩:=hcut;obtain rfl:=bb.symm;clear bb a4 bh bj y;have a0:=λw=>jd s B _ (xr s<|nA1 s<|nA0 s p) R w;obtain h1|h1:=su s<|xr s<|nA1 s<|nA0 s p
         .have c:=λw=>eH ((rL s _).trans h1) w;have bA:B0 (qF s (nA1 s<|nA0 s p)=(wh s<|xr s<|nA1 s<|nA0 s p,X)):=ba h1;have⟨k,r⟩:=aw<|wh s<|xr s<|nA1 s<|nA0 s p;have z:=ah r;have x:=ah r;generalize lk s (xr s<|nA1 s<|nA0 s p)=b8 at a0 c;generalize xr s (nA1 s<|nA0 s p)=cf at z b5 a0⊢;clear a9 ba r h1 j n;go_wp2_with (first|(go_at_call 200;apply(a0 _).mono;rintro e t ⟨rfl,v⟩;obtain rfl:=v.symm)|(go_at_call 203;apply(c _).mono;rintro e t ⟨rfl,v⟩;obtain rfl:=v.symm));clear a0 c;go_loop [6] (λi=>∃b g,b<=s.size/\s.size<b+g/\i=zI b/\B0 (jp co s g b=k)) (λi=>s.size-(Br i).toNat)
          .exact⟨_,_,O,O,byR,z⟩
          .
           obtain⟨b,g,cc,cb,rfl,a7⟩:=hrel;obtain⟨g,rfl⟩:∃a8,g=a8+1:=⟨g-1,O⟩;have d:=a7.out;unfold jp at d;have f:=λw=>jd s B _ b R w;obtain h1|h1:=su s b
           .have cd:b<s.size:=ui h1;have c:=λw=>eH ((rL s b).trans h1) w;rw[ae h1]at d;have l:=ah d;generalize lk s b=m at f c;clear d h1;go_wp2_with (first|(go_at_call 200;apply ez<|f _)|(go_at_call 203;apply ez<|c _));go_round
            .exact⟨_,g,O,O,by go_num,l⟩
            simp[Br];omega
           .have c:=λw=>eH ((rL s b).trans h1) w;rw[aa (by rw[h1];simp)]at d;have l:=ah d;generalize lk s b=m at f c;clear d h1;go_wp2_with (first|(go_at_call 200;apply ez<|f _)|(go_at_call 203;apply ez<|c _));go_meet
            exact⟨by rw[bA.out,x.out,<-l.out],by rw[bA.out],U,A,E⟩
         .have c:=λw=>eH ((rL s _).trans h1) w;have a7:=a9 h1;have g:=j.out;have r:=n.out;unfold nmA at g;unfold nmF at r;rw[a7]at g r;simp[aa]at g r;subst g;obtain⟨x,z⟩:∃x:Int,(xr s<|nA1 s<|nA0 s p)=x:=⟨_,R⟩;rw[z]at r a0⊢;subst r;generalize lk s (xr s<|nA1 s<|nA0 s p)=b8 at a0 c;clear a7 h1 a9 ba j n b5 z;go_wp2_with (first|(go_at_call 200;apply(a0 _).mono;rintro e t ⟨rfl,v⟩;obtain rfl:=v.symm)|(go_at_call 203;apply(c _).mono;rintro e t ⟨rfl,v⟩;obtain rfl:=v.symm));refine aA (by simp[results,go_sem,z0,am,an,ao,ap,ar]) R ⟨R,?_⟩
          iterate 6 refine gE ?_ I _
          exact E
     .
      obtain⟨rfl,cl,G,cb,bD⟩:=hcut;have bA:=aez s _ b6.2;have b5:Ju s p=(D||av):=by rw[Ju,<-u.out,<-a3.out];simp
      have ce:=aab s p b0;have g:=j.out;have r:=n.out;unfold nmA at g;unfold nmF at r;rw[ae cl]at g r;subst r;rw[b5]at g ce;have cw:p<(qF s<|nA1 s<|nA0 s p).1:=O;have cv:(qF s<|nA1 s<|nA0 s p).1<=s.size:=bA.2;have bc:(D||av)=Y->∀i,p<=i->i<(qF s<|nA1 s<|nA0 s p).1->co (aq s i)=X:=U;clear ce b5 u a3 j n cl bA b6 bt C b1 b0;generalize (D||av)=x at G g bc;generalize (qF s<|nA1 s<|nA0 s p).1=k at cw cv g bc⊢;clear ax a5 bk H K L ad af ak al z0 am an ao ap ar br a6 bo;have⟨y,bh⟩:=aw<|ux s p<|k-p;rw[bh]at g;have a4:=ah bh;have j:=ah g;have ba:=ah bc;clear g bc bh;obtain⟨bf,bj⟩:∃bf:Int,(ite (x=X) (3) 2)=bf:=⟨_,R⟩;rw[bj]at G;have bs:B0 ((bf=2/\x=Y/\(0:Int)<=0/\ux s p (p-p)=B5 (0:Int).toNat)\/(bf=3/\(x=X\/y=A5))):=by
       cases x with
       |true=>exact .inr U|false=>exact .inl ⟨bj.symm,R,O,by rw[iI];rfl⟩
      clear bj;have⟨H,K,L,ad,af,ak,al⟩:=aJ G;have a6:w.heap.size<wc.heap.size:=ai G;have F:=G.setTo k;have A:=cb.other (a:=⟨w.heap.size,2,A5⟩) I<|zI k;have E:A2 w.heap.size w (wc.setCell (aj w.heap.size 2)<|zI (k:Int)):=bD.setCell I _;go_wp2;go_loopw [7,8] (λcB i wr=>∃b c a,p<=b/\b<=k/\i=zI b/\cB= .int .u64 a/\eK w.heap.size wr c p k 0 0 zE0/\eK (w.heap.size+1) wr 0 0 0 0 0 zE0/\A2 w.heap.size w wr/\B0 ((c=2/\x=Y/\0<=a/\ux s p (b-p)=B5 a.toNat)\/(c=3/\(x=X\/y=A5)))) (λ_ i _=>k-(Br i).toNat)
      .exact⟨p,_,0,O,O,R,R,F,A,E,bs⟩
      .
       obtain⟨b,c,a,cx,_,rfl,rfl,a7,a8,z,d⟩:=hrel;clear F A E G cb bD H K L ad af ak al a6 bs;have⟨H,K,L,ad,af,ak,al⟩:=aJ a7;have⟨z0,am,an,ao,ap,ar,br⟩:=aJ a8;have a6:w.heap.size<wr.heap.size:=ai a7;have bo:w.heap.size+1<wr.heap.size:=ai a8;obtain⟨rfl,bb,_,a9⟩|⟨rfl,cm⟩:=d.out
       .have cd:=alk s p _ _ a9;by_cases cg:b<k
        .have cf:=ba.out bb b cx cg;have cu:=lC cf;have cz:=λw=>dy (s:=s) (i:=b) O w;have cp:ux s p (b+1-p)=ite (a.toNat*10+(aq s b-48).toNat<=9223372036854775807) (B5<|a.toNat*10+(aq s b-48).toNat) A5:=by
          rw[(O:b+1-p=(b-p)+1),ux,a9,(O:p+(b-p)=b)]
         have ct:a<=9223372036854775807:=O;have ck:ux s p (b+1-p)=A5->y=A5:=λh=>by rw[<-a4.out];exact acB s p _ h _ O
         have l:B0 ((¬a*10+(aq s b-48)<=9223372036854775807->y=A5)/\(a*10+(aq s b-48)<=9223372036854775807->ux s p (b+1-p)=B5 (a*10+(aq s b-48)).toNat)):=by
          refine⟨λh=>ck U,λh=>?_⟩;rw[cp,ifp]
          congr 1
          omega
         generalize aq s b=m at cz cu l;clear cf cp ck a9 d ba a4 j cd;have b8:=a7.setKind 3;have cc:=a8.other (a:=⟨w.heap.size,0,A5⟩) I<|zI 3;have b3:A2 w.heap.size w (wr.setCell (aj w.heap.size 0)<|zI 3):=z.setCell I _;have ch:(b:Int)<(k:Int):=O;obtain q|⟨q,cF⟩|⟨q,cF⟩|q:922337203685477580<a\/(a=922337203685477580/\55<m)\/(a=922337203685477580/\¬55<m)\/a<922337203685477580:=O
         .have a0:B0 (y=A5):=l.1 O;clear l;go_wp2;go_roundw
          .exact⟨b+1,3,_,O,O,by go_num,R,b8,cc,b3,U⟩
          simp[Br];omega
         .have a0:B0 (y=A5):=l.1 O;have cr:(a==922337203685477580)=X:=by rw[qo];exact q
          have cq:¬922337203685477580<a:=O;clear l q;go_wp2;go_roundw
          .exact⟨b+1,3,_,O,O,by go_num,R,b8,cc,b3,U⟩
          simp[Br];omega
         .have a0:B0 (ux s p (b+1-p)=B5 (a*10+(m-48)).toNat):=l.2 O;have cr:(a==922337203685477580)=X:=by rw[qo];exact q
          have cq:¬922337203685477580<a:=O;have cI:a*10+(m-48)<=9223372036854775807:=O;clear l q;go_wp2;go_roundw
          .exact⟨_,2,_,O,O,by go_num,U,a7,a8,z,.inl ⟨R,bb,O,a0⟩⟩
          simp[Br];omega
         .have a0:B0 (ux s p (b+1-p)=B5 (a*10+(m-48)).toNat):=l.2 O;have cr:(a==922337203685477580)=Y:=by rw[fC];omega
          have cq:¬922337203685477580<a:=O;have cI:a*10+(m-48)<=9223372036854775807:=O;clear l;go_wp2;go_roundw
          .exact⟨_,2,_,O,O,by go_num,U,a7,a8,z,.inl ⟨R,bb,O,a0⟩⟩
          simp[Br];omega
        .obtain rfl:b=k:=O;have g:=j.out;rw[bb,<-a4.out,a9]at g;simp only[aa (I:¬Y=X),ap7]at g;rw[(O:((a.toNat:Nat):Int)=a)]at g;subst g;have l:wrap64 a=a:=by unfold wrap64;omega
         have ct:a<=9223372036854775807:=O;clear j a4 ba d a9 cd;go_wp2;refine aA (by simp[results,go_sem,z0,am,an,ao,ap,ar]) R ⟨R,?_⟩
         iterate 7 refine gE ?_ I _
         exact z
       .have g:=j.out;have l:Value.agg #[zI 3,zI p,zI (k:Int),zI 0,zI 0,A0<|s.extract p k]=cs:=by
         obtain h|h:=cm
         .rw[h]at g;exact g
         .rw[h]at g;cases x<;>exact g
        subst l;clear g j a4 ba d cm;by_cases cg:b<k
        .have ch:(b:Int)<(k:Int):=O;go_wp2;refine aA (by simp[results,go_sem,z0,am,an,ao,ap,ar]) R ⟨R,?_⟩
         iterate 7 refine gE ?_ I _
         exact z
        .have ch:¬(b:Int)<(k:Int):=O;go_wp2;refine aA (by simp[results,go_sem,z0,am,an,ao,ap,ar]) R ⟨R,?_⟩
         iterate 7 refine gE ?_ I _
         exact z
def alx(s p):∃(t n:Int),hxA s p=A9 #[zI 2,zI p,zI t,zI 0,zI n,nh]:=by
 unfold hxA;split<;>exact⟨_,_,R⟩
def Fj(s:Bz)(p:Nat):B1:=ite (aq s p=48/\aq s (p+1)=120) (hxA s p)<|nmA s p
def DJ(s:Bz)(p:Nat):Int:=ite (aq s p=48/\aq s (p+1)=120) (hxF s p)<|nmF s p
theorem atI(s p):∃(k t n:Int) (x:Bz),nmA s p=A9 #[zI k,zI p,zI t,zI 0,zI n,A0 x]:=by
 unfold nmA ap7;split
 .split
  .grind
  .split<;>exact⟨_,_,_,_,R⟩
 grind
theorem agL(s p):∃(k t n:Int) (x:Bz),Fj s p=A9 #[zI k,zI p,zI t,zI 0,zI n,A0 x]:=by
 unfold Fj;split
 .have⟨t,n,_⟩:=alx s p;grind
 .exact atI s p
def aad(s)(g:s.size<=1100000)(p)(k:aq s p=48)(c:aq s (p+1)=120)(w):A1 T 204 #[A0 s,A9 #[zI 0,zI p,zI 0,zI 0,zI 0,nh]] w λe b=>e=V (B4 #[hxA s p,zI<|hxF s p])/\A2 w.heap.size w b:=by
 have q:=bp c;have r:=λw=>dy (s:=s) (i:=p) O w;rw[k]at r;have t:∀w,A1 T 200 #[A0 s,zI<|(p:Int)+1] w λe b=>e=V (zU 120)/\b=w:=λw=>by
  have:=jd s g (p+1) (p+1) O w;rw[wt q,c]at this;exact this
 have a:=λw=>acn s g p O w;have⟨_,_,l⟩:=alx s p;rw[l]at a⊢;generalize hxF s p=B at a;go_in;go_wp2_with (go_at_call 200;apply ez<|t _);generalize n:(w.alloc _).alloc _=h;obtain⟨-,j,m,_⟩:=Eu n;have o:eK (w.heap.size+1) h 0 0 0 0 0 zE0:=j;refine dd (a _) λu f=>?_;have d:=o.below f O;have C:=m.trans<|f.mono O;have⟨z0,v,x,y,z,A,_⟩:=aJ d;have E:w.heap.size+1<u.heap.size:=ai d;go_wp2;refine aA (by simp[results,go_sem,z0,v,x,y,z,A]) R ⟨R,?_⟩
 iterate 6 refine gE ?_ I _
 omega
def aae(s)(b:s.size<=1100000)(p)(d:p<s.size)(c:co (aq s p)=X)(w):A1 T 204 #[A0 s,A9 #[zI 0,zI p,zI 0,zI 0,zI 0,nh]] w λe f=>e=V (B4 #[Fj s p,zI<|DJ s p])/\A2 w.heap.size w f:=by
 unfold Fj DJ;split
 .rename_i a;exact aad s b p a.1 a.2 w
 .rename_i a;exact aac s b p d c a w
theorem me{c b}(h:bi c=b)(w):A1 T 201 #[zU c] w λe a=>e=V (A3 b)/\a=w:=(rp c w).mono λe a d=>⟨U,d.2.symm⟩
theorem AK(s)(r:s.size<=1100000)(p)(f:p<s.size)(a:co (aq s p)=X)(w):A1 T 127 #[A0 s,zI p] w λe v=>e=V (B4 #[Fj s p,zI<|DJ s p])/\A2 w.heap.size w v:=by
 have u:=λw=>dy f w;have t:=lC a;have q:bi (aq s p)=Y:=by simp[bi];omega
 have h:=λw=>me q w;have g:=λw=>eH a w;have b:=λw=>aae s r p f a w;have⟨_,_,_,_,m⟩:=agL s p;rw[m]at b⊢;generalize DJ s p=E at b;generalize aq s p=k at u h g t;have F:(k==10)=Y:=U;go_in;go_wp2_with (first|(go_at_call 201;apply ez<|h _)|(go_at_call 203;apply ez<|g _));generalize n:(w.alloc _).alloc _=i;obtain⟨j, -,l,_⟩:=Eu n;have o:eK w.heap.size i 0 0 0 0 0 zE0:=j;refine dd (b _) λx d=>?_;have c:=o.below d O;have G:=l.trans<|d.mono O;have⟨z0,y,z,A,B,C,_⟩:=aJ c;have H:w.heap.size<x.heap.size:=ai c;go_wp2;refine aA (by simp[results,go_sem,z0,y,z,A,B,C]) R ⟨R,?_⟩
 iterate 6 refine gE ?_ I _
 omega
theorem aly(s p):(DJ s p<0↔(eB s p).2=X)/\∃(k t n:Int) (x:Bz),Fj s p=A9 #[zI k,zI p,zI t,zI 0,zI n,A0 x]/\((eB s p).2=X->t=((eB s p).1:Int)/\((k==3)=decide (¬(aq s p=48/\aq s (p+1)=120)/\(Ju s p=X\/ux s p ((eB s p).1-p)=A5)))):=by
 unfold DJ Fj eB;by_cases a:aq s p=48/\aq s (p+1)=120
 .simp only[ae a];unfold hxF hxA;cases hh:(pF s<|p+2).2 with
  |true=>
   grind|false=>
   grind
 .simp only[aa a];unfold nmF nmA ap7;cases hh:(qF s<|nA1 s<|nA0 s p).2 with
  |true=>
   simp only[oL];refine⟨U,?_⟩;cases hk:Ju s p with
   |true=>
    grind|false=>
    simp only[aa (I:¬Y=X)];cases hc:ux s p ((qF s<|nA1 s<|nA0 s p).1-p) with
    |none=>grind|some b=>grind
  |false=>
   grind
theorem aaf(q)(a:co (aq q 0)=X)(c:qF q (nA1 q<|nA0 q 0)=(q.size,X)):Dz q=A5↔(Ju q 0=X\/ux q 0 q.size=A5):=by
 cases hk:Ju q 0 with
 |false=>
  have⟨_,_⟩:=aab q 0 a hk;have b:nA0 q 0=q.size:=U;rw[acj q (ui a) U];simp|true=>
  simp[iff_true];unfold Ju at hk;obtain h|h:=aL hk
  .exact Cv q a _ (bp h.1) (by rw[h.1];decide)
  .exact Cv q a _ (bp h) (by rw[h];decide)
def fok(q:Bz):Bool:=decide (q.size<=40)&&sj q
theorem acC(s:Bz)(q:s.size<=1100000)(w):A1 T 230 #[A0 s] w λe k=>e=V (A3<|fok s)/\A2 w.heap.size w k:=by
 unfold fok;by_cases l:0<s.size
 .have u:((s.size:Int)==0)=Y:=U;by_cases m:s.size<=40
  .have v:¬(40:Int)<(s.size:Int):=O;have n:∀w,(Instr.index 9 (A0 s)<|zI 0).run T w= .ok (zU<|aq s 0) w:=λw=>dy l w;by_cases c:co (aq s 0)=X
   .have b:=λw=>eH c w;have d:∀w,A1 T 127 #[A0 s,zI 0] w λe k=>e=V (B4 #[Fj s 0,zI<|DJ s 0])/\A2 w.heap.size w k:=λw=>AK s q 0 l c w;have⟨hF,j,x,_,_,o,r⟩:=aly s 0;rw[o]at d;have t:(decide (s.size<=40)&&sj s)=(decide (DJ s 0<0)&&((j==3)&&(x==(s.size:Int)))):=by
     rw[eI m,gK];unfold sj;cases h2:(eB s 0).2 with
     |false=>
      grind|true=>
      have⟨p,h⟩:=r h2;rw[eI<|hF.2 h2,gK,h,p];by_cases y:(eB s 0).1=s.size
      .have g:eB s 0=(s.size,X):=U;rw[g];simp only[F8,beq_self_eq_true,Bool.and_true];rw[agr];constructor
       .rintro ⟨_,_,a,f⟩;have i:qF s (nA1 s<|nA0 s 0)=(s.size,X):=by rw[<-g];unfold eB;grind
        exact⟨a,(aaf s c i).1 f⟩
       .rintro ⟨a,f⟩;have i:qF s (nA1 s<|nA0 s 0)=(s.size,X):=by rw[<-g];unfold eB;grind
        exact⟨c,trivial,a,(aaf s c i).2 f⟩
      grind
    rw[t];generalize DJ s 0=g at d;generalize aq s 0=i at n b;by_cases hF:g<0
    .by_cases h:j=3
     .subst h;go_in;go_wp2_with (first|(go_at_call 203;apply ez<|b _)|(go_at_call 127;apply(d _).mono;rintro e f ⟨rfl,a⟩));go_ret;exact⟨by simp[hF],a.alloc a.size _⟩
     .have p:(j==3)=Y:=U;go_in;go_wp2_with (first|(go_at_call 203;apply ez<|b _)|(go_at_call 127;apply(d _).mono;rintro e f ⟨rfl,a⟩));go_ret;exact⟨by simp[p],a.alloc a.size _⟩
    .go_in;go_wp2_with (first|(go_at_call 203;apply ez<|b _)|(go_at_call 127;apply(d _).mono;rintro e f ⟨rfl,a⟩));go_ret;exact⟨by rw[bq O];simp,a.alloc a.size _⟩
   .have a:co (aq s 0)=Y:=U;have b:=λw=>eH a w;rw[show sj s=Y by unfold sj;grind,FD];generalize aq s 0=i at n b;go_in;go_wp2_with (first|(go_at_call 203;apply ez<|b _));go_ret;exact⟨R,blR⟩
  .have v:(40:Int)<(s.size:Int):=O;rw[bq m,gJ];exact giX blR
 .have u:((s.size:Int)==0)=X:=U;rw[show sj s=Y by unfold sj;rw[dH];rfl,FD];exact giX blR
structure NArg (W:B2) (vt:B1) (ns:zLD) (N:Nd) (vn vk:B1):Prop where
 t:dE W vt ns
 n:bv W vn N.nm
 k:dt W vk N.ks
 ok:Dx ns N
 ln:M ns<=1048576
 l1:M N.nm<=1048576
 l2:M N.ks<=1048576
 lx:N.x.size<=1048576
 ls:∀s∈N.nm,s.size<=1048576
def NArg.below{b}(h:NArg W vt ns N vn vk)(a:A2 W.heap.size W b):NArg b vt ns N vn vk:=
 ⟨h.t.below a,h.n.below a,h.k.below a,h.ok,h.ln,h.l1,h.l2,h.lx,h.ls⟩
structure St (w:B2) (vt:B1) (ns:zLD) (N:Nd) (vn vk:B1) (W:B2):Prop where
 a:NArg W vt ns N vn vk
 bt:W.cell? (aj w.heap.size 0)=B5 vt
 bn:nA (w.heap.size+1) W 37 N vn vk
 bel:A2 w.heap.size w W
def St.below{c}(h:St w vt ns N vn vk W)(b:A2 W.heap.size W c):St w vt ns N vn vk c:=
 ⟨h.a.below b,ag b h.bt,h.bn.below b,h.bel.trans<|b.mono h.bel.size⟩
theorem St.start(h:NArg w vt ns N vn vk):St w vt ns N vn vk ((w.alloc<|B3 #[vt] 26).alloc<|B3 (Jn N vn vk) 37):=by
 have a:A2 w.heap.size w ((w.alloc<|B3 #[vt] 26).alloc<|B3 (Jn N vn vk) 37):=((ay _ w).alloc O _).alloc I _;refine⟨h.below a,?_,?_,a⟩
 .simp_all
 .have:=au (w.alloc<|B3 #[vt] 26)<|B3 (Jn N vn vk) 37;rw[dC]at this;exact this
def tF(a:NArg w vt ns N vn vk)(i)(g:i<M N.ks):
  A1 T 225 #[A9 #[vt],jq N vn vk,zI i] w λe b=>e=V (zI<|gC ns N i)/\A2 w.heap.size w b:=by
 have⟨h,b,c,d,f,_⟩:=a.ok.get g;rw[f];exact aiJ w _ _ N b _ _ i h a.t a.n a.k c d a.ln a.l2
abbrev aN(N:Nd)(b a:B1):B1:=A9<|Jn N b a
section
variable {w W : World} {vt vn vk : Value} {ns : zLD} {N : Nd} {Q : Ending → World → Prop} (s : St w vt ns N vn vk W)
include s
def St.bare{a b c d}(k:∀e,St w vt ns N vn vk e->Q (V<|A3<|bC N a b c d) e):A1 T 226 #[aN N vn vk,A3 a,A3 b,A3 c,A3 d] W Q:=dd (aeA _ N _ _ s.a.n s.a.k s.a.l1 _ _ _ _) λg f=>k g<|s.below f
def St.named{a b}(k:∀c,St w vt ns N vn vk c->Q (V<|A3<|gi N a b) c):A1 T 227 #[aN N vn vk,zI a,zI b] W Q:=dd (acq _ N _ _ a b s.a.n s.a.k s.a.l1 s.a.ls) λe d=>k e<|s.below d
def St.ex1(d:1<=M N.ks)(k:∀b,St w vt ns N vn vk b->Q (V<|A3<|mK ns N 1 0) b):A1 T 228 #[A9 #[vt],aN N vn vk,zI 0,zI 1] W Q:=dd (oz _ _ ns N _ _ 0 1 s.a.t s.a.n s.a.k s.a.ok d s.a.ln s.a.l2) λe c=>k e<|s.below c
def St.ex2(d:2<=M N.ks)(k:∀b,St w vt ns N vn vk b->Q (V<|A3<|mK ns N 2 0) b):A1 T 228 #[A9 #[vt],aN N vn vk,zI 0,zI 2] W Q:=dd (oz _ _ ns N _ _ 0 2 s.a.t s.a.n s.a.k s.a.ok d s.a.ln s.a.l2) λe c=>k e<|s.below c
def St.exL(k:∀b,St w vt ns N vn vk b->Q (V<|A3<|mK ns N (M N.ks) 0) b):A1 T 228 #[A9 #[vt],aN N vn vk,zI 0,zI (M N.ks:Int)] W Q:=dd (oz _ _ ns N _ _ 0 _ s.a.t s.a.n s.a.k s.a.ok eE s.a.ln s.a.l2) λd c=>k d<|s.below c
def St.kid0(d:0<M N.ks)(k:∀b,St w vt ns N vn vk b->Q (V<|zI<|gC ns N 0) b):A1 T 225 #[A9 #[vt],aN N vn vk,zI 0] W Q:=dd (tF s.a 0 d) λe c=>k e<|s.below c
def St.kid1(d:1<M N.ks)(k:∀b,St w vt ns N vn vk b->Q (V<|zI<|gC ns N 1) b):A1 T 225 #[A9 #[vt],aN N vn vk,zI 1] W Q:=dd (tF s.a 1 d) λe c=>k e<|s.below c
end
def Gg:zLI:=[20,21,22,27,23,24,25,26,28,29,32,30,31,33,34,35,36,37,40,41,42]
def ap9(a:NArg w vt ns N vn vk)(b:∀c∈Gg,N.k≠c):
  A1 T 137 #[A9 #[vt],jq N vn vk] w λe d=>e=V (A3 Y)/\A2 w.heap.size w d:=by
 obtain⟨_,_,rfl⟩:=a.t.form;obtain⟨_,_,rfl⟩:=a.n.form;obtain⟨_,_,rfl⟩:=a.k.form;have d:=St.start a;clear a;have f:∀c:Int,20<=c->c<=37->(N.k==c)=Y:=λc _ _=>fC.2<|b c (by simp[Gg];omega);have g:∀c:Int,40<=c->c<=42->(N.k==c)=Y:=λc _ _=>fC.2<|b c (by simp[Gg];omega);clear b;unfold jq;exact giX d.bel
def enB(a:zLD)(N:Nd):Nat->Nat->Bool|0,_=>X|f+1,j=>decide (40<=gC a N j/\gC a N j<=42)&&enB a N f (j+1)
structure atJ (ns:zLD) (N:Nd) (f j:Nat) (R1:Bool):Prop where
 out:enB ns N f j=R1
theorem alz(g:NArg w vt ns N vn vk)(A:N.k=35):
  A1 T 137 #[A9 #[vt],jq N vn vk] w λe j=>e=V (A3<|enB ns N (M N.ks) 0&&bC N Y Y Y Y)/\A2 w.heap.size w j:=by
 obtain⟨E,H,rfl⟩:=g.t.form;obtain⟨F,K,rfl⟩:=g.n.form;obtain⟨G,L,rfl⟩:=g.k.form;have b:=St.start g;have ar:=g.l2;clear g;have av:=kqf A;have ax:=kqs A;clear A;have⟨z,B⟩:=aw<|enB ns N (M N.ks) 0;rw[B];have am:atJ ns N (M N.ks) 0 z:=⟨B⟩;clear B;unfold jq;go_in;go_wp2_with fail;generalize (w.alloc<|B3 #[Ax E (M ns) H] 26).alloc (B3 (Jn N (Ax F (M N.nm) K)<|Ax G (M N.ks) L) 37)=an at b⊢;go_loopw [6,7,200] (λ_ _ C wr=>∃(c:Nat),C=zI c/\c<=M N.ks/\atJ ns N (M N.ks-c) c z/\St w (Ax E (M ns) H) ns N (Ax F (M N.nm) K) (Ax G (M N.ks) L) wr) (λ_ _ C _=>M N.ks-(Br C).toNat)
 .grind
 .
  clear b;obtain⟨c,rfl,_,af,b⟩:=hrel;have⟨l,m,o,p,q,r,s,u,v,x⟩:=aE b.bn;have y:=b.bt;have d:=af.out;by_cases al:c<M N.ks
  .rw[(O:M N.ks-c=(M N.ks-(c+1))+1),enB]at d;have ak:(c:Int)<(M N.ks:Int):=O;have i:=tF b.a c al;unfold jq at i;generalize gC ns N c=ad at d i;by_cases ao:ad<40
   .rw[bq O,gJ]at d;have h:=ah d;clear d;go_wp2_with (go_at_call 225;apply i.mono;rintro e j ⟨rfl,f⟩;replace b:=b.below f;clear f;have⟨l,m,o,p,q,r,s,u,v,x⟩:=aE b.bn;have y:=b.bt);go_ret;exact⟨by rw[<-h.out];rfl,b.bel⟩
   by_cases ap:42<ad
   .rw[bq O,gJ]at d;have h:=ah d;clear d;go_wp2_with (go_at_call 225;apply i.mono;rintro e j ⟨rfl,f⟩;replace b:=b.below f;clear f;have⟨l,m,o,p,q,r,s,u,v,x⟩:=aE b.bn;have y:=b.bt);go_ret;exact⟨by rw[<-h.out];rfl,b.bel⟩
   rw[eI O,gK]at d;have h:atJ ns N (M N.ks-(c+1)) (c+1) z:=⟨d⟩;clear d;go_wp2_with (go_at_call 225;apply i.mono;rintro e j ⟨rfl,f⟩;replace b:=b.below f;clear f;have⟨l,m,o,p,q,r,s,u,v,x⟩:=aE b.bn;have y:=b.bt);exact⟨U,by simp[Br];omega⟩
  .rw[(O:M N.ks-c=0),enB]at d;have h:=ah d;have ak:¬(c:Int)<(M N.ks:Int):=O;clear d;go_wp2_with (go_at_call 226;refine b.bare λ_ b=>?_;have⟨l,m,o,p,q,r,s,u,v,x⟩:=aE b.bn;have y:=b.bt);go_ret;exact⟨by rw[<-h.out];rfl,b.bel⟩
def sbB(a:zLD)(N:Nd):Nat->Nat->Bool|0,_=>X|f+1,j=>jE (gC a N j)&&sbB a N f (j+1)
structure atK (ns:zLD) (N:Nd) (f j:Nat) (R1:Bool):Prop where
 out:sbB ns N f j=R1
theorem aqa(f:NArg w vt ns N vn vk)(ak:N.k=1):
  A1 T 136 #[A9 #[vt],jq N vn vk] w λe p=>e=V (A3<|sbB ns N (M N.ks) 0&&bC N Y Y Y Y)/\A2 w.heap.size w p:=by
 obtain⟨E,H,rfl⟩:=f.t.form;obtain⟨F,K,rfl⟩:=f.n.form;obtain⟨G,L,rfl⟩:=f.k.form;have b:=St.start f;have ap:=f.l2;clear f;have ar:(N.k==1)=X:=U;clear ak;have⟨l,m⟩:=aw<|sbB ns N (M N.ks) 0;rw[m];have an:atK ns N (M N.ks) 0 l:=⟨m⟩;clear m;unfold jq;go_in;go_wp2_with fail;generalize (w.alloc<|B3 #[Ax E (M ns) H] 26).alloc (B3 (Jn N (Ax F (M N.nm) K)<|Ax G (M N.ks) L) 37)=ao at b⊢;go_loopw [6,18] (λ_ o wr=>∃(c:Nat),o=zI c/\c<=M N.ks/\atK ns N (M N.ks-c) c l/\St w (Ax E (M ns) H) ns N (Ax F (M N.nm) K) (Ax G (M N.ks) L) wr) (λ_ o _=>M N.ks-(Br o).toNat)
 .grind
 .
  clear b;obtain⟨c,rfl,_,af,b⟩:=hrel;have⟨q,r,s,u,v,x,y,z,A,B⟩:=aE b.bn;have C:=b.bt;have d:=af.out;by_cases am:c<M N.ks
  .rw[(O:M N.ks-c=(M N.ks-(c+1))+1),sbB]at d;have al:(c:Int)<(M N.ks:Int):=O;have i:=tF b.a c am;unfold jq at i;generalize gC ns N c=ad at d i;have j:=λw=>G1 ad w;cases hx:jE ad with
   |false=>
    rw[hx,gJ]at d;rw[hx]at j;have h:=ah d;clear d hx;go_wp2_with (first|(go_at_call 225;apply i.mono;rintro e p ⟨rfl,g⟩;replace b:=b.below g;clear g;have⟨q,r,s,u,v,x,y,z,A,B⟩:=aE b.bn;have C:=b.bt)|(go_at_call 135;apply ez<|j _));go_ret;exact⟨by rw[<-h.out];rfl,b.bel⟩
   |true=>
    rw[hx,gK]at d;rw[hx]at j;have h:atK ns N (M N.ks-(c+1)) (c+1) l:=⟨d⟩;clear d hx;go_wp2_with (first|(go_at_call 225;apply i.mono;rintro e p ⟨rfl,g⟩;replace b:=b.below g;clear g;have⟨q,r,s,u,v,x,y,z,A,B⟩:=aE b.bn;have C:=b.bt)|(go_at_call 135;apply ez<|j _));exact⟨U,by simp[Br];omega⟩
  .rw[(O:M N.ks-c=0),sbB]at d;have h:=ah d;have al:¬(c:Int)<(M N.ks:Int):=O;clear d;go_wp2_with (go_at_call 226;refine b.bare λ_ b=>?_;have⟨q,r,s,u,v,x,y,z,A,B⟩:=aE b.bn;have C:=b.bt);go_ret;exact⟨by rw[<-h.out];rfl,b.bel⟩
def alA(a:NArg w vt ns N vn vk)(b:1<M N.ks):
  A1 T 225 #[A9 #[vt],A9<|Jn N vn vk,zI 1] w λe c=>e=V (zI<|gC ns N 1)/\A2 w.heap.size w c:=tF a 1 b
theorem acF{s t:Bz}(h:s≠t):(s.toList==t.toList)=Y:=by
 rw[fC];intro a;apply h;rw[iH,iH]at a;cases s;simp_all
theorem alJ{s t:Bz}(h:s=t):(s.toList==t.toList)=X:=U
theorem aeK(w t u b c)(B:bv w t b)(C:bv w u c)(o:M b<=1048576)(F:M c<=1048576):
  A1 T 262 #[t,u] w λe a=>e=V (A3<|decide (b=c))/\A2 w.heap.size w a:=by
 obtain⟨x,z,rfl⟩:=B.form;obtain⟨y,A,rfl⟩:=C.form;by_cases G:M b=M c
 .have⟨i,n⟩:=aw<|decide (b=c);rw[n];have⟨f,q⟩:=aw<|M b;have r:M c=f:=O;have j:=jG q r n;have l:B0 (bv w (Ax x f z) b/\bv w (Ax y f A) c):=⟨U,U⟩;rw[q]at o⊢;rw[r];go_in;go_wp21
  go_loopw [13] (λk wr=>∃d:Nat,d<=f/\k=zI d/\B0 (∀a,a<d->b[a]?=c[a]?)/\A2 w.heap.size w wr) (λk _=>f-(Br k).toNat)
  .exact⟨0,O,R,λa E=>O,blR⟩
  .
   obtain⟨d,_,rfl,m,h⟩:=hrel;by_cases p:d<f
   .have⟨L,H⟩:=bg j.1 p;have⟨ad,K⟩:=bg j.2.1 p;obtain⟨_,rfl,_⟩:=(l.1.below h).get H;obtain⟨_,rfl,_⟩:=(l.2.below h).get K;by_cases s:L=ad
    .subst s;have v:B0 (∀a,a<d+1->b[a]?=c[a]?):=λa E=>by
      obtain g|g:=cG a d
      .exact m a g
      grind
     go_wp21
     go_quiet (fail)
     go_wp21
     exact⟨⟨_,O,by go_num,v,nB h _⟩,by simp[Br];omega⟩
    .have v:B0 (i=Y):=by
      show i=Y;grind
     have E:=acF s;go_wp21
     go_quiet (fail)
     go_wp21
     go_ret;exact⟨by rw[v.out];rfl,nB h _⟩
   .obtain rfl:d=f:=O;have s:B0 (i=X):=by
     show i=X;rw[<-j.out.2.2];refine eI<|List.ext_getElem? λa=>?_;obtain g|g:=cG a d
     .exact m a g
     grind
    go_wp21
    go_ret;exact⟨by rw[s.out];rfl,h⟩
 .rw[bq (λe=>G (by rw[e]))];have a:¬(M b:Int)=(M c:Int):=O;generalize M b=d at a o⊢;generalize M c=f at a F⊢;exact giX blR
def Hh(a N:Nd):Bool:=decide (a.op=N.op/\a.n=N.n/\a.x=N.x/\a.nm=N.nm)
theorem Hi(w b N K al L ak)(ad:bv w K b.nm)(af:bv w L N.nm)(ao:∃a n c,al=Ax a n c)(an:∃a n c,ak=Ax a n c)(ap:M b.nm<=1048576)(ar:M N.nm<=1048576):
  A1 T 171 #[jq b K al,jq N L ak] w λe d=>e=V (A3<|Hh b N)/\A2 w.heap.size w d:=by
 have k:=λg h=>((ay _ w).alloc eE g).alloc I h;have f:=λg h=>aeK _ K L _ _ (ad.below<|k g h) (af.below<|k g h) ap ar;obtain⟨_,_,rfl⟩:=ad.form;obtain⟨_,_,rfl⟩:=af.form;obtain⟨_,_,_,rfl⟩:=ao;obtain⟨_,_,_,rfl⟩:=an;unfold jq Hh;generalize M b.nm=av at f⊢;generalize M N.nm=ax at f⊢;by_cases d:b.op=N.op
 .by_cases i:b.n=N.n
  .by_cases j:b.x=N.x
   .have e:decide (b.op=N.op/\b.n=N.n/\b.x=N.x/\b.nm=N.nm)=decide (b.nm=N.nm):=by
     grind
    rw[e];have H:=alJ j;generalize decide (b.nm=N.nm)=a0 at f⊢;obtain⟨m,l,t,p,s,q,u,r,o⟩:=b;obtain⟨y,v,F,A,E,B,G,C,z⟩:=N;simp only at d i H⊢;go_in;go_wp2_with (go_at_call 262;apply(f _ _).mono;rintro e _ ⟨rfl,am⟩);go_ret;exact⟨R,(k _ _).trans<|am.mono lr⟩
   .rw[bq (λam=>j am.2.2.1)];have H:=acF j;obtain⟨m,l,t,p,s,q,u,r,o⟩:=b;obtain⟨y,v,F,A,E,B,G,C,z⟩:=N;simp only at d i H⊢;exact giS
  .rw[bq O];obtain⟨m,l,t,p,s,q,u,r,o⟩:=b;obtain⟨y,v,F,A,E,B,G,C,z⟩:=N;simp at d i⊢;exact giS
 .rw[bq O];obtain⟨m,l,t,p,s,q,u,r,o⟩:=b;obtain⟨y,v,F,A,E,B,G,C,z⟩:=N;simp at d⊢;exact giS
inductive Ls (E:Pe) (C:Nat->Fo->Nat->Prop):Nat->Nat->Fo->Nat->Prop where|stop {k:Nat}:(E.tk k).k≠46->k<E.n->Ls E C 0 k .nil k|go {m k k1 j:Nat}{x R1:Fo}:(E.tk k).k=46->k<E.n->C (k+1) x k1->Ls E C m k1 R1 j->Ls E C (m+1) k (x.app R1) j
inductive Ss (E:Pe) (C:Nat->Fo->Nat->Prop):Nat->Nat->Fo->Nat->Prop where|stop {k:Nat}:k<E.n->Ss E C 0 k .nil k|sep {m k j:Nat}{R1:Fo}:(E.tk k).k=5->k<E.n->Ss E C m (k+1) R1 j->Ss E C (m+1) k R1 j|go {m k k1 j:Nat}{x R1:Fo}:(E.tk k).k≠5->(E.tk k).k≠6->(E.tk k).k≠43->k<E.n->C k x k1->Ss E C m k1 R1 j->Ss E C (m+1) k (x.app R1) j
inductive Es (E:Pe) (C:Nat->Fo->Nat->Prop):Nat->Nat->Fo->Nat->Prop where|stop {k:Nat}:(E.tk k).k=43->k<E.n->Es E C 0 k .nil k|com {m k k1 j:Nat}{x R1:Fo}:(E.tk k).k≠43->k<E.n->C k x k1->(E.tk k1).k=46->k1<E.n->Es E C m (k1+1) R1 j->Es E C (m+1) k (x.app R1) j|last {m k k1 j:Nat}{x R1:Fo}:(E.tk k).k≠43->k<E.n->C k x k1->(E.tk k1).k≠46->k1<E.n->Es E C m k1 R1 j->Es E C (m+1) k (x.app R1) j
def szL{a b c:Fo}{n}(h:a.app b=c)(d:n+c.sz<=m):n+(a.sz+b.sz)<=m:=by rw[<-h,Fo.sz_app]at d;exact d
def Sq.six{E a L c i b D l}{B:Bxs}{R1 t m n o p q r}(S:B0 (Sq E W a L w i c D l ((b,t,#[m,n,o,p,q,r])::B) R1))(d e f g h j):∃k,((((((w.setCell (aj b 0) d).setCell ⟨b,1,A5⟩ e).setCell ⟨b,2,A5⟩ f).setCell ⟨b,3,A5⟩ g).setCell ⟨b,4,A5⟩ h).setCell ⟨b,5,A5⟩ j)=k/\B0 (Sq E W a L k i c D l ((b,t,#[d,e,f,g,h,j])::B) R1):=⟨_,R,Sq.set<|Sq.set<|Sq.set<|Sq.set<|Sq.set<|Sq.set S⟩
section
variable {E : Pe} {i j : Nat}
def aqk{x R1 k}(L:CX E 0 i x k)(K:Ls E (CX E 0) m k R1 j):CLx E i (x.app R1) j:=by
 intro z t v F r;have a:=ah F;go_in;go_wp2_with fail;apply Sq.cq a L (by rw[Fo.sz_app]at r;omega);rintro e _ o _ _ ⟨n,rfl,rfl,rfl⟩ a;go_wp2;go_loopg [3,4] m (λgk am al wr=>∃k D f s b d c w l,am=zI s/\al=Ax b d c/\B0 (Ls E (CX E 0) gk k f j/\Sq E z t v wr k w D l [] [(3,Ax b d c,l.map iv)]/\D.app f=x.app R1))
 .exact⟨k,_,R1,n,_,1,1,_,_,R,R,ah K,Sq.lit a,R⟩
 .
  obtain⟨_,D,f,s,b,d,c,o,l,rfl,rfl,u⟩:=hrel;have⟨G,a,p⟩:=u.out;have ad:=szL p r;have q:=ah p;cases G with
  |stop g h=>
   go_wp2_with fail;refine dd (Sq.isN a g h) λe a=>?_;go_wp2;go_ret;rw[<-q.out,Fo.app_nil];exact⟨Ax b d c,_,_,_,R,⟨b,c,by rw[<-Sq.rn a,dm],R⟩,a⟩|@go ak _ af _ an y g h B C=>
   rw[Fo.sz_app]at ad;go_wp2_with fail;refine dd (Sq.isY a g h) λe a=>?_;go_wp2_with fail;apply Sq.cq a B (by have:=Sq.ln a;omega);rintro e _ o _ _ ⟨n,rfl,rfl,rfl⟩ a;have H:=Sq.ln a;rw[Fo.sz_app]at H;go_wp2_with (at_builtin;apply Sq.app a O R _ _ R R R R;intro _ A e a);go_roundg ak
   case measure=>omega
   exact⟨af,_,y,n,_,_,A,_,_,R,R,ah C,a,by rw[Fo.app_app];exact q⟩
theorem ag3{R1 u}(ao:u=43\/u=6)(G:(E.tk j).k=u)(L:Ss E (CI E 134 #[pV E]) m i R1 j):CL E 43 #[pV E,zI u] i R1 j:=by
 intro z t p C H;have a:=ah C;go_in;go_wp2;go_loopg [5,6] m (λgk al _ wr=>∃k D h d g e w o,al=Ax d g e/\B0 (Ss E (CI E 134 #[pV E]) gk k h j/\Sq E z t p wr k w D o [] [(3,Ax d g e,o.map iv)]/\D.app h=R1))
 .exact⟨i,_,R1,A5,0,0,p,_,R,ah L,Sq.nil a,R⟩
 .
  obtain⟨ak,D,h,d,g,e,x,o,rfl,v⟩:=hrel;have⟨F,a,r⟩:=v.out;have ad:=szL r H;have s:=ah r;cases F with
  |stop b=>
   have q:(u !=u)=Y:=I;go_wp2_with fail;refine dd (Sq.kind a G b) λc a=>?_;go_wp2;go_ret;rw[<-s.out,Fo.app_nil];exact⟨Ax d g e,_,_,_,R,⟨d,e,by rw[<-Sq.rn a,dm],R⟩,a⟩|@sep n _ _ _ f b l=>
   have y:=ah l;have q:((5:Int)!=u)=X:=U;go_wp2_with fail;refine dd (Sq.kind a f b) λc a=>?_;go_wp2_with fail;refine dd (Sq.isY a f b) λc a=>?_;go_wp2;go_roundg n
   all_goals grind|@go n _ af _ ap y f am an b B l=>
   rw[Fo.sz_app]at ad;have q:((E.tk ak).k !=u)=X:=U;go_wp2_with fail;refine dd (Sq.kind a R b) λc a=>?_;go_wp2_with fail;refine dd (Sq.isN a f b) λc a=>?_;go_wp2_with fail;apply Sq.cq a B (by have:=Sq.ln a;omega);rintro c _ x _ _ ⟨_,rfl,rfl,rfl⟩ a;have K:=Sq.ln a;rw[Fo.sz_app]at K;go_wp2_with (at_builtin;apply Sq.app a O R _ _ R R R R;intro _ A c a);go_roundg n
   case measure=>omega
   exact⟨af,_,y,_,_,A,_,_,R,ah l,a,by rw[Fo.app_app];exact s⟩
theorem zC{b}(H:(E.tk i).k=1)(ak:i<E.n)(L:Kd E.tk E.n (i+1) b j):CM E i ((E.tk i).x::b) j:=by
 intro y s o C _;have a:=ah C;have w:=ah L;have al:=a.lo.2.2.2;go_in;go_wp2_with fail;refine dd (Sq.take a H) λd a=>?_;have a:=Sq.lit1 (xs:=[A0 (E.tk i).x]) (t:=9)<|Sq.box (cs:=rE 1<|E.tk i) (t:=58) a;go_wp2;go_loopg [4] (M b) (λgk ad wr=>∃k D h e n g r,ad=Ax e n g/\gk=M h/\B0 (Kd E.tk E.n k h j/\Sq E y s o wr k o .nil [] [(d.heap.size,58,rE 1<|E.tk r)] [(9,Ax e n g,D.map Value.string)]/\D++h=(E.tk i).x::b/\i+2*M D=k+1))
 .exact⟨_,[(E.tk i).x],b,_,1,1,i,R,R,w,a,R,I⟩
 .
  obtain⟨c,D,h,e,n,g,r,rfl,_,v⟩:=hrel;have⟨F,a,G,_⟩:=v.out;have af:=ah G;cases F with
  |stop m p=>
   go_wp2_with fail;refine dd (Sq.isN a m p) λd a=>?_;go_wp2;go_ret;obtain rfl:D=(E.tk i).x::b:=U;exact⟨_,_,_,_,R,⟨e,g,by rw[<-Sq.rn a,dm];rfl,R,R⟩,Sq.fin a⟩
  |@go _ _ q m p A B=>
   have u:=ah B;have K:n<=50000000:=by have:=Sq.rn a;grind
   go_wp2_with fail;refine dd (Sq.isY a m O) λd a=>?_;go_wp2_with fail;refine dd (Sq.take a A) λd a=>?_;have am:=Sq.rd a;have⟨_,_,a⟩:=Sq.six a (iv 1) (iv (E.tk<|c+1).f) (iv (E.tk<|c+1).t) (iv (E.tk<|c+1).l) (iv (E.tk<|c+1).n)<|A0 (E.tk<|c+1).x;have an:=Sq.rd a;go_wp2_with (at_builtin;refine Sq.apG tS a K R R _ _ R R R R ?_;intro _ z d a);go_roundg (M q)
   case measure=>grind
   exact⟨_,D++[(E.tk _).x],q,_,_,z,_,R,R,u,by rw[ej];exact a,U,U⟩
theorem alK{Ex}(h:(E.tk i).k=42)(a2:i<E.n)(al:Es E (CI E 334 #[pV E]) m (i+1) Ex j)(s:(E.tk j).k=43)(a3:j+1<E.n):CU E i (one (lF 35 (E.tk i) (E.tk j).t) Ex) (j+1):=by
 intro B v d L af;have a:=ah L;have y:=ah al;go_in;go_wp2_with fail;refine dd (Sq.kind a h) λc a=>?_;go_wp2_with fail;refine dd (Sq.kind a h) λc a=>?_;go_wp2_with fail;refine dd (Sq.take a h) λc a=>?_;go_wp2_with fail;apply ez<|atC (b:=Y) Z _;go_wp2_with fail;refine dd (Sq.node<|Sq.box a) λc a=>?_;go_wp2_with fail;rw[dh]at af;go_loopg [10] m (λgk a5 wr=>∃k D e f n g z l,B0<|Es E (CI E 334 #[pV E]) gk k e j/\Sq E B v d wr k z D l [(c.heap.size,37,ndA 35 0 0 zE0 (E.tk i) s0<|Ax f n g)] [(3,Ax f n g,l.map iv)]/\D.app e=Ex)
 .exact⟨_,_,Ex,A5,0,0,d,_,y,Sq.nil<|Sq.drop1<|Sq.box a,R⟩
 .
  obtain⟨an,D,e,f,n,g,o,l,x⟩:=hrel;have⟨ad,a,q⟩:=x.out;have am:=szL q (O:M d+Ex.sz<=49999999);have r:=ah q;cases ad
  case stop F G=>
   go_wp2_with fail;refine dd (Sq.kind a s) λc a=>?_;go_wp2_with fail;refine dd (Sq.take a s) λc a=>?_;have u:=Sq.rd a;go_wp2_with fail;apply(Sq.add a (.inl ⟨R,R⟩) (.inr<|.head _) (by have:=Sq.ln a;omega)).mono;rintro ar c ⟨ap,rfl,o,a⟩;go_wp2;go_ret;obtain rfl:D=Ex:=by rw[<-r.out,Fo.app_nil]
   exact⟨_,_,_,_,R,⟨_,R,R,R⟩,Sq.fin a⟩
  all_goals
   rename_i ao a4 a6 A p a0 _ F G H K;rw[Fo.sz_app]at am;have w:=ah K;have a1:((E.tk an).k !=43)=X:=U;go_wp2_with fail;refine dd (Sq.kind a R) λc a=>?_;go_wp2_with fail;apply Sq.cq a H (by have:=Sq.ln a;omega);rintro c _ o _ _ ⟨ap,rfl,rfl,rfl⟩ a;have ak:=Sq.ln a;rw[Fo.sz_app]at ak;have u:=Sq.rd a;go_wp2_with (at_builtin;apply Sq.app a O R _ _ R R R R;intro ax C c a;have u:=Sq.rd a);first
    |refine dd (Sq.isY (Sq.set a) p) λc a=>?_|refine dd (Sq.isN (Sq.set a) p) λc a=>?_
   go_wp2;go_roundg ao
   case measure=>omega
   exact⟨_,_,A,_,_,C,_,_,w,a,by rw[Fo.app_app];exact r⟩
end
