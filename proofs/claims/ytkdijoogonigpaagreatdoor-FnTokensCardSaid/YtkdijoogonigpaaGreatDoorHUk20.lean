import Derived.Test.YtkdijoogonigpaaGreatDoorHUk13
import Derived.Test.YtkdijoogonigpaaGreatDoorHUk18
set_option linter.all false
set_option maxRecDepth 100000
set_option maxHeartbeats 12800000
open Option renaming none->M,some->N
open Go renaming World->O,Value->A2,Calls->B0,TypeId->B2
open Go.IntKind renaming i64->Q
open Go.Value renaming int->S,slice->X,int->Ax,ownBlock->A0,slice->B1
open Bool renaming false->T,true->V
open Go.RowKit renaming Below->U,intOf->Y,Hid->Br
open Go.Proofs.Tryz renaming prog->Z
namespace Go.Proofs.YtkdijoogonigpaaGreatDoor
open Go.RowKit
theorem sG:∀{f:Nat}{st:List Int}{t:Int}{n:Nat}{c:List Int}{b:Option Bool}{m:Nat},iC f st t n=N (c,b,m)->n<=m
 |0,_,_,_,_,_,_,a=>by simp[iC]at a
 |f+1,[],t,n,c,b,m,a=>by
  simp only[iC,io,oE]at a;omega
 |f+1,s::r,t,n,c,b,m,a=>by
  by_cases e:s<100
  ·have:=(uH a e).2.2;omega
  ·rcases kG a (by omega) with⟨_,d⟩|⟨_,_,_,d⟩
   ·have:=sG d;omega
   ·omega
structure vF (w:O) (base mb:Nat) (C:List (Int×Int)) (t:Int) (Res:List Int×Bool) (k:Nat) (stk:List Int) (top:Int) (D:List (Int×Int)) (W:O):Prop where
 m:od W base mb (C++D)
 s:iE (C++D) top stk
 o:Ho stk
 kp:Kp mb w W
 bl:U base w W
 d:D.length<=20
 ph:(D=[]/\eG stk t=Res/\stk.length+9<=k)\/∃cur r f lo b m,stk=cur++r/\iC f cur t D.length=N (lo,N b,m)/\(lo++r,b)=Res/\m<=20/\f<=k
theorem vF.nil{w:O}{base mb:Nat}{C:List (Int×Int)}{t:Int}{a:List Int×Bool}{k:Nat}{j:Int}{D:List (Int×Int)}{d:O}(h:vF w base mb C t a k [] j D d):a=([],T):=by
 rcases h.ph with⟨_,f,_⟩|⟨e,o,c,m,l,n,g,b,_⟩
 ·rw[<-f];rfl
 ·have i:e=[]:=(List.append_eq_nil_iff.1 g.symm).1;subst i;cases c with
  |zero=>simp[iC]at b
  |succ c=>simp[iC]at b
theorem vF.tok{w:O}{base mb:Nat}{C:List (Int×Int)}{t:Int}{c:List Int×Bool}{k:Nat}{s:Int}{f:List Int}{n:Int}{D:List (Int×Int)}{g:O}(l:vF w base mb C t c k (s::f) n D g)(e:s<100):c=(f,decide (s=t)):=by
 rcases l.ph with⟨_,h,_⟩|⟨d,r,b,p,o,q,i,a,j,_⟩
 ·rw[<-h];exact xD e
 ·cases d with
  |nil=>
   cases b with
   |zero=>simp[iC]at a
   |succ b=>simp[iC]at a
  |cons u d=>
   obtain⟨rfl,rfl⟩:=yG i;cases b with
   |zero=>simp[iC]at a
   |succ b=>
    obtain⟨rfl,m,_⟩:=uH a e;rw[<-j,dr m];rfl
theorem vF.no{w:O}{base mb:Nat}{C:List (Int×Int)}{t:Int}{h:List Int×Bool}{k:Nat}{s:Int}{m:List Int}{z:Int}{D:List (Int×Int)}{n:O}(j:vF w base mb C t h k (s::m) z D n)(x:1<=t)(y:t<=78)(d:100<=s)(g:(xE s t).2=T):h=(m,T):=by
 rcases j.ph with⟨_,q,_⟩|⟨i,E,c,v,p,A,r,a,u,_⟩
 ·have l:¬((xE s t).1=[]/\(xE s t).2=V):=by rw[g];simp
  obtain⟨v,p,B,a,_⟩:=C9 d (j.o s (dt ..)) x y l;rw[<-q,so d l a];rcases kG a d with⟨b,_⟩|⟨_,e,f,_⟩
  ·rw[g]at b;cases b
  ·rw[e,dr f];rfl
 ·cases i with
  |nil=>
   cases c with
   |zero=>simp[iC]at a
   |succ c=>simp[iC]at a
  |cons F i=>
   obtain⟨rfl,rfl⟩:=yG r;cases c with
   |zero=>simp[iC]at a
   |succ c=>
    rcases kG a d with⟨b,_⟩|⟨_,e,f,_⟩
    ·rw[g]at b;cases b
    ·rw[<-u,e,dr f];rfl
theorem vF.step{w:O}{base mb:Nat}{C:List (Int×Int)}{t:Int}{z:List Int×Bool}{k:Nat}{s:Int}{c:List Int}{a4:Int}{D:List (Int×Int)}{I:O}(p:vF w base mb C t z k (s::c) a4 D I)(F:1<=t)(G:t<=78)(e:100<=s)(hx:(xE s t).2=V){E:List (Int×Int)}{y:Int}{f:O}(q:E.length=(xE s t).1.length)
  (am:od f base mb (C++D++E)) (av:iE (C++D++E) y ((xE s t).1++c)) (u:Kp mb w f) (r:U base w f):D.length+(xE s t).1.length<=20/\∃B,B<k/\vF w base mb C t z B ((xE s t).1++c) y (D++E) f:=by
 have A:=p.o s (dt ..);have a0:=(Ih e A F G).1;have j:Ho ((xE s t).1++c):=fun H hx=>by
  rcases List.mem_append.1 hx with hx|hx
  ·exact a0 H hx
  ·exact p.o H (dJ _ hx)
 have v:od f base mb (C++(D++E)):=by rw[<-dG];exact am
 have i:iE (C++(D++E)) y ((xE s t).1++c):=by rw[<-dG];exact av
 have g:(D++E).length=D.length+(xE s t).1.length:=by rw[aH,q]
 rcases p.ph with⟨af,n,al⟩|⟨m,a3,d,x,l,a1,J,b,K,L,a5⟩
 ·subst af;by_cases h:(xE s t).1=[]/\(xE s t).2=V
  ·rw[h.1]at q i j g⊢;have ak:E=[]:=jd (by simpa using q);subst ak;refine⟨by simp,c.length+9,by simp only[db]at al;omega,v,i,j,u,r,by simp,.inl ⟨rfl,?_,ag _⟩⟩;rw[jF,<-n,xC e h]
  ·obtain⟨x,l,a2,b,ap⟩:=C9 e A F G h;rw[so e h b]at n;rcases kG b e with⟨_,a⟩|⟨a,_⟩
   ·rw[fL]at a;have an:=sG a;refine⟨by simp only[gH];omega,7,by omega,v,i,j,u,r,by rw[g];simp only[gH];omega,.inr ⟨(xE s t).1,c,7,x,l,a2,rfl,?_,n,ap,ag _⟩⟩;rw[g];exact a
   ·rw[hx]at a;cases a
 ·cases m with
  |nil=>
   cases d with
   |zero=>simp[iC]at b
   |succ d=>simp[iC]at b
  |cons a6 m=>
   obtain⟨rfl,rfl⟩:=yG J;cases d with
   |zero=>simp[iC]at b
   |succ d=>
    rcases kG b e with⟨_,a⟩|⟨a,_⟩
    ·have an:=sG a;refine⟨by omega,d,by omega,v,i,j,u,r,by rw[g];omega,.inr ⟨(xE s t).1++m,a3,d,x,l,a1,by rw[dG];rfl,?_,K,L,ag _⟩⟩;rw[g];exact a
    ·rw[hx]at a;cases a
def oq(w:O)(base mb:Nat)(C:List (Int×Int))(b:List Int×Bool)(e:Ending)(a:O):Prop:=
 ∃(c:Int) (D:List (Int×Int)),e= .returned (.tuple #[S Q c,.bool b.2])/\od a base mb (C++D)/\iE (C++D) c b.1/\D.length<=20/\Kp mb w a/\U base w a
theorem ry(w:O)(base mb:Nat)(C:List (Int×Int))(st:List Int)(L t:Int)(p:od w base mb C)(b3:iE C L st)(bE:Ho st)(a7:1<=t)(a8:t<=78)(ds:C.length<=50000000):
  B0 Z 104 #[.pointer (N ⟨mb,0,M⟩),S Q L,S Q t] w (oq w base mb C (eG st t)):=by
 obtain⟨B,an⟩:=aD (eG st t);rw[an];have c2:base<=w.heap.size:=by obtain⟨b9,cm,_⟩:=p.ex;have:=au cm;have:=p.lo;omega
 have bj:Br (vF w base mb C t B (st.length+9) st L [] w):=⟨by rw[fL];exact p,by rw[fL];exact b3,bE,Kp.refl _ _,aq _ _,by simp,.inl ⟨rfl,an,ag _⟩⟩;clear p b3 bE an;go_in;go_wp2_with fail;go_loopg [1] (st.length+9) (fun c3 bf wr=>∃(a6:List Int) (q:Int) (D:List (Int×Int)),bf= S Q q/\Br (vF w base mb C t B c3 a6 q D wr))
 case atStart=>exact⟨st,L,[],rfl,bj⟩
 case round=>
  obtain⟨a6,q,D,rfl,a⟩:=hrel;clear bj;cases a6 with
  |nil=>
   have am:q= -1:=a.out.s;subst am;have j:=ar a.out.nil;go_wp2_with fail;go_ret2;refine⟨-1,D,?_,a.out.m,?_,a.out.d,a.out.kp,a.out.bl⟩
   ·rw[j.out];rfl
   ·rw[j.out];exact a.out.s
  |cons e a9=>
   obtain⟨f,k,ct,ap,r⟩:=a.out.s;subst ct;obtain⟨b9,v,I⟩:=a.out.m.ex;have cu:=(List.getElem?_eq_some_iff.1 ap).1;obtain⟨g,al,rfl⟩:∃g al,b9= X (N ⟨g,0,M⟩) (C++D).length al:=by
    rcases cL I with⟨hz,_⟩|hz
    ·omega
    ·exact hz
   have av:=IC _ f _ ap;have cq:=E6 (C++D);have bo:wr.cell? ⟨g,f*2,M⟩=N (S Q e):=by rw[I.cellAt (f*2) (by omega)];exact av.1
   have bp:wr.cell? ⟨g,f*2+1,M⟩=N (S Q k):=by rw[I.cellAt (f*2+1) (by omega)];exact av.2
   obtain⟨a3,H⟩:=aD ((C++D).length);have dc:=a.out.d;have d2:a3<=50000020:=by rw[<-H,aH];omega
   rw[H]at v cu;have bn:wr.cell? ⟨mb,0,M⟩=N (X (N ⟨g,0,M⟩) a3 al):=by rw[ay _ _ _ _ _ _ v];rfl
   obtain⟨u,G⟩:∃u:Addr,(⟨g,0,M⟩:Addr)=u:=⟨_,rfl⟩;have ck:wr.cell? (u.add (f*2))=N (S Q e):=by rw[<-G,show((⟨g,0,M⟩:Addr).add (f*2))=⟨g,f*2,M⟩ by unfold Addr.add;split<;>simp_all];exact bo
   have cl:wr.cell? ⟨(u.add (f*2)).block,(u.add (f*2)).off+1,M⟩=N (S Q k):=by rw[<-G,show((⟨g,0,M⟩:Addr).add (f*2))=⟨g,f*2,M⟩ by unfold Addr.add;split<;>simp_all];exact bp
   rw[G]at bn;have df:(f:Int)<(a3:Int):=by omega
   have dd:(0:Int)<=(f:Int):=by omega
   have dx:=au v;have c9:base<=wr.heap.size:=bA c2 a.out.bl.size;have A:=gy H v r;clear bo bp av cq I v H G ap r;by_cases cF:e<100
   ·have j:Br (B=(a9,decide (e=t))):=a.out.tok cF;have cr:∀a4,U base wr (wr.alloc a4).drew:=fun a4=>bq ((aq _ wr).alloc (by omega) a4);have da:(wr.alloc (.cells #[S Q e,S Q k] 146)).cell? ⟨wr.heap.size,0,M⟩=N (S Q e):=by rw[ay _ _ _ _ _ _ (ax wr _)];rfl
    go_wp2_with fail;go_region_held3 (fun c6=>c6.cell? ⟨wr.heap.size,0,M⟩=N (S Q e)) (go_keep) (fail)
    go_wp2_with fail;go_ret2;have o:U wr.heap.size wr (wr.alloc (.cells #[S Q e,S Q k] 146)).drew:=bq (dF wr _);refine⟨k,D,?_,a.out.m.below o,?_,a.out.d,a.out.kp.trans (Kp.of_below o),a.out.bl.trans (cr _)⟩
    ·rw[j.out];rfl
    ·rw[j.out];exact A.out.2.2
   ·have K:100<=e:=by omega
    have b4:e<=133:=a.out.o e (dt ..);have x:=fun w=>zt w e t K b4;have b5:=(Ih K b4 a7 a8).2;obtain⟨s,J⟩:=aD ((xE e t).1);obtain⟨c5,a1⟩:=aD ((xE e t).2);unfold gu at x;rw[J,a1]at x;rw[J]at b5;obtain⟨h,a0⟩:=aD s.length;rw[a0]at x b5;have n:=gy J a1 a0;clear J a1 a0;have o:=dF wr (.cells #[S Q e,S Q k] 146);go_wp2_with fail;have cb:=ar o;refine(x _).mono ?_;rintro am y ⟨a5,b7,rfl,b0,bs⟩;have E:U wr.heap.size wr y:=o.trans (bs.mono o.size);have d3:=E.size;have l:Br (od y base mb (C++D)/\Kp mb w y/\U base w y/\y.ownsRow base 3 1 (X a5 h b7) h (s.map (Ax Q))):=
     ⟨a.out.m.below E,a.out.kp.trans (Kp.of_below E),a.out.bl.trans (E.mono (by omega)),uF b0 (by simp;omega)⟩
    clear x o cb b0 bs bn ck cl;cases c5 with
    |false=>
     have j:Br (B=(a9,T)):=a.out.no a7 a8 K n.out.2.1;go_wp2_with fail;go_ret2;refine⟨k,D,?_,l.out.1,?_,a.out.d,l.out.2.1,l.out.2.2.1⟩
     ·rw[j.out];rfl
     ·rw[j.out];exact A.out.2.2
    |true=>
     have d0:(C++D).length<=50000020:=by rw[A.out.1];omega
     go_wp2_with fail;go_loopw [1,11] (fun bf bd af=>∃(b:Nat) (q:Int) (i:List (Int×Int)),b<=h/\bd= S Q ((b:Int)-1)/\bf= S Q q/\Br (i.length=h-b/\od af base mb (C++D++i)/\iE (C++D++i) q (s.drop b++a9)/\Kp mb w af/\U base w af/\af.ownsRow base 3 1 (X a5 h b7) h (s.map (Ax Q)))) (fun _ bd _=>(Y bd+1).toNat)
     case atStart=>
      refine⟨h,k,[],ag _,rfl,rfl,by simp,?_,?_,l.out.2.1,l.out.2.2.1,l.out.2.2.2⟩
      ·rw[fL];exact l.out.1
      ·rw[fL,qv (by rw[n.out.2.2];exact ag _)];exact A.out.2.2
     case round=>
      obtain⟨b,bb,i,dg,rfl,rfl,c⟩:=hrel;cases b with
      |zero=>
       have d1:¬(0:Int)<=((0:Nat):Int)-1:=by omega
       have r:=c.out.2.2.1;rw[jI,<-n.out.1]at r;obtain⟨_,c4,cv,b8⟩:=a.out.step a7 a8 K n.out.2.1 (by rw[n.out.1,n.out.2.2];exact c.out.1) c.out.2.1 r c.out.2.2.2.1 c.out.2.2.2.2.1;have cc:=ar b8;clear b8 r;go_wp2_with fail;go_roundg c4
       case measure=>exact cv
       case rel=>exact⟨_,bb,_,rfl,cc⟩
      |succ b=>
       have cf:(((b+1:Nat)):Int)-1=(b:Int):=by omega
       rw[cf];have dk:(0:Int)<=(b:Int):=by omega
       have dn:(b:Int)<(h:Int):=by omega
       obtain⟨z,hz⟩:=eA n.out.2.2 (show b<h by omega);obtain⟨F,cs⟩:∃F,a5=N ⟨F,0,M⟩:=by
        rcases cL c.out.2.2.2.2.2 with⟨p,_⟩|⟨F,c7,p⟩
        ·omega
        ·cases p;exact⟨_,rfl⟩
       subst cs;have c8:wr.cell? ⟨F,b,M⟩=N (S Q z):=by rw[c.out.2.2.2.2.2.cellAt b (by omega),dj,hz];rfl
       have cn:(C++D++i).length<=100000000:=by rw[aH,c.out.1];omega
       have b6:=vq wr base mb (C++D++i) bb z c.out.2.1 cn;have a2:=c.out.2.2.1.push z;have bt:s.drop b=z::s.drop (b+1):=by
        have bw:=List.getElem?_eq_some_iff.1 hz;rw[lB bw.1,bw.2]
       have ca:=ar bt;obtain⟨ak,br⟩:∃ak:Int,(((C++D++i).length:Nat):Int)=ak:=⟨_,rfl⟩;rw[br]at b6 a2;have ce:=ar a2;clear a2 bt br hz;go_wp2_with (go_at_call 133;refine b6.mono ?_;rintro am d5 ⟨rfl,cy,bx,cp⟩);refine⟨⟨b,ak,i++[(z,bb)],by omega,rfl,rfl,?_,?_,?_,c.out.2.2.2.1.trans bx,c.out.2.2.2.2.1.trans cp,?_⟩,by simp[Y]⟩
       ·rw[aH,c.out.1];simp;omega
       ·rw[<-dG];exact cy
       ·rw[<-dG,ca.out];exact ce.out
       ·obtain⟨d4,c1,_⟩:=c.out.2.1.ex;exact bx.row c1 c.out.2.2.2.2.2 (by decide) (by decide)
theorem aa6{w:O}{base:Nat}{e:B2}{size c b n d:Nat}{a i:List A2}(h:a.length=n*size)
  (j:w.ownsRow base e size (X (N ⟨c,0,M⟩) (n+d) b) (n+d) (a++i)):w.ownsRow base e size (X (N ⟨c,0,M⟩) n b) n a:=by
 obtain⟨_,l⟩:=j;rcases l with⟨k,_⟩|⟨u,t,f,s,o,p,v,m,q,r⟩
 ·cases k
 ·cases s;refine⟨h,.inr ⟨c,b,f,rfl,o,p,by omega,m,q,?_⟩⟩;have g:(f.toList.take ((n+d)*size)).take (n*size)=(a++i).take (n*size):=by rw[r]
  rw[List.take_take,ze (Nat.mul_le_mul_right _ (by omega))]at g;rw[g,<-h];exact take_len _ _
theorem Fu{w:O}{base:Nat}{e:B2}{size b a n:Nat}{h:List A2}(c:w.ownsRow base e size (X (N ⟨b,0,M⟩) n a) n h):n<=a:=by
 rcases c.2 with⟨d,_⟩|⟨k,i,j,g,m,o,f,l,p,q⟩
 ·cases d
 ·cases g;exact f
def iF(st:List Int):Nat->List Int
 |0=>[]
 |j+1=>if(eG st ((j:Int)+1)).2=V then iF st j++[(j:Int)+1] else iF st j
def BG(st:List Int):List Int:=iF st 78
theorem pm(st:List Int):∀j,(iF st j).length<=j
 |0=>ag _
 |j+1=>by
  have:=pm st j;rw[iF];split
  ·rw[aH];simp;omega
  ·omega
theorem od.put{a:O}{base mb:Nat}{C:List (Int×Int)}{j:A2}(f:a.heap[mb]?=N (.cells #[j] 123 (0,0)))(i:base<=mb){v:A2}(d:a.ownsRow base 146 2 v C.length (Hp C)):od (a.setCell ⟨mb,0,M⟩ v) base mb C:=by
 refine⟨⟨v,bK _ mb 0 _ _ _ f,?_⟩,i⟩;refine d.kept (row:=N mb) ⟨rfl,rfl,rfl,by simp[World.setCell],fun p o h=>bC _ _ _ _ (fun b=>h (by rw[b]))⟩ ?_;rcases cL d with⟨_,rfl⟩|⟨g,k,rfl⟩
 ·exact .inl rfl
 ·refine .inr ?_;intro b;obtain rfl:g=mb:=by simpa [A0] using b
  rcases d.2 with⟨c,_⟩|⟨n,l,m,c,_,e,_⟩
  ·cases c
  ·cases c;rw[f]at e;cases e
theorem Kp.put{mb:Nat}{w a:O}(b:Kp mb w a)(j:Nat)(v:A2):Kp mb w (a.setCell ⟨mb,j,M⟩ v):=
 b.trans ⟨rfl,rfl,rfl,by simp[World.setCell],fun d _ c _=>bC _ _ _ _ c⟩
theorem GD(w:O)(base mb:Nat)(g:od w base mb []):
  B0 Z 129 #[.pointer (N ⟨mb,0,M⟩)] w fun e a=>e= .returned (S Q 1)/\od a base mb [(6, -1),(100,0)]/\Kp mb w a/\U base w a:=by
 have b:=vq w base mb [] (-1) 6 g (by simp);go_in;go_wp2_with fail;refine b.mono ?_;rintro e w1 ⟨rfl,h,j,d⟩;have c:=vq w1 base mb [(6, -1)] 0 100 h (by simp);clear b;simp only[gH,Int.natCast_zero];go_wp2_with fail;refine c.mono ?_;rintro e k ⟨rfl,i,p2,f⟩;clear c;simp only[db,gH,fm,Int.natCast_one];go_wp2_with fail;go_ret;exact⟨rfl,i,j.trans p2,d.trans f⟩
structure aa7 (w:O) (base mb:Nat) (C:List (Int×Int)) (st:List Int) (j:Nat) (vo:A2) (W:O):Prop where
 m:od W base mb C
 kp:Kp mb w W
 bl:U base w W
 row:W.ownsRow w.heap.size 3 1 vo (iF st j).length ((iF st j).map (Ax .i64))
theorem Fv(w:O)(base mb:Nat)(C:List (Int×Int))(st:List Int)(a7:Int)(u:od w base mb C)(bw:iE C a7 st)(bp:Ho st)(cr:0<C.length)(bo:C.length<=50000000):
  B0 Z 131 #[.pointer (N ⟨mb,0,M⟩),.int .i64 a7] w fun e I=>∃a c,e= .returned (.slice a (BG st).length c)/\I.ownsRow w.heap.size 3 1 (.slice a (BG st).length c) (BG st).length ((BG st).map (Ax .i64))/\od I base mb C/\Kp mb w I/\U base w I:=by
 obtain⟨dg,ap,bs⟩:=u.ex;have d6:base<=w.heap.size:=by have:=au ap;have:=u.lo;omega
 have a1:=u.lo;obtain⟨g,F⟩:=aD C.length;obtain⟨t,s,rfl⟩:∃t s,dg= .slice (N ⟨t,0,M⟩) g s:=by
  rcases cL bs with⟨hz,_⟩|hz
  ·omega
  ·rw[<-F];exact hz
 have cm:w.cell? ⟨mb,0,M⟩=N (.slice (N ⟨t,0,M⟩) g s):=by rw[ay _ _ _ _ _ _ ap];rfl
 have b9:aa7 w base mb C st 0 (.slice M 0 0) w:=⟨u,Kp.refl _ _,aq _ _,dB _ _ _ _⟩;have o:=gy F bw bp;have bd:=ar b9;rw[F]at cr bo;obtain⟨c5,c6,c7,c8,da⟩:=fd uj;clear u bs ap b9 F bw bp;go_in;go_wp2_with fail;go_loopw [5,7] (fun cb a8 wr=>∃(b:Nat),b<=78/\a8= .int .i64 ((b:Int)+1)/\(∃a c,∃dc:Nat,cb= .slice a dc c)/\Br (aa7 w base mb C st b cb wr)) (fun _ a8 _=>(79-Y a8).toNat)
 case atStart=>exact⟨0,aG _,rfl,⟨_,_,_,rfl⟩,bd⟩
 case round=>
  obtain⟨b,d2,rfl,⟨z,A,r,rfl⟩,h⟩:=hrel;clear bd cm;by_cases d3:b<78
  ·have G:((b:Int)+1)<=78:=by omega
   have q:=ry wr base mb C st a7 ((b:Int)+1) h.out.m o.out.2.1 o.out.2.2 (by omega) G (by rw[o.out.1];exact bo);obtain⟨ck,am⟩:=aD (eG st ((b:Int)+1));rw[am]at q;obtain⟨b6,a3⟩:=aD ck.2;unfold oq at q;rw[a3]at q;have bb:Br ((eG st ((b:Int)+1)).2=b6):=by show _=_;rw[am];exact a3
   obtain⟨m,an⟩:∃m:Int,(b:Int)+1=m:=⟨_,rfl⟩;have K:=ar an;have d0:m<=78:=by omega
   have dx:1<=m:=by omega
   rw[an]at q⊢;clear am a3 an G;go_wp2_with fail;refine q.mono ?_;rintro e j ⟨d7,D,rfl,b3,_,ct,p2,bf⟩;obtain⟨dk,x,y⟩:=b3.ex;rw[aH,o.out.1,E7]at y;obtain⟨n,k,rfl⟩:∃t s,dk= .slice (N ⟨t,0,M⟩) (g+D.length) s:=by
    rcases cL y with⟨hz,_⟩|hz
    ·omega
    ·exact hz
   have hcut:=aa6 (by rw[E6,o.out.1]) y;have d1:=Fu hcut;have cy:=Fu y;have z0:j.cell? ⟨mb,0,M⟩=N (.slice (N ⟨n,0,M⟩) (g+D.length) k):=by rw[ay _ _ _ _ _ _ x];rfl
   have eb:j.frozen? ⟨mb,0,M⟩=T:=dp _ _ _ _ _ x;have b4:od (j.setCell ⟨mb,0,M⟩ (.slice (N ⟨n,0,M⟩) g k)) base mb C:=od.put x a1 (by rw[o.out.1];exact hcut);obtain⟨ea,bE,_⟩:=h.out.m.ex;have b7:=p2.row bE h.out.row (by decide) (by decide);have b8:(j.setCell ⟨mb,0,M⟩ (.slice (N ⟨n,0,M⟩) g k)).ownsRow w.heap.size 3 1 (.slice z r A) (iF st b).length ((iF st b).map (Ax .i64)):=
    ((Kp.refl mb j).put 0 _).row x b7 (by decide) (by decide)
   have f:Br (aa7 w base mb C st b (.slice z r A) (j.setCell ⟨mb,0,M⟩ (.slice (N ⟨n,0,M⟩) g k))):=
    ⟨b4,(h.out.kp.trans p2).put _ _,(h.out.bl.trans bf).setCell a1 _,b8⟩
   have d4:(0:Int)<=(g:Int):=by omega
   have d5:(g:Int)<=(k:Int):=by omega
   obtain⟨ds,cu⟩:=aD (g+D.length);rw[cu]at z0;clear q b3 y x hcut b4 b7 b8 bE p2 bf h ct cy;have cF:=pm st b;cases b6 with
   |false=>
    have e:iF st (b+1)=iF st b:=by rw[iF,bb.out,aa (by decide)]
    go_wp2_with fail;refine⟨⟨b+1,by omega,?_,⟨_,_,_,rfl⟩,⟨f.out.m,f.out.kp,f.out.bl,by rw[e];exact f.out.row⟩⟩,?_⟩
    ·have:=K.out;congr 1;push_cast;omega
    ·simp[Y];omega
   |true=>
    have e:iF st (b+1)=iF st b++[(b:Int)+1]:=by rw[iF,bb.out,ab rfl]
    have cc:Br (iF st (b+1)=iF st b++[m]):=by show _=_;rw[e,K.out]
    obtain⟨cl,cn,af⟩:=ey f.out.row;cases af;obtain⟨r,E⟩:=aD ((iF st b).length);have ce:=ar E;rw[E]at cF⊢;have a5:=f.out.row;rw[E]at a5;have p:=ar a5;clear e E a5;have c3:w.heap.size<=(j.setCell ⟨mb,0,M⟩ (.slice (N ⟨n,0,M⟩) g k)).heap.size:=f.out.kp.size;have v:Br ((j.setCell ⟨mb,0,M⟩ (.slice (N ⟨n,0,M⟩) g k)).heap.size=j.heap.size):=by show _=_;simp[World.setCell]
    go_wp2_with (at_builtin;rw[<-v.out];generalize j.setCell ⟨mb,0,M⟩ (.slice (N ⟨n,0,M⟩) g k)=L at f p c3⊢;refine lE _ rfl _ _ 94 rfl w.heap.size 3 c5 _ 1 8 Tryz.underlying94 c6 c7 c8 da rfl (by decide) _ _ _ rfl (p.out.alloc _) ⟨L.heap.size,0,M⟩ 1 1 [.int .i64 m] rfl rfl (World.news_of_block (cs:=#[.int .i64 m]) (fr:=(0,0)) (ax L _)) (by intro d8 bx;simp at bx;subst bx;rfl) (by unfold maxLen;omega) (by omega) (by simp;omega) ?_;intro d9 J a2 l c1;obtain⟨cq,cp,rfl⟩:=ownsRow_succ a2);obtain⟨dn,b0,bt⟩:=f.out.m.ex;have br:∀d,(B1 z r A).ownBlock=N d->w.heap.size<=d:=fun d i=>(p.out.lt d i).1;have a4:∀(d:Nat)(cs:Array A2)(H:B2)(fr:Nat×Nat),L.heap[d]?=N (.cells cs H fr)->H≠3->J.heap[d]?=N (.cells cs H fr):=fun d cs H fr i G=>by
     refine(l.block d (by simp;have:=au i;omega) (fun e=>?_)).trans ((cg _ _ _ (au i)).trans i);have B:(B1 z r A).ownBlock=N d:=e.symm;rcases p.out.2 with⟨al,_⟩|⟨ak,bj,bn,al,_,v,_⟩
     ·rw[al]at B;simp[A0]at B
     ·rw[al]at B;obtain rfl:ak=d:=by simpa [A0] using B
      rw[i]at v;simp only[io,oD]at v;exact G v.2.1
    have b1:Kp mb w J:=⟨l.os.trans f.out.kp.os,l.tape.trans f.out.kp.tape,l.output.trans f.out.kp.output,by have:=l.size;simp at this;omega,fun d i c2 a0=>
     (l.block d (by simp;omega) (fun e=>by have:=br d e.symm;omega)).trans ((cg _ _ _ (by omega)).trans (f.out.kp.block d i c2 a0))⟩
    have b5:od J base mb C:=by
     refine⟨⟨dn,a4 _ _ _ _ b0 (by decide),?_⟩,a1⟩;obtain⟨dd,a6⟩:=bt;refine⟨dd,?_⟩;rcases a6 with a6|⟨ak,bj,bn,c4,cz,a0,df⟩
     ·exact .inl a6
     ·exact .inr ⟨ak,bj,bn,c4,cz,a4 _ _ _ _ a0 (by decide),df⟩
    have ca:aa7 w base mb C st (b+1) (.slice (N ⟨cq,0,M⟩) (r+1) cp) J:=by
     refine⟨b5,b1,?_,?_⟩
     ·exact(f.out.bl.alloc (by omega) _).grown l (by simp;omega) (fun d i=>by have:=(p.out.lt d i).1;omega)
     ·rw[cc.out,aH,ce.out,eL];exact a2
    have cf:=ar ca;clear ca b5 b1 b0 bt br a4 a2 l c1 f p;refine⟨⟨b+1,by omega,?_,⟨_,_,_,rfl⟩,cf⟩,?_⟩
    ·have:=K.out;congr 1;push_cast;omega
    ·simp[Y];omega
  ·obtain rfl:b=78:=by omega
   obtain⟨cl,cn,af⟩:=ey h.out.row;cases af;go_wp2_with fail;go_ret;exact⟨_,_,rfl,h.out.row,h.out.m,h.out.kp,h.out.bl⟩
def bgC(c k:Int):Bool:=decide ((k=1/\bc c=V)\/((k=2\/k=3)/\aL c=V)\/(k=4/\c=34))
def bgT(x:ByteArray)(k:Int):Bool:=decide (x.size<=(px k).size)&&(((px k).extract 0 x.size).toList==x.toList)
def bgL(x:ByteArray):List Int->Bool
 |[]=>T
 |k::r=>if bgC (ao x 0) k=V then V else if bgT x k=V then V else bgL x r
def zI(ks:List Int)(x:ByteArray):Bool:=if x.size=1/\ao x 0=45 then V else bgL x ks
structure adp (x:ByteArray) (ks:List Int) (R:Bool):Prop where
 out:bgL x ks=R
theorem BH(w:O)(v:A2)(ks:List Int)(x:ByteArray)(r:aJ w v ks)(a7:ks.length<=1000)(a4:0<x.size)(br:x.size<=70000):
  B0 Z 149 #[v,.string x] w fun e d=>e= .returned (.bool (zI ks x))/\U w.heap.size w d:=by
 have H:=fun w=>ch a4 w;rw[show(((0:Nat):Int))=0 from rfl]at H;obtain⟨bd,bj,rfl⟩:=r.form;unfold zI;by_cases l:x.size=1/\ao x 0=45
 ·rw[ab l];rw[l.2]at H;have bs:=l.1;clear r l;go_in;go_wp2_with fail;go_ret;exact⟨rfl,aq _ _⟩
 ·rw[aa l];obtain⟨z,A⟩:=aD (bgL x ks);rw[A];obtain⟨s,G⟩:=aD ks.length;rw[G]at r a7⊢;have u:=cH r G;have al:adp x (ks.drop 0) z:=⟨A⟩;obtain⟨f,C⟩:=aD (ao x 0);have av:=ar C;rw[C]at H l;have a5:((x.size:Int)=1/\(f==45)=T)\/((x.size:Int)==1)=T:=by
   rcases Classical.em (x.size=1) with g|g
   ·exact .inl ⟨by omega,by rw[aC];exact fun e=>l ⟨g,e⟩⟩
   ·exact .inr (by rw[aC];omega)
  clear r G A C l;rcases a5 with⟨p1,p2⟩|p1;all_goals
   go_in;go_wp2_with fail;clear p1;try clear p2
   go_loopw [18] (fun ak wr=>∃h:Nat,h<=s/\ak= S Q h/\adp x (ks.drop h) z/\U w.heap.size w wr) (fun ak _=>s-(Y ak).toNat)
   case atStart=>exact⟨0,aG _,rfl,al,aq _ _⟩
   case round=>
    obtain⟨h,bn,rfl,y,t⟩:=hrel;clear al;have c:=y.out;by_cases a6:h<s
    ·have bp:(h:Int)<(s:Int):=by omega
     have bo:(0:Int)<=(h:Int):=by omega
     obtain⟨a,F⟩:=eA u.out.2 a6;obtain⟨bf,rfl,bl⟩:=(u.out.1.below t).get F;have E:=List.getElem?_eq_some_iff.1 F;rw[lB E.1,E.2,bgL,av.out]at c;have j:=ar t;clear F E y t;by_cases q:bgC f a=V
     ·rw[ab q]at c;have k:=ar c;have o:=aI q;clear c q;rcases o with⟨rfl,b⟩|⟨rfl|rfl,b⟩|⟨rfl,rfl⟩
      ·go_wp2_with (go_at_call 42;refine(gj b _).mono ?_;rintro e d ⟨rfl,p⟩;subst d);go_ret;exact⟨by rw[<-k.out];rfl,j.out⟩
      ·go_wp2_with (go_at_call 44;refine(cI b _).mono ?_;rintro e d ⟨rfl,p⟩;subst d);go_ret;exact⟨by rw[<-k.out];rfl,j.out⟩
      ·go_wp2_with (go_at_call 44;refine(cI b _).mono ?_;rintro e d ⟨rfl,p⟩;subst d);go_ret;exact⟨by rw[<-k.out];rfl,j.out⟩
      ·go_wp2_with fail;go_ret;exact⟨by rw[<-k.out];rfl,j.out⟩
     ·rw[aa q]at c;have o:¬((a=1/\bc f=V)\/((a=2\/a=3)/\aL f=V)\/(a=4/\f=34)):=fun i=>q (cG i);have am:(a=1/\bc f=T)\/(a=2/\aL f=T)\/(a=3/\aL f=T)\/(a=4/\(f==34)=T)\/((a==1)=T/\(a==2)=T/\(a==3)=T/\(a==4)=T):=by
       by_cases I:a=1
       ·refine .inl ⟨I,?_⟩;cases i:bc f with
        |false=>rfl
        |true=>exact absurd (.inl ⟨I,i⟩) o
       by_cases J:a=2
       ·refine .inr (.inl ⟨J,?_⟩);cases i:aL f with
        |false=>rfl
        |true=>exact absurd (.inr (.inl ⟨.inl J,i⟩)) o
       by_cases K:a=3
       ·refine .inr (.inr (.inl ⟨K,?_⟩));cases i:aL f with
        |false=>rfl
        |true=>exact absurd (.inr (.inl ⟨.inr K,i⟩)) o
       by_cases L:a=4
       ·exact .inr (.inr (.inr (.inl ⟨L,beq_eq_false_iff_ne.2 fun i=>o (.inr (.inr ⟨L,i⟩))⟩)))
       ·exact .inr (.inr (.inr (.inr ⟨beq_eq_false_iff_ne.2 I,beq_eq_false_iff_ne.2 J,beq_eq_false_iff_ne.2 K,beq_eq_false_iff_ne.2 L⟩)))
      have af:=fun w=>pL a w;unfold bgT at c;generalize px a=m at af c;clear o q;by_cases n:(decide (x.size<=m.size)&&((m.extract 0 x.size).toList==x.toList))=V
      ·rw[ab n]at c;have k:=ar c;rw[aw]at n;obtain⟨an,a9⟩:=n;have t3:(x.size:Int)<=(m.size:Int):=by have:=aI an;omega
       clear c an;rcases am with⟨rfl,b⟩|⟨rfl,b⟩|⟨rfl,b⟩|⟨rfl,b⟩|⟨a0,a1,a2,a3⟩;all_goals
        go_wp2_with (first|(go_at_call 42;refine(gj b _).mono ?_;rintro e d ⟨rfl,p⟩;subst d)|(go_at_call 44;refine(cI b _).mono ?_;rintro e d ⟨rfl,p⟩;subst d)|(go_at_call 27;refine(af _).mono ?_;rintro e bb ⟨rfl,B⟩));go_ret;exact⟨by rw[<-k.out];rfl,j.out.trans (B.mono j.out.size)⟩
      ·rw[aa n]at c;have ap:adp x (ks.drop (h+1)) z:=⟨c⟩;clear c;have a8:(x.size:Int)<=(m.size:Int)/\((m.extract 0 x.size).toList==x.toList)=T\/¬(x.size:Int)<=(m.size:Int):=by
        rcases be m.size x.size with g|g
        ·exact .inr (by omega)
        ·refine .inl ⟨by omega,?_⟩;rw[cG g,jf]at n;simpa using n
       clear n;rcases a8 with⟨t3,a9⟩|t3;all_goals
        rcases am with⟨rfl,b⟩|⟨rfl,b⟩|⟨rfl,b⟩|⟨rfl,b⟩|⟨a0,a1,a2,a3⟩;all_goals
         go_wp2_with (first|(go_at_call 42;refine(gj b _).mono ?_;rintro e d ⟨rfl,p⟩;subst d)|(go_at_call 44;refine(cI b _).mono ?_;rintro e d ⟨rfl,p⟩;subst d)|(go_at_call 27;refine(af _).mono ?_;rintro e bb ⟨rfl,B⟩));exact⟨⟨h+1,by omega,by go_num,ap,j.out.trans (B.mono j.out.size)⟩,by simp[Y];omega⟩
    ·obtain rfl:h=s:=by omega
     rw[qv (by rw[u.out.2];exact ag _),bgL]at c;have k:=ar c;clear c y;go_wp2_with fail;go_ret;exact⟨by rw[<-k.out];rfl,t⟩
def Je(s:ByteArray)(p n:Nat):Bool:=bc (ao s p)&&(!(bc (lk s (p+n)))&&!(aL (lk s (p+n))))
def wrL(s:ByteArray)(p:Nat)(ks:List Int):Nat->Nat->Nat
 |0,n=>n
 |f+1,n=>if p+n<s.size/\zI ks (s.extract p (p+n+1))=V then(if Je s p (n+1)=V then n+1 else wrL s p ks f (n+1)) else n
def wrongF(s:ByteArray)(p:Nat)(ks:List Int):Nat:=p+wrL s p ks (s.size+1) 0
structure Jf (s:ByteArray) (p:Nat) (ks:List Int) (f n R:Nat):Prop where
 out:wrL s p ks f n=R
theorem tD(w:O)(s:ByteArray)(p:Nat)(v:A2)(ks:List Int)(g:aJ w v ks)(K:ks.length<=1000)(bo:s.size<=70000)(a8:p<s.size):
  B0 Z 130 #[.string s,S Q p,v] w fun e bb=>e= .returned (S Q (wrongF s p ks))/\U w.heap.size w bb:=by
 have a9:=fun w=>ch a8 w;obtain⟨H,I,rfl⟩:=g.form;unfold wrongF;obtain⟨j,u⟩:=aD (wrL s p ks (s.size+1) 0);rw[u];obtain⟨ak,B⟩:=aD ks.length;have E:Br (aJ w (X H ak I) ks/\ks.length<=1000):=⟨by rw[<-B];exact g,K⟩;have F:Jf s p ks (s.size+1) 0 j:=⟨u⟩;rw[B];obtain⟨a0,A⟩:=aD (ao s p);have am:=ar A;rw[A]at a9;have bp:(p:Int)<(s.size:Int):=by omega
 clear g K u A B;go_in;go_wp2_with fail;go_loopw [7] (fun C wr=>∃(a d:Nat),p+a<=s.size/\s.size<p+a+d/\C= S Q a/\Jf s p ks d a j/\U w.heap.size w wr) (fun C _=>s.size+1-(Y C).toNat)
 case atStart=>exact⟨0,s.size+1,by omega,by omega,rfl,F,aq _ _⟩
 case round=>
  obtain⟨a,d,bl,bj,rfl,n,k⟩:=hrel;clear F;obtain⟨d,rfl⟩:∃a4,d=a4+1:=⟨d-1,by omega⟩;have b:=n.out;rw[wrL]at b;by_cases L:p+a<s.size
  ·have a7:(p:Int)+(a:Int)<(s.size:Int):=by omega
   have bn:(0:Int)<=(p:Int)+(a:Int):=by omega
   have af:(s.extract p (p+a+1)).size=a+1:=by rw[je];omega
   have l:=fun (G:O) (a5:U w.heap.size w G)=>BH G (X H ak I) ks (s.extract p (p+a+1)) (E.out.1.below a5) E.out.2 (by omega) (by omega);have a1:(p:Int)+(a:Int)+1<=(s.size:Int):=by omega
   have a2:IntKind.i64.wrap ((p:Int)+(a:Int)+1)=(p:Int)+(a:Int)+1:=by rw[cB];omega
   have a3:((p:Int)+(a:Int)+1).toNat=p+a+1:=by omega
   have c:=ar k;obtain⟨al,t⟩:=aD (zI ks (s.extract p (p+a+1)));rw[t]at l b;have a6:=c.out;cases al with
   |false=>
    rw[aa (fun g=>by cases g.2)]at b;have f:=ar b;clear b n k t af;go_wp2_with fail;refine lc (l _ c.out) fun bd h=>?_;clear l;go_wp2_with fail;go_ret;exact⟨by first|(rw[<-f.out,qA];rfl)|(rw[<-f.out];rfl),c.out.trans (h.mono c.out.size)⟩
   |true=>
    rw[ab ⟨L,rfl⟩]at b;unfold Je at b;rw[am.out]at b;have m:=fun w=>eC s (by omega) ((p:Int)+((a:Int)+1)) (p+(a+1)) (by omega) w;generalize lk s (p+(a+1))=J at m b;obtain⟨an,x⟩:=aD (bc a0);obtain⟨ap,y⟩:=aD (bc J);obtain⟨av,z⟩:=aD (aL J);rw[x,y,z]at b;have q:=fun w=>gj x w;have r:=fun w=>gj y w;have o:=fun w=>cI z w;have bf:=ar k;clear x y z n k t af a6;go_wp2_with fail;refine lc (l _ c.out) fun bd h=>?_;clear l a1 a2 a3;cases an with
    |false=>
     have i:Jf s p ks d (a+1) j:=⟨b⟩;clear b r o m;go_wp2_with (first|(go_at_call 42;with_reducible refine dz (q _) ?_));exact⟨⟨a+1,d,by omega,by omega,by go_num,i,c.out.trans (h.mono c.out.size)⟩,by simp[Y];omega⟩
    |true=>
     cases ap with
     |true=>
      have i:Jf s p ks d (a+1) j:=⟨b⟩;clear b o;go_wp2_with (first|(go_at_call 42;with_reducible refine dz (q _) ?_)|(go_at_call 42;with_reducible refine dz (r _) ?_)|(go_at_call 41;refine dz (m _) ?_));exact⟨⟨a+1,d,by omega,by omega,by go_num,i,c.out.trans (h.mono c.out.size)⟩,by simp[Y];omega⟩
     |false=>
      cases av with
      |true=>
       have i:Jf s p ks d (a+1) j:=⟨b⟩;clear b;go_wp2_with (first|(go_at_call 42;with_reducible refine dz (q _) ?_)|(go_at_call 42;with_reducible refine dz (r _) ?_)|(go_at_call 44;refine dz (o _) ?_)|(go_at_call 41;refine dz (m _) ?_));exact⟨⟨a+1,d,by omega,by omega,by go_num,i,c.out.trans (h.mono c.out.size)⟩,by simp[Y];omega⟩
      |false=>
       have f:=ar b;clear b;go_wp2_with (first|(go_at_call 42;with_reducible refine dz (q _) ?_)|(go_at_call 42;with_reducible refine dz (r _) ?_)|(go_at_call 44;refine dz (o _) ?_)|(go_at_call 41;refine dz (m _) ?_));go_ret;exact⟨by first|(rw[<-f.out,qA,qA];rfl)|(rw[<-f.out,qA];rfl)|(rw[<-f.out];rfl),c.out.trans (h.mono c.out.size)⟩
  ·rw[aa (fun g=>L g.1)]at b;have f:=ar b;have a7:¬(p:Int)+(a:Int)<(s.size:Int):=by omega
   clear b n;go_wp2_with fail;go_ret;exact⟨by first|(rw[<-f.out,qA];rfl)|(rw[<-f.out];rfl),k⟩
