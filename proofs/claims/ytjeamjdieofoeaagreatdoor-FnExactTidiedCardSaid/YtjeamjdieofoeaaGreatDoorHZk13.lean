import Derived.Test.YtjeamjdieofoeaaGreatDoorHZk11
import Derived.Laws.Cover2
set_option linter.all false
set_option maxRecDepth 100000
set_option maxHeartbeats 6400000
open Go.Value renaming int->M,pointer->S,slice->A2,bool->A5,agg->Cb,tuple->C2,int->Er
open Option renaming some->N,none->T
open Go.IntKind renaming u8->O,i64->B3
open Go.World renaming putObj_heap_other->Q
open Go renaming undef->U,World->X,KeepsFrom->Br,Value->Bs,Calls->B0,TypeId->B6,grownBy_putObj'->B7
open Go.Proofs.Tryz renaming prog->V
open Go.Obj renaming cells->Y
open Go.RowKit renaming Below->Z,Hid->B1,intOf->B4
open Bool renaming false->Ax,true->A9
open Go.Ending renaming returned->A0
namespace Go.Proofs.YtjeamjdieofoeaaGreatDoor
open Go.RowKit Go.Maps Go.WideMaps
variable{B b base gb k m mb n:Nat}{W W' w:World}{a t:Int}{c:List Nat}{cs:Array Value}{fr:Nat×Nat}{r:Bool}{st:List Int}{vs:Value}
structure RI (W:X) (base mb:Nat):Prop where
 ex:∃(D:DataW Bs) (f:Int->Bs) (n:Nat),W.ownsMap V 115 we mb n D/\∀a,0<=a->a<=255->D.atKey (.int .u8 a) (.held (.slice T 0 0))= .held (f a)/\im W base (f a) (kF a)
theorem RM.ri{R:List (Int×List (List Int))}(h:RM W base mb n R)(g:∀a,0<=a->a<=255->zb R a=kF a):RI W base mb:=by
 obtain⟨D,d,e,f,_⟩:=h.ex;exact⟨D,d,n,e,fun a b c=>by rw[<-g a b c];exact f a b c⟩
theorem RI.same(h:RI W base mb)(n:∀a c,W.heap[mb]?=N (.map a c)->W'.heap[mb]?=N (.map a c))(o:∀(g:Nat) (cs:Array Bs) (fr:Nat×Nat),W.heap[g]?=N (Y cs 191 fr)->W'.heap[g]?=N (Y cs 191 fr)):RI W' base mb:=by
 obtain⟨D,m,p,⟨a,c,k,l⟩,f⟩:=h.ex;refine⟨D,m,p,⟨a,c,n _ _ k,l⟩,fun b d e=>⟨(f b d e).1,?_⟩⟩;have:=(f b d e).2;refine⟨this.1,?_⟩;rcases this.2 with h|⟨g,i,j,q,r,s,t⟩
 ·exact .inl h
 ·exact .inr ⟨g,i,j,q,r,o _ _ _ s,t⟩
theorem RI.below(h:RI W base mb)(b:Z W.heap.size W W'):RI W' base mb:=
 h.same (fun e c a=>(b.block _ (aG a)).trans a) (fun g d f a=>(b.block _ (aG a)).trans a)
theorem RI.gp(h:RI W base mb)(c:W.heap[gb]?=N (Y cs 113 fr))(d:Gp gb W W'):RI W' base mb:=
 h.same (fun f e a=>(d.block _ (aG a) (by rintro rfl;rw[c]at a;cases a) (fun cs fr b=>by rw[a]at b;cases b)).trans a)
  (fun g cs fr a=>(d.block _ (aG a) (by rintro rfl;rw[c]at a;cases a) (fun cs fr b=>by rw[a]at b;cases b)).trans a)
theorem Jm(c:0<=a)(d:a<=255):∀R,((List.range 256).all fun a=>decide (zb R (a:Int)=kF (a:Int)))=A9->zb R a=kF a:=by
 intro R b;have:=List.all_eq_true.1 b a.toNat (by rw[jp];omega);rw[show((a.toNat:Nat):Int)=a by omega]at this;exact aH this
theorem Gt(w:X)(h:B6)(fr:Nat×Nat)(a:w.heap[3]?=N (Y Jf h fr)):
  B0 V 76 #[] w fun e w'=>e= A0 (.map (N w.heap.size))/\RI w' w.heap.size w.heap.size/\Z w.heap.size w w':=by
 have g:=aG a;have r:∀w:X,(Instr.makeMap 107 (N (M O 34))).run V w= .ok (.map (N w.heap.size)) (w.alloc (.map #[] 0)):=fun w=>by kernel_rfl
 have i:RM (w.alloc (.map #[] 0)) w.heap.size w.heap.size 0 []:=⟨⟨.map [],fun _=> A2 T 0 0,World.ownsMap_made _ _ _ _,fun b _ _=>⟨rfl,⟨rfl,.inl ⟨rfl,rfl⟩⟩⟩,fun b q _ _ _ _ _=> .inl rfl⟩,ag _⟩;have c:Z w.heap.size w (w.alloc (.map #[] 0)):=(ah _ _).alloc (ag _) _;have m:=aq a;clear a;go_in;go_wp2_with (first
  |(go_at_call 126;refine(Jj _ w.heap.size w.heap.size 0 [] i (by omega)).mono ?_;rintro e s ⟨rfl,j,d⟩)
  |(go_at_call 127;refine(Je _ w.heap.size w.heap.size _ _ j (by omega)).mono ?_;rintro e t ⟨rfl,k,f⟩)
  |(go_at_call 128;refine(Jg _ w.heap.size w.heap.size _ _ k (by omega) h fr ((((c.trans d).trans f).block _ g).trans m) g).mono ?_;rintro e u ⟨rfl,l,p⟩))
 go_ret;exact⟨rfl,l.ri (fun b n o=>Jm n o _ aff),((c.trans d).trans f).trans p⟩
theorem Gu(w:X)(m:B6)(fr:Nat×Nat)(j:w.heap[3]?=N (Y Jf m fr)):
  B0 V 19 #[] w fun e w'=>∃gb,e= A0 (S (N ⟨gb,0,T⟩))/\Gr w' w.heap.size gb (.map (N w.heap.size)) [100,6]/\RI w' w.heap.size w.heap.size/\Z w.heap.size w w':=by
 have l:=Gt w m fr j;clear j;go_in;go_wp21
 refine l.mono ?_;rintro e a ⟨rfl,g,c⟩;have k:=c.size;have d:Gr (a.alloc (Y #[.map (N w.heap.size),A2 T 0 0] 113 (0,0))) w.heap.size a.heap.size (.map (N w.heap.size)) []:=⟨⟨A2 T 0 0,aA a _,⟨rfl,.inl ⟨rfl,rfl⟩⟩⟩,k⟩;have i:=g.below ((ah a.heap.size a).alloc (ag _) (Y #[.map (N w.heap.size),A2 T 0 0] 113 (0,0)));have b:=c.alloc k (Y #[.map (N w.heap.size),A2 T 0 0] 113 (0,0));have h:=gI i b;clear l g c i b;go_wp21
 refine(zj _ w.heap.size a.heap.size (.map (N w.heap.size)) [] 6 d (by decide)).mono ?_;rintro e v ⟨rfl,f,o,b⟩;go_wp21
 refine(zj _ w.heap.size a.heap.size (.map (N w.heap.size)) [6] 100 f (by decide)).mono ?_;rintro e x ⟨rfl,n,p,s⟩;go_wp21
 go_ret;obtain⟨t,q,_⟩:=d.ex;obtain⟨u,r,_⟩:=f.ex;exact⟨_,rfl,n,(h.1.gp q o).gp r p,(h.2.trans b).trans s⟩
structure GB (W:X) (base gb mb:Nat):Prop where
 c:W.cell? ⟨gb,0,T⟩=N (.map (N mb))
 r:RI W base mb
theorem GB.below(h:GB W base gb mb)(a:Z W.heap.size W W'):GB W' base gb mb:=⟨aj a h.c,h.r.below a⟩
def dp(a:Int):Nat:=if a<100 then 0 else if a=100 then 3 else if a=102 then 2 else if a=110\/a=111 then 4 else if a=114 then 2 else if a=117 then 3 else if a=118 then 2 else if a=122 then 5 else if a=124 then 4 else 1
def hdN(f:Nat)(t:Int)(r:List Int):Bool:=zI f (r.getD 0 0) t
def zl(a:List (List Int))(c:Nat):Bool:=decide (a.length<=30)&&a.all fun r=>decide (r.length<=6)&&r.all (fun b=>decide (1<=b/\b<=133))&&decide (dp (r.getD 0 0)+1<=c)
theorem Jn:((List.range 256).all fun a=>zl (kF (a:Int)) (dp (a:Int)))=A9:=by decide+kernel
theorem Bl(b:0<=a)(c:a<=255):zl (kF a) (dp a)=A9:=by
 have:=List.all_eq_true.1 Jn a.toNat (by rw[jp];omega);rw[show((a.toNat:Nat):Int)=a by omega]at this;exact this
theorem ake(a:1<=t)(f:Nat)(r:List Int):hdN (f+1) t r=(match r with|[]=>Ax|h::_=>zI (f+1) h t):=by
 cases r with
 |nil=>
  show zI (f+1) 0 t=Ax;rw[zI,ab (by decide)];exact aC (by omega)
 |cons h b=>rfl
theorem abt{r:List Int}(h:r.length<=6):rc r=[M O (r.getD 0 0),M O (r.getD 1 0),M O (r.getD 2 0),M O (r.getD 3 0),M O (r.getD 4 0),M O (r.getD 5 0)]:=by
 match r,h with
 |[],_=>rfl
 |[_],_=>rfl
 |[_,_],_=>rfl
 |[_,_,_],_=>rfl
 |[_,_,_,_],_=>rfl
 |[_,_,_,_,_],_=>rfl
 |[_,_,_,_,_,_],_=>rfl
 |_::_::_::_::_::_::_::_,h=>simp at h
theorem im.cell{g c:Nat}{a:List (List Int)}(h:im W base (A2 (N ⟨g,0,T⟩) n c) a)(f:∀r∈a,r.length<=6){r:List Int}(b:a[k]?=N r){i:Nat}(u:i<6):
  W.cell? ⟨g,k*6+i,T⟩=N (M O (r.getD i 0)):=by
 have v:k<a.length:=(List.getElem?_eq_some_iff.1 b).1;have l:n=a.length:=by
  rcases h.2 with⟨h,_⟩|⟨t,q,s,h,_⟩
  ·cases h
  ·cases h;rfl
 subst l;rw[World.ownsRow.cellAt h (k*6+i) (by omega)];have p:∀(a:List (List Int)),(∀r∈a,r.length<=6)->∀k r,a[k]?=N r->(Cj a)[k*6+i]?=N (M O (r.getD i 0)):=by
  intro a
  induction a with
  |nil=>intro _ k r h;simp at h
  |cons d a o=>
   intro h k r e;have m:=h d (by simp);rw[show Cj (d::a)=rc d++Cj a from rfl];have j:(rc d).length=6:=by simp[rc];omega
   cases k with
   |zero=>
    simp at e;subst e;rw[iu (by omega),abt m];rcases(show i=0\/i=1\/i=2\/i=3\/i=4\/i=5 by omega) with rfl|rfl|rfl|rfl|rfl|rfl<;>rfl
   |succ k=>
    rw[fL (by omega),j,show(k+1)*6+i-6=k*6+i by omega];exact o (fun r b=>h r (by simp[b])) k r (by simpa using e)
 exact p a f k r b
def adi(W:X)(b:Nat)(x0 a c d e f:Int):X:=((((((W.setCell ⟨b,0,T⟩ (M O x0)).setCell ⟨b,1,T⟩ (M O a)).setCell ⟨b,2,T⟩ (M O c)).setCell ⟨b,3,T⟩ (M O d)).setCell ⟨b,4,T⟩ (M O e)).setCell ⟨b,5,T⟩ (M O f))
theorem Jo{t:B6}{l m n o p q:Int}(h:W.heap[b]?=N (Y #[M O l,M O m,M O n,M O o,M O p,M O q] t (0,0)))(x0 c d e f g:Int):(adi W b x0 c d e f g).heap[b]?=N (Y #[M O x0,M O c,M O d,M O e,M O f,M O g] t (0,0)):=by
 have a:=fun i j {W k}=>bz W b i k t (M O j);simpa [adi] using a 5 g (a 4 f (a 3 e (a 2 d (a 1 c (a 0 x0 h)))))
theorem Cq(h:Z base w W)(a:base<=b)(x0 c d e f g:Int):Z base w (adi W b x0 c d e f g):=by
 unfold adi
 iterate 6 refine eJ ?_ a _
 exact h
theorem abu{fn:Func}{p u:Tmp}(h:fn.results=#[.cell p 191,.tmp u])(tmps:Array Bs)(w:X)(g:Nat)(x0 a c d e f:Int)(b:Bool)(j:tmps.getD p U= .pointer (N ⟨g,0,T⟩))(k:tmps.getD u U= .bool b)
  (i:w.heap[g]?=N (.cells #[.int .u8 x0,.int .u8 a,.int .u8 c,.int .u8 d,.int .u8 e,.int .u8 f] 191 (0,0))):(results fn tmps).run V w= .ok (.tuple #[.agg #[.int .u8 x0,.int .u8 a,.int .u8 c,.int .u8 d,.int .u8 e,.int .u8 f],.bool b]) w:=by
 rw[results_cell_tmp h,j];simp only[asAddr,Sem.run_pure,A1];rw[Fv w g 191 191 _ _ _ i Tryz.underlying191 rfl (by kernel_rfl),A1,k]
def abv(n:Nat):Prop:=∀(w:X)(base gb mb:Nat)(a t:Int),GB w base gb mb->0<=a->a<=133->dp a<=n->1<=t->t<=78->
 B0 V 133 #[S (N ⟨gb,0,T⟩),M O a,M O t] w fun b c=>b= A0 (A5 (zI (n+1) a t))/\Z w.heap.size w c
def rwN(f:Nat)(a:List (List Int))(t:Int):List Int:=(a.find? (hdN f t)).getD []
structure Cr (f:Nat) (t:Int) (L:List (List Int)) (k:Nat) (r:List Int) (b:Bool):Prop where
 fd:rwN f (L.drop k) t=r
 an:(L.drop k).any (hdN f t)=b
theorem Cs(n:Nat)(b7:abv n)(w:X)(base ar mb:Nat)(a t:Int)(K:GB w base ar mb)(am:0<=a)(c4:a<=133)(c8:dp a<=n+1)(cn:1<=t)(cq:t<=78)(B:List Int)(z:Bool)(bk:Cr (n+1) t (kF a) 0 B z):
  B0 V 139 #[S (N ⟨ar,0,T⟩),M O a,M O t] w fun e w'=>e= A0 (C2 #[Cb (rc B).toArray,A5 z])/\Z w.heap.size w w':=by
 obtain⟨D,c7,dq,a3,bf⟩:=K.r.ex;obtain⟨a5,f⟩:=bf a am (by omega);have u:=Bl am (show a<=255 by omega);generalize kF a=g at *;unfold zl at u;rw[ci,sf]at u;have b6:g.length<=30:=aH u.1;have v:∀b∈g,b.length<=6:=fun b c=>by have:=u.2 b c;simp only[ci]at this;exact aH this.1.1
 have cb:∀b∈g,dp (b.getD 0 0)<=n:=fun b c=>by have:=u.2 b c;simp only[ci]at this;have:=aH this.2;omega
 have cc:∀b∈g,0<=b.getD 0 0/\b.getD 0 0<=133:=fun b c=>by
  have:=u.2 b c;simp only[ci,sf]at this;cases b with
  |nil=>simp
  |cons cB b=>have:=aH (this.1.2 cB (by simp));simp;omega
 obtain⟨I,a6⟩:=az g.length;have ad:=f;unfold im at ad;rw[a6]at ad b6;obtain⟨bD,c6,bt⟩:=bI ad;rw[bt]at a5 f;have bd:=K.c;have ca:=a3.lt;have b8:=fun o=>aj (al1 (o:=o) rfl).2.1 bd;have y:=Kz K f a6 bk;clear ad f bt u bf K a6 bk;go_in;go_wp2_with (at_lookup;refine qA rfl _ _ rfl rfl a3 ?blk a am (by omega) rfl a5 ?_)
 case blk=>exact dg _ _ _ ca
 clear a5 bd b8 a3;go_loopw [17] (fun i wr=>∃d:Nat,d<=I/\i= M B3 d/\Cr (n+1) t g d B z/\Z w.heap.size w wr/\wr.heap[w.heap.size]?=N (Y #[M O 0,M O 0,M O 0,M O 0,M O 0,M O 0] 191 (0,0))) (fun i _=>I-(B4 i).toNat)
 case atStart=>exact⟨0,by omega,rfl,y.2.2.2,(al1 rfl).2.1,(al1 rfl).1⟩
 case round=>
  obtain⟨d,c9,rfl,j,E,x⟩:=hrel;by_cases b9:d<I
  ·obtain⟨b,c⟩:∃b,g[d]?=N b:=⟨_,aJ (by rw[y.out.2.2.1];exact b9)⟩;have L:=cH c;have f:=y.2.1.keep E;obtain⟨ap,rfl⟩:∃ap,bD=N ⟨ap,0,T⟩:=by
    rcases bu f with⟨a2,_⟩|⟨ap,c5,a2⟩
    ·rw[y.out.2.2.1]at a2;omega
    ·cases a2;exact⟨_,rfl⟩
   have bx:=f.cell v c (i:=0) (by decide);have cg:=f.cell v c (i:=1) (by decide);have ch:=f.cell v c (i:=2) (by decide);have ck:=f.cell v c (i:=3) (by decide);have cl:=f.cell v c (i:=4) (by decide);have cm:=f.cell v c (i:=5) (by decide);obtain⟨h,af⟩:=az (b.getD 0 0);obtain⟨l,a8⟩:=az (b.getD 1 0);obtain⟨m,a9⟩:=az (b.getD 2 0);obtain⟨p,ba⟩:=az (b.getD 3 0);obtain⟨q,bb⟩:=az (b.getD 4 0);obtain⟨r,bc⟩:=az (b.getD 5 0);rw[af]at bx;rw[a8]at cg;rw[a9]at ch;rw[ba]at ck;rw[bb]at cl;rw[bc]at cm;rw[lH]at bx;obtain⟨bn,bo⟩:=cc b L;have br:=cb b L;rw[af]at bn bo br;have dk:(d:Int)<(I:Int):=by omega
   have df:(0:Int)<=(d:Int):=by omega
   have al:=aop c L af a8 a9 ba bb bc;clear c L af a8 a9 ba bb bc f;have a4:=E.alloc E.size (Y #[M O h,M O l,M O m,M O p,M O q,M O r] 191 (0,0));have bw:=b7 _ base ar mb h t (y.1.below a4) bn bo br cn cq;go_wp2_with fail;refine bw.mono ?_;rintro e ak ⟨rfl,J⟩;have dn:=E.size;have cf:=aG x;have bl:ak.heap[wr.heap.size]?=N (Y #[M O h,M O l,M O m,M O p,M O q,M O r] 191 (0,0)):=(J.block _ (by simp)).trans (aA wr _);have H:ak.heap[w.heap.size]?=N (Y #[M O 0,M O 0,M O 0,M O 0,M O 0,M O 0] 191 (0,0)):=((J.block _ (by simp;omega)).trans (dg _ _ _ cf)).trans x;have bh:Z w.heap.size w ak:=a4.trans (J.mono (by simp;omega));have A:g.drop d=b::g.drop (d+1):=by
    obtain⟨bE,ao⟩:=List.getElem?_eq_some_iff.1 al.1;rw[jo bE,ao]
   have k:hdN (n+1) t b=zI (n+1) h t:=by unfold hdN;rw[al.out.2.2.1]
   have a7:rc b=[M O h,M O l,M O m,M O p,M O q,M O r]:=by
    obtain⟨_,ao,bF,b1,b2,b3,b4,b5⟩:=al.out;rw[abt (v b ao),bF,b1,b2,b3,b4,b5]
   clear bw J a4;cases hbv:zI (n+1) h t with
   |true=>
    have s:B1 (B=b/\z=A9):=by
     rw[hbv]at k;refine⟨?_,?_⟩
     ·rw[<-j.fd,A];unfold rwN;rw[List.find?_cons_of_pos k];rfl
     ·rw[<-j.an,A,List.any_cons,k];rfl
    have G:=Jo H h l m p q r;have F:=Cq bh (ag _) h l m p q r;obtain⟨ds,dz,d0,d1,d2,d3⟩:=gg bl;obtain⟨z0,cF,cI,c1,c2,c3⟩:=gg H;obtain⟨cr,cs,ct,cw,cx,cz⟩:=pc H;have C:=gI G F;clear G F bl H x;have bA:B1 (hdN (n+1) t b=A9/\rc b=[M O h,M O l,M O m,M O p,M O q,M O r]):=⟨k.trans hbv,a7⟩;clear k A a7 hbv j;go_wp2_with fail;try rw[xr]
    change bodyPost _ _ _ _ _ (adi ak w.heap.size h l m p q r)
    refine aI (abu rfl _ _ w.heap.size h l m p q r A9 rfl rfl C.1) rfl ⟨?_,C.2⟩;rw[s.out.1,s.out.2,bA.out.2]
   |false=>
    have s:Cr (n+1) t g (d+1) B z:=by
     rw[hbv]at k;refine⟨?_,?_⟩
     ·rw[<-j.fd,A];unfold rwN;rw[List.find?_cons_of_neg (by rw[k];simp)]
     ·rw[<-j.an,A,List.any_cons,k];rfl
    clear k A a7 hbv j;go_wp2_with fail;go_roundw
    case rel=>exact⟨d+1,by omega,by go_num,s,bh,H⟩
    case measure=>simp[B4];omega
  ·obtain rfl:d=I:=by omega
   have s:B1 (B=[]/\z=Ax):=by
    have bs:g.drop d=[]:=jE (by rw[y.out.2.2.1];exact ag _);refine⟨?_,?_⟩
    ·rw[<-j.fd,bs];rfl
    ·rw[<-j.an,bs];rfl
   have G:=Jo x 0 0 0 0 0 0;have F:=Cq E (ag _) 0 0 0 0 0 0;obtain⟨z0,cF,cI,c1,c2,c3⟩:=gg x;obtain⟨cr,cs,ct,cw,cx,cz⟩:=pc x;have C:=gI G F;clear G F x j;go_wp2_with fail;try rw[xr]
   change bodyPost _ _ _ _ _ (adi wr w.heap.size 0 0 0 0 0 0)
   refine aI (abu rfl _ _ w.heap.size 0 0 0 0 0 0 Ax rfl rfl C.1) rfl ⟨?_,C.2⟩;rw[s.out.1,s.out.2];rfl
theorem alb(b:1<=t)(f:Nat)(a:List (List Int)):a.any (hdN (f+1) t)=a.any (fun r=>match r with|[]=>Ax|h::_=>zI (f+1) h t):=by
 congr 1
 funext r
 exact ake b f r
theorem zL(n:Nat)(p:n=0\/∃m,n=m+1/\abv m):abv n:=by
 intro C v x A a c y k u F t B;by_cases i:a<100
 ·have e:zI (n+1) a c=decide (a=c):=by rw[zI,ab i]
  rw[e];have w:(a==c)=decide (a=c):=by rw[xy];simp
  obtain⟨E,o⟩:=az (decide (a=c));rw[o]at w⊢;clear e o;go_in;go_wp21
  go_ret;exact⟨rfl,ah _ _⟩
 ·have G:1<=dp a:=by unfold dp;rw[aa i];repeat (first|(split;· omega)|omega)
  obtain⟨m,rfl,q⟩:=p.resolve_left (by omega);obtain⟨b,g,h⟩:∃b g,Cr (m+1) c (kF a) 0 b g:=⟨_,_,⟨rfl,rfl⟩⟩;have e:zI (m+1+1) a c=g:=by
   rw[zI,aa i];refine(alb t m (kF a)).symm.trans ?_;rw[<-h.an];rfl
  rw[e];have d:=Cs m q C v x A a c y k u (by omega) t B b g h;have r:b.length<=6:=by
   have j:=Bl k (show a<=255 by omega);unfold zl at j;rw[ci,sf]at j;have f:=h.fd;unfold rwN at f;cases hf:List.find? (hdN (m+1) c) (List.drop 0 (kF a)) with
   |none=>rw[hf]at f;rw[<-f];exact aL _
   |some s=>
    rw[hf]at f;have z:s∈kF a:=aa2 hf;have:=j.2 s z;simp only[ci]at this;rw[<-f];exact aH this.1.1
  rw[abt r]at d;generalize b.getD 0 0=I at d;generalize b.getD 1 0=J at d;generalize b.getD 2 0=K at d;generalize b.getD 3 0=L at d;generalize b.getD 4 0=ad at d;generalize b.getD 5 0=af at d;clear h e r q p;go_in;go_wp2_with (go_at_call 139;refine d.mono ?_;rintro e H ⟨rfl,l⟩);go_ret;exact⟨rfl,l.alloc l.size _⟩
theorem wA:∀n,abv n
 |0=>zL 0 (.inl rfl)
 |n+1=>zL (n+1) (.inr ⟨n,rfl,wA n⟩)
attribute [local go_sem] lE
theorem alc(w:X):(Op.equalIn 10000 191 (Cb #[M O 0,M O 0,M O 0,M O 0,M O 0,M O 0]) (Cb #[M O 0,M O 0,M O 0,M O 0,M O 0,M O 0])).run V w= .ok A9 w:=by kernel_rfl
theorem ald{x0:Int}(h:x0≠0)(a b c d e:Int)(w:X):(Op.equalIn 10000 191 (.agg #[.int .u8 0,.int .u8 0,.int .u8 0,.int .u8 0,.int .u8 0,.int .u8 0]) (.agg #[.int .u8 x0,.int .u8 a,.int .u8 b,.int .u8 c,.int .u8 d,.int .u8 e])).run V w= .ok Ax w:=by
 have f:(0==x0)=Ax:=by rw[cG];omega
 rw[show(10000:Nat)=9999+1 from rfl,Op.equalIn];simp only[Fk,Fx Tryz.underlying191,A1];simp only[Std.Legacy.Range.forIn_eq_forIn_range',Std.Legacy.Range.size,FC,mI,Nat.div_one,List.range'_succ,List.range'_zero,List.forIn_cons,List.forIn_nil];go_simp
theorem Jp{a:X}(h:Z B a w)(n:Nat):Z B a (w.drewN n):=⟨h.os,h.tape,h.output,h.size,h.block⟩
structure Gv (L:List (List Int)) (k:Nat) (b:Bool):Prop where
 out:(L.drop k).contains []=b
theorem adj(w:X)(base:Nat)(v:Bs)(b:List (List Int))(f:Bool)(c:im w base v b)(L:b.length<=30)(g:∀r∈b,r.length<=6)(ak:∀r∈b,r≠[]->1<=r.getD 0 0)(x:Gv b 0 f):
  B0 V 248 #[v,Cb #[M O 0,M O 0,M O 0,M O 0,M O 0,M O 0]] w fun e w'=>(∃z,e= A0 (M B3 z)/\decide (0<=z)=f)/\Z w.heap.size w w':=by
 obtain⟨l,s⟩:=az b.length;have o:=c;unfold im at o;rw[s]at o L;obtain⟨G,a0,rfl⟩:=bI o;have k:=lD c s x;clear c o s x;go_in;go_wp2_with fail;go_loopw [8] (fun i wr=>∃a:Nat,a<=l/\i= M B3 a/\Gv b a f/\Z w.heap.size w wr/\wr.heap[w.heap.size]?=N (Y #[M O 0,M O 0,M O 0,M O 0,M O 0,M O 0] 191 (0,0))) (fun i _=>l-(B4 i).toNat)
 case atStart=>exact⟨0,by omega,rfl,k.2.2,(al1 rfl).2.1,(al1 rfl).1⟩
 case round=>
  obtain⟨a,a1,rfl,h,m,y⟩:=hrel;by_cases ad:a<l
  ·obtain⟨r,d⟩:∃r,b[a]?=N r:=⟨_,aJ (by rw[k.out.2.1];exact ad)⟩;have t:=cH d;have c:=k.1.keep m;obtain⟨p,rfl⟩:∃p,G=N ⟨p,0,T⟩:=by
    rcases bu c with⟨q,_⟩|⟨p,ar,q⟩
    ·rw[k.out.2.1]at q;omega
    ·cases q;exact⟨_,rfl⟩
   have u:=c.cell g d (i:=0) (by decide);have A:=c.cell g d (i:=1) (by decide);have B:=c.cell g d (i:=2) (by decide);have C:=c.cell g d (i:=3) (by decide);have E:=c.cell g d (i:=4) (by decide);have F:=c.cell g d (i:=5) (by decide);rw[lH]at u;have af:r=[]\/1<=r.getD 0 0:=(Decidable.em (r=[])).imp_right (ak r t);have n:b.drop a=r::b.drop (a+1):=by
    obtain⟨H,I⟩:=List.getElem?_eq_some_iff.1 d;rw[jo H,I]
   obtain⟨a3,a4,a5,a6,a7,a8⟩:=gg y;have a2:(a:Int)<(l:Int):=by omega
   have K:(0:Int)<=(a:Int):=by omega
   rcases af with rfl|hpos
   ·have j:B1 (f=A9):=by
     show f=A9;rw[<-h.out,n];simp
    simp only[List.getD_nil]at u A B C E F;have J:=fun w=>alc w;clear n h d t;go_wp2_with fail;go_quiet (fail)
    go_wp2_with fail;try rw[xr]
    go_ret;exact⟨⟨_,rfl,by rw[j.out];exact bH K⟩,Jp m nq⟩
   ·have j:Gv b (a+1) f:=by
     refine⟨?_⟩;rw[<-h.out,n,List.contains_cons];have:([]==r)=Ax:=by
      rw[cG];rintro rfl;simp at hpos
     rw[this,FI]
    generalize r.getD 0 0=x0 at u hpos;generalize r.getD 1 0=al at A;generalize r.getD 2 0=am at B;generalize r.getD 3 0=an at C;generalize r.getD 4 0=ao at E;generalize r.getD 5 0=ap at F;have J:=fun w=>ald (x0:=x0) (by omega) al am an ao ap w;clear n h d t;go_wp2_with fail;go_quiet (fail)
    go_wp2_with fail;go_roundw
    case rel=>exact⟨a+1,by omega,by go_num,j,Jp m nq,y⟩
    case measure=>simp[B4];omega
  ·obtain rfl:a=l:=by omega
   have j:B1 (f=Ax):=by
    show f=Ax;rw[<-h.out,jE (by rw[k.out.2.1];exact ag _)];rfl
   clear h;go_wp2_with fail;go_ret;exact⟨⟨-1,rfl,by rw[j.out];rfl⟩,m⟩
theorem Gw(w:X)(base:Nat)(v:Bs)(a:List (List Int))(b:Bool)(f:im w base v a)(i:a.length<=30)(g:∀r∈a,r.length<=6)(j:∀r∈a,r≠[]->1<=r.getD 0 0)(d:Gv a 0 b):
  B0 V 205 #[v,Cb #[M O 0,M O 0,M O 0,M O 0,M O 0,M O 0]] w fun e w'=>e= A0 (A5 b)/\Z w.heap.size w w':=by
 have c:=(ah w.heap.size w).alloc (ag _) (Y #[M O 0,M O 0,M O 0,M O 0,M O 0,M O 0] 191 (0,0));have l:=adj _ base v a b (f.keep c) i g j d;clear f d;go_in;go_wp2_with (go_at_call 248;refine l.mono ?_;rintro e m ⟨⟨n,rfl,k⟩,h⟩);go_ret;refine⟨?_,c.trans (h.mono (by simp))⟩;rw[<-k];rfl
theorem aiF(w:X)(base k mb:Nat)(a:Int)(h:GB w base k mb)(g:0<=a)(z:a<=133):
  B0 V 134 #[S (N ⟨k,0,T⟩),M O a] w fun e w'=>e= A0 (A5 (I6 a))/\Z w.heap.size w w':=by
 obtain⟨D,o,B,p,l⟩:=h.r.ex;obtain⟨s,m⟩:=l a g (by omega);have d:=Bl g (show a<=255 by omega);unfold I6;generalize kF a=f at *;unfold zl at d;rw[ci,sf]at d;have r:=aH d.1;have u:∀b∈f,b.length<=6:=fun b j=>by have:=d.2 b j;simp only[ci]at this;exact aH this.1.1
 have v:∀b∈f,b≠[]->1<=b.getD 0 0:=fun b j t=>by
  have:=d.2 b j;simp only[ci,sf]at this;cases b with
  |nil=>exact absurd rfl t
  |cons y b=>have:=aH (this.1.2 y (by simp));simp;omega
 obtain⟨n,i⟩:=az (f.contains []);have x:=Gw w base (o a) f n m r u v ⟨i⟩;rw[i];have A:=h.c;clear m d l h i;go_in;go_wp2_with (first
  |(at_lookup;refine qA rfl _ _ rfl rfl p rfl a g (by omega) rfl s ?_)
  |(go_at_call 205;refine x.mono ?_;rintro e C ⟨rfl,q⟩))
 go_ret;exact⟨rfl,q⟩
theorem EC(n l k b p:Nat)(a:Option Addr)(f:Nat->Bs)(K:b<=100000000)(I:b<=p)(c:Nat->X->Prop)(o:X->Prop)
  (r:∀m W,c m W->W.cell? ⟨k,0,T⟩=N (A2 a b p))
  (z:∀m W,c m W->∀j,j<b->∃h,a=N h/\W.cell? (h.add j)=N (f j))
  (y:∀m W,m<b->c (m+1) W->YieldAt Fence.wide (n-1) V l #[M B3 (m:Int),f m] W fun e W'=>(e= A0 (A5 A9)/\c m W')\/(e= A0 (A5 Ax)/\o W'))
  (W:X) (q:c b W):
  CallsIn Fence.wide n V 204 #[.func (.yield l) #[] #[],S (N ⟨k,0,T⟩)] W fun e W'=>(∃v,e= A0 v)/\(c 0 W'\/o W'):=by
 have G:=r _ _ q;refine callsIn_of_wp Tryz.func204 rfl trivial ?_ rfl;simp only[Tryz.ntmps204,gj,bB,dl,Nat.reduceAdd,Nat.reduceSub,gD,iw,ix,od,dt,ej]
 gi_wp2
 gi_loopw [3] (fun i wr=>∃d:Nat,d<=b/\i= M B3 ((d:Int)-1)/\c d wr) (fun i _=>(B4 i+1).toNat)
 case atStart=>exact⟨b,ag _,rfl,q⟩
 case round=>
  obtain⟨d,J,rfl,g⟩:=hrel;have F:=r _ _ g;rcases qd d with rfl|hp
  ·gi_wp2
   go_end0
   exact⟨⟨_,rfl⟩,.inl g⟩
  ·obtain⟨m,rfl⟩:∃m,d=m+1:=⟨d-1,by omega⟩;obtain⟨h,rfl,H⟩:=z _ _ g m (by omega);obtain⟨E,tmps,B,C,L,x⟩:=y m wr (by omega) g;have s:((m+1:Nat):Int)-1=(m:Int):=by omega
   rw[s]
   gi_wp2
   refine⟨fun t=>by simp[Fence.wide]at t,x.mono ?_⟩;rintro e A (⟨rfl,u⟩|⟨rfl,w⟩)
   ·gi_wp2
    go_roundw
    case rel=>exact⟨m,by omega,by simp,u⟩
    case measure=>simp[B4]
   ·gi_wp2
    refine aI (dJ rfl _ _ _) rfl ?_;exact⟨⟨_,rfl⟩,.inr w⟩
theorem wg(a:Option Addr)(c b:Nat)(w:X):
  B0 V 132 #[A2 a c b] w fun e w'=>e= A0 (.func (.func 204) #[] #[S (N ⟨w.heap.size,0,T⟩)])/\w'=w.alloc (Y #[A2 a c b] 109):=by
 refine calls_of_wp Tryz.func132 rfl ?_;simp only[Tryz.ntmps132,gj,bB,dl,Nat.reduceAdd,Nat.reduceSub,gD,iw,ix,od,dt,ej];go_wp2;go_ret;exact⟨rfl,rfl⟩
attribute [local go_sem] lE
theorem dm{v:Bs}{t:B6}(h:W.heap[b]?=N (Y #[v] t (0,0))):W.cell? ⟨b,0,T⟩=N v:=by
 rw[au _ _ _ _ _ _ h];rfl
theorem yi(h:Z W.heap.size W W'):Br B W W':=⟨h.size,fun b c _ a _=>(h.block b (Array.getElem?_eq_some_iff.1 a).1).trans a⟩
structure uk (w:X) (gb:Nat) (t:Int) (vs:Bs) (r:Bool) (W:X):Prop where
 bl:Z w.heap.size w W
 b0:W.heap[w.heap.size]?=N (.cells #[.pointer (N ⟨gb,0,T⟩)] 63 (0,0))
 b1:W.heap[w.heap.size+1]?=N (.cells #[.int .i64 t] 3 (0,0))
 b2:W.heap[w.heap.size+2]?=N (.cells #[.bool r] 4 (0,0))
 b3:W.heap[w.heap.size+3]?=N (.cells #[vs] 109 (0,0))
theorem uk.below(h:uk w gb t vs r W)(a:Z W.heap.size W W'):uk w gb t vs r W':=
 ⟨h.bl.trans (a.mono h.bl.size),(a.block _ (aG h.b0)).trans h.b0,(a.block _ (aG h.b1)).trans h.b1,(a.block _ (aG h.b2)).trans h.b2,(a.block _ (aG h.b3)).trans h.b3⟩
theorem uk.put(h:uk w gb t vs r W)(b:w.heap.size+3<k)(o:Obj):uk w gb t vs r (W.putObj k o):=
 ⟨h.bl.grown (B7 W k o) h.bl.size (fun c a=>by cases a;omega),(Q (by omega)).trans h.b0,(Q (by omega)).trans h.b1,(Q (by omega)).trans h.b2,(Q (by omega)).trans h.b3⟩
theorem uk.set(h:uk w gb t vs r W)(a:Bool):uk w gb t vs a (W.setCell ⟨w.heap.size+2,0,T⟩ (A5 a)):=
 ⟨h.bl.setCell (by show w.heap.size<=w.heap.size+2;omega) _,(aB _ _ _ _ (by simp)).trans h.b0,(aB _ _ _ _ (by simp)).trans h.b1,bz _ _ 0 _ _ _ h.b2,(aB _ _ _ _ (by simp)).trans h.b3⟩
theorem Jq{fn:Func}{p:Tmp}(h:fn.results=#[.cell p 4])(tmps:Array Bs)(w:X)(g:Nat)(b:Bool)(c:tmps.getD p U= S (N ⟨g,0,T⟩))(a:w.heap[g]?=N (Y #[A5 b] 4 (0,0))):(results fn tmps).run V w= .ok (A5 b) w:=by
 have d:tmps[p]?.getD U= S (N ⟨g,0,T⟩):=by simpa using c
 have e:w.cell? ⟨g,0,T⟩=N (A5 b):=by rw[au _ _ _ _ _ _ a];rfl
 simp[results,h,d,asAddr];go_simp
structure Gx (st:List Int) (m:Nat) (t:Int) (R:Bool):Prop where
 out:ij (st.drop (st.length-m)) t=R
theorem akf(a:Int):dp a<=8:=by
 unfold dp
 repeat (first|omega|(split;· omega))
theorem yj(g j:Nat):(⟨g,0,T⟩:Addr).add j=⟨g,j,T⟩:=by unfold Addr.add;split<;>simp_all
def Aw(st:List Int)(m:Nat):Int:=st.reverse.getD m 0
theorem abw(c:st.length=n)(b:m<n):st.drop (n-(m+1))=Aw st m::st.drop (n-m):=by
 have a:n-(m+1)<st.length:=by omega
 rw[jo a,show n-(m+1)+1=n-m by omega]
 congr 1
 unfold Aw;rw[be,List.getElem?_reverse (by omega),aJ (by omega),gl]
 congr 1
 omega
theorem ale(c:st.length=n)(b:m<n):Aw st m∈st:=by
 have a:Aw st m∈st.drop (n-(m+1)):=by rw[abw c b];simp
 exact List.mem_of_mem_drop a
theorem aiG{c:Nat}{b:Option Addr}(h:W.ownsRow base 115 1 (A2 b n c) n (cSy st))(j:st.length=n)(i:m<n):∃a,b=N a/\W.cell? (a.add m)=N (M O (Aw st m)):=by
 rcases bu h with⟨g,_⟩|⟨f,e,d⟩
 ·omega
 ·cases d;refine⟨_,rfl,?_⟩;rw[yj,h.cellAt m (by omega)];unfold cSy Aw;rw[ce,aJ (by simp;omega),be,aJ (by simp;omega)];rfl
theorem afm(w:X)(base f mb:Nat)(st:List Int)(t:Int)(R:Bool)(a9:Gr w base f (.map (N mb)) st)(bb:RI w base mb)(bk:∀a∈st,0<=a/\a<=133)(s:st.length<=100000000)(ch:1<=t)(ck:t<=78)(E:ij st t=R):
  B0 V 79 #[S (N ⟨f,0,T⟩),M B3 t] w fun e w'=>e= A0 (A5 R)/\Z w.heap.size w w':=by
 obtain⟨cI,ak,H⟩:=a9.ex;have ba:GB w base f mb:=⟨by rw[au _ _ _ _ _ _ ak];rfl,bb⟩;obtain⟨n,a1⟩:=az st.length;rw[a1]at H s;obtain⟨h,g,rfl⟩:=bI H;have af:w.cell? ⟨f,1,T⟩=N (A2 h n g):=by rw[au _ _ _ _ _ _ ak];rfl
 have b9:n<=g:=by
  rcases H.2 with⟨a8,u⟩|⟨ct,cq,cr,a8,_,_,r,_⟩
  ·rw[u];exact aL _
  ·cases a8;exact r
 have m:=Ig ba H a1 E bk;have cx:=aG ak;clear a9 bb bk H a1 E ba;refine lF (n:=5).1 ?_;refine callsIn_of_wp_marks Tryz.func79 rfl trivial ?_ rfl;simp only[Tryz.ntmps79,gj,bB,dl,Nat.reduceAdd,Nat.reduceSub,gD,iw,ix,od,dt,ej];refine wpIn_wide.2 ?_;have b4:=fun (cc cf cg:Obj)=>aj (((((ah w.heap.size w).alloc (ag _) cc).alloc (by simp) cf)).alloc (by simp;omega) cg) af;go_wp2_with (go_at_call 132;refine(wg h n g _).mono ?_;rintro e c4 ⟨rfl,rfl⟩);rename_i cl bd;generalize bh:(w.alloc _).alloc _=bD;generalize bf:(bD.alloc _).alloc _=a6;obtain⟨br,bs,pB,bt⟩:=DB bh;obtain⟨a3,a4,an,a5⟩:=DB bf;rw[bt]at a3 a4 a5;have cb:uk w f t (A2 h n g) Ax a6:=⟨pB.trans (an.mono (by omega)),(an.block _ (by omega)).trans br,(an.block _ (by omega)).trans bs,a3,a4⟩;have A:a6.heap.size=w.heap.size+4:=a5;clear bh bf br bs pB bt a3 a4 an a5;clear b4 af ak;refine(qc (n:=5)).1 ?_;refine uK (P:=V) (gf:=204) (lb:=#[S (N ⟨w.heap.size+1+1+1,0,T⟩)]) rfl (enters_of Tryz.func204 (by kernel_rfl) rfl)
  (fun d=>#[M B3 (d:Int),M O (Aw st d)]) (fun _=>rfl) n
  (fun d b=>uk w f t (A2 h n g) Ax b/\Gx st d t R)
  (fun d C b=>uk w f t (A2 h n g) Ax b/\Gx st (d+1) t R/\
   C={tmps:=#[S (N ⟨f,0,T⟩),M B3 t,S (N ⟨w.heap.size,0,T⟩),S (N ⟨w.heap.size+1,0,T⟩),S (N ⟨w.heap.size+1+1,0,T⟩),U,M O (Aw st d),
    S (N ⟨f,0,T⟩),S (N ⟨f,0,T⟩),S (N ⟨f,1,T⟩),S (N ⟨f,1,T⟩),A2 h n g,.func (.func 204) #[] #[S (N ⟨w.heap.size+1+1+1,0,T⟩)],M B3 (d:Int),M O (Aw st d),
    U,U,U,U,U,U,U,U,U],defers:=[]})
  (fun b=>uk w f t (A2 h n g) R b)
  ?pZ ?pAx ?pX ?h0 ?assign ?body ?seq ?done ?ret
 case pZ=>
  rintro d b bw K ⟨c,j⟩ s;rw[A]at s⊢;exact⟨c.put (by omega) K,j⟩
 case pAx=>
  rintro d C b bw K ⟨c,j,rfl⟩ s;rw[A]at s⊢;exact⟨c.put (by omega) K,j,rfl⟩
 case pX=>
  intro b bw K c s;rw[A]at s⊢;exact c.put (by omega) K
 case h0=>
  intro cn b8 cz;exact⟨cb.below b8,⟨by rw[m.out.2.2.1,eC];exact m.2.2.2.1⟩⟩
 case assign=>
  rintro J d b cm a0 ⟨c,j⟩ b5;have p:=gI c j;clear c j
  gi_wp2
  exact b5 _ _ ⟨p.1,p.2,rfl⟩ (KeepsFrom.refl _ _)
 case body=>
  rintro J d C b a0 ⟨c,j,rfl⟩;rw[A];have I:=m.2.2.2.2 _ (ale m.2.2.1 a0);have l:=j.out;rw[m.out.2.2.1,abw m.out.2.2.1 a0,ij]at l;have G:zI 9 (Aw st d) t=Ax->I6 (Aw st d)=A9->Gx st d t R:=fun ao i=>by
   rw[aa (by rw[ao];simp),ab i]at l;exact⟨by rw[m.out.2.2.1];exact l⟩
  generalize Aw st d=v at I l G⊢;have bn:=CallsIn.inRound J (lF (n:=2).2 (wA 8 b base f mb v t (m.1.below c.bl) I.1 I.2 (akf v) ch ck));have a2:=fun (a7:X) (o:Z w.heap.size w a7)=>CallsIn.inRound J (lF (n:=2).2 (aiF a7 base f mb v (m.1.below o) I.1 I.2));have bE:=dm c.b0;have af:=dm c.b1;have cs:IntKind.u8.wrap t=t:=by rw[aa3];omega
  have p:=aq c;clear c j
  gi_wp2_with (refine⟨trivial,?_⟩;gi_at_call 133;fail)
  refine⟨trivial,bn.mono ?_⟩;rintro e L ⟨rfl,ap⟩;have o:=p.below ap;have al:Br (w.heap.size+4) b L:=yi ap;have x:=dm o.b2;have y:L.frozen? ⟨w.heap.size+2,0,T⟩=Ax:=co _ _ _ _ _ o.b2;have bF:=dm o.b0;have i:w.heap.size+1+1=w.heap.size+2:=rfl;rw[<-i]at x y;clear bn bE af ap i;cases hbv:zI 9 v t with
  |true=>
   rw[hbv,ab rfl]at l;have q:B1 (uk w f t (A2 h n g) R (L.setCell ⟨w.heap.size+1+1,0,T⟩ (A5 A9))/\Br (w.heap.size+4) b (L.setCell ⟨w.heap.size+1+1,0,T⟩ (A5 A9))):=⟨by rw[<-l];exact o.set A9,al.trans ((KeepsOthers.setCell _ _ _).from _)⟩;have F:zI (8+1) v t=A9:=hbv;try rw[F]
   clear l G hbv F a2 o al p
   gi_wp2
   exact⟨q.2,q.1⟩
  |false=>
   have F:zI (8+1) v t=Ax:=hbv;rw[hbv,aa (by simp)]at l;try rw[F]
   have bo:=a2 L o.bl;have ad:=gI o al;clear F a2 o al p x y
   gi_wp2_with (refine⟨trivial,?_⟩;gi_at_call 134;fail)
   refine⟨trivial,bo.mono ?_⟩;rintro e B ⟨rfl,ar⟩;have r:=ad.1.below ar;have am:Br (w.heap.size+4) b B:=ad.2.trans (yi ar);have x:=dm r.b2;have y:B.frozen? ⟨w.heap.size+2,0,T⟩=Ax:=co _ _ _ _ _ r.b2;have i:w.heap.size+1+1=w.heap.size+2:=rfl;rw[<-i]at x y;clear bo bF ar i;cases hnv:I6 v with
   |true=>
    have q:B1 (uk w f t (A2 h n g) Ax B/\Gx st d t R/\Br (w.heap.size+4) b B):=⟨r,G hbv hnv,am⟩;clear l G hbv r am ad hnv
    gi_wp2
    exact⟨q.2.2,q.1,q.2.1⟩
   |false=>
    rw[hnv,aa (by simp)]at l;have q:B1 (uk w f t (A2 h n g) R (B.setCell ⟨w.heap.size+1+1,0,T⟩ (A5 Ax))/\Br (w.heap.size+4) b (B.setCell ⟨w.heap.size+1+1,0,T⟩ (A5 Ax))):=⟨by rw[<-l];exact r.set Ax,am.trans ((KeepsOthers.setCell _ _ _).from _)⟩;clear l G hbv r am ad hnv
    gi_wp2
    exact⟨q.2,q.1⟩
 case seq=>
  intro J bx bA bc b7 b b6;refine EC 4 J (w.heap.size+1+1+1) n g h _ s b9 bx bA (fun d b c=>?_) (fun d b c cF ca=>?_) b7 b b6
  ·exact dm (bc d b c).1.b3
  ·obtain⟨C,ao,i⟩:=aiG m.2.1 m.2.2.1 ca;exact⟨C,ao,aj (bc d b c).1.bl i⟩
 case ret=>
  intro b c z;rw[A]at z⊢;refine⟨by simp,.inl ⟨_,_,rfl,run_takeDeferred z,?_⟩⟩;have u:=c.put (k:=w.heap.size+4) (by omega) (.deferred T);refine⟨_,Jq rfl _ _ (w.heap.size+1+1) R rfl u.b2,rfl,u.bl⟩
 case done=>
  rintro b ⟨c,j⟩ z;rw[A]at z⊢;have E:R=Ax:=by
   have:=j.out;rw[FC,List.drop_length]at this;exact this.symm
  refine bd _ _ ?_;have x:=dm c.b2;have y:b.frozen? ⟨w.heap.size+2,0,T⟩=Ax:=co _ _ _ _ _ c.b2;have i:w.heap.size+1+1=w.heap.size+2:=rfl;rw[<-i]at x y;have p:B1 (uk w f t (A2 h n g) R (b.setCell ⟨w.heap.size+1+1,0,T⟩ (A5 Ax))/\(b.setCell ⟨w.heap.size+1+1,0,T⟩ (A5 Ax)).heap[w.heap.size+4]?=N (.deferred (N []))):=⟨by rw[E];exact c.set Ax,(aB _ _ _ _ (by simp)).trans z⟩;clear c j z E bd i;go_wp2_with fail;refine⟨by simp,.inl ⟨_,_,rfl,run_takeDeferred p.2,?_⟩⟩;have u:=p.1.put (k:=w.heap.size+4) (by omega) (.deferred T);refine⟨_,Jq rfl _ _ (w.heap.size+1+1) R rfl u.b2,rfl,u.bl⟩
def passOk(b:Nat):Nat->List Int->Int->List Int->Prop
 |0,_,_,_=>False
 |_+1,[],_,_=>False
 |f+1,a::r,t,o=>(a=t/\o=r/\r.length<=b)\/(a≠t/\(Gc a t++r).length<=b/\passOk b f (Gc a t++r) t o)
theorem afn(e:0<=a)(g:a<=133):(Gc a t).length<=6/\∀z∈Gc a t,1<=z/\z<=133:=by
 have b:=Bl e (show a<=255 by omega);unfold zl at b;rw[ci,sf]at b;unfold Gc;cases hf:List.find? (hdI t) (kF a) with
 |none=>exact⟨aL _,fun z c=>by simp at c⟩
 |some d=>
  have f:d∈kF a:=aa2 hf;have:=b.2 d f;simp only[ci,sf]at this;exact⟨aH this.1.1,fun z c=>aH (this.1.2 z c)⟩
theorem aiH(b:1<=t):rwN 8 (kF a) t=Gc a t:=by
 unfold rwN Gc
 congr 2
 funext r
 rw[ake b 7 r];cases r<;>rfl
theorem ED:∀{f b:Nat}{st o:List Int}{t:Int},kG f st t=N o->(∀z∈st,0<=z/\z<=133)->st.length+5*f<=b->passOk b f st t o
 |0,_,_,_,_,h,_,_=>by simp[kG]at h
 |f+1,_,[],_,_,h,_,_=>by simp[kG]at h
 |f+1,b,a::r,o,t,h,c,d=>by
  rw[kG]at h;unfold passOk;simp only[bB]at d;by_cases e:a=t
  ·rw[ab e]at h;exact .inl ⟨e,(bp h).symm,by omega⟩
  ·rw[aa e]at h;obtain⟨g,i⟩:=c a (by simp);obtain⟨k,j⟩:=afn (t:=t) g i;refine .inr ⟨e,by rw[aK];omega,ED h (fun z hz'=>?_) (by rw[aK];omega)⟩;rcases List.mem_append.1 hz' with hz'|hz'
   ·have:=j z hz';omega
   ·exact c z (by simp[hz'])
theorem Aa:∀{f g b:Nat}{st o:List Int}{t:Int},passOk b f st t o->f<=g->passOk b g st t o
 |0,_,_,_,_,_,h,_=>h.elim
 |f+1,0,_,_,_,_,_,i=>by omega
 |f+1,g+1,_,[],_,_,h,_=>h.elim
 |f+1,g+1,b,a::r,o,t,h,i=>by
  unfold passOk at h⊢;rcases h with h|⟨c,d,e⟩
  ·exact .inl h
  ·exact .inr ⟨c,d,Aa e (by omega)⟩
theorem Ab:∀{f b M':Nat}{st o:List Int}{t:Int},passOk b f st t o->b<=M'->passOk M' f st t o
 |0,_,_,_,_,_,h,_=>h.elim
 |f+1,_,_,[],_,_,h,_=>h.elim
 |f+1,b,M',a::r,o,t,h,g=>by
  unfold passOk at h⊢;rcases h with⟨c,d,e⟩|⟨c,d,e⟩
  ·exact .inl ⟨c,d,by omega⟩
  ·exact .inr ⟨c,by omega,Ab e g⟩
theorem Jr:∀{st:List Int}{t:Int},OkI st->1<=t->t<=78->ij st t=A9->∃o,passOk (st.length+45) (st.length+9) st t o
 |[],t,d,_,_,h=>by simp[ij]at h
 |a::r,t,d,k,l,h=>by
  have p:=d a (cE ..);have s:OkI r:=fun y v=>d y (dI _ v);have u:∀e∈a::r,0<=e/\e<=133:=fun e w=>by have:=aH (d e w);omega
  have b:=abh p k l;rw[ij]at h;unfold ae2 at b;by_cases f:zI 9 a t=A9
  ·rw[ab f]at b;split at b
   ·rename_i A B C n z;have g:=yK (c:=r) n;rw[xl]at g;exact⟨_,Aa (ED g u (by simp)) (by simp)⟩
   ·cases b
  ·rw[aa f]at b h;by_cases i:I6 a=A9
   ·rw[ab i]at b h;rw[ci]at b;obtain⟨o,x⟩:=Jr s k l h;have q:¬a=t:=fun m=>by
     subst m;have:zI 9 a a=A9:=by rw[zI,ab (by omega)];exact bH rfl
     exact f this
    have j:Gc a t=[]:=by simpa using b.1
    refine⟨o,?_⟩;rw[show(a::r).length+9=(r.length+9)+1 from Nat.add_right_comm r.length 1 9];unfold passOk;refine .inr ⟨q,by rw[j,dt];simp;omega,?_⟩;rw[j,dt];exact Ab x (by simp)
   ·rw[aa i]at h;cases h
theorem Ad:∀{f c:Nat}{st o:List Int}{t:Int},passOk c f st t o->kG f st t=N o
 |0,_,_,_,_,h=>h.elim
 |f+1,_,[],_,_,h=>h.elim
 |f+1,c,a::r,o,t,h=>by
  unfold passOk at h;rw[kG];rcases h with⟨b,d,e⟩|⟨b,d,e⟩
  ·rw[ab b,d]
  ·rw[aa b];exact Ad e
theorem wC:∀{f b:Nat}{st o:List Int}{t:Int},passOk b f st t o->o.length<=b
 |0,_,_,_,_,h=>h.elim
 |f+1,_,[],_,_,h=>h.elim
 |f+1,b,a::r,o,t,h=>by
  unfold passOk at h;rcases h with⟨e,d,c⟩|⟨e,d,c⟩
  ·rw[d];exact c
  ·exact wC c
theorem DL.passOk{c:List Int}(h:DL st c)(d:1<=t)(e:t<=78)(a:ij st t=A9):∃o,passOk (st.length+45) (st.length+9) st t o/\DL o (feedL c t).1:=by
 obtain⟨o,b⟩:=Jr h.o1 d e a;obtain⟨g,f,p2⟩:=h.pass d e a;have:=Ad b;rw[f]at this;obtain rfl:=bp this;exact⟨_,b,p2⟩
attribute [local go_sem] lE
theorem akg{t:B6}(d:W.heap[gb]?=N (Y cs t fr))(h:Gp gb W W'):Br B W W':=⟨h.size,fun e i _ a c=>(h.block e (Array.getElem?_eq_some_iff.1 a).1 (by rintro rfl;rw[d]at a;cases a;cases c) (fun f g b=>by rw[a]at b;cases b;cases c)).trans a⟩
theorem jx{t:B6}(h:Gp gb W W')(a:W.heap[k]?=N (Y cs t fr))(c:k≠gb)(d:t≠115:=by decide):W'.heap[k]?=N (Y cs t fr):=
 (h.block k (Array.getElem?_eq_some_iff.1 a).1 c (fun e f b=>by rw[a]at b;cases b;exact d rfl)).trans a
structure wD (w:X) (base gb mb:Nat) (st:List Int) (c:List Nat) (W:X):Prop where
 g:Gr W base gb (.map (N mb)) st
 r:RI W base mb
 gp:Gp gb w W
 bb:Z base w W
 b0:W.heap[w.heap.size]?=N (.cells #[.pointer (N ⟨gb,0,T⟩)] 63 (0,0))
 mks:pj (w.heap.size+1) c W
 ne:gb<w.heap.size
theorem wD.below(h:wD w base gb mb st c W)(a:Z W.heap.size W W'):wD w base gb mb st c W':=by
 refine⟨h.g.below a,h.r.below a,h.gp.trans (Gp.of_below a),h.bb.trans (a.mono ?_),(a.block _ (aG h.b0)).trans h.b0,h.mks.below a,h.ne⟩;have:=h.g.lo;have:=h.ne;have:=h.gp.size;omega
theorem wD.turn{i:List Int}(h:wD w base gb mb st c W)(j:Gr W' base gb (.map (N mb)) i)(d:Gp gb W W')(k:Z base W W'):wD w base gb mb i c W':=by
 obtain⟨n,f,_⟩:=h.g.ex;exact⟨j,h.r.gp f d,h.gp.trans d,h.bb.trans k,jx d h.b0 (by have:=h.ne;omega),
  ⟨h.mks.nd,h.mks.lo,fun a b=>(d.block a (Array.getElem?_eq_some_iff.1 (h.mks.at_ a b)).1 (by rintro rfl;have:=h.mks.at_ a b;rw[f]at this;cases this) (fun l m e=>by rw[h.mks.at_ a b]at e;cases e)).trans (h.mks.at_ a b)⟩,h.ne⟩
theorem wD.put(h:wD w base gb mb st c W){r:Loop}(x:w.heap.size<k)(d:W.heap[k]?=N (.loop r))(o:Obj):wD w base gb mb st c (W.putObj k o):=by
 obtain⟨q,l,n⟩:=h.g.ex;have e:gb≠k:=by have:=h.ne;omega
 have p:base<=k:=by have:=h.g.lo;have:=h.ne;omega
 refine⟨⟨⟨q,(Q e).trans l,ownsRow_putObj n o d rfl⟩,h.g.lo⟩,h.r.same (fun t c a=>(Q (by rintro rfl;rw[d]at a;cases a)).trans a) (fun v s u a=>(Q (by rintro rfl;rw[d]at a;cases a)).trans a),?_,h.bb.grown (B7 W k o) (by have:=h.gp.size;have:=h.g.lo;have:=h.ne;omega) (fun i a=>by cases a;exact p),(Q (by omega)).trans h.b0,
  ⟨h.mks.nd,h.mks.lo,fun f g=>(Q (by rintro rfl;have:=(h.mks.at_ f g).symm.trans d;cases this)).trans (h.mks.at_ f g)⟩,h.ne⟩
 have b:=h.gp;refine⟨b.os,b.tape,b.output,by have:=b.size;simpa using this,fun i m e j=>(Q (by omega)).trans (b.block i m e j)⟩
structure LF (w:X) (base gb mb:Nat) (st:List Int) (c:List Nat) (sz:Nat) (x0 x1 x2 x3 x4 x5:Int) (W:X):Prop where
 ps:wD w base gb mb st c W
 b0:W.heap[sz]?=N (.cells #[.int .u8 x0,.int .u8 x1,.int .u8 x2,.int .u8 x3,.int .u8 x4,.int .u8 x5] 191 (0,0))
 b1:W.heap[sz+1]?=N (.cells #[.slice (N ⟨sz,0,T⟩) 6 6] 109 (0,0))
theorem LF.put{a:Nat}{x0 b d e f g:Int}(h:LF w base gb mb st c a x0 b d e f g W)(l:w.heap.size<a){r:Loop}(j:a+1<k)(i:W.heap[k]?=N (.loop r))(o:Obj):LF w base gb mb st c a x0 b d e f g (W.putObj k o):=
 ⟨h.ps.put (by omega) i o,(Q (by omega)).trans h.b0,(Q (by omega)).trans h.b1⟩
theorem afo(w:X)(base f mb:Nat)(st:List Int)(t:Int)(o bh:Nat)(stF:List Int)(a5:Gr w base f (.map (N mb)) st)(cq:RI w base mb)(cF:∀a∈st,0<=a/\a<=133)(u:st.length<=o)(f4:o<=100000000)(c9:1<=t)(fd:t<=78)(a6:passOk o bh st t stF):
  B0 V 81 #[S (N ⟨f,0,T⟩),M O t] w fun e w'=>e= A0 (C2 #[])/\Gr w' base f (.map (N mb)) stF/\RI w' base mb/\Gp f w w'/\Z base w w':=by
 obtain⟨d8,cz,e7⟩:=a5.ex;have e4:=aG cz;have f7:=a5.lo;obtain⟨k,rfl⟩:∃k,bh=k+1:=by
  cases bh with
  |zero=>exact a6.elim
  |succ k=>exact⟨k,rfl⟩
 obtain⟨c,l,rfl⟩:∃c l,st=c::l:=by
  cases st with
  |nil=>exact a6.elim
  |cons c l=>exact⟨c,l,rfl⟩
 have an:=(ah w.heap.size w).alloc (ag _) (Y #[S (N ⟨f,0,T⟩)] 63 (0,0));have bs:wD w base f mb (c::l) [] (w.alloc (Y #[S (N ⟨f,0,T⟩)] 63 (0,0))):=
  ⟨a5.below an,cq.below an,Gp.of_below an,an.mono (by omega),aA w _,⟨uD,fun q hb=>by simp at hb,fun q hb=>by simp at hb⟩,e4⟩
 have v:=Jl _ base f (.map (N mb)) l c bs.g (by simp only[bB]at u;omega);have a2:=lD bs cF a6;clear a5 cq cF e7 bs a6 cz;refine lF (n:=5).1 ?_;refine callsIn_of_wp_marks Tryz.func81 rfl trivial ?_ rfl;simp only[Tryz.ntmps81,gj,bB,dl,Nat.reduceAdd,Nat.reduceSub,gD,iw,ix,od,dt,ej];refine wpIn_wide.2 ?_;go_wp2_with (go_at_call 138;refine v.mono ?_;rintro e fg ⟨rfl,a4,p2,cg⟩);have c2:=a2.1.turn a4 p2 cg;have cb:B1 (wD w base f mb l [] fg/\(∀a∈c::l,0<=a/\a<=133)/\passOk o (k+1) (c::l) t stF/\l.length<=o):=⟨c2,a2.2.1,a2.2.2,by simp only[bB]at u;omega⟩;clear a2 c2 a4 p2 cg v an;obtain⟨s0,c1⟩:=az c;refine(qc (n:=5)).1 (wpIn_loop_ghost (fun k al g=>∃(c:Int) (st:List Int) (j:List Nat),B1 (wD w base f mb st j g/\(∀a∈c::st,0<=a/\a<=133)/\passOk o (k+1) (c::st) t stF/\st.length<=o)/\∃d6 d7 df dk dn b7 b8 b9 ca dq ds dz d0 d1 d2 d3 d4 d5:Bs,al={tmps:=#[S (N ⟨f,0,T⟩),M O t,S (N ⟨w.heap.size,0,T⟩),U,M O c,d6,d7,U,U,S (N ⟨f,0,T⟩),S (N ⟨f,0,T⟩),S (N ⟨f,1,T⟩),M O s0,df,dk,dn,b7,b8,b9,ca,dq,ds,dz,d0,d1,d2,d3,d4,d5,U,U,U,U,U,U,U,U,U],defers:=j.map zk}) k ?start ?round)
 case start=>exact⟨c,l,[],cb,U,U,U,U,U,U,U,U,U,U,U,U,U,U,U,U,U,U,by rw[<-c1];rfl⟩
 case round=>
  clear cb u c1;rintro k al g ⟨c,st,j,m,d6,d7,df,dk,dn,b7,b8,b9,ca,dq,ds,dz,d0,d1,d2,d3,d4,d5,rfl⟩;refine wpIn_wide.2 ?_;have e0:=dm m.1.b0;have a9:=m.2.1 c (by simp);by_cases ap:c=t
  ·have G:=m.2.2.1;unfold passOk at G;have c4:stF=st:=by
    rcases G with⟨_,b,_⟩|⟨b,_⟩
    ·exact b
    ·exact absurd ap b
   have ak:B1 (wD w base f mb stF j g):=by rw[c4];exact m.1
   clear G m c4;subst ap;go_wp2_with fail;show LeavesInM _ _ _ _ _ _ (j.map zk) .returning g;have b:=ak.out;refine ou (w.heap.size+1) j g b.mks (fun cf s=>?_);have c5:∀h,h<=w.heap.size->cf.heap[h]?=g.heap[h]?:=fun h E=>s.same h (fun F=>by have:=b.mks.lo h F;omega);have a7:∀(h:Nat)(x:Obj),g.heap[h]?=N x->(∀a1,x≠ .deferred a1)->cf.heap[h]?=N x:=fun h x E a8=>(s.same h (fun F=>by have:=b.mks.at_ h F;rw[E]at this;exact a8 _ (bp this))).trans E;refine⟨_,dJ rfl _ _ _,rfl,?_,?_,?_,?_⟩
   ·obtain⟨d8,y,a8⟩:=b.g.ex;refine⟨⟨d8,a7 _ _ y (fun a1 e=>by cases e),a8.1,?_⟩,b.g.lo⟩;rcases a8.2 with em|⟨a4,eh,ei,bE,bF,b3,b4⟩
    ·exact .inl em
    ·exact .inr ⟨a4,eh,ei,bE,bF,a7 _ _ b3 (fun a1 e=>by cases e),b4⟩
   ·exact b.r.same (fun f1 j e=>a7 _ _ e (fun a1 e=>by cases e)) (fun f3 fF f2 e=>a7 _ _ e (fun a1 e=>by cases e))
   ·exact⟨s.os.trans b.gp.os,s.tape.trans b.gp.tape,s.output.trans b.gp.output,by rw[s.size];exact b.gp.size,fun h E e6 e2=>(c5 h (by omega)).trans (b.gp.block h E e6 e2)⟩
   ·exact⟨s.os.trans b.bb.os,s.tape.trans b.bb.tape,s.output.trans b.bb.output,by rw[s.size];exact b.bb.size,fun h E=>(c5 h (by omega)).trans (b.bb.block h E)⟩
  ·have f9:(c==t)=Ax:=by rw[cG];exact ap
   have G:(Gc c t++st).length<=o/\passOk o k (Gc c t++st) t stF:=by
    have:=m.2.2.1;unfold passOk at this;rcases this with⟨b,_⟩|⟨_,b⟩
    ·exact absurd b ap
    ·exact b
   obtain⟨ff,y,_⟩:=m.1.g.ex;have cn:GB g base f mb:=⟨by rw[au _ _ _ _ _ _ y];rfl,m.1.r⟩;obtain⟨C,cv⟩:∃C,Cr 8 t (kF c) 0 (Gc c t) C:=⟨_,⟨aiH c9,rfl⟩⟩;have av:=Cs 7 (wA 7) g base f mb c t cn a9.1 a9.2 (akf c) c9 fd _ C cv;obtain⟨br,cI⟩:=afn (t:=t) a9.1 a9.2;rw[abt br]at av;have r:B1 ((Gc c t++st).length<=o/\passOk o k (Gc c t++st) t stF/\(Gc c t).length<=6/\∀eb∈Gc c t,1<=eb/\eb<=133):=⟨G.1,G.2,br,cI⟩;generalize Gc c t=rw at av r;obtain⟨I,bc⟩:=az (rw.getD 0 0);obtain⟨J,bt⟩:=az (rw.getD 1 0);obtain⟨K,bw⟩:=az (rw.getD 2 0);obtain⟨L,bx⟩:=az (rw.getD 3 0);obtain⟨ad,bA⟩:=az (rw.getD 4 0);obtain⟨af,bD⟩:=az (rw.getD 5 0);rw[bc,bt,bw,bx,bA,bD]at av;have cc:=akv bc bt bw bx bA bD;clear G y cn cv br cI bc bt bw bx bA bD ap;go_wp2_with (first
    |(go_at_call 139;refine av.mono ?_;rintro e d9 ⟨rfl,ao⟩)
    |(go_at_call 132;refine(wg _ 6 6 _).mono ?_;rintro e gd ⟨rfl,rfl⟩))
   rename_i fx ct;obtain⟨i,c6⟩:=az d9.heap.size;rw[c6];generalize cw:(d9.alloc _).alloc _=fB;obtain⟨bn,bo,cm,ar⟩:=DB cw;rw[c6]at bn bo ar;have c3:=m.1.below (ao.trans (cm.mono ao.size));have e3:∀q∈j,q<i:=fun q hb=>by have:=(Array.getElem?_eq_some_iff.1 (m.1.mks.at_ q hb)).1;have:=ao.size;omega
   have c7:w.heap.size<i:=by have:=aG m.1.b0;have:=ao.size;omega
   clear av ao e0 cm cw;refine(qc (n:=5)).1 ?_;refine uK (P:=V) (gf:=204) (lb:=#[S (N ⟨i+1,0,T⟩)]) rfl (enters_of Tryz.func204 (by kernel_rfl) rfl)
    (fun d=>#[M B3 (d:Int),M O (rw.getD d 0)]) (fun _=>rfl) 6
    (fun d g=>LF w base f mb (rw.drop d++st) j i I J K L ad af g)
    (fun d al g=>LF w base f mb (rw.drop (d+1)++st) j i I J K L ad af g/\al={tmps:=#[S (N ⟨f,0,T⟩),M O t,S (N ⟨w.heap.size,0,T⟩),U,M O c,S (N ⟨i,0,T⟩),A5 C,U,M O (rw.getD d 0),S (N ⟨f,0,T⟩),S (N ⟨f,0,T⟩),S (N ⟨f,1,T⟩),M O s0,M O c,M O t,A5 A9,b7,b8,b9,ca,C2 #[Cb #[M O I,M O J,M O K,M O L,M O ad,M O af],A5 C],S (N ⟨f,0,T⟩),M O c,M O t,C2 #[Cb #[M O I,M O J,M O K,M O L,M O ad,M O af],A5 C],Cb #[M O I,M O J,M O K,M O L,M O ad,M O af],A5 C,A2 (N ⟨i,0,T⟩) 6 6,.func (.func 204) #[] #[S (N ⟨i+1,0,T⟩)],M B3 (d:Int),M O (rw.getD d 0),U,U,U,U,U,U,U],defers:=[]})
    (fun _=>False)
    ?pZ ?pAx ?pX ?h0 ?assign ?body ?seq ?done ?ret
   case pZ=>
    rintro d g l x b u;rw[ar]at u⊢;exact b.put c7 (by omega) u x
   case pAx=>
    rintro d al g l x ⟨b,rfl⟩ u;rw[ar]at u⊢;exact⟨b.put c7 (by omega) u x,rfl⟩
   case pX=>intro g l x b;exact b.elim
   case h0=>
    intro fA hb f8;refine⟨?_,(hb.block _ (by omega)).trans bn,(hb.block _ (by omega)).trans bo⟩;rw[jE r.out.2.2.1];exact c3.below hb
   case assign=>
    rintro bd d g fz F b eq;have A:=aq b;clear b
    gi_wp2
    exact eq _ _ ⟨A,rfl⟩ (KeepsFrom.refl _ _)
   case seq=>
    intro bd ec ef cr ev g et;refine EC 4 bd (i+1) 6 6 (N ⟨i,0,T⟩) _ (by decide) (ag _) ec ef (fun d g b=>?_) (fun d g b am f5=>?_) ev g et
    ·exact dm (cr d g b).b1
    ·obtain⟨fb,bE,bF,b3,b4,fc⟩:=gg (cr d g b).b0;obtain⟨fm,fn,fo,fq,fu,fv⟩:=cc.out;refine⟨_,rfl,?_⟩;rw[yj];rcases(show am=0\/am=1\/am=2\/am=3\/am=4\/am=5 by omega) with rfl|rfl|rfl|rfl|rfl|rfl
     ·rw[fm];exact fb
     ·rw[fn];exact bE
     ·rw[fo];exact bF
     ·rw[fq];exact b3
     ·rw[fu];exact b4
     ·rw[fv];exact fc
   case ret=>intro g b;exact b.elim
   case body=>
    rintro bd d al B F ⟨b,rfl⟩;rw[ar];have ck:=dm b.ps.b0;obtain⟨ff,y,_⟩:=b.ps.g.ex;by_cases bl:d<rw.length
    ·have c8:rw.getD d 0∈rw:=by rw[be,aJ bl];exact A6 _
     have e9:=r.2.2.2 _ c8;have cx:rw.drop d=rw.getD d 0::rw.drop (d+1):=by
      rw[jo bl]
      congr 1
      rw[be,aJ bl];rfl
     have e5:(rw.drop (d+1)++st).length<=100000000:=by
      have:=r.1;rw[aK]at this⊢;rw[ep];omega
     have v:=CallsIn.inRound bd (lF (n:=2).2 (zj B base f (.map (N mb)) (rw.drop (d+1)++st) (rw.getD d 0) b.ps.g e5));rw[<-ej,<-cx]at v;have A:=gI b y;generalize rw.getD d 0=fk at e9 v⊢;have bc:(fk==0)=Ax:=by rw[cG];omega
     clear b y c8 cx
     gi_wp2_with (refine⟨trivial,?_⟩;gi_at_call 77;fail)
     refine⟨trivial,v.mono ?_⟩;rintro e ea ⟨rfl,cl,a0,ch⟩;have ak:B1 (LF w base f mb (rw.drop d++st) j i I J K L ad af ea/\Br (i+1+1) B ea):=⟨⟨A.1.ps.turn cl a0 ch,jx a0 A.1.b0 (by omega),jx a0 A.1.b1 (by omega)⟩,akg A.2 a0⟩;clear cl a0 ch v A ck
     gi_wp2
     exact⟨ak.2,ak.1⟩
    ·have e8:rw.getD d 0=0:=by rw[be,jG (by omega)];rfl
     rw[e8];have ak:B1 (LF w base f mb (rw.drop d++st) j i I J K L ad af B):=by
      have ek:rw.drop d=rw.drop (d+1):=by rw[jE (by omega),jE (by omega)]
      rw[ek];exact b
     clear b y
     gi_wp2
     exact⟨KeepsFrom.refl _ _,ak⟩
   case done=>
    rintro B b bk;rw[ar]at bk⊢;obtain⟨a3,rfl⟩:∃a3,k=a3+1:=by
     cases k with
     |zero=>exact(r.2.1).elim
     |succ k=>exact⟨k,rfl⟩
    obtain⟨H,z,ba⟩:∃H z,rw++st=H::z:=by
     cases hq:rw++st with
     |nil=>have:=r.2.1;rw[hq]at this;exact this.elim
     |cons a q=>exact⟨a,q,rfl⟩
    have p:=b.ps;rw[ey,ba]at p;have f6:z.length+1<=o:=by have:=r.1;rw[ba,bB]at this;exact this
    have v:=Jl B base f (.map (N mb)) z H p.g (by omega);have ck:=dm p.b0;have cB:pj (w.heap.size+1) ((i+1+1)::j) B:=⟨List.nodup_cons.2 ⟨fun F=>by have:=e3 _ F;omega,p.mks.nd⟩,fun q hb=>by
      rcases List.mem_cons.1 hb with rfl|hb
      ·omega
      ·exact p.mks.lo q hb,fun q hb=>by
      rcases List.mem_cons.1 hb with rfl|hb
      ·exact bk
      ·exact p.mks.at_ q hb⟩
    have bf:B1 (wD w base f mb (H::z) ((i+1+1)::j) B/\(∀a∈H::z,0<=a/\a<=133)/\passOk o (a3+1) (H::z) t stF):=by
     refine⟨⟨p.g,p.r,p.gp,p.bb,p.b0,cB,p.ne⟩,fun a ha=>?_,by rw[<-ba];exact r.2.1⟩;rw[<-ba]at ha;rcases List.mem_append.1 ha with ha|ha
     ·have:=r.2.2.2 a ha;omega
     ·exact m.2.1 a (by simp[ha])
    refine ct _ _ ?_;clear cB p b bk ct m r cc c3 bn bo;go_wp2_with (go_at_call 138;refine v.mono ?_;rintro e ge ⟨rfl,el,fa,eg⟩);exact⟨a3,by omega,H,z,(i+1+1)::j,⟨bf.1.turn el fa eg,bf.2.1,bf.2.2,by omega⟩,_,_,_,_,_,_,_,_,_,_,_,_,_,_,_,_,_,_,rfl⟩
def me(st:List Int):Nat->List Int
 |0=>[]
 |j+1=>if ij st ((j:Int)+1)=A9 then me st j++[(j:Int)+1] else me st j
theorem Ct(st:List Int):∀j,(me st j).length<=j
 |0=>ag _
 |j+1=>by
  have:=Ct st j;rw[me];split
  ·rw[aK];simp;omega
  ·omega
theorem Js(st:List Int):∀j,∀z∈me st j,1<=z/\z<=(j:Int)
 |0=>by intro z a;simp[me]at a
 |j+1=>by
  intro z a;have b:=Js st j;rw[me]at a;split at a
  ·rcases List.mem_append.1 a with h|h
   ·have:=b z h;omega
   ·simp at h;omega
  ·have:=b z a;omega
theorem DL.nm{a:List Int}(h:DL st a):∀j,j<=78->me st j=lA a j
 |0,_=>rfl
 |j+1,b=>by rw[me,lA,h.nm j (by omega),h.may (by omega) (by omega)]
structure GQ (W:X) (base gb mb:Nat) (st:List Int):Prop where
 g:Gr W base gb (.map (N mb)) st
 r:RI W base mb
 ok:∀a∈st,0<=a/\a<=133
 len:st.length<=99999000
theorem GQ.below(h:GQ W base gb mb st)(a:Z W.heap.size W W'):GQ W' base gb mb st:=⟨h.g.below a,h.r.below a,h.ok,h.len⟩
theorem GQ.may(h:GQ W base gb mb st)(b:1<=t)(c:t<=78){R:Bool}(a:ij st t=R):
  B0 V 79 #[S (N ⟨gb,0,T⟩),M B3 t] W fun e w'=>e= A0 (A5 R)/\Z W.heap.size W w':=
 afm W base gb mb st t R h.g h.r h.ok (by have:=h.len;omega) b c a
structure anc (w:X) (st:List Int) (j:Nat) (vo:Bs) (W:X):Prop where
 bl:Z w.heap.size w W
 row:W.ownsRow w.heap.size 3 1 vo (me st j).length ((me st j).map (Er .i64))
theorem adk(w:X)(base x mb:Nat)(st:List Int)(h:GQ w base x mb st):
  B0 V 136 #[.pointer (N ⟨x,0,T⟩)] w fun e w'=>∃a c,e= .returned (.slice a (me st 78).length c)/\w'.ownsRow w.heap.size 3 1 (.slice a (me st 78).length c) (me st 78).length ((me st 78).map (Er .i64))/\Z w.heap.size w w':=by
 have E:=aq h;have v:B1 (anc w st 0 (.slice T 0 0) w):=⟨ah _ _,dr _ _ _ _⟩;obtain⟨ak,al,am,an,ao⟩:=du sj;clear h;go_in;go_wp21
 go_loopw [3,4] (fun A s wr=>∃(b:Nat),b<=78/\s= .int .i64 ((b:Int)+1)/\(∃a c,∃ar:Nat,A= .slice a ar c)/\B1 (anc w st b A wr)) (fun _ s _=>(79-B4 s).toNat)
 case atStart=>exact⟨0,aL _,rfl,⟨_,_,_,rfl⟩,v⟩
 case round=>
  obtain⟨b,a5,rfl,⟨H,J,mv,rfl⟩,f⟩:=hrel;clear v;by_cases a6:b<78
  ·obtain⟨F,o⟩:=az (ij st ((b:Int)+1));have r:=(E.below f.bl).may (t:=(b:Int)+1) (by omega) (by omega) o;have u:=aq o;obtain⟨i,p⟩:∃i:Int,(b:Int)+1=i:=⟨_,rfl⟩;have l:=aq p;have a4:i<=78:=by omega
   have a3:1<=i:=by omega
   rw[p]at r⊢;clear o p;go_wp21
   refine r.mono ?_;rintro e B ⟨rfl,m⟩;have q:=f.bl.trans (m.mono f.bl.size);have d:=cJ f.row m;have ad:=Ct st b;obtain⟨a0,j⟩:=az ((me st b).length);rw[j]at d ad;obtain⟨G,I,n⟩:=bI d;cases n;have g:=lD d j q;have af:=q.size;clear r f m d j q;cases F with
   |false=>
    have e:me st (b+1)=me st b:=by rw[me,u.out,aa (by decide)]
    go_wp21
    refine⟨⟨b+1,by omega,?_,⟨_,_,_,rfl⟩,⟨g.2.2,by rw[e,g.out.2.1];exact g.1⟩⟩,?_⟩
    ·have:=l.out;congr 1;push_cast;omega
    ·simp[B4];omega
   |true=>
    have C:B1 (me st (b+1)=me st b++[i]):=by show _=_;rw[me,u.out,ab rfl,l.out]
    go_wp2_with (at_builtin;refine oe _ rfl _ _ 43 rfl w.heap.size 3 ak _ 1 8 Tryz.underlying43 al am an ao rfl (by decide) _ _ _ rfl (g.1.alloc _) ⟨B.heap.size,0,T⟩ 1 1 [.int .i64 i] rfl rfl (World.news_of_block (cs:=#[.int .i64 i]) (fr:=(0,0)) (aA B _)) (by intro a8 z;simp at z;subst z;rfl) (by unfold maxLen;omega) (by omega) (by simp;omega) ?_;intro ba bb y K a7;obtain⟨a2,a1,rfl⟩:=ownsRow_succ y);refine⟨⟨b+1,by omega,?_,⟨_,_,_,rfl⟩,⟨?_,?_⟩⟩,?_⟩
    ·have:=l.out;congr 1;push_cast;omega
    ·exact(g.2.2.alloc af _).grown K (by simp;omega) (fun ap L=>(g.1.lt ap L).1)
    ·rw[C.out,aK,g.out.2.1,dF];exact y
    ·simp[B4];omega
  ·obtain rfl:b=78:=by omega
   have d:=f.row;obtain⟨a0,j⟩:=az ((me st 78).length);rw[j]at d;obtain⟨G,I,n⟩:=bI d;cases n;have k:=lD d j f.bl;clear f d j;go_wp21
   go_ret;refine⟨H,J,?_,?_,k.2.2⟩
   ·rw[k.out.2.1];rfl
   ·rw[k.out.2.1];exact k.1
