import Derived.Test.YtnlhhmlcjbohbaaGreatDoorHNk10
import Derived.Laws.Cover2
import Derived.Test.YtnlhhmlcjbohbaaGreatDoorHNk08
import Derived.Sort.LoopGhostIn
set_option linter.all false
set_option maxRecDepth 100000
set_option maxHeartbeats 6400000
open Go.Value renaming int->M,pointer->S,slice->A2,bool->A5,agg->Ck,tuple->Cr,int->C2
open Option renaming some->N,none->T
open Go.IntKind renaming u8->O,i64->B4
open Go.World renaming putObj_heap_other->Q
open Go renaming undef->U,World->X,KeepsFrom->Br,Value->B0,Calls->B1,TypeId->B7,grownBy_putObj'->Ce
open Go.Proofs.Tryz renaming prog->V
open Go.Obj renaming cells->Y
open Go.RowKit renaming Below->Z,Hid->B3,intOf->B6
open Bool renaming false->Ax,true->A9
open Go.Ending renaming returned->A0
namespace Go.Proofs.YtnlhhmlcjbohbaaGreatDoor
open Go.RowKit Go.Maps Go.WideMaps
variable{B b base gb k m mb n:Nat}{W W' w:World}{a t:Int}{c:List Nat}{cs:Array Value}{fr:Nat×Nat}{r:Bool}{st:List Int}{vs:Value}
structure RI (W:X) (base mb:Nat):Prop where
 ex:∃(D:DataW B0) (f:Int->B0) (n:Nat),W.ownsMap V 96 xd mb n D/\∀a,0<=a->a<=255->D.atKey (.int .u8 a) (.held (.slice T 0 0))= .held (f a)/\iC W base (f a) (lr a)
theorem RM.ri{b:List (Int×List (List Int))}(h:RM W base mb n b)(i:∀a,0<=a->a<=255->An b a=lr a):RI W base mb:=by
 obtain⟨D,e,f,g,_⟩:=h.ex;exact⟨D,e,n,f,fun a c d=>by rw[<-i a c d];exact g a c d⟩
theorem RI.same(h:RI W base mb)(n:∀a c,W.heap[mb]?=N (.map a c)->W'.heap[mb]?=N (.map a c))(o:∀(g:Nat) (cs:Array B0) (fr:Nat×Nat),W.heap[g]?=N (Y cs 156 fr)->W'.heap[g]?=N (Y cs 156 fr)):RI W' base mb:=by
 obtain⟨D,m,p,⟨a,c,k,l⟩,f⟩:=h.ex;refine⟨D,m,p,⟨a,c,n _ _ k,l⟩,fun b d e=>⟨(f b d e).1,?_⟩⟩;have:=(f b d e).2;refine⟨this.1,?_⟩;rcases this.2 with h|⟨g,i,j,q,r,s,t⟩
 ·exact .inl h
 ·exact .inr ⟨g,i,j,q,r,o _ _ _ s,t⟩
theorem RI.below(h:RI W base mb)(b:Z W.heap.size W W'):RI W' base mb:=
 h.same (fun e c a=>(b.block _ (az a)).trans a) (fun g d f a=>(b.block _ (az a)).trans a)
theorem RI.gp(h:RI W base mb)(c:W.heap[gb]?=N (Y cs 94 fr))(d:Gp gb W W'):RI W' base mb:=
 h.same (fun f e a=>(d.block _ (az a) (by rintro rfl;rw[c]at a;cases a) (fun cs fr b=>by rw[a]at b;cases b)).trans a)
  (fun g cs fr a=>(d.block _ (az a) (by rintro rfl;rw[c]at a;cases a) (fun cs fr b=>by rw[a]at b;cases b)).trans a)
theorem Kg(d:0<=a)(e:a<=255):∀b,((List.range 256).all fun a=>decide (An b (a:Int)=lr (a:Int)))=A9->An b a=lr a:=by
 intro b c;have:=List.all_eq_true.1 c a.toNat (by rw[ix];omega);rw[show((a.toNat:Nat):Int)=a by omega]at this;exact aG this
theorem Hy(w:X)(h:B7)(fr:Nat×Nat)(a:w.heap[1]?=N (Y Hr h fr)):
  B1 V 43 #[] w fun e i=>e= A0 (.map (N w.heap.size))/\RI i w.heap.size w.heap.size/\Z w.heap.size w i:=by
 have g:=az a;have s:∀w:X,(Instr.makeMap 88 (N (M O 34))).run V w= .ok (.map (N w.heap.size)) (w.alloc (.map #[] 0)):=fun w=>by kernel_rfl
 have j:RM (w.alloc (.map #[] 0)) w.heap.size w.heap.size 0 []:=⟨⟨.map [],fun _=> A2 T 0 0,World.ownsMap_made _ _ _ _,fun b _ _=>⟨rfl,⟨rfl,.inl ⟨rfl,rfl⟩⟩⟩,fun b r _ _ _ _ _=> .inl rfl⟩,ae _⟩;have c:Z w.heap.size w (w.alloc (.map #[] 0)):=(ah _ _).alloc (ae _) _;have n:=aw a;clear a;go_in;go_wp2_with (first
  |(go_at_call 76;refine(Ka _ w.heap.size w.heap.size 0 [] j (by omega)).mono ?_;rintro e t ⟨rfl,k,d⟩)
  |(go_at_call 77;refine(J7 _ w.heap.size w.heap.size _ _ k (by omega)).mono ?_;rintro e u ⟨rfl,l,f⟩)
  |(go_at_call 78;refine(J8 _ w.heap.size w.heap.size _ _ l (by omega) h fr ((((c.trans d).trans f).block _ g).trans n) g).mono ?_;rintro e v ⟨rfl,m,q⟩))
 go_ret;exact⟨rfl,m.ri (fun b o p=>Kg o p _ agl),((c.trans d).trans f).trans q⟩
theorem zg(w:X)(m:B7)(fr:Nat×Nat)(j:w.heap[1]?=N (Y Hr m fr)):
  B1 V 16 #[] w fun e c=>∃gb,e= A0 (S (N ⟨gb,0,T⟩))/\Hw c w.heap.size gb (.map (N w.heap.size)) [100,6]/\RI c w.heap.size w.heap.size/\Z w.heap.size w c:=by
 have l:=Hy w m fr j;clear j;go_in;go_wp21
 refine l.mono ?_;rintro e w1 ⟨rfl,g,b⟩;have k:=b.size;have d:Hw (w1.alloc (Y #[.map (N w.heap.size),A2 T 0 0] 94 (0,0))) w.heap.size w1.heap.size (.map (N w.heap.size)) []:=⟨⟨A2 T 0 0,ay w1 _,⟨rfl,.inl ⟨rfl,rfl⟩⟩⟩,k⟩;have i:=g.below ((ah w1.heap.size w1).alloc (ae _) (Y #[.map (N w.heap.size),A2 T 0 0] 94 (0,0)));have a:=b.alloc k (Y #[.map (N w.heap.size),A2 T 0 0] 94 (0,0));have h:=dC i a;clear l g b i a;go_wp21
 refine(Aq _ w.heap.size w1.heap.size (.map (N w.heap.size)) [] 6 d (by decide)).mono ?_;rintro e v ⟨rfl,f,o,a⟩;go_wp21
 refine(Aq _ w.heap.size w1.heap.size (.map (N w.heap.size)) [6] 100 f (by decide)).mono ?_;rintro e x ⟨rfl,n,p,s⟩;go_wp21
 go_ret;obtain⟨t,q,_⟩:=d.ex;obtain⟨u,r,_⟩:=f.ex;exact⟨_,rfl,n,(h.1.gp q o).gp r p,(h.2.trans a).trans s⟩
structure GB (W:X) (base gb mb:Nat):Prop where
 c:W.cell? ⟨gb,0,T⟩=N (.map (N mb))
 r:RI W base mb
theorem GB.below(h:GB W base gb mb)(a:Z W.heap.size W W'):GB W' base gb mb:=⟨aj a h.c,h.r.below a⟩
def dp(a:Int):Nat:=if a<100 then 0 else if a=100 then 3 else if a=102 then 2 else if a=110\/a=111 then 4 else if a=114 then 2 else if a=117 then 3 else if a=118 then 2 else if a=122 then 5 else if a=124 then 4 else 1
def hdN(f:Nat)(t:Int)(r:List Int):Bool:=Ba f (r.getD 0 0) t
def Au(a:List (List Int))(d:Nat):Bool:=decide (a.length<=30)&&a.all fun r=>decide (r.length<=6)&&r.all (fun b=>decide (1<=b/\b<=133))&&decide (dp (r.getD 0 0)+1<=d)
theorem Kh:((List.range 256).all fun a=>Au (lr (a:Int)) (dp (a:Int)))=A9:=by decide+kernel
theorem Ct(b:0<=a)(c:a<=255):Au (lr a) (dp a)=A9:=by
 have:=List.all_eq_true.1 Kh a.toNat (by rw[ix];omega);rw[show((a.toNat:Nat):Int)=a by omega]at this;exact this
theorem amb(a:1<=t)(f:Nat)(r:List Int):hdN (f+1) t r=(match r with|[]=>Ax|h::_=>Ba (f+1) h t):=by
 cases r with
 |nil=>
  show Ba (f+1) 0 t=Ax;rw[Ba,ab (by decide)];exact aD (by omega)
 |cons h b=>rfl
theorem acy{r:List Int}(h:r.length<=6):rc r=[M O (r.getD 0 0),M O (r.getD 1 0),M O (r.getD 2 0),M O (r.getD 3 0),M O (r.getD 4 0),M O (r.getD 5 0)]:=by
 match r,h with
 |[],_=>rfl
 |[_],_=>rfl
 |[_,_],_=>rfl
 |[_,_,_],_=>rfl
 |[_,_,_,_],_=>rfl
 |[_,_,_,_,_],_=>rfl
 |[_,_,_,_,_,_],_=>rfl
 |_::_::_::_::_::_::_::_,h=>simp at h
theorem iC.cell{g c:Nat}{a:List (List Int)}(h:iC W base (A2 (N ⟨g,0,T⟩) n c) a)(f:∀r∈a,r.length<=6){r:List Int}(b:a[k]?=N r){i:Nat}(u:i<6):
  W.cell? ⟨g,k*6+i,T⟩=N (M O (r.getD i 0)):=by
 have v:k<a.length:=(List.getElem?_eq_some_iff.1 b).1;have l:n=a.length:=by
  rcases h.2 with⟨h,_⟩|⟨t,q,s,h,_⟩
  ·cases h
  ·cases h;rfl
 subst l;rw[World.ownsRow.cellAt h (k*6+i) (by omega)];have p:∀(a:List (List Int)),(∀r∈a,r.length<=6)->∀k r,a[k]?=N r->(Dj a)[k*6+i]?=N (M O (r.getD i 0)):=by
  intro a
  induction a with
  |nil=>intro _ k r h;simp at h
  |cons d a o=>
   intro h k r e;have m:=h d (by simp);rw[show Dj (d::a)=rc d++Dj a from rfl];have j:(rc d).length=6:=by simp[rc];omega
   cases k with
   |zero=>
    simp at e;subst e;rw[ia (by omega),acy m];rcases(show i=0\/i=1\/i=2\/i=3\/i=4\/i=5 by omega) with rfl|rfl|rfl|rfl|rfl|rfl<;>rfl
   |succ k=>
    rw[fy (by omega),j,show(k+1)*6+i-6=k*6+i by omega];exact o (fun r b=>h r (by simp[b])) k r (by simpa using e)
 exact p a f k r b
def aed(W:X)(b:Nat)(x0 a x2 c d e:Int):X:=((((((W.setCell ⟨b,0,T⟩ (M O x0)).setCell ⟨b,1,T⟩ (M O a)).setCell ⟨b,2,T⟩ (M O x2)).setCell ⟨b,3,T⟩ (M O c)).setCell ⟨b,4,T⟩ (M O d)).setCell ⟨b,5,T⟩ (M O e))
theorem Ki{t:B7}{k l m n o p:Int}(h:W.heap[b]?=N (Y #[M O k,M O l,M O m,M O n,M O o,M O p] t (0,0)))(x0 c x2 d e f:Int):(aed W b x0 c x2 d e f).heap[b]?=N (Y #[M O x0,M O c,M O x2,M O d,M O e,M O f] t (0,0)):=by
 have a:=fun g i {W j}=>aL W b g j t (M O i);simpa [aed] using a 5 f (a 4 e (a 3 d (a 2 x2 (a 1 c (a 0 x0 h)))))
theorem Dp(h:Z base w W)(a:base<=b)(x0 c x2 d e f:Int):Z base w (aed W b x0 c x2 d e f):=by
 unfold aed
 iterate 6 refine fJ ?_ a _
 exact h
theorem acz{fn:Func}{p u:Tmp}(h:fn.results=#[.cell p 156,.tmp u])(tmps:Array B0)(w:X)(g:Nat)(x0 a x2 c d e:Int)(b:Bool)(i:tmps.getD p U= .pointer (N ⟨g,0,T⟩))(j:tmps.getD u U= .bool b)
  (f:w.heap[g]?=N (.cells #[.int .u8 x0,.int .u8 a,.int .u8 x2,.int .u8 c,.int .u8 d,.int .u8 e] 156 (0,0))):(results fn tmps).run V w= .ok (.tuple #[.agg #[.int .u8 x0,.int .u8 a,.int .u8 x2,.int .u8 c,.int .u8 d,.int .u8 e],.bool b]) w:=by
 rw[results_cell_tmp h,i];simp only[asAddr,Sem.run_pure,Gs];rw[Gv w g 156 156 _ _ _ f Tryz.underlying156 rfl (by kernel_rfl),Gs,j]
def acA(n:Nat):Prop:=∀(w:X)(base gb mb:Nat)(a t:Int),GB w base gb mb->0<=a->a<=133->dp a<=n->1<=t->t<=78->
 B1 V 83 #[S (N ⟨gb,0,T⟩),M O a,M O t] w fun b c=>b= A0 (A5 (Ba (n+1) a t))/\Z w.heap.size w c
def rwN(f:Nat)(a:List (List Int))(t:Int):List Int:=(a.find? (hdN f t)).getD []
structure Dq (f:Nat) (t:Int) (L:List (List Int)) (k:Nat) (r:List Int) (b:Bool):Prop where
 fd:rwN f (L.drop k) t=r
 an:(L.drop k).any (hdN f t)=b
theorem Dr(n:Nat)(b7:acA n)(w:X)(base ap mb:Nat)(a t:Int)(K:GB w base ap mb)(al:0<=a)(c1:a<=133)(c5:dp a<=n+1)(cm:1<=t)(cn:t<=78)(B:List Int)(z:Bool)(bj:Dq (n+1) t (lr a) 0 B z):
  B1 V 91 #[S (N ⟨ap,0,T⟩),M O a,M O t] w fun e cp=>e= A0 (Cr #[Ck (rc B).toArray,A5 z])/\Z w.heap.size w cp:=by
 obtain⟨D,c4,da,a2,bf⟩:=K.r.ex;obtain⟨a4,f⟩:=bf a al (by omega);have u:=Ct al (show a<=255 by omega);generalize lr a=g at *;unfold Au at u;rw[cd,td]at u;have b6:g.length<=30:=aG u.1;have v:∀b∈g,b.length<=6:=fun b c=>by have:=u.2 b c;simp only[cd]at this;exact aG this.1.1
 have cb:∀b∈g,dp (b.getD 0 0)<=n:=fun b c=>by have:=u.2 b c;simp only[cd]at this;have:=aG this.2;omega
 have cc:∀b∈g,0<=b.getD 0 0/\b.getD 0 0<=133:=fun b c=>by
  have:=u.2 b c;simp only[cd,td]at this;cases b with
  |nil=>simp
  |cons cx b=>have:=aG (this.1.2 cx (by simp));simp;omega
 obtain⟨I,a5⟩:=aA g.length;have ad:=f;unfold iC at ad;rw[a5]at ad b6;obtain⟨bA,c3,bs⟩:=cj ad;rw[bs]at a4 f;have be:=K.c;have ca:=a2.lt;have b8:=fun o=>aj (al1 (o:=o) rfl).2.1 be;have y:=CB K f a5 bj;clear ad f bs u bf K a5 bj;go_in;go_wp2_with (at_lookup;refine rD rfl _ _ rfl rfl a2 ?blk a al (by omega) rfl a4 ?_)
 case blk=>exact cC _ _ _ ca
 clear a4 be b8 a2;go_loopw [17] (fun i wr=>∃d:Nat,d<=I/\i= M B4 d/\Dq (n+1) t g d B z/\Z w.heap.size w wr/\wr.heap[w.heap.size]?=N (Y #[M O 0,M O 0,M O 0,M O 0,M O 0,M O 0] 156 (0,0))) (fun i _=>I-(B6 i).toNat)
 case atStart=>exact⟨0,by omega,rfl,y.2.2.2,(al1 rfl).2.1,(al1 rfl).1⟩
 case round=>
  obtain⟨d,c6,rfl,j,E,x⟩:=hrel;by_cases b9:d<I
  ·obtain⟨b,c⟩:∃b,g[d]?=N b:=⟨_,aE (by rw[y.out.2.2.1];exact b9)⟩;have L:=cG c;have f:=y.2.1.keep E;obtain⟨ao,rfl⟩:∃ao,bA=N ⟨ao,0,T⟩:=by
    rcases bq f with⟨ar,_⟩|⟨ao,c2,ar⟩
    ·rw[y.out.2.2.1]at ar;omega
    ·cases ar;exact⟨_,rfl⟩
   have bw:=f.cell v c (i:=0) (by decide);have cf:=f.cell v c (i:=1) (by decide);have cg:=f.cell v c (i:=2) (by decide);have ch:=f.cell v c (i:=3) (by decide);have ck:=f.cell v c (i:=4) (by decide);have cl:=f.cell v c (i:=5) (by decide);obtain⟨h,af⟩:=aA (b.getD 0 0);obtain⟨l,a7⟩:=aA (b.getD 1 0);obtain⟨m,a8⟩:=aA (b.getD 2 0);obtain⟨p,a9⟩:=aA (b.getD 3 0);obtain⟨q,bb⟩:=aA (b.getD 4 0);obtain⟨r,bd⟩:=aA (b.getD 5 0);rw[af]at bw;rw[a7]at cf;rw[a8]at cg;rw[a9]at ch;rw[bb]at ck;rw[bd]at cl;rw[iz]at bw;obtain⟨bl,bn⟩:=cc b L;have bo:=cb b L;rw[af]at bl bn bo;have c8:(d:Int)<(I:Int):=by omega
   have c7:(0:Int)<=(d:Int):=by omega
   have ak:=ari c L af a7 a8 a9 bb bd;clear c L af a7 a8 a9 bb bd f;have a3:=E.alloc E.size (Y #[M O h,M O l,M O m,M O p,M O q,M O r] 156 (0,0));have bt:=b7 _ base ap mb h t (y.1.below a3) bl bn bo cm cn;go_wp2_with fail;refine bt.mono ?_;rintro e ag ⟨rfl,J⟩;have c9:=E.size;have ce:=az x;have bk:ag.heap[wr.heap.size]?=N (Y #[M O h,M O l,M O m,M O p,M O q,M O r] 156 (0,0)):=(J.block _ (by simp)).trans (ay wr _);have H:ag.heap[w.heap.size]?=N (Y #[M O 0,M O 0,M O 0,M O 0,M O 0,M O 0] 156 (0,0)):=((J.block _ (by simp;omega)).trans (cC _ _ _ ce)).trans x;have bh:Z w.heap.size w ag:=a3.trans (J.mono (by simp;omega));have A:g.drop d=b::g.drop (d+1):=by
    obtain⟨bD,am⟩:=List.getElem?_eq_some_iff.1 ak.1;rw[iH bD,am]
   have k:hdN (n+1) t b=Ba (n+1) h t:=by unfold hdN;rw[ak.out.2.2.1]
   have a6:rc b=[M O h,M O l,M O m,M O p,M O q,M O r]:=by
    obtain⟨_,am,bE,b1,b2,b3,b4,b5⟩:=ak.out;rw[acy (v b am),bE,b1,b2,b3,b4,b5]
   clear bt J a3;cases hbv:Ba (n+1) h t with
   |true=>
    have s:B3 (B=b/\z=A9):=by
     rw[hbv]at k;refine⟨?_,?_⟩
     ·rw[<-j.fd,A];unfold rwN;rw[List.find?_cons_of_pos k];rfl
     ·rw[<-j.an,A,List.any_cons,k];rfl
    have G:=Ki H h l m p q r;have F:=Dp bh (ae _) h l m p q r;obtain⟨dc,dd,df,dg,dk,dn⟩:=gI bk;obtain⟨z0,cy,cz,cB,cF,cI⟩:=gI H;obtain⟨cq,cr,cs,ct,cu,cw⟩:=sf H;have C:=dC G F;clear G F bk H x;have bx:B3 (hdN (n+1) t b=A9/\rc b=[M O h,M O l,M O m,M O p,M O q,M O r]):=⟨k.trans hbv,a6⟩;clear k A a6 hbv j;go_wp2_with fail;try rw[yo]
    change bodyPost _ _ _ _ _ (aed ag w.heap.size h l m p q r)
    refine aI (acz rfl _ _ w.heap.size h l m p q r A9 rfl rfl C.1) rfl ⟨?_,C.2⟩;rw[s.out.1,s.out.2,bx.out.2]
   |false=>
    have s:Dq (n+1) t g (d+1) B z:=by
     rw[hbv]at k;refine⟨?_,?_⟩
     ·rw[<-j.fd,A];unfold rwN;rw[List.find?_cons_of_neg (by rw[k];simp)]
     ·rw[<-j.an,A,List.any_cons,k];rfl
    clear k A a6 hbv j;go_wp2_with fail;go_roundw
    case rel=>exact⟨d+1,by omega,by go_num,s,bh,H⟩
    case measure=>simp[B6];omega
  ·obtain rfl:d=I:=by omega
   have s:B3 (B=[]/\z=Ax):=by
    have br:g.drop d=[]:=ju (by rw[y.out.2.2.1];exact ae _);refine⟨?_,?_⟩
    ·rw[<-j.fd,br];rfl
    ·rw[<-j.an,br];rfl
   have G:=Ki x 0 0 0 0 0 0;have F:=Dp E (ae _) 0 0 0 0 0 0;obtain⟨z0,cy,cz,cB,cF,cI⟩:=gI x;obtain⟨cq,cr,cs,ct,cu,cw⟩:=sf x;have C:=dC G F;clear G F x j;go_wp2_with fail;try rw[yo]
   change bodyPost _ _ _ _ _ (aed wr w.heap.size 0 0 0 0 0 0)
   refine aI (acz rfl _ _ w.heap.size 0 0 0 0 0 0 Ax rfl rfl C.1) rfl ⟨?_,C.2⟩;rw[s.out.1,s.out.2];rfl
theorem ani(b:1<=t)(f:Nat)(a:List (List Int)):a.any (hdN (f+1) t)=a.any (fun r=>match r with|[]=>Ax|h::_=>Ba (f+1) h t):=by
 congr 1
 funext r
 exact amb b f r
theorem Be(n:Nat)(p:n=0\/∃m,n=m+1/\acA m):acA n:=by
 intro C v x A a c y k u F t B;by_cases i:a<100
 ·have e:Ba (n+1) a c=decide (a=c):=by rw[Ba,ab i]
  rw[e];have w:(a==c)=decide (a=c):=by rw[vH];simp
  obtain⟨E,o⟩:=aA (decide (a=c));rw[o]at w⊢;clear e o;go_in;go_wp21
  go_ret;exact⟨rfl,ah _ _⟩
 ·have G:1<=dp a:=by unfold dp;rw[aa i];repeat (first|(split;· omega)|omega)
  obtain⟨m,rfl,q⟩:=p.resolve_left (by omega);obtain⟨b,g,h⟩:∃b g,Dq (m+1) c (lr a) 0 b g:=⟨_,_,⟨rfl,rfl⟩⟩;have e:Ba (m+1+1) a c=g:=by
   rw[Ba,aa i];refine(ani t m (lr a)).symm.trans ?_;rw[<-h.an];rfl
  rw[e];have d:=Dr m q C v x A a c y k u (by omega) t B b g h;have r:b.length<=6:=by
   have j:=Ct k (show a<=255 by omega);unfold Au at j;rw[cd,td]at j;have f:=h.fd;unfold rwN at f;cases hf:List.find? (hdN (m+1) c) (List.drop 0 (lr a)) with
   |none=>rw[hf]at f;rw[<-f];exact aF _
   |some s=>
    rw[hf]at f;have z:s∈lr a:=ab2 hf;have:=j.2 s z;simp only[cd]at this;rw[<-f];exact aG this.1.1
  rw[acy r]at d;generalize b.getD 0 0=I at d;generalize b.getD 1 0=J at d;generalize b.getD 2 0=K at d;generalize b.getD 3 0=L at d;generalize b.getD 4 0=ad at d;generalize b.getD 5 0=af at d;clear h e r q p;go_in;go_wp2_with (go_at_call 91;refine d.mono ?_;rintro e H ⟨rfl,l⟩);go_ret;exact⟨rfl,l.alloc l.size _⟩
theorem xD:∀n,acA n
 |0=>Be 0 (.inl rfl)
 |n+1=>Be (n+1) (.inr ⟨n,rfl,xD n⟩)
attribute [local go_sem] kH
theorem anj(w:X):(Op.equalIn 10000 156 (Ck #[M O 0,M O 0,M O 0,M O 0,M O 0,M O 0]) (Ck #[M O 0,M O 0,M O 0,M O 0,M O 0,M O 0])).run V w= .ok A9 w:=by kernel_rfl
theorem ank{x0:Int}(h:x0≠0)(a x2 b c d:Int)(w:X):(Op.equalIn 10000 156 (.agg #[.int .u8 0,.int .u8 0,.int .u8 0,.int .u8 0,.int .u8 0,.int .u8 0]) (.agg #[.int .u8 x0,.int .u8 a,.int .u8 x2,.int .u8 b,.int .u8 c,.int .u8 d])).run V w= .ok Ax w:=by
 have e:(0==x0)=Ax:=by rw[bH];omega
 rw[show(10000:Nat)=9999+1 from rfl,Op.equalIn];simp only[Sem.run_bind,run_underlying Tryz.underlying156,Gs];simp only[Std.Legacy.Range.forIn_eq_forIn_range',Std.Legacy.Range.size,pi,oL,Nat.div_one,List.range'_succ,List.range'_zero,List.forIn_cons,List.forIn_nil];go_simp
theorem Kj{a:X}(h:Z B a w)(n:Nat):Z B a (w.drewN n):=⟨h.os,h.tape,h.output,h.size,h.block⟩
structure Hz (L:List (List Int)) (k:Nat) (b:Bool):Prop where
 out:(L.drop k).contains []=b
theorem aee(w:X)(base:Nat)(v:B0)(b:List (List Int))(f:Bool)(c:iC w base v b)(L:b.length<=30)(g:∀r∈b,r.length<=6)(ag:∀r∈b,r≠[]->1<=r.getD 0 0)(x:Hz b 0 f):
  B1 V 175 #[v,Ck #[M O 0,M O 0,M O 0,M O 0,M O 0,M O 0]] w fun e ak=>(∃z,e= A0 (M B4 z)/\decide (0<=z)=f)/\Z w.heap.size w ak:=by
 obtain⟨l,s⟩:=aA b.length;have o:=c;unfold iC at o;rw[s]at o L;obtain⟨G,a0,rfl⟩:=cj o;have k:=iF c s x;clear c o s x;go_in;go_wp2_with fail;go_loopw [8] (fun i wr=>∃a:Nat,a<=l/\i= M B4 a/\Hz b a f/\Z w.heap.size w wr/\wr.heap[w.heap.size]?=N (Y #[M O 0,M O 0,M O 0,M O 0,M O 0,M O 0] 156 (0,0))) (fun i _=>l-(B6 i).toNat)
 case atStart=>exact⟨0,by omega,rfl,k.2.2,(al1 rfl).2.1,(al1 rfl).1⟩
 case round=>
  obtain⟨a,a1,rfl,h,m,y⟩:=hrel;by_cases ad:a<l
  ·obtain⟨r,d⟩:∃r,b[a]?=N r:=⟨_,aE (by rw[k.out.2.1];exact ad)⟩;have t:=cG d;have c:=k.1.keep m;obtain⟨p,rfl⟩:∃p,G=N ⟨p,0,T⟩:=by
    rcases bq c with⟨q,_⟩|⟨p,ar,q⟩
    ·rw[k.out.2.1]at q;omega
    ·cases q;exact⟨_,rfl⟩
   have u:=c.cell g d (i:=0) (by decide);have A:=c.cell g d (i:=1) (by decide);have B:=c.cell g d (i:=2) (by decide);have C:=c.cell g d (i:=3) (by decide);have E:=c.cell g d (i:=4) (by decide);have F:=c.cell g d (i:=5) (by decide);rw[iz]at u;have af:r=[]\/1<=r.getD 0 0:=(Decidable.em (r=[])).imp_right (ag r t);have n:b.drop a=r::b.drop (a+1):=by
    obtain⟨H,I⟩:=List.getElem?_eq_some_iff.1 d;rw[iH H,I]
   obtain⟨a3,a4,a5,a6,a7,a8⟩:=gI y;have a2:(a:Int)<(l:Int):=by omega
   have K:(0:Int)<=(a:Int):=by omega
   rcases af with rfl|hpos
   ·have j:B3 (f=A9):=by
     show f=A9;rw[<-h.out,n];simp
    simp only[List.getD_nil]at u A B C E F;have J:=fun w=>anj w;clear n h d t;go_wp2_with fail;go_quiet (fail)
    go_wp2_with fail;try rw[yo]
    go_ret;exact⟨⟨_,rfl,by rw[j.out];exact bv K⟩,Kj m nq⟩
   ·have j:Hz b (a+1) f:=by
     refine⟨?_⟩;rw[<-h.out,n,List.contains_cons];have:([]==r)=Ax:=by
      rw[bH];rintro rfl;simp at hpos
     rw[this,GH]
    generalize r.getD 0 0=x0 at u hpos;generalize r.getD 1 0=al at A;generalize r.getD 2 0=am at B;generalize r.getD 3 0=an at C;generalize r.getD 4 0=ao at E;generalize r.getD 5 0=ap at F;have J:=fun w=>ank (x0:=x0) (by omega) al am an ao ap w;clear n h d t;go_wp2_with fail;go_quiet (fail)
    go_wp2_with fail;go_roundw
    case rel=>exact⟨a+1,by omega,by go_num,j,Kj m nq,y⟩
    case measure=>simp[B6];omega
  ·obtain rfl:a=l:=by omega
   have j:B3 (f=Ax):=by
    show f=Ax;rw[<-h.out,ju (by rw[k.out.2.1];exact ae _)];rfl
   clear h;go_wp2_with fail;go_ret;exact⟨⟨-1,rfl,by rw[j.out];rfl⟩,m⟩
theorem H8(w:X)(base:Nat)(v:B0)(a:List (List Int))(b:Bool)(f:iC w base v a)(i:a.length<=30)(g:∀r∈a,r.length<=6)(j:∀r∈a,r≠[]->1<=r.getD 0 0)(d:Hz a 0 b):
  B1 V 130 #[v,Ck #[M O 0,M O 0,M O 0,M O 0,M O 0,M O 0]] w fun e m=>e= A0 (A5 b)/\Z w.heap.size w m:=by
 have c:=(ah w.heap.size w).alloc (ae _) (Y #[M O 0,M O 0,M O 0,M O 0,M O 0,M O 0] 156 (0,0));have l:=aee _ base v a b (f.keep c) i g j d;clear f d;go_in;go_wp2_with (go_at_call 175;refine l.mono ?_;rintro e n ⟨⟨o,rfl,k⟩,h⟩);go_ret;refine⟨?_,c.trans (h.mono (by simp))⟩;rw[<-k];rfl
theorem akm(w:X)(base k mb:Nat)(a:Int)(h:GB w base k mb)(g:0<=a)(A:a<=133):
  B1 V 84 #[S (N ⟨k,0,T⟩),M O a] w fun e y=>e= A0 (A5 (J5 a))/\Z w.heap.size w y:=by
 obtain⟨D,o,C,p,l⟩:=h.r.ex;obtain⟨s,m⟩:=l a g (by omega);have d:=Ct g (show a<=255 by omega);unfold J5;generalize lr a=f at *;unfold Au at d;rw[cd,td]at d;have r:=aG d.1;have u:∀b∈f,b.length<=6:=fun b j=>by have:=d.2 b j;simp only[cd]at this;exact aG this.1.1
 have v:∀b∈f,b≠[]->1<=b.getD 0 0:=fun b j t=>by
  have:=d.2 b j;simp only[cd,td]at this;cases b with
  |nil=>exact absurd rfl t
  |cons z b=>have:=aG (this.1.2 z (by simp));simp;omega
 obtain⟨n,i⟩:=aA (f.contains []);have x:=H8 w base (o a) f n m r u v ⟨i⟩;rw[i];have B:=h.c;clear m d l h i;go_in;go_wp2_with (first
  |(at_lookup;refine rD rfl _ _ rfl rfl p rfl a g (by omega) rfl s ?_)
  |(go_at_call 130;refine x.mono ?_;rintro e E ⟨rfl,q⟩))
 go_ret;exact⟨rfl,q⟩
theorem FE(n l Bs b o:Nat)(a:Option Addr)(f:Nat->B0)(J:b<=100000000)(H:b<=o)(c:Nat->X->Prop)(k:X->Prop)
  (q:∀m W,c m W->W.cell? ⟨Bs,0,T⟩=N (A2 a b o))
  (y:∀m W,c m W->∀j,j<b->∃h,a=N h/\W.cell? (h.add j)=N (f j))
  (x:∀m W,m<b->c (m+1) W->YieldAt Fence.wide (n-1) V l #[M B4 (m:Int),f m] W fun e W'=>(e= A0 (A5 A9)/\c m W')\/(e= A0 (A5 Ax)/\k W'))
  (W:X) (p:c b W):
  CallsIn Fence.wide n V 129 #[.func (.yield l) #[] #[],S (N ⟨Bs,0,T⟩)] W fun e W'=>(∃v,e= A0 v)/\(c 0 W'\/k W'):=by
 have F:=q _ _ p;refine callsIn_of_wp Tryz.func129 rfl trivial ?_ rfl;simp only[Tryz.ntmps129,iI,bi,dH,Nat.reduceAdd,Nat.reduceSub,iu,kF,kG,pc,ep,eC]
 gi_wp2
 gi_loopw [3] (fun i wr=>∃d:Nat,d<=b/\i= M B4 ((d:Int)-1)/\c d wr) (fun i _=>(B6 i+1).toNat)
 case atStart=>exact⟨b,ae _,rfl,p⟩
 case round=>
  obtain⟨d,I,rfl,g⟩:=hrel;have E:=q _ _ g;rcases qI d with rfl|hp
  ·gi_wp2
   go_end0
   exact⟨⟨_,rfl⟩,.inl g⟩
  ·obtain⟨m,rfl⟩:∃m,d=m+1:=⟨d-1,by omega⟩;obtain⟨h,rfl,G⟩:=y _ _ g m (by omega);obtain⟨C,tmps,A,B,K,w⟩:=x m wr (by omega) g;have r:((m+1:Nat):Int)-1=(m:Int):=by omega
   rw[r]
   gi_wp2
   refine⟨fun s=>by simp[Fence.wide]at s,w.mono ?_⟩;rintro e z (⟨rfl,t⟩|⟨rfl,u⟩)
   ·gi_wp2
    go_roundw
    case rel=>exact⟨m,by omega,by simp,t⟩
    case measure=>simp[B6]
   ·gi_wp2
    refine aI (ip rfl _ _ _) rfl ?_;exact⟨⟨_,rfl⟩,.inr u⟩
theorem xe(a:Option Addr)(c b:Nat)(w:X):
  B1 V 82 #[A2 a c b] w fun e d=>e= A0 (.func (.func 129) #[] #[S (N ⟨w.heap.size,0,T⟩)])/\d=w.alloc (Y #[A2 a c b] 90):=by
 refine calls_of_wp Tryz.func82 rfl ?_;simp only[Tryz.ntmps82,iI,bi,dH,Nat.reduceAdd,Nat.reduceSub,iu,kF,kG,pc,ep,eC];go_wp2;go_ret;exact⟨rfl,rfl⟩
attribute [local go_sem] kH
theorem dt{v:B0}{t:B7}(h:W.heap[b]?=N (Y #[v] t (0,0))):W.cell? ⟨b,0,T⟩=N v:=by
 rw[au _ _ _ _ _ _ h];rfl
theorem zh(h:Z W.heap.size W W'):Br B W W':=⟨h.size,fun b c _ a _=>(h.block b (Array.getElem?_eq_some_iff.1 a).1).trans a⟩
structure uH (w:X) (gb:Nat) (t:Int) (vs:B0) (r:Bool) (W:X):Prop where
 bl:Z w.heap.size w W
 b0:W.heap[w.heap.size]?=N (.cells #[.pointer (N ⟨gb,0,T⟩)] 53 (0,0))
 b1:W.heap[w.heap.size+1]?=N (.cells #[.int .i64 t] 3 (0,0))
 b2:W.heap[w.heap.size+2]?=N (.cells #[.bool r] 4 (0,0))
 b3:W.heap[w.heap.size+3]?=N (.cells #[vs] 90 (0,0))
theorem uH.below(h:uH w gb t vs r W)(a:Z W.heap.size W W'):uH w gb t vs r W':=
 ⟨h.bl.trans (a.mono h.bl.size),(a.block _ (az h.b0)).trans h.b0,(a.block _ (az h.b1)).trans h.b1,(a.block _ (az h.b2)).trans h.b2,(a.block _ (az h.b3)).trans h.b3⟩
theorem uH.put(h:uH w gb t vs r W)(b:w.heap.size+3<k)(o:Obj):uH w gb t vs r (W.putObj k o):=
 ⟨h.bl.grown (Ce W k o) h.bl.size (fun c a=>by cases a;omega),(Q (by omega)).trans h.b0,(Q (by omega)).trans h.b1,(Q (by omega)).trans h.b2,(Q (by omega)).trans h.b3⟩
theorem uH.set(h:uH w gb t vs r W)(r':Bool):uH w gb t vs r' (W.setCell ⟨w.heap.size+2,0,T⟩ (A5 r')):=
 ⟨h.bl.setCell (by show w.heap.size<=w.heap.size+2;omega) _,(aC _ _ _ _ (by simp)).trans h.b0,(aC _ _ _ _ (by simp)).trans h.b1,aL _ _ 0 _ _ _ h.b2,(aC _ _ _ _ (by simp)).trans h.b3⟩
theorem Kk{fn:Func}{p:Tmp}(h:fn.results=#[.cell p 4])(tmps:Array B0)(w:X)(g:Nat)(b:Bool)(c:tmps.getD p U= S (N ⟨g,0,T⟩))(a:w.heap[g]?=N (Y #[A5 b] 4 (0,0))):(results fn tmps).run V w= .ok (A5 b) w:=by
 have d:tmps[p]?.getD U= S (N ⟨g,0,T⟩):=by simpa using c
 have e:w.cell? ⟨g,0,T⟩=N (A5 b):=by rw[au _ _ _ _ _ _ a];rfl
 simp[results,h,d,asAddr];go_simp
structure Ia (st:List Int) (m:Nat) (t:Int) (R:Bool):Prop where
 out:iB (st.drop (st.length-m)) t=R
theorem amc(a:Int):dp a<=8:=by
 unfold dp
 repeat (first|omega|(split;· omega))
theorem zi(g j:Nat):(⟨g,0,T⟩:Addr).add j=⟨g,j,T⟩:=by unfold Addr.add;split<;>simp_all
def BD(st:List Int)(m:Nat):Int:=st.reverse.getD m 0
theorem acB(c:st.length=n)(b:m<n):st.drop (n-(m+1))=BD st m::st.drop (n-m):=by
 have a:n-(m+1)<st.length:=by omega
 rw[iH a,show n-(m+1)+1=n-m by omega]
 congr 1
 unfold BD;rw[aK,List.getElem?_reverse (by omega),aE (by omega),gj]
 congr 1
 omega
theorem anl(c:st.length=n)(b:m<n):BD st m∈st:=by
 have a:BD st m∈st.drop (n-(m+1)):=by rw[acB c b];simp
 exact List.mem_of_mem_drop a
theorem akn{c:Nat}{b:Option Addr}(h:W.ownsRow base 96 1 (A2 b n c) n (cSy st))(j:st.length=n)(i:m<n):∃a,b=N a/\W.cell? (a.add m)=N (M O (BD st m)):=by
 rcases bq h with⟨g,_⟩|⟨f,e,d⟩
 ·omega
 ·cases d;refine⟨_,rfl,?_⟩;rw[zi,h.cellAt m (by omega)];unfold cSy BD;rw[bK,aE (by simp;omega),aK,aE (by simp;omega)];rfl
theorem ags(w:X)(base f mb:Nat)(st:List Int)(t:Int)(g:Bool)(a9:Hw w base f (.map (N mb)) st)(bd:RI w base mb)(bk:∀a∈st,0<=a/\a<=133)(u:st.length<=100000000)(ch:1<=t)(ck:t<=78)(F:iB st t=g):
  B1 V 47 #[S (N ⟨f,0,T⟩),M B4 t] w fun e cl=>e= A0 (A5 g)/\Z w.heap.size w cl:=by
 obtain⟨cz,ak,I⟩:=a9.ex;have bb:GB w base f mb:=⟨by rw[au _ _ _ _ _ _ ak];rfl,bd⟩;obtain⟨n,a1⟩:=aA st.length;rw[a1]at I u;obtain⟨i,h,rfl⟩:=cj I;have ag:w.cell? ⟨f,1,T⟩=N (A2 i n h):=by rw[au _ _ _ _ _ _ ak];rfl
 have ca:n<=h:=by
  rcases I.2 with⟨a8,v⟩|⟨ct,cq,cr,a8,_,_,s,_⟩
  ·rw[v];exact aF _
  ·cases a8;exact s
 have o:=Jd bb I a1 F bk;have cu:=az ak;clear a9 bd bk I a1 F bb;refine my (n:=5).1 ?_;refine callsIn_of_wp_marks Tryz.func47 rfl trivial ?_ rfl;simp only[Tryz.ntmps47,iI,bi,dH,Nat.reduceAdd,Nat.reduceSub,iu,kF,kG,pc,ep,eC];refine wpIn_wide.2 ?_;have b5:=fun (ce cf cg:Obj)=>aj (((((ah w.heap.size w).alloc (ae _) ce).alloc (by simp) cf)).alloc (by simp;omega) cg) ag;go_wp2_with (go_at_call 82;refine(xe i n h _).mono ?_;rintro e cF ⟨rfl,rfl⟩);rename_i cm bf;generalize bj:(w.alloc _).alloc _=bD;generalize bh:(bD.alloc _).alloc _=a6;obtain⟨br,bs,pB,bt⟩:=GI bj;obtain⟨a3,a4,an,a5⟩:=GI bh;rw[bt]at a3 a4 a5;have cc:uH w f t (A2 i n h) Ax a6:=⟨pB.trans (an.mono (by omega)),(an.block _ (by omega)).trans br,(an.block _ (by omega)).trans bs,a3,a4⟩;have B:a6.heap.size=w.heap.size+4:=a5;clear bj bh br bs pB bt a3 a4 an a5;clear b5 ag ak;refine(qG (n:=5)).1 ?_;refine wm (P:=V) (gf:=129) (lb:=#[S (N ⟨w.heap.size+1+1+1,0,T⟩)]) rfl (enters_of Tryz.func129 (by kernel_rfl) rfl)
  (fun d=>#[M B4 (d:Int),M O (BD st d)]) (fun _=>rfl) n
  (fun d b=>uH w f t (A2 i n h) Ax b/\Ia st d t g)
  (fun d E b=>uH w f t (A2 i n h) Ax b/\Ia st (d+1) t g/\
   E={tmps:=#[S (N ⟨f,0,T⟩),M B4 t,S (N ⟨w.heap.size,0,T⟩),S (N ⟨w.heap.size+1,0,T⟩),S (N ⟨w.heap.size+1+1,0,T⟩),U,M O (BD st d),
    S (N ⟨f,0,T⟩),S (N ⟨f,0,T⟩),S (N ⟨f,1,T⟩),S (N ⟨f,1,T⟩),A2 i n h,.func (.func 129) #[] #[S (N ⟨w.heap.size+1+1+1,0,T⟩)],M B4 (d:Int),M O (BD st d),
    U,U,U,U,U,U,U,U,U],defers:=[]})
  (fun b=>uH w f t (A2 i n h) g b)
  ?pZ ?pAx ?pX ?h0 ?assign ?body ?seq ?done ?ret
 case pZ=>
  rintro d b bw L ⟨c,l⟩ u;rw[B]at u⊢;exact⟨c.put (by omega) L,l⟩
 case pAx=>
  rintro d E b bw L ⟨c,l,rfl⟩ u;rw[B]at u⊢;exact⟨c.put (by omega) L,l,rfl⟩
 case pX=>
  intro b bw L c u;rw[B]at u⊢;exact c.put (by omega) L
 case h0=>
  intro cp b9 cx;exact⟨cc.below b9,⟨by rw[o.out.2.2.1,eD];exact o.2.2.2.1⟩⟩
 case assign=>
  rintro K d b cn a0 ⟨c,l⟩ b6;have q:=dC c l;clear c l
  gi_wp2
  exact b6 _ _ ⟨q.1,q.2,rfl⟩ (KeepsFrom.refl _ _)
 case body=>
  rintro K d E b a0 ⟨c,l,rfl⟩;rw[B];have J:=o.2.2.2.2 _ (anl o.2.2.1 a0);have m:=l.out;rw[o.out.2.2.1,acB o.out.2.2.1 a0,iB]at m;have H:Ba 9 (BD st d) t=Ax->J5 (BD st d)=A9->Ia st d t g:=fun ao j=>by
   rw[aa (by rw[ao];simp),ab j]at m;exact⟨by rw[o.out.2.2.1];exact m⟩
  generalize BD st d=x at J m H⊢;have bn:=CallsIn.inRound K (my (n:=2).2 (xD 8 b base f mb x t (o.1.below c.bl) J.1 J.2 (amc x) ch ck));have a2:=fun (a7:X) (p:Z w.heap.size w a7)=>CallsIn.inRound K (my (n:=2).2 (akm a7 base f mb x (o.1.below p) J.1 J.2));have bE:=dt c.b0;have ag:=dt c.b1;have cs:IntKind.u8.wrap t=t:=by rw[ab3];omega
  have q:=aw c;clear c l
  gi_wp2_with (refine⟨trivial,?_⟩;gi_at_call 83;fail)
  refine⟨trivial,bn.mono ?_⟩;rintro e ad ⟨rfl,ap⟩;have p:=q.below ap;have al:Br (w.heap.size+4) b ad:=zh ap;have y:=dt p.b2;have z:ad.frozen? ⟨w.heap.size+2,0,T⟩=Ax:=bI _ _ _ _ _ p.b2;have b4:=dt p.b0;have j:w.heap.size+1+1=w.heap.size+2:=rfl;rw[<-j]at y z;clear bn bE ag ap j;cases hbv:Ba 9 x t with
  |true=>
   rw[hbv,ab rfl]at m;have r:B3 (uH w f t (A2 i n h) g (ad.setCell ⟨w.heap.size+1+1,0,T⟩ (A5 A9))/\Br (w.heap.size+4) b (ad.setCell ⟨w.heap.size+1+1,0,T⟩ (A5 A9))):=⟨by rw[<-m];exact p.set A9,al.trans ((KeepsOthers.setCell _ _ _).from _)⟩;have G:Ba (8+1) x t=A9:=hbv;try rw[G]
   clear m H hbv G a2 p al q
   gi_wp2
   exact⟨r.2,r.1⟩
  |false=>
   have G:Ba (8+1) x t=Ax:=hbv;rw[hbv,aa (by simp)]at m;try rw[G]
   have bo:=a2 ad p.bl;have af:=dC p al;clear G a2 p al q y z
   gi_wp2_with (refine⟨trivial,?_⟩;gi_at_call 84;fail)
   refine⟨trivial,bo.mono ?_⟩;rintro e C ⟨rfl,ar⟩;have s:=af.1.below ar;have am:Br (w.heap.size+4) b C:=af.2.trans (zh ar);have y:=dt s.b2;have z:C.frozen? ⟨w.heap.size+2,0,T⟩=Ax:=bI _ _ _ _ _ s.b2;have j:w.heap.size+1+1=w.heap.size+2:=rfl;rw[<-j]at y z;clear bo b4 ar j;cases hnv:J5 x with
   |true=>
    have r:B3 (uH w f t (A2 i n h) Ax C/\Ia st d t g/\Br (w.heap.size+4) b C):=⟨s,H hbv hnv,am⟩;clear m H hbv s am af hnv
    gi_wp2
    exact⟨r.2.2,r.1,r.2.1⟩
   |false=>
    rw[hnv,aa (by simp)]at m;have r:B3 (uH w f t (A2 i n h) g (C.setCell ⟨w.heap.size+1+1,0,T⟩ (A5 Ax))/\Br (w.heap.size+4) b (C.setCell ⟨w.heap.size+1+1,0,T⟩ (A5 Ax))):=⟨by rw[<-m];exact s.set Ax,am.trans ((KeepsOthers.setCell _ _ _).from _)⟩;clear m H hbv s am af hnv
    gi_wp2
    exact⟨r.2,r.1⟩
 case seq=>
  intro K bx bA be b8 b b7;refine FE 4 K (w.heap.size+1+1+1) n h i _ u ca bx bA (fun d b c=>?_) (fun d b c cy cb=>?_) b8 b b7
  ·exact dt (be d b c).1.b3
  ·obtain⟨E,ao,j⟩:=akn o.2.1 o.2.2.1 cb;exact⟨E,ao,aj (be d b c).1.bl j⟩
 case ret=>
  intro b c A;rw[B]at A⊢;refine⟨by simp,.inl ⟨_,_,rfl,run_takeDeferred A,?_⟩⟩;have v:=c.put (k:=w.heap.size+4) (by omega) (.deferred T);refine⟨_,Kk rfl _ _ (w.heap.size+1+1) g rfl v.b2,rfl,v.bl⟩
 case done=>
  rintro b ⟨c,l⟩ A;rw[B]at A⊢;have F:g=Ax:=by
   have:=l.out;rw[pi,List.drop_length]at this;exact this.symm
  refine bf _ _ ?_;have y:=dt c.b2;have z:b.frozen? ⟨w.heap.size+2,0,T⟩=Ax:=bI _ _ _ _ _ c.b2;have j:w.heap.size+1+1=w.heap.size+2:=rfl;rw[<-j]at y z;have q:B3 (uH w f t (A2 i n h) g (b.setCell ⟨w.heap.size+1+1,0,T⟩ (A5 Ax))/\(b.setCell ⟨w.heap.size+1+1,0,T⟩ (A5 Ax)).heap[w.heap.size+4]?=N (.deferred (N []))):=⟨by rw[F];exact c.set Ax,(aC _ _ _ _ (by simp)).trans A⟩;clear c l A F bf j;go_wp2_with fail;refine⟨by simp,.inl ⟨_,_,rfl,run_takeDeferred q.2,?_⟩⟩;have v:=q.1.put (k:=w.heap.size+4) (by omega) (.deferred T);refine⟨_,Kk rfl _ _ (w.heap.size+1+1) g rfl v.b2,rfl,v.bl⟩
def passOk(b:Nat):Nat->List Int->Int->List Int->Prop
 |0,_,_,_=>False
 |_+1,[],_,_=>False
 |f+1,a::r,t,o=>(a=t/\o=r/\r.length<=b)\/(a≠t/\(Hp a t++r).length<=b/\passOk b f (Hp a t++r) t o)
theorem agt(e:0<=a)(g:a<=133):(Hp a t).length<=6/\∀z∈Hp a t,1<=z/\z<=133:=by
 have b:=Ct e (show a<=255 by omega);unfold Au at b;rw[cd,td]at b;unfold Hp;cases hf:List.find? (hdI t) (lr a) with
 |none=>exact⟨aF _,fun z c=>by simp at c⟩
 |some d=>
  have f:d∈lr a:=ab2 hf;have:=b.2 d f;simp only[cd,td]at this;exact⟨aG this.1.1,fun z c=>aG (this.1.2 z c)⟩
theorem ako(b:1<=t):rwN 8 (lr a) t=Hp a t:=by
 unfold rwN Hp
 congr 2
 funext r
 rw[amb b 7 r];cases r<;>rfl
theorem FG:∀{f b:Nat}{st o:List Int}{t:Int},lu f st t=N o->(∀z∈st,0<=z/\z<=133)->st.length+5*f<=b->passOk b f st t o
 |0,_,_,_,_,h,_,_=>by simp[lu]at h
 |f+1,_,[],_,_,h,_,_=>by simp[lu]at h
 |f+1,b,a::r,o,t,h,c,d=>by
  rw[lu]at h;unfold passOk;simp only[bi]at d;by_cases e:a=t
  ·rw[ab e]at h;exact .inl ⟨e,(bu h).symm,by omega⟩
  ·rw[aa e]at h;obtain⟨g,i⟩:=c a (by simp);obtain⟨k,j⟩:=agt (t:=t) g i;refine .inr ⟨e,by rw[aB];omega,FG h (fun z hz'=>?_) (by rw[aB];omega)⟩;rcases List.mem_append.1 hz' with hz'|hz'
   ·have:=j z hz';omega
   ·exact c z (by simp[hz'])
theorem Bf:∀{f g b:Nat}{st o:List Int}{t:Int},passOk b f st t o->f<=g->passOk b g st t o
 |0,_,_,_,_,_,h,_=>h.elim
 |f+1,0,_,_,_,_,_,i=>by omega
 |f+1,g+1,_,[],_,_,h,_=>h.elim
 |f+1,g+1,b,a::r,o,t,h,i=>by
  unfold passOk at h⊢;rcases h with h|⟨c,d,e⟩
  ·exact .inl h
  ·exact .inr ⟨c,d,Bf e (by omega)⟩
theorem Bh:∀{f b M':Nat}{st o:List Int}{t:Int},passOk b f st t o->b<=M'->passOk M' f st t o
 |0,_,_,_,_,_,h,_=>h.elim
 |f+1,_,_,[],_,_,h,_=>h.elim
 |f+1,b,M',a::r,o,t,h,g=>by
  unfold passOk at h⊢;rcases h with⟨c,d,e⟩|⟨c,d,e⟩
  ·exact .inl ⟨c,d,by omega⟩
  ·exact .inr ⟨c,by omega,Bh e g⟩
theorem Kl:∀{st:List Int}{t:Int},OkI st->1<=t->t<=78->iB st t=A9->∃o,passOk (st.length+45) (st.length+9) st t o
 |[],t,d,_,_,h=>by simp[iB]at h
 |a::r,t,d,k,l,h=>by
  have p:=d a (bB ..);have s:OkI r:=fun y v=>d y (cL _ v);have u:∀e∈a::r,0<=e/\e<=133:=fun e w=>by have:=aG (d e w);omega
  have b:=acq p k l;rw[iB]at h;unfold age at b;by_cases f:Ba 9 a t=A9
  ·rw[ab f]at b;split at b
   ·rename_i A B C n z;have g:=Al (c:=r) n;rw[yk]at g;exact⟨_,Bf (FG g u (by simp)) (by simp)⟩
   ·cases b
  ·rw[aa f]at b h;by_cases i:J5 a=A9
   ·rw[ab i]at b h;rw[cd]at b;obtain⟨o,x⟩:=Kl s k l h;have q:¬a=t:=fun m=>by
     subst m;have:Ba 9 a a=A9:=by rw[Ba,ab (by omega)];exact bv rfl
     exact f this
    have j:Hp a t=[]:=by simpa using b.1
    refine⟨o,?_⟩;rw[show(a::r).length+9=(r.length+9)+1 from Nat.add_right_comm r.length 1 9];unfold passOk;refine .inr ⟨q,by rw[j,ep];simp;omega,?_⟩;rw[j,ep];exact Bh x (by simp)
   ·rw[aa i]at h;cases h
theorem Bi:∀{f c:Nat}{st o:List Int}{t:Int},passOk c f st t o->lu f st t=N o
 |0,_,_,_,_,h=>h.elim
 |f+1,_,[],_,_,h=>h.elim
 |f+1,c,a::r,o,t,h=>by
  unfold passOk at h;rw[lu];rcases h with⟨b,d,e⟩|⟨b,d,e⟩
  ·rw[ab b,d]
  ·rw[aa b];exact Bi e
theorem xF:∀{f b:Nat}{st o:List Int}{t:Int},passOk b f st t o->o.length<=b
 |0,_,_,_,_,h=>h.elim
 |f+1,_,[],_,_,h=>h.elim
 |f+1,b,a::r,o,t,h=>by
  unfold passOk at h;rcases h with⟨e,d,c⟩|⟨e,d,c⟩
  ·rw[d];exact c
  ·exact xF c
theorem EJ.passOk{c:List Int}(h:EJ st c)(d:1<=t)(e:t<=78)(a:iB st t=A9):∃o,passOk (st.length+45) (st.length+9) st t o/\EJ o (feedL c t).1:=by
 obtain⟨o,b⟩:=Kl h.o1 d e a;obtain⟨g,f,p2⟩:=h.pass d e a;have:=Bi b;rw[f]at this;obtain rfl:=bu this;exact⟨_,b,p2⟩
attribute [local go_sem] kH
theorem amd{t:B7}(d:W.heap[gb]?=N (Y cs t fr))(h:Gp gb W W'):Br B W W':=⟨h.size,fun e i _ a c=>(h.block e (Array.getElem?_eq_some_iff.1 a).1 (by rintro rfl;rw[d]at a;cases a;cases c) (fun f g b=>by rw[a]at b;cases b;cases c)).trans a⟩
theorem jI{t:B7}(h:Gp gb W W')(a:W.heap[k]?=N (Y cs t fr))(c:k≠gb)(d:t≠96:=by decide):W'.heap[k]?=N (Y cs t fr):=
 (h.block k (Array.getElem?_eq_some_iff.1 a).1 c (fun e f b=>by rw[a]at b;cases b;exact d rfl)).trans a
structure xG (w:X) (base gb mb:Nat) (st:List Int) (c:List Nat) (W:X):Prop where
 g:Hw W base gb (.map (N mb)) st
 r:RI W base mb
 gp:Gp gb w W
 bb:Z base w W
 b0:W.heap[w.heap.size]?=N (.cells #[.pointer (N ⟨gb,0,T⟩)] 53 (0,0))
 mks:qj (w.heap.size+1) c W
 ne:gb<w.heap.size
theorem xG.below(h:xG w base gb mb st c W)(a:Z W.heap.size W W'):xG w base gb mb st c W':=by
 refine⟨h.g.below a,h.r.below a,h.gp.trans (Gp.of_below a),h.bb.trans (a.mono ?_),(a.block _ (az h.b0)).trans h.b0,h.mks.below a,h.ne⟩;have:=h.g.lo;have:=h.ne;have:=h.gp.size;omega
theorem xG.turn{i:List Int}(h:xG w base gb mb st c W)(j:Hw W' base gb (.map (N mb)) i)(d:Gp gb W W')(k:Z base W W'):xG w base gb mb i c W':=by
 obtain⟨n,f,_⟩:=h.g.ex;exact⟨j,h.r.gp f d,h.gp.trans d,h.bb.trans k,jI d h.b0 (by have:=h.ne;omega),
  ⟨h.mks.nd,h.mks.lo,fun a b=>(d.block a (Array.getElem?_eq_some_iff.1 (h.mks.at_ a b)).1 (by rintro rfl;have:=h.mks.at_ a b;rw[f]at this;cases this) (fun l m e=>by rw[h.mks.at_ a b]at e;cases e)).trans (h.mks.at_ a b)⟩,h.ne⟩
theorem xG.put(h:xG w base gb mb st c W){r:Loop}(x:w.heap.size<k)(d:W.heap[k]?=N (.loop r))(o:Obj):xG w base gb mb st c (W.putObj k o):=by
 obtain⟨q,l,n⟩:=h.g.ex;have e:gb≠k:=by have:=h.ne;omega
 have p:base<=k:=by have:=h.g.lo;have:=h.ne;omega
 refine⟨⟨⟨q,(Q e).trans l,ownsRow_putObj n o d rfl⟩,h.g.lo⟩,h.r.same (fun t c a=>(Q (by rintro rfl;rw[d]at a;cases a)).trans a) (fun v s u a=>(Q (by rintro rfl;rw[d]at a;cases a)).trans a),?_,h.bb.grown (Ce W k o) (by have:=h.gp.size;have:=h.g.lo;have:=h.ne;omega) (fun i a=>by cases a;exact p),(Q (by omega)).trans h.b0,
  ⟨h.mks.nd,h.mks.lo,fun f g=>(Q (by rintro rfl;have:=(h.mks.at_ f g).symm.trans d;cases this)).trans (h.mks.at_ f g)⟩,h.ne⟩
 have b:=h.gp;refine⟨b.os,b.tape,b.output,by have:=b.size;simpa using this,fun i m e j=>(Q (by omega)).trans (b.block i m e j)⟩
structure aaI (w:X) (base gb mb:Nat) (st:List Int) (c:List Nat) (sz:Nat) (x0 x1 x2 x3 x4 x5:Int) (W:X):Prop where
 ps:xG w base gb mb st c W
 b0:W.heap[sz]?=N (.cells #[.int .u8 x0,.int .u8 x1,.int .u8 x2,.int .u8 x3,.int .u8 x4,.int .u8 x5] 156 (0,0))
 b1:W.heap[sz+1]?=N (.cells #[.slice (N ⟨sz,0,T⟩) 6 6] 90 (0,0))
theorem aaI.put{a:Nat}{x0 b x2 d e f:Int}(h:aaI w base gb mb st c a x0 b x2 d e f W)(j:w.heap.size<a){r:Loop}(i:a+1<k)(g:W.heap[k]?=N (.loop r))(o:Obj):aaI w base gb mb st c a x0 b x2 d e f (W.putObj k o):=
 ⟨h.ps.put (by omega) g o,(Q (by omega)).trans h.b0,(Q (by omega)).trans h.b1⟩
theorem agu(w:X)(base f mb:Nat)(st:List Int)(t:Int)(o bj:Nat)(stF:List Int)(a4:Hw w base f (.map (N mb)) st)(cp:RI w base mb)(cy:∀a∈st,0<=a/\a<=133)(u:st.length<=o)(fp:o<=100000000)(c6:1<=t)(e2:t<=78)(a5:passOk o bj st t stF):
  B1 V 58 #[S (N ⟨f,0,T⟩),M O t] w fun e bf=>e= A0 (Cr #[])/\Hw bf base f (.map (N mb)) stF/\RI bf base mb/\Gp f w bf/\Z base w bf:=by
 obtain⟨d1,cw,eq⟩:=a4.ex;have el:=az cw;have fu:=a4.lo;obtain⟨k,rfl⟩:∃k,bj=k+1:=by
  cases bj with
  |zero=>exact a5.elim
  |succ k=>exact⟨k,rfl⟩
 obtain⟨c,l,rfl⟩:∃c l,st=c::l:=by
  cases st with
  |nil=>exact a5.elim
  |cons c l=>exact⟨c,l,rfl⟩
 have am:=(ah w.heap.size w).alloc (ae _) (Y #[S (N ⟨f,0,T⟩)] 53 (0,0));have bs:xG w base f mb (c::l) [] (w.alloc (Y #[S (N ⟨f,0,T⟩)] 53 (0,0))):=
  ⟨a4.below am,cp.below am,Gp.of_below am,am.mono (by omega),ay w _,⟨Gx,fun q hb=>by simp at hb,fun q hb=>by simp at hb⟩,el⟩
 have v:=Kd _ base f (.map (N mb)) l c bs.g (by simp only[bi]at u;omega);have a1:=iF bs cy a5;clear a4 cp cy eq bs a5 cw;refine my (n:=5).1 ?_;refine callsIn_of_wp_marks Tryz.func58 rfl trivial ?_ rfl;simp only[Tryz.ntmps58,iI,bi,dH,Nat.reduceAdd,Nat.reduceSub,iu,kF,kG,pc,ep,eC];refine wpIn_wide.2 ?_;go_wp2_with (go_at_call 90;refine v.mono ?_;rintro e e4 ⟨rfl,a3,p2,cg⟩);have cF:=a1.1.turn a3 p2 cg;have cc:B3 (xG w base f mb l [] e4/\(∀a∈c::l,0<=a/\a<=133)/\passOk o (k+1) (c::l) t stF/\l.length<=o):=⟨cF,a1.2.1,a1.2.2,by simp only[bi]at u;omega⟩;clear a1 cF a3 p2 cg v am;obtain⟨s0,cB⟩:=aA c;refine(qG (n:=5)).1 (wpIn_loop_ghost (fun k ak g=>∃(c:Int) (st:List Int) (j:List Nat),B3 (xG w base f mb st j g/\(∀a∈c::st,0<=a/\a<=133)/\passOk o (k+1) (c::st) t stF/\st.length<=o)/\∃dx d0 c7 c8 c9 b8 b9 ca cb da dc dd df dg dk dn dq ds:B0,ak={tmps:=#[S (N ⟨f,0,T⟩),M O t,S (N ⟨w.heap.size,0,T⟩),U,M O c,dx,d0,U,U,S (N ⟨f,0,T⟩),S (N ⟨f,0,T⟩),S (N ⟨f,1,T⟩),M O s0,c7,c8,c9,b8,b9,ca,cb,da,dc,dd,df,dg,dk,dn,dq,ds,U,U,U,U,U,U,U,U,U],defers:=j.map Af}) k ?start ?round)
 case start=>exact⟨c,l,[],cc,U,U,U,U,U,U,U,U,U,U,U,U,U,U,U,U,U,U,by rw[<-cB];rfl⟩
 case round=>
  clear cc u cB;rintro k ak g ⟨c,st,j,m,dx,d0,c7,c8,c9,b8,b9,ca,cb,da,dc,dd,df,dg,dk,dn,dq,ds,rfl⟩;refine wpIn_wide.2 ?_;have eh:=dt m.1.b0;have a8:=m.2.1 c (by simp);by_cases ao:c=t
  ·have G:=m.2.2.1;unfold passOk at G;have c1:stF=st:=by
    rcases G with⟨_,b,_⟩|⟨b,_⟩
    ·exact b
    ·exact absurd ao b
   have ag:B3 (xG w base f mb stF j g):=by rw[c1];exact m.1
   clear G m c1;subst ao;go_wp2_with fail;show LeavesInM _ _ _ _ _ _ (j.map Af) .returning g;have b:=ag.out;refine pq (w.heap.size+1) j g b.mks (fun cf s=>?_);have c2:∀h,h<=w.heap.size->cf.heap[h]?=g.heap[h]?:=fun h E=>s.same h (fun F=>by have:=b.mks.lo h F;omega);have a6:∀(h:Nat)(x:Obj),g.heap[h]?=N x->(∀a0,x≠ .deferred a0)->cf.heap[h]?=N x:=fun h x E a7=>(s.same h (fun F=>by have:=b.mks.at_ h F;rw[E]at this;exact a7 _ (bu this))).trans E;refine⟨_,ip rfl _ _ _,rfl,?_,?_,?_,?_⟩
   ·obtain⟨d1,y,a7⟩:=b.g.ex;refine⟨⟨d1,a6 _ _ y (fun a0 e=>by cases e),a7.1,?_⟩,b.g.lo⟩;rcases a7.2 with ec|⟨a3,d8,d9,bE,b3,b4,b7⟩
    ·exact .inl ec
    ·exact .inr ⟨a3,d8,d9,bE,b3,a6 _ _ b4 (fun a0 e=>by cases e),b7⟩
   ·exact b.r.same (fun fm j e=>a6 _ _ e (fun a0 e=>by cases e)) (fun fo fk fn e=>a6 _ _ e (fun a0 e=>by cases e))
   ·exact⟨s.os.trans b.gp.os,s.tape.trans b.gp.tape,s.output.trans b.gp.output,by rw[s.size];exact b.gp.size,fun h E en ei=>(c2 h (by omega)).trans (b.gp.block h E en ei)⟩
   ·exact⟨s.os.trans b.bb.os,s.tape.trans b.bb.tape,s.output.trans b.bb.output,by rw[s.size];exact b.bb.size,fun h E=>(c2 h (by omega)).trans (b.bb.block h E)⟩
  ·have fz:(c==t)=Ax:=by rw[bH];exact ao
   have G:(Hp c t++st).length<=o/\passOk o k (Hp c t++st) t stF:=by
    have:=m.2.2.1;unfold passOk at this;rcases this with⟨b,_⟩|⟨_,b⟩
    ·exact absurd b ao
    ·exact b
   obtain⟨e3,y,_⟩:=m.1.g.ex;have cn:GB g base f mb:=⟨by rw[au _ _ _ _ _ _ y];rfl,m.1.r⟩;obtain⟨C,ct⟩:∃C,Dq 8 t (lr c) 0 (Hp c t) C:=⟨_,⟨ako c6,rfl⟩⟩;have ar:=Dr 7 (xD 7) g base f mb c t cn a8.1 a8.2 (amc c) c6 e2 _ C ct;obtain⟨br,cz⟩:=agt (t:=t) a8.1 a8.2;rw[acy br]at ar;have r:B3 ((Hp c t++st).length<=o/\passOk o k (Hp c t++st) t stF/\(Hp c t).length<=6/\∀d4∈Hp c t,1<=d4/\d4<=133):=⟨G.1,G.2,br,cz⟩;generalize Hp c t=rw at ar r;obtain⟨I,bd⟩:=aA (rw.getD 0 0);obtain⟨J,bt⟩:=aA (rw.getD 1 0);obtain⟨K,bw⟩:=aA (rw.getD 2 0);obtain⟨L,bx⟩:=aA (rw.getD 3 0);obtain⟨ad,bA⟩:=aA (rw.getD 4 0);obtain⟨af,bD⟩:=aA (rw.getD 5 0);rw[bd,bt,bw,bx,bA,bD]at ar;have ce:=amE bd bt bw bx bA bD;clear G y cn ct br cz bd bt bw bx bA bD ao;go_wp2_with (first
    |(go_at_call 91;refine ar.mono ?_;rintro e d2 ⟨rfl,an⟩)
    |(go_at_call 82;refine(xe _ 6 6 _).mono ?_;rintro e fA ⟨rfl,rfl⟩))
   rename_i fc cr;obtain⟨i,c3⟩:=aA d2.heap.size;rw[c3];generalize cu:(d2.alloc _).alloc _=fg;obtain⟨bn,bo,cm,ap⟩:=GI cu;rw[c3]at bn bo ap;have cI:=m.1.below (an.trans (cm.mono an.size));have ek:∀q∈j,q<i:=fun q hb=>by have:=(Array.getElem?_eq_some_iff.1 (m.1.mks.at_ q hb)).1;have:=an.size;omega
   have c4:w.heap.size<i:=by have:=az m.1.b0;have:=an.size;omega
   clear ar an eh cm cu;refine(qG (n:=5)).1 ?_;refine wm (P:=V) (gf:=129) (lb:=#[S (N ⟨i+1,0,T⟩)]) rfl (enters_of Tryz.func129 (by kernel_rfl) rfl)
    (fun d=>#[M B4 (d:Int),M O (rw.getD d 0)]) (fun _=>rfl) 6
    (fun d g=>aaI w base f mb (rw.drop d++st) j i I J K L ad af g)
    (fun d ak g=>aaI w base f mb (rw.drop (d+1)++st) j i I J K L ad af g/\ak={tmps:=#[S (N ⟨f,0,T⟩),M O t,S (N ⟨w.heap.size,0,T⟩),U,M O c,S (N ⟨i,0,T⟩),A5 C,U,M O (rw.getD d 0),S (N ⟨f,0,T⟩),S (N ⟨f,0,T⟩),S (N ⟨f,1,T⟩),M O s0,M O c,M O t,A5 A9,b8,b9,ca,cb,Cr #[Ck #[M O I,M O J,M O K,M O L,M O ad,M O af],A5 C],S (N ⟨f,0,T⟩),M O c,M O t,Cr #[Ck #[M O I,M O J,M O K,M O L,M O ad,M O af],A5 C],Ck #[M O I,M O J,M O K,M O L,M O ad,M O af],A5 C,A2 (N ⟨i,0,T⟩) 6 6,.func (.func 129) #[] #[S (N ⟨i+1,0,T⟩)],M B4 (d:Int),M O (rw.getD d 0),U,U,U,U,U,U,U],defers:=[]})
    (fun _=>False)
    ?pZ ?pAx ?pX ?h0 ?assign ?body ?seq ?done ?ret
   case pZ=>
    rintro d g l x b u;rw[ap]at u⊢;exact b.put c4 (by omega) u x
   case pAx=>
    rintro d ak g l x ⟨b,rfl⟩ u;rw[ap]at u⊢;exact⟨b.put c4 (by omega) u x,rfl⟩
   case pX=>intro g l x b;exact b.elim
   case h0=>
    intro ff hb fv;refine⟨?_,(hb.block _ (by omega)).trans bn,(hb.block _ (by omega)).trans bo⟩;rw[ju r.out.2.2.1];exact cI.below hb
   case assign=>
    rintro be d g fd F b ee;have A:=aw b;clear b
    gi_wp2
    exact ee _ _ ⟨A,rfl⟩ (KeepsFrom.refl _ _)
   case seq=>
    intro be d5 d6 cq eg g ef;refine FE 4 be (i+1) 6 6 (N ⟨i,0,T⟩) _ (by decide) (ae _) d5 d6 (fun d g b=>?_) (fun d g b al fq=>?_) eg g ef
    ·exact dt (cq d g b).b1
    ·obtain⟨eF,bE,b3,b4,b7,e0⟩:=gI (cq d g b).b0;obtain⟨e6,e7,e8,e9,fa,fb⟩:=ce.out;refine⟨_,rfl,?_⟩;rw[zi];rcases(show al=0\/al=1\/al=2\/al=3\/al=4\/al=5 by omega) with rfl|rfl|rfl|rfl|rfl|rfl
     ·rw[e6];exact eF
     ·rw[e7];exact bE
     ·rw[e8];exact b3
     ·rw[e9];exact b4
     ·rw[fa];exact b7
     ·rw[fb];exact e0
   case ret=>intro g b;exact b.elim
   case body=>
    rintro be d ak B F ⟨b,rfl⟩;rw[ap];have ck:=dt b.ps.b0;obtain⟨e3,y,_⟩:=b.ps.g.ex;by_cases bl:d<rw.length
    ·have c5:rw.getD d 0∈rw:=by rw[aK,aE bl];exact oe _
     have ev:=r.2.2.2 _ c5;have cv:rw.drop d=rw.getD d 0::rw.drop (d+1):=by
      rw[iH bl]
      congr 1
      rw[aK,aE bl];rfl
     have em:(rw.drop (d+1)++st).length<=100000000:=by
      have:=r.1;rw[aB]at this⊢;rw[im];omega
     have v:=CallsIn.inRound be (my (n:=2).2 (Aq B base f (.map (N mb)) (rw.drop (d+1)++st) (rw.getD d 0) b.ps.g em));rw[<-eC,<-cv]at v;have A:=dC b y;generalize rw.getD d 0=e5 at ev v⊢;have bd:(e5==0)=Ax:=by rw[bH];omega
     clear b y c5 cv
     gi_wp2_with (refine⟨trivial,?_⟩;gi_at_call 44;fail)
     refine⟨trivial,v.mono ?_⟩;rintro e d3 ⟨rfl,cl,av,ch⟩;have ag:B3 (aaI w base f mb (rw.drop d++st) j i I J K L ad af d3/\Br (i+1+1) B d3):=⟨⟨A.1.ps.turn cl av ch,jI av A.1.b0 (by omega),jI av A.1.b1 (by omega)⟩,amd A.2 av⟩;clear cl av ch v A ck
     gi_wp2
     exact⟨ag.2,ag.1⟩
    ·have et:rw.getD d 0=0:=by rw[aK,gE (by omega)];rfl
     rw[et];have ag:B3 (aaI w base f mb (rw.drop d++st) j i I J K L ad af B):=by
      have ea:rw.drop d=rw.drop (d+1):=by rw[ju (by omega),ju (by omega)]
      rw[ea];exact b
     clear b y
     gi_wp2
     exact⟨KeepsFrom.refl _ _,ag⟩
   case done=>
    rintro B b bk;rw[ap]at bk⊢;obtain⟨a2,rfl⟩:∃a2,k=a2+1:=by
     cases k with
     |zero=>exact(r.2.1).elim
     |succ k=>exact⟨k,rfl⟩
    obtain⟨H,z,a9⟩:∃H z,rw++st=H::z:=by
     cases hq:rw++st with
     |nil=>have:=r.2.1;rw[hq]at this;exact this.elim
     |cons a q=>exact⟨a,q,rfl⟩
    have p:=b.ps;rw[jy,a9]at p;have fs:z.length+1<=o:=by have:=r.1;rw[a9,bi]at this;exact this
    have v:=Kd B base f (.map (N mb)) z H p.g (by omega);have ck:=dt p.b0;have cx:qj (w.heap.size+1) ((i+1+1)::j) B:=⟨List.nodup_cons.2 ⟨fun F=>by have:=ek _ F;omega,p.mks.nd⟩,fun q hb=>by
      rcases List.mem_cons.1 hb with rfl|hb
      ·omega
      ·exact p.mks.lo q hb,fun q hb=>by
      rcases List.mem_cons.1 hb with rfl|hb
      ·exact bk
      ·exact p.mks.at_ q hb⟩
    have bh:B3 (xG w base f mb (H::z) ((i+1+1)::j) B/\(∀a∈H::z,0<=a/\a<=133)/\passOk o (a2+1) (H::z) t stF):=by
     refine⟨⟨p.g,p.r,p.gp,p.bb,p.b0,cx,p.ne⟩,fun a ha=>?_,by rw[<-a9];exact r.2.1⟩;rw[<-a9]at ha;rcases List.mem_append.1 ha with ha|ha
     ·have:=r.2.2.2 a ha;omega
     ·exact m.2.1 a (by simp[ha])
    refine cr _ _ ?_;clear cx p b bk cr m r ce cI bn bo;go_wp2_with (go_at_call 90;refine v.mono ?_;rintro e fB ⟨rfl,eb,ew,d7⟩);exact⟨a2,by omega,H,z,(i+1+1)::j,⟨bh.1.turn eb ew d7,bh.2.1,bh.2.2,by omega⟩,_,_,_,_,_,_,_,_,_,_,_,_,_,_,_,_,_,_,rfl⟩
def mo(st:List Int):Nat->List Int
 |0=>[]
 |j+1=>if iB st ((j:Int)+1)=A9 then mo st j++[(j:Int)+1] else mo st j
theorem Ds(st:List Int):∀j,(mo st j).length<=j
 |0=>ae _
 |j+1=>by
  have:=Ds st j;rw[mo];split
  ·rw[aB];simp;omega
  ·omega
theorem Km(st:List Int):∀j,∀z∈mo st j,1<=z/\z<=(j:Int)
 |0=>by intro z a;simp[mo]at a
 |j+1=>by
  intro z a;have b:=Km st j;rw[mo]at a;split at a
  ·rcases List.mem_append.1 a with h|h
   ·have:=b z h;omega
   ·simp at h;omega
  ·have:=b z a;omega
theorem EJ.nm{a:List Int}(h:EJ st a):∀j,j<=78->mo st j=jG a j
 |0,_=>rfl
 |j+1,b=>by rw[mo,jG,h.nm j (by omega),h.may (by omega) (by omega)]
structure GQ (W:X) (base gb mb:Nat) (st:List Int):Prop where
 g:Hw W base gb (.map (N mb)) st
 r:RI W base mb
 ok:∀a∈st,0<=a/\a<=133
 len:st.length<=99999000
theorem GQ.below(h:GQ W base gb mb st)(a:Z W.heap.size W W'):GQ W' base gb mb st:=⟨h.g.below a,h.r.below a,h.ok,h.len⟩
theorem GQ.may(h:GQ W base gb mb st)(c:1<=t)(d:t<=78){a:Bool}(b:iB st t=a):
  B1 V 47 #[S (N ⟨gb,0,T⟩),M B4 t] W fun e f=>e= A0 (A5 a)/\Z W.heap.size W f:=
 ags W base gb mb st t a h.g h.r h.ok (by have:=h.len;omega) c d b
structure ap3 (w:X) (st:List Int) (j:Nat) (vo:B0) (W:X):Prop where
 bl:Z w.heap.size w W
 row:W.ownsRow w.heap.size 3 1 vo (mo st j).length ((mo st j).map (C2 .i64))
theorem FH(w:X)(base x mb:Nat)(st:List Int)(h:GQ w base x mb st):
  B1 V 18 #[.pointer (N ⟨x,0,T⟩)] w fun e B=>∃a c,e= .returned (.slice a (mo st 78).length c)/\B.ownsRow w.heap.size 3 1 (.slice a (mo st 78).length c) (mo st 78).length ((mo st 78).map (C2 .i64))/\Z w.heap.size w B:=by
 have F:=aw h;have v:B3 (ap3 w st 0 (.slice T 0 0) w):=⟨ah _ _,cE _ _ _ _⟩;obtain⟨ak,al,am,an,ao⟩:=dD tr;clear h;go_in;go_wp21
 go_loopw [3,4] (fun A s wr=>∃(b:Nat),b<=78/\s= .int .i64 ((b:Int)+1)/\(∃a c,∃ar:Nat,A= .slice a ar c)/\B3 (ap3 w st b A wr)) (fun _ s _=>(79-B6 s).toNat)
 case atStart=>exact⟨0,aF _,rfl,⟨_,_,_,rfl⟩,v⟩
 case round=>
  obtain⟨b,a5,rfl,⟨I,K,a8,rfl⟩,f⟩:=hrel;clear v;by_cases a6:b<78
  ·obtain⟨G,o⟩:=aA (iB st ((b:Int)+1));have r:=(F.below f.bl).may (t:=(b:Int)+1) (by omega) (by omega) o;have u:=aw o;obtain⟨i,p⟩:∃i:Int,(b:Int)+1=i:=⟨_,rfl⟩;have l:=aw p;have a4:i<=78:=by omega
   have a3:1<=i:=by omega
   rw[p]at r⊢;clear o p;go_wp21
   refine r.mono ?_;rintro e C ⟨rfl,m⟩;have q:=f.bl.trans (m.mono f.bl.size);have d:=bJ f.row m;have af:=Ds st b;obtain⟨a0,j⟩:=aA ((mo st b).length);rw[j]at d af;obtain⟨H,J,n⟩:=cj d;cases n;have g:=iF d j q;have ag:=q.size;clear r f m d j q;cases G with
   |false=>
    have e:mo st (b+1)=mo st b:=by rw[mo,u.out,aa (by decide)]
    go_wp21
    refine⟨⟨b+1,by omega,?_,⟨_,_,_,rfl⟩,⟨g.2.2,by rw[e,g.out.2.1];exact g.1⟩⟩,?_⟩
    ·have:=l.out;congr 1;push_cast;omega
    ·simp[B6];omega
   |true=>
    have E:B3 (mo st (b+1)=mo st b++[i]):=by show _=_;rw[mo,u.out,ab rfl,l.out]
    go_wp2_with (at_builtin;refine mw _ rfl _ _ 24 rfl w.heap.size 3 ak _ 1 8 Tryz.underlying24 al am an ao rfl (by decide) _ _ _ rfl (g.1.alloc _) ⟨C.heap.size,0,T⟩ 1 1 [.int .i64 i] rfl rfl (World.news_of_block (cs:=#[.int .i64 i]) (fr:=(0,0)) (ay C _)) (by intro bb z;simp at z;subst z;rfl) (by unfold maxLen;omega) (by omega) (by simp;omega) ?_;intro bd be y L a7;obtain⟨a2,a1,rfl⟩:=ownsRow_succ y);refine⟨⟨b+1,by omega,?_,⟨_,_,_,rfl⟩,⟨?_,?_⟩⟩,?_⟩
    ·have:=l.out;congr 1;push_cast;omega
    ·exact(g.2.2.alloc ag _).grown L (by simp;omega) (fun ap ad=>(g.1.lt ap ad).1)
    ·rw[E.out,aB,g.out.2.1,eB];exact y
    ·simp[B6];omega
  ·obtain rfl:b=78:=by omega
   have d:=f.row;obtain⟨a0,j⟩:=aA ((mo st 78).length);rw[j]at d;obtain⟨H,J,n⟩:=cj d;cases n;have k:=iF d j f.bl;clear f d j;go_wp21
   go_ret;refine⟨I,K,?_,?_,k.2.2⟩
   ·rw[k.out.2.1];rfl
   ·rw[k.out.2.1];exact k.1
