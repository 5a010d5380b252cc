import Derived.Test.YthboboahkkhopaaGreatDoorHRo23
import Derived.Test.YthboboahkkhopaaGreatDoorHRo18
import Derived.Test.YthboboahkkhopaaGreatDoorHRo09
import Derived.Test.YthboboahkkhopaaGreatDoorHRo21
set_option linter.all false
set_option maxRecDepth 100000
set_option maxHeartbeats 6400000
open Go.Proofs.Tryz
open Option renaming some->O,none->U
open Go.IntKind renaming i64->V
open Go.Value renaming int->X,slice->Y,pointer->A0,ownBlock->A2,string->A5,iface->Br,slice->B3,string->B4,bool->E0,agg->F1,int->H1,tuple->H2
open Go.Obj renaming cells->Z
open Go renaming Value->Ax,undef->A9,World->B2,TypeId->C2,wpAnyH_ready->E3,wp_region_held_drew->F2,grownBy_putObj'->G0,Calls->G2,KeepsFrom->G3,ownsRow_succ->Hm,maxLen->H0
open Go.World renaming putObj_heap_other->B0,news_of_block->Ce,setCell->E1
open Bool renaming false->B1,true->F0
open Go.Proofs.Tryz renaming prog->B6
open Go.AllReadyH renaming cons->B7,nil->E2
open List renaming set->Ck
open Go.Ending renaming returned->Fs
namespace Go.Proofs.YthboboahkkhopaaGreatDoor
open Go.RowKit Go.Maps Go.WideMaps
variable{B b base g gb i k lo m mb mg n p tv:Nat}{E:Pe}{I:Nat->Int->World->Prop}{M:List (Value×List ByteArray)}{N:Nd}{T:Bxs}{W W' w:World}{fr:Nat×Nat}{l:Int}{out:List Tk}{r:Bool}{s:ByteArray}{t:TypeId}{v vn:Value}{vs xs:List Value}
section
variable {E : Pe} {i j k k1 : Nat} {x y R Ex : Fo}
def Ft{nk:Int}(a:dF nk=3)(b:Nat):gB nk b= Br 162 (A0 (O ⟨b,0,U⟩)):=by unfold gB;rw[a];rfl
def aa1{nk:Int}(a:dF nk=3)(s:Tk)(e:Int)(x:ByteArray):py (nd nk s e 0 0 x []) (dF nk)=nd nk s e 0 0 x []:=by rw[a];rfl
def ajw(w:i+1<E.n){nk k:Int}(q:k≠6)(c:dF nk=3)(a:(E.tk i).k=k):CN E 249 #[pV E,X V nk] i (one (nd nk (E.tk i) (E.tk i).t 0 0 (E.tk i).x []) .nil) (i+1):=by
 intro z p y;have m:=Sw.start p;go_in;go_wp2_with fail;refine gL (lL m a (by omega) q) λw1 o=>?_;have⟨s,r,d⟩:=Gg o a;simp only[wo]at r;go_wp2_with fail;have e:=sB d (aw (ah _ s));have h:=Gh d a;have j:=Gh e a;go_region_held3 (λb=>b.cell? ⟨w1.heap.size,0,U⟩=O (X V k)/\b.cell? ⟨w1.heap.size,1,U⟩=O (X V (E.tk i).f)/\b.cell? ⟨w1.heap.size,2,U⟩=O (X V (E.tk i).t)/\b.cell? ⟨w1.heap.size,3,U⟩=O (X V (E.tk i).l)/\b.cell? ⟨w1.heap.size,4,U⟩=O (X V (E.tk i).n)/\b.cell? ⟨w1.heap.size,5,U⟩=O (A5 (E.tk i).x)) (first|exact h|exact j|exact Gh g a|go_keep) (first|(go_at_call 244;refine(tG e a (by omega) (by omega) _ _ _ _).mono ?_;rintro v u ⟨rfl,g⟩))
 go_wp2;go_ret;exact⟨_,rfl,Ft c u.heap.size ▸ aaG g (nd nk (E.tk i) (E.tk i).t 0 0 (E.tk i).x []) (aa1 c _ _ _) rfl (by show _=(_++exT _ _ (dF nk)).toArray;rw[c];rfl) (by show _=yi (dF nk);rw[c];rfl)⟩
def ati(u:i+1<E.n)(a:(E.tk i).k=2):CN E 275 #[pV E] i (one (nd 23 (E.tk i) (E.tk i).t 0 (E.tk i).n z0 []) .nil) (i+1):=by
 intro w p v;have j:=Sw.start p;go_in;go_wp21
 refine gL (pE j a) λz o=>?_;go_wp21
 refine gL (lL o a (by omega)) λw1 m=>?_;have⟨r,q,c⟩:=Gg m a;simp only[wo]at q;go_wp21
 have d:=sB c (aw (ah _ r));have g:=Gh c a;have h:=Gh d a;go_region_held3 (λb=>b.cell? ⟨w1.heap.size,0,U⟩=O (X V 2)/\b.cell? ⟨w1.heap.size,1,U⟩=O (X V (E.tk i).f)/\b.cell? ⟨w1.heap.size,2,U⟩=O (X V (E.tk i).t)/\b.cell? ⟨w1.heap.size,3,U⟩=O (X V (E.tk i).l)/\b.cell? ⟨w1.heap.size,4,U⟩=O (X V (E.tk i).n)/\b.cell? ⟨w1.heap.size,5,U⟩=O (A5 (E.tk i).x)) (first|exact g|exact h|exact Gh e a|go_keep) (first|(go_at_call 244;refine(tG d a (by omega) (by omega) 23 _ _ _).mono ?_;rintro s y ⟨rfl,e⟩))
 go_wp21
 go_ret;exact⟨_,rfl,aaG e (nd 23 (E.tk i) (E.tk i).t 0 (E.tk i).n z0 []) rfl rfl rfl rfl⟩
abbrev CXi(E:Pe)(p:Int)(i:Nat)(x:Fo)(j:Nat):Prop:=CN E 247 #[pV E,X V p] i x j
def sT{c:Ax}{a:List Ax}{D:Fo}{b:Nat×C2×Array Ax}(S:Hid (Sw E W w i c a D vs (b::T) M)):Hid (Sw E W w i c a D vs T M):=S.drop (λe d=>dr _ d) (.inl rfl)
def aro{k a:Int}{t:Tk}{f g:C2}{b c:Ax}(l:Hid (Sw E W w j s0 [] R [Br f b,Br g c] T M))(r:t.k=k)(m:1<=j)(q:j<=E.n)(s:10<=a)(u:a<=78):G2 B6 276 #[pV E,X V a,F1 (wo k t),Br f b,Br g c] w λe w'=>∃h d,e= Fs (Br h d)/\Hid (Sw E W w' j s0 [] (one (As a t (E.tk (j-1)).t) R) [Br h d] T M):=by
 unfold As;by_cases o:a=10<;>by_cases p:a=26;all_goals
  try omega
 all_goals
  try subst o
  try subst p
  simp only[*,↓reduceIte,Int.reduceEq];go_in;go_wp2_with fail;refine gL (tG (sLt (sBx l)) r m q _ _ _ _) λw i=>?_;go_wp2;go_ret;exact⟨_,_,rfl,sT (Hg i _ (by rfl) (by rfl) (by simp only[dm]<;>rfl) (by rfl))⟩
def arp{D:Fo}{k:Int}(S:Hid (Sw E W w i s0 [] D vs T M))(m:jx k=F0)(l:k<=78):G2 B6 179 #[X V k] w λe w'=>e= Fs (H2 #[F1 #[X V k,X V (C0 k),X V (rpw k)],E0 F0])/\Hid (Sw E W w' i s0 [] D vs T M):=by
 obtain⟨c,b,rfl⟩:=ao6 m l;have⟨n,j,a⟩:=S.pp.pw;have⟨f,g,_,h⟩:=aen c b;refine(uF w n j a c b _ rfl h).mono ?_;rintro e w' ⟨a,d⟩;rw[f,g]at a;exact⟨a,sB S d⟩
def arq{D:Fo}{k:Int}(S:Hid (Sw E W w i s0 [] D vs T M))(f:jx k=B1):G2 B6 179 #[X V k] w λe w'=>e= Fs (H2 #[F1 #[X V 0,X V 0,X V 0],E0 B1])/\Hid (Sw E W w' i s0 [] D vs T M):=by
 have⟨g,c,a⟩:=S.pp.pw;refine(acj w g c a k (λi d e=>?_)).mono ?_
 .have:=(aen i d).2.2.1;rw[e,f]at this;cases this
 rintro e w' ⟨a,b⟩;exact⟨a,sB S b⟩
def am9{D:Fo}(S:Hid (Sw E W w i s0 [] D vs T M))(a b c:Ax):∃w',w.alloc (Z #[a,b,c] 164)=w'/\Hid (Sw E W w' i s0 [] D vs ((w.heap.size,164,#[a,b,c])::T) M):=⟨_,rfl,S.boxg _ _ (by decide) (by decide)⟩
def sC3{D:Fo}{d:Nat}{a b c:Ax}(S:Hid (Sw E W w i s0 [] D vs ((d,164,#[a,b,c])::T) M)):w.cell? ⟨d,0,U⟩=O a/\w.cell? ⟨d,1,U⟩=O b/\w.cell? ⟨d,2,U⟩=O c:=by
 have e:=(S.tb _ (bq ..)).2.2;exact⟨by rw[aj _ _ _ _ _ _ e];rfl,by rw[aj _ _ _ _ _ _ e];rfl,by rw[aj _ _ _ _ _ _ e];rfl⟩
def apn{p:Int}(a0:(E.tk i).k≠6)(bn:i<E.n)(z:∀bb,(E.tk bb).k<=78)(a6:CN E 275 #[pV E] i x k)(B:Ms E (CXi E) p (E.tk i) m x k R j):CXi E p i R j:=by
 intro bh y bo;have ad:=Sw.start y;have L:=am B;have bp:=B.le;go_in;go_wp21
 refine gL (Fi ad rfl (by omega) a0) λw1 ak=>?_;obtain⟨bw,a2,c⟩:=Gg ak (t:=E.tk i) rfl;simp only[wo]at a2;go_wp21
 refine(yp c a6).mono ?_;rintro h bx ⟨bc,a9,rfl,al⟩;have H:=am al;go_wp21
 go_loopg [6] m (λgk bf wr=>∃(k:Nat) (o:Fo) (t:C2) (C:Ax),bf= Br t C/\Hid (Ms E (CXi E) p (E.tk i) gk o k R j/\Sw E bh wr k s0 [] o [Br t C] [tkB w1.heap.size (E.tk i)] []))
 case atStart=>exact⟨k,x,bc,a9,rfl,L,H⟩
 case round=>
  obtain⟨b,o,bv,bs,rfl,K⟩:=hrel;have⟨av,ax⟩:=K.out;have c:=am ax;cases av with
  |stop g ap=>
   cases a:jx (E.tk j).k with
   |false=>
    go_wp21
    refine gL (pE c rfl g) λF d=>?_;go_wp21
    refine gL (arq d a) λG e=>?_;go_wp21
    go_ret;exact⟨_,rfl,(e.boxg _ _ (by decide) (by decide)).drop (λp q=>by cases q) (.inr rfl)⟩
   |true=>
    go_wp21
    refine gL (pE c rfl g) λF d=>?_;go_wp21
    refine gL (arp d a (z _)) λG e=>?_;have⟨bj,a3,f⟩:=am9 e (X V (E.tk j).k) (X V (C0 (E.tk j).k)) (X V (rpw (E.tk j).k));have⟨r,s,u⟩:=sC3 f;go_wp21
    go_ret;exact⟨_,rfl,f.drop (λp q=>by cases q) (.inr rfl)⟩
  |@go a8 _ a7 _ _ b5 bk g a ap ar bl au w=>
   have a5:=w.le;rw[dL,Fo.sz_app]at a5;have a1:(E.tk b).k≠6:=λh=>by rw[h]at a;revert a;decide
   have A:=z b;have a4:10<=(E.tk b).k:=by have y:=aG a;omega
   have J:=am w;go_wp21
   refine gL (pE c rfl g) λF d=>?_;go_wp21
   refine gL (arp d a A) λG e=>?_;have⟨bj,a3,f⟩:=am9 e (X V (E.tk b).k) (X V (C0 (E.tk b).k)) (X V (rpw (E.tk b).k));have⟨r,s,u⟩:=sC3 f;go_wp21
   refine gL (lL f rfl g a1) λbA v=>?_;have⟨r,s,u⟩:=sC3 v;go_wp21
   refine(yp v ar).mono ?_;rintro h bD ⟨bt,br,rfl,l⟩;have⟨r,s,u⟩:=sC3 l;have⟨bF,b0,b1,b2,b3,b4⟩:=Gh (sT l) rfl;go_wp21
   have an:=am l;refine(aro an (t:=E.tk i) rfl (by omega) au a4 A).mono ?_;rintro h bE ⟨bd,ba,rfl,ao⟩;have I:=sT ao;go_wp21
   go_roundg a8
   case measure=>omega
   case rel=>exact⟨a7,_,bd,ba,rfl,J,I⟩
end
section
variable {E : Pe} {i j k k1 : Nat} {x y R Ex : Fo}
def atj(p:(E.tk i).k=42)(a9:i<E.n)(a0:Es E (CN E 305 #[pV E]) m (i+1) Ex j)(av:(E.tk j).k=43)(ba:j+1<E.n):CN E 293 #[pV E] i (one (mA 35 (E.tk i) (E.tk j).t) Ex) (j+1):=by
 intro a6 ao ax;have al:=Sw.start ao;have ak:=am a0;simp only[dL]at ax;go_in;go_wp21
 refine gL (lL al p (by omega)) λw1 an=>?_;have⟨bd,au,f⟩:=Gg an p;simp only[wo]at au;have L:=am f;go_wp21
 go_loopg [4] m (λgk a4 wr=>∃(k:Nat) (D r:Fo) (v:Option Addr) (n x:Nat) (H:List Ax),a4= Y v n x/\Hid (Es E (CN E 305 #[pV E]) gk k r j/\Sw E a6 wr k (Y v n x) H D H [tkB w1.heap.size (E.tk i)] []/\D.app r=Ex))
 case atStart=>exact⟨i+1,.nil,Ex,U,0,0,[],rfl,ak,L,rfl⟩
 case round=>
  obtain⟨bc,D,r,v,n,x,H,rfl,ad⟩:=hrel;have⟨ap,I,b⟩:=ad.out;have f:=am I;have bb:=Dk.len _ _ I.nn;cases ap with
  |stop o l=>
   rw[Fo.app_nil]at b;go_wp21
   refine gL (xI f av l) λJ a=>?_;have⟨bf,bh,c,bj,bk,bl⟩:=Gh a p;go_wp21
   refine gL (tG a p (by omega) (by omega) 35 _ _ _) λK g=>?_;subst b;go_wp21
   go_ret;exact⟨_,rfl,aaG g (mA 35 (E.tk i) (E.tk j).t) rfl rfl rfl rfl⟩
  |@com F _ C _ c e o l y A B z=>
   have a1:D.sz+(c.sz+e.sz)<=50000000:=by have h:=congrArg Fo.sz b;simp only[Fo.sz_app]at h;omega
   have ar:=D.len_le;have d:=iK b z;go_wp21
   refine gL (Cp f o l) λJ a=>?_;go_wp21
   refine(yp a y).mono ?_;rintro h K ⟨a3,a2,rfl,g⟩;go_wp2_with (at_builtin;refine sAp g rfl (by omega) rfl _ _ rfl rfl rfl ?_;intro w G c5 a7 s);refine gL (xI s A B) λa8 u=>?_;have q:=am u;go_wp21
   go_roundg F
   case measure=>omega
   case rel=>exact⟨(C+1),D.app c,e,w,G,c5,_,rfl,d.2,q,by rw[Fo.app_app];exact d.1⟩
  |@last F _ C _ c e o l y A B z=>
   have a1:D.sz+(c.sz+e.sz)<=50000000:=by have h:=congrArg Fo.sz b;simp only[Fo.sz_app]at h;omega
   have ar:=D.len_le;have d:=iK b z;go_wp21
   refine gL (Cp f o l) λJ a=>?_;go_wp21
   refine(yp a y).mono ?_;rintro h K ⟨a3,a2,rfl,g⟩;go_wp2_with (at_builtin;refine sAp g rfl (by omega) rfl _ _ rfl rfl rfl ?_;intro w G c5 a7 s);refine gL (Cp s A B) λa8 u=>?_;have q:=am u;go_wp21
   go_roundg F
   case measure=>omega
   case rel=>exact⟨C,D.app c,e,w,G,c5,_,rfl,d.2,q,by rw[Fo.app_app];exact d.1⟩
end
section
variable {E : Pe} {i j k k1 : Nat} {x y R Ex : Fo}
def Dk.top{e:Option Nat}{ks:Fo}{p:Ax}(h:Dk w lo e (one N ks) [Br t p]):∃b,t=lH (dF N.k)/\p= A0 (O ⟨b,0,U⟩)/\w.cell? ⟨b,0,U⟩=O (X V N.k):=by
 obtain⟨i,b,l,n,m,j,o,f,g,d,⟨_,_,c,_⟩,_⟩:=h;have a:=(mK d.1).1;unfold gB at a;cases a;exact⟨b,rfl,rfl,by unfold ic at c;rw[aj _ _ _ _ _ _ c];rfl⟩
def ars{ks:Fo}(b:(E.tk i).k=40)(a0:i<E.n)(u:CN E 212 #[pV E] (i+1) (one N ks) k)(s:(E.tk k).k=41)(a1:i+1<=k)(a2:k+1<E.n):CN E 248 #[pV E] i (od N ks (E.tk i) (E.tk k).t) (k+1):=by
 intro c F a3;have p:=Sw.start F;have a4:(one N ks).sz<=(od N ks (E.tk i) (E.tk k).t).sz:=by unfold od;split<;>simp only[dL]<;>omega
 rcases(by omega:N.k=34\/N.k=27\/(N.k≠34/\N.k≠27)) with hN|hN|hN
 .go_in;go_wp21
  refine gL (lL p b (by omega)) λw1 f=>?_;have⟨A,l,g⟩:=Gg f b;simp only[wo]at l;go_wp21
  refine(yp g u).mono ?_;rintro v B ⟨z,y,rfl,h⟩;go_wp21
  refine gL (lL h s (by omega)) λC d=>?_;obtain⟨a,rfl,rfl,o⟩:=Dk.top (N:=N) (ks:=ks) d.nn;have w:=λc=>tr (dF N.k) a c;have m:=λc=>dw a c;have r:=o;rw[hN]at r;generalize x:lH (dF N.k)=e at *;have⟨K,L,ad,ak,al,an⟩:=Gh d b;have⟨I,G,j⟩:=aaF d [Br e (A0 (O ⟨a,0,U⟩))] #[Br e (A0 (O ⟨a,0,U⟩))] rfl 1 rfl (by decide);have⟨ao,ap,ar,au,av,ax⟩:=Gh j b;go_wp2_with (go_at_call 330;refine iI (m _) ?_);refine gL (tG j b (by omega) (by omega) 37 _ _ _) λJ q=>?_;go_wp21
  go_ret;refine⟨_,rfl,?_⟩;unfold od;rw[ae (by omega)];exact aaG q (mA 37 (E.tk i) (E.tk k).t) rfl rfl rfl rfl
 .go_in;go_wp21
  refine gL (lL p b (by omega)) λw1 f=>?_;have⟨A,l,g⟩:=Gg f b;simp only[wo]at l;go_wp21
  refine(yp g u).mono ?_;rintro v B ⟨z,y,rfl,h⟩;go_wp21
  refine gL (lL h s (by omega)) λC d=>?_;obtain⟨a,rfl,rfl,o⟩:=Dk.top (N:=N) (ks:=ks) d.nn;have w:=λc=>tr (dF N.k) a c;have m:=λc=>dw a c;have r:=o;rw[hN]at r;generalize x:lH (dF N.k)=e at *;have⟨K,L,ad,ak,al,an⟩:=Gh d b;have⟨I,G,j⟩:=aaF d [Br e (A0 (O ⟨a,0,U⟩))] #[Br e (A0 (O ⟨a,0,U⟩))] rfl 1 rfl (by decide);have⟨ao,ap,ar,au,av,ax⟩:=Gh j b;go_wp2_with (go_at_call 330;refine iI (m _) ?_);refine gL (tG j b (by omega) (by omega) 37 _ _ _) λJ q=>?_;go_wp21
  go_ret;refine⟨_,rfl,?_⟩;unfold od;rw[ae (by omega)];exact aaG q (mA 37 (E.tk i) (E.tk k).t) rfl rfl rfl rfl
 .go_in;go_wp21
  refine gL (lL p b (by omega)) λw1 f=>?_;have⟨A,l,g⟩:=Gg f b;simp only[wo]at l;go_wp21
  refine(yp g u).mono ?_;rintro v B ⟨z,y,rfl,h⟩;go_wp21
  refine gL (lL h s (by omega)) λC d=>?_;obtain⟨a,rfl,rfl,o⟩:=Dk.top (N:=N) (ks:=ks) d.nn;have w:=λc=>tr (dF N.k) a c;have m:=λc=>dw a c;generalize x:lH (dF N.k)=e at *;go_wp2_with (first|(go_at_call 330;refine iI (m _) ?_));go_ret;refine⟨_,rfl,?_⟩;unfold od;rw[aa (by omega)];exact d.drop (λa5 H=>by cases H) (.inr rfl)
def art(f:(E.tk i).k=40)(e:(E.tk (i+1)).k=41)(g:i+1<E.n):CR E 250 #[pV E] i (.nil) (i+2):=by
 intro j d h;have a:=Sw.start d;go_in;go_wp2_with fail;refine gL (lL a f (by omega)) λw1 b=>?_;go_wp2_with fail;refine gL (xI b e) λl c=>?_;go_wp2;go_ret;exact⟨_,[],rfl,c⟩
def atk(j:(E.tk i).k=40)(r:i+1<E.n)(l:(E.tk (i+1)).k≠41)(h:CR E 243 #[pV E,.func (.func 212) #[pV E] #[]] (i+1) Ex k)(g:(E.tk k).k=41)(s:k<E.n):CR E 250 #[pV E] i (Ex) (k+1):=by
 intro w f t;have a:=Sw.start f;go_in;go_wp21
 refine gL (lL a j (by omega)) λw1 b=>?_;go_wp21
 refine gL (Cp b l) λx c=>?_;go_wp21
 refine(ael c h).mono ?_;rintro q y ⟨o,v,p,m,rfl,d,u⟩;go_wp21
 refine gL (lL d g (by omega)) λz e=>?_;go_wp21
 go_ret;exact⟨_,m,rfl,e⟩
def ana{an:Int}(a:(E.tk i).k=an)(cp:i<E.n)(bx:(an=1/\CN E 249 #[pV E,X V 26] i x k)\/(an=40/\CN E 248 #[pV E] i x k))(a9:Pss E (λi x j=>CN E 212 #[pV E] i x j) (λi x j=>CR E 243 #[pV E,.func (.func 212) #[pV E] #[]] i x j) (E.tk i) m x k R j):CN E 213 #[pV E] i R j:=by
 intro b5 bp cq;have a3:=Sw.start bp;have bk:=a9;have cr:=a9.le;rcases bx with⟨rfl,al⟩|⟨rfl,al⟩
 case' inl=>
  go_in;go_wp2_with fail;refine gL (Fi a3 a (by omega) (by decide)) λw1 K=>?_;have⟨b6,ad,d⟩:=Gg K a;simp only[wo]at ad;have⟨bE,bF,b0,b1,b2,r5⟩:=Gh d a;go_wp2_with fail;refine(yp d al).mono ?_;rintro I G ⟨bf,bb,rfl,e⟩;have a2:=am e;go_wp2_with fail
 case' inr=>
  go_in;go_wp2_with fail;refine gL (Fi a3 a (by omega) (by decide)) λw1 K=>?_;have⟨b6,ad,d⟩:=Gg K a;simp only[wo]at ad;have⟨bE,bF,b0,b1,b2,r5⟩:=Gh d a;go_wp2_with fail;refine(yp d al).mono ?_;rintro I G ⟨bf,bb,rfl,e⟩;have a2:=am e;go_wp2_with fail
 all_goals
  go_loopg [4] m (λgk b4 wr=>∃(k:Nat) (H:Fo) (bd:C2) (ba:Ax),b4= Br bd ba/\Hid (Pss E (λi x j=>CN E 212 #[pV E] i x j) (λi x j=>CR E 243 #[pV E,.func (.func 212) #[pV E] #[]] i x j) (E.tk i) gk H k R j/\Sw E b5 wr k s0 [] H [Br bd ba] [tkB w1.heap.size (E.tk i)] []))
  case atStart=>exact⟨k,x,bf,bb,rfl,bk,a2⟩
  case round=>
   obtain⟨C,H,o,l,rfl,bj⟩:=hrel;have⟨br,bs⟩:=bj.out;have d:=am bs;cases br with
   |stop b g=>
    have cl:((E.tk j).k==48)=B1:=by have:=mh g;simp;omega
    have ck:((E.tk j).k==44)=B1:=by have:=mh g;simp;omega
    have cf:((E.tk j).k==40)=B1:=by have:=mh g;simp;omega
    go_wp2_with fail;refine gL (pE d rfl b) λJ h=>?_;go_wp2;go_ret;exact⟨_,rfl,h.drop (λcs bw=>by cases bw) (.inr rfl)⟩
   |@dot t _ _ _ _ b g y f=>
    have cm:=alA;have p:=f;have s:=f.le;simp only[dL,Fo.sz_app]at s;go_wp2_with fail;refine gL (pE d b) λG e=>?_;go_wp2_with fail;refine gL (lL e b (by omega)) λJ h=>?_;go_wp2_with fail;refine gL (lL h g (by omega)) λao c=>?_;simp only[wo];have⟨ar,au,av,ax,a0,a1⟩:=Gh c a;have⟨b7,bv,u⟩:=aaF c [Br o l] #[Br o l] rfl 1 rfl (by decide);have⟨b9,ca,cb,cc,cd,ce⟩:=Gh u a;go_wp2_with fail;refine gL (tG u a (by omega) (by omega) 33 _ _ _) λap r=>?_;go_wp2;go_roundg t
    case measure=>omega
    case rel=>
     refine⟨C+2,_,_,_,rfl,p,?_⟩;rw[<-Ft (nk:=33) (by decide)];exact(Hg r (nd 33 (E.tk i) (E.tk (C+1)).t 0 0 (E.tk (C+1)).x []) (aa1 (by decide) _ _ _) rfl (by show _=(_++exT _ _ (dF 33)).toArray;rw[show dF 33=3 by decide];rfl) (by show _=yi (dF 33);rw[show dF 33=3 by decide];rfl)).out
   |@sq t _ B _ _ a6 _ b g y L a8 f=>
    have p:=f;have s:=f.le;simp only[dL,Fo.sz_app]at s;go_wp2_with fail;refine gL (pE d b) λG e=>?_;go_wp2_with fail;refine gL (lL e b (by omega)) λJ h=>?_;go_wp2_with fail;refine(yp h y).mono ?_;rintro I ao ⟨bh,bc,rfl,c⟩;go_wp2_with fail;refine gL (lL c L (by omega)) λct a4=>?_;have⟨ar,au,av,ax,a0,a1⟩:=Gh a4 a;have⟨b7,bv,u⟩:=aaF a4 [Br o l,Br bh bc] #[Br o l,Br bh bc] rfl 2 rfl (by decide);have⟨b9,ca,cb,cc,cd,ce⟩:=Gh u a;go_wp2_with fail;refine gL (tG u a (by omega) (by omega) 32 _ _ _) λap r=>?_;go_wp2;go_roundg t
    case measure=>omega
    case rel=>exact⟨B+1,_,_,_,rfl,p,(Hg r (mA 32 (E.tk i) (E.tk B).t) rfl rfl rfl rfl).out⟩
   |@call0 t _ _ _ _ b g y f=>
    have p:=f;have s:=f.le;simp only[dL,Fo.sz_app]at s;go_wp2_with fail;refine gL (pE d b) λG e=>?_;have⟨J,bt,h⟩:=aaF e [Br o l] #[Br o l] rfl 1 rfl (by decide);go_wp2_with fail;refine(ai3 h (art b g (by omega)) (by decide)).mono ?_;rintro I ao ⟨bl,bA,c5,b3,rfl,c,q⟩;go_wp2_with (at_builtin;refine uH rfl _ _ rfl rfl c.ro rfl q.1 q.2.1 (by have:=q.2.2;have:Fo.nil.len=0:=rfl;have:=(.nil:Fo).len_le;show 1+_<=_;omega) (by have:=c.gr.size;omega) ?_;intro bn bD bo b8 F ak A z;have w:=c.put F A z;clear F ak A z;have v:=w;clear w;obtain⟨ar,au,av,ax,a0,a1⟩:=Gh v a);refine gL (tG v a (by omega) (by omega) 34 _ _ _) λap r=>?_;go_wp2;go_roundg t
    case measure=>omega
    case rel=>exact⟨(C+2),_,_,_,rfl,p,(Hg (Fo.app_nil H ▸ r) (mA 34 (E.tk i) (E.tk (C+1)).t) rfl rfl rfl rfl).out⟩
   |@call t _ B _ _ a6 _ b g y L a8 cn f=>
    have p:=f;have s:=f.le;simp only[dL,Fo.sz_app]at s;go_wp2_with fail;refine gL (pE d b) λG e=>?_;have⟨J,bt,h⟩:=aaF e [Br o l] #[Br o l] rfl 1 rfl (by decide);go_wp2_with fail;refine(ai3 h (atk b g y L a8 (by omega)) (by omega)).mono ?_;rintro I ao ⟨bl,bA,c5,b3,rfl,c,q⟩;go_wp2_with (at_builtin;refine uH rfl _ _ rfl rfl c.ro rfl q.1 q.2.1 (by have:=q.2.2;have:Fo.nil.len=0:=rfl;have:=(a6:Fo).len_le;show 1+_<=_;omega) (by have:=c.gr.size;omega) ?_;intro bn bD bo b8 F ak A z;have w:=c.put F A z;clear F ak A z;have v:=w;clear w;obtain⟨ar,au,av,ax,a0,a1⟩:=Gh v a);refine gL (tG v a (by omega) (by omega) 34 _ _ _) λap r=>?_;go_wp2;go_roundg t
    case measure=>omega
    case rel=>exact⟨(B+1),_,_,_,rfl,p,(Hg r (mA 34 (E.tk i) (E.tk B).t) rfl rfl rfl rfl).out⟩
end
section
variable {E : Pe} {i j k k1 : Nat} {x y R Ex : Fo}
abbrev Fu(a:Ax)(r:Bool):Array Ax:=#[X V 0,X V 0,X V 0,X V 0,X V 0,Y U 0 0,a,E0 r]
def Sw.setL{e:Nat}{cs:Array Ax}{u:Ax}(h:Sw E W w i s0 [] .nil [] ((b,203,cs)::T) M)(v:∀p∈T,p.2.1≠203):Sw E W (w.setCell ⟨b,e,U⟩ u) i s0 [] .nil [] ((b,203,cs.setIfInBounds e u)::T) M:=by
 obtain⟨j,m,l⟩:=h.tb _ (bq ..);have a:∀{f:Nat}{cs:Array Ax}{g:C2}{c:Nat×Nat},w.heap[f]?=O (Z cs g c)->g≠203->(w.setCell ⟨b,e,U⟩ u).heap[f]?=O (Z cs g c):=λ{f cs g c} d B=>by
  rw[aC _ _ _ _ (λa=>by rw[a]at d;have:=l.symm.trans d;simp only[fI,nH]at this;exact B this.2.1.symm)];exact d
 have⟨o,c,H,I⟩:=h.pp.tks;have⟨L,r,J⟩:=h.pp.pw;have z:=h.lt;have A:=h.pp.pg;refine⟨⟨h.pp.hn,⟨o,c,a H (by decide),I⟩,a h.pp.row (by decide),A,L,r,(aC _ _ _ _ (show 3≠b from λak=>by simp only at j;omega)).trans J⟩,?_,z,fE _ _ _ _,⟨[],⟨rfl,rfl⟩,by obtain⟨ad,F,G⟩:=h.nb;obtain⟨_,rfl⟩:=F;exact G⟩,λp hp=>?_,λp hp=>?_⟩
 .exact h.gr.andThen (jL (pq w _) e u) (λf d=> .inl (by cases d;exact j))
 .rcases List.mem_cons.1 hp with rfl|hp
  .exact⟨j,m,bg _ b e _ _ _ l⟩
  .exact⟨(h.tb p (dr _ hp)).1,(h.tb p (dr _ hp)).2.1,a (h.tb p (dr _ hp)).2.2 (v p hp)⟩
 .obtain⟨t,k⟩:=h.nm p hp;refine⟨t,?_⟩;rcases k with k|⟨s,n,q,C,y,x,K⟩
  .exact .inl k
  .exact .inr ⟨s,n,q,C,y,a x (by decide),K⟩
def af4(h:w.heap[b]?=O (Z (Fu vn r) 203 (0,0))):w.cell? ⟨b,6,U⟩=O vn/\w.cell? ⟨b,7,U⟩=O (E0 r)/\∀j,w.frozen? ⟨b,j,U⟩=B1:=⟨by rw[aj _ _ _ _ _ _ h];rfl,by rw[aj _ _ _ _ _ _ h];rfl,λj=>cC _ _ _ _ _ h⟩
def sLC(S:Hid (Sw E W w i s0 [] .nil [] ((b,203,Fu vn r)::T) M)):w.cell? ⟨b,6,U⟩=O vn/\w.cell? ⟨b,7,U⟩=O (E0 r)/\∀j,w.frozen? ⟨b,j,U⟩=B1:=af4 (S.tb _ (bq ..)).2.2
end
section
variable {E : Pe} {i j k k1 : Nat} {x y R Ex : Fo}
def Sw.lam{o u:B2}{s:Tk}{C:Ax}{H:List ByteArray}(h:Sw E W w i s0 [] .nil [] ((b,203,Fu vn r)::T) ((vn,H)::M))(m:Sw E w o j C [v] R [v] [] []){e:Int}(ad:u.heap[b]?=O (Z #[X V 36,X V s.f,X V e,X V s.l,X V 0,C,vn,E0 r] 203 (0,0)))(z:o.grownBy u (O b)):Sw E W u j s0 [] (one (nd 36 s e (opR r) 0 z0 H) R) [Br 201 (A0 (O ⟨b,0,U⟩))] [] []:=by
 obtain⟨x,ar,y⟩:=h.tb _ (bq ..);have ak:=ai y;simp only at x ak;have an:=h.lt;have B:∀d,d<o.heap.size->d≠b->u.heap[d]?=o.heap[d]?:=λd p k=>z.block d p (λe=>k (by cases e;rfl));have ax:=m.gr.size;have⟨I,K,ao⟩:=m.nb;refine⟨m.pp.other (by omega) (λe=>?_) (by omega) z,(h.gr.trans m.gr).andThen z (λd al=> .inl (by cases al;exact x)),an,fE _ _ _ _,⟨_,⟨b,0,vn,C,[v],[],I,[],⟨rfl,rfl⟩,⟨x,by simp[A2],?_,?_⟩,⟨?_,λg _=>by simp[A2]⟩,⟨?_,λg _=>by simp[A2]⟩,?_,rfl,rfl⟩,?_⟩,λap A=>(by cases A),λap A=>(by cases A)⟩
 .obtain⟨au,av,F,_⟩:=h.pp.tks;rw[<-e,y]at F;simp only[fI,nH]at F;exact absurd F.2.1 (by decide)
 .unfold ic;rw[ad];cases r<;>rfl
 .cases r<;>rfl
 .have t:=h.nm _ (bq ..);refine pu (w:=w) t (λg J p k=>⟨?_,p⟩);rw[B g (by omega) (λe=>oF t y (show 203≠9 by decide) (by rw[<-e];exact J))];exact m.gr.block g k (λe=>by cases e;omega)
 .exact pu (w:=o) m.ro (λg J p k=>⟨B g k (by omega),by omega⟩)
 .exact uG.mono (w:=o) (λd p k L=>⟨B d L (by omega),by omega,by simp[A2]⟩) _ _ _ K
 .rw[show mB []=[] from rfl,dC,dC];have t:=h.nm _ (bq ..);have:=nd3 (a:=vn.ownBlock.toList) (b:=I) (c:=[]) (n:=w.heap.size) (by rw[dC];exact JH _) (by simpa [mB] using ao) (λG q=>by rw[dC]at q;exact(t.lt G (by simpa using q)).2) (λG q=>(K.lt _ _ _ G q).1);rw[dC]at this;exact this
def aru{s:Tk}{bf:Int}{A:List ByteArray}(a4:s.k=bf)(b2:(E.tk i).k=40)(b1:i+1<E.n)(b4:Prm E.tk E.n (i+1) A r k)(b6:CN E 214 #[pV E] k x j)(a3:k+1<=j)(cq:j<=E.n):CN E 245 #[pV E,F1 (wo bf s)] i (one (nd 36 s (E.tk (j-1)).t (opR r) 0 z0 A) x) j:=by
 intro l au b3;have bp:=Sw.start au;have bo:=am b4;have cw:=au.hn;have cn:=alA;simp only[dL]at b3;have⟨w1,bE,br⟩:=Gg bp a4;simp only[wo]at bE;go_in;go_wp2_with fail;refine gL (lL br b2 (by omega)) λc bs=>?_;have bj:Hid (Sw E l (c.alloc (Z (Fu s0 B1) 203)) (i+1) s0 [] .nil [] [(c.heap.size,203,Fu (s0) B1),tkB l.heap.size s] [(s0,[])]):=by
  have B:=bs.boxg (Fu s0 B1) 203 (by decide) (by decide);exact⟨B.pp,B.gr,B.lt,B.ro,⟨[],⟨rfl,rfl⟩,by simp[mB,A2]⟩,B.tb,λbd al=>by obtain rfl:=List.mem_singleton.1 al;exact fE _ _ _ _⟩
 go_wp2;go_loopg [13] (E.n-(i+1)) (λgk cB wr=>∃(a:Nat) (D ax:List ByteArray) (p ao:Bool) (g:Option Addr) (n h:Nat),gk=E.n-a/\D.length=n/\n<=a/\a<E.n/\Hid (Prm E.tk E.n a ax ao k/\Sw E l wr a s0 [] .nil [] [(c.heap.size,203,Fu (Y g n h) p),tkB l.heap.size s] [(Y g n h,D)]/\D++ax=A/\(p||ao)=r))
 case atStart=>exact⟨i+1,[],A,B1,r,U,0,0,rfl,rfl,by omega,b1,bo,bj,rfl,by simp⟩
 case round=>
  obtain⟨a,D,ax,p,ao,g,n,h,rfl,ak,cu,cr,bn⟩:=hrel;have⟨B,bD,L,ad⟩:=bn.out;have a0:=am bD;cases B with
  |close u y=>
   rw[dC]at L;rw[Hw]at ad;subst L ad;go_wp2_with fail;refine gL (xI a0 u) λa7 q=>?_;go_wp2_with fail;refine(b6 _ q.pp (by omega)).mono ?_;rintro e I ⟨cz,rfl,m⟩;obtain⟨a6,a5,rfl⟩:=Dk.form m.nn;have a8:=q.step m.gr m.pp;have⟨cF,bF,J⟩:=aaF m [Br a6 a5] #[Br a6 a5] rfl 1 rfl (by decide);have bt:=sB a8 (gc I (Z #[Br a6 a5] 44));rw[bF]at bt;obtain⟨c0,c1,c2,c3,c4,c7⟩:=Gh (sT (b:=(c.heap.size,203,Fu (Y g n h) p)) a8) a4;go_wp2_with fail;refine gL (tG J a4 (by omega) (by omega) 36 _ _ _) λf G=>?_;have bv:=q.step G.gr G.pp;have z:=(bv.tb _ (bq ..)).2.2;have c8:f.cell? ⟨c.heap.size,0,U⟩=O (X V 0):=by rw[aj _ _ _ _ _ _ z];rfl
   have c9:f.cell? ⟨c.heap.size,1,U⟩=O (X V 0):=by rw[aj _ _ _ _ _ _ z];rfl
   have da:f.cell? ⟨c.heap.size,2,U⟩=O (X V 0):=by rw[aj _ _ _ _ _ _ z];rfl
   have dc:f.cell? ⟨c.heap.size,3,U⟩=O (X V 0):=by rw[aj _ _ _ _ _ _ z];rfl
   have dd:f.cell? ⟨c.heap.size,4,U⟩=O (X V 0):=by rw[aj _ _ _ _ _ _ z];rfl
   have dg:f.cell? ⟨c.heap.size,5,U⟩=O (Y U 0 0):=by rw[aj _ _ _ _ _ _ z];rfl
   have dn:∀j,f.frozen? ⟨c.heap.size,j,U⟩=B1:=λj=>cC _ _ _ _ _ z;have bl:=am z;go_wp2;go_ret;exact⟨_,rfl,q.lam (s:=s) (e:=(E.tk (j-1)).t) G (bg _ _ 5 _ _ _ (bg _ _ 4 _ _ _ (bg _ _ 3 _ _ _ (bg _ _ 2 _ _ _ (bg _ _ 1 _ _ _ (bg _ _ 0 _ _ _ bl)))))) (jL (jL (jL (jL (jL (jL (pq f _) 0 _) 1 _) 2 _) 3 _) 4 _) 5 _)⟩
  |rest u y a9=>
   have w:Hid (D++[]=A/\(F0||false)=r):=⟨L,by rw[<-ad,Bool.or_true];rfl⟩;go_wp2_with fail;refine gL (Cp a0 (by rw[u];decide)) λcf a1=>?_;go_wp2_with fail;refine gL (xI a1 u) λa7 q=>?_;have⟨ba,cc,cd⟩:=sLC q;have m:Hid (Sw E l (a7.setCell ⟨c.heap.size,7,U⟩ (E0 F0)) (a+1) s0 [] .nil [] [(c.heap.size,203,Fu (Y g n h) F0),tkB l.heap.size s] [(Y g n h,D)]):=q.setL (by intro bd al;obtain rfl:=List.mem_singleton.1 al;show 74≠203;decide);go_wp2_with fail;refine gL (Cp m (by rw[y];decide)) λbh K=>?_;go_wp2;go_roundg (E.n-(a+1))
   case measure=>omega
   case rel=>exact⟨a+1,D,[],F0,B1,g,n,h,rfl,ak,by omega,by omega,.close y (by omega),K,w.1,w.2⟩
  |last u y a9=>?_
  |@go _ _ bb _ u y a9 bA=>?_
  all_goals
   first
    |have w:Hid ((D++[(E.tk a).x])++[]=A/\(p||false)=r):=⟨by rw[dC];exact L,ad⟩
    |(have w:Hid ((D++[(E.tk a).x])++bb=A/\(p||ao)=r):=⟨by rw[dj];exact L,ad⟩
      have bk:=am bA)
   have ct:n<=50000000:=by omega
   go_wp2_with fail;refine gL (Cp a0 (by rw[u];decide)) λcf a1=>?_;go_wp2_with fail;refine gL (Cp a1 (by rw[u];decide)) λa7 q=>?_;go_wp2_with fail;have Sd:=sB q (aw (ah _ _));have⟨ba,cc,cd⟩:=sLC Sd;refine F2 (S:=λ_=>True) (by kernel_rfl) trivial (λhS=>?_);simp only[jo,bB,fs,Nat.reduceAdd,jI,kG,kH,dI,ed];refine dB 0 (A0 (O ⟨c.heap.size,0,U⟩)) rfl rfl hS (λap an=>by go_simp) ?_;simp only[Ck];refine dB 1 (A0 (O ⟨c.heap.size,0,U⟩)) rfl rfl hS (λap an=>by go_simp) ?_;simp only[Ck];refine dB 2 (A0 (O ⟨c.heap.size,0,U⟩)) rfl rfl hS (λap an=>by go_simp) ?_;simp only[Ck];refine dB 3 (A0 (O ⟨c.heap.size,6,U⟩)) rfl rfl hS (λap an=>by go_simp) ?_;simp only[Ck];refine dB 5 (A0 (O ⟨E.pb,0,U⟩)) rfl rfl hS (λap an=>by go_simp) ?_;simp only[Ck];refine Ar (S:=λbw=>bw.cell? ⟨c.heap.size,6,U⟩=O (Y g n h)) (C:=λj=>!(j==9||j==10||j==11||j==12)) (i:=4) (v:= Y g n h) rfl (Hp (by kernel_rfl)) (λ_ _ _ au=>au) ?hC _ _ _ _ (Hs rfl (by kernel_rfl)) (List.contains_iff_mem.1 (by kernel_rfl)) (Or.inl ⟨by rfl,λap an=>by go_simp⟩) hS ba ?_
   case hC=>
    intro j cx a3 o;simp only[Bool.not_eq_false',yz,mj]at o;rcases o with((rfl|rfl)|rfl)|rfl
    .obtain rfl:=bz a3;exact⟨{on:=4,ground:=Ground.data},by simp,rfl,rfl⟩
    all_goals
     obtain rfl:=bz a3;exact⟨{on:=4,ground:=Ground.phase},by simp,rfl,rfl⟩
   simp only[Act.put,fe,fl,fG];refine iH (i:=6) (by kernel_rfl) rfl (λF d=>?_);go_simp;refine gL (lL Sd u (by omega)) λI m=>?_;have c5:=(sLC m).1;refine d _ _ trivial (λ_=>c5) ?_;try simp only[fe,fl,fG]
   refine iH (i:=7) (by kernel_rfl) rfl (λF d=>?_);simp only[wo];go_simp;refine d _ _ trivial (λ_=>c5) ?_;try simp only[fe,fl,fG]
   refine iH (i:=8) (by kernel_rfl) rfl (λF d=>?_);go_simp;have J:=sB m (gc I (Z #[A5 (E.tk a).x] 9));have bx:=(sLC J).1;have bc:=J.nm _ (bq ..);rw[bC,ak]at bc;refine d _ _ trivial (λ_=>bx) ?_;try simp only[fe,fl,fG]
   have⟨b7,b8,b9,ca,cb⟩:=eu aaE;refine iH (i:=9) (by kernel_rfl) rfl (λF d=>?_);refine step_append_lies _ (by rfl) _ _ 58 (by rfl) l.heap.size 9 b7 _ 1 16 underlying58 b8 b9 ca cb rfl (by decide) (Y g n h) n _ (by rfl) bc ⟨I.heap.size,0,U⟩ 1 1 [A5 (E.tk a).x] (by rfl) rfl (Ce (aB I _)) (by intro cy b5;rw[List.mem_singleton.1 b5];rfl) (by decide) (by unfold H0;omega) (by omega) (di m.gr.size (gc I _).size) _ rfl ?_;intro ar H f ce b0 cp cs;have G:Hid (Sw E l f (a+1) s0 [] .nil [] [(c.heap.size,203,Fu (Y g n h) p),tkB l.heap.size s] [(Y (O ⟨ar,0,U⟩) (n+1) H,D++[(E.tk a).x])]):=J.putN (by rw[bC,bm,ak,eK];exact ce) b0;have⟨ck,cl,cm⟩:=sLC G;refine d _ _ trivial (λo=>by cases o) ?_;simp only[Act.put,fe,fl,fG];refine iH (i:=10) (by kernel_rfl) rfl (λF d=>?_);go_simp;refine d _ _ trivial (λo=>by cases o) ?_;try simp only[fe,fl,fG]
   refine iH (i:=11) (by kernel_rfl) rfl (λF d=>?_);go_simp;refine d _ _ trivial (λo=>by cases o) ?_;try simp only[fe,fl,fG]
   refine iH (i:=12) (by kernel_rfl) rfl (λF d=>?_);go_simp;have a2:Hid (Sw E l (f.setCell ⟨c.heap.size,6,U⟩ (Y (O ⟨ar,0,U⟩) (n+1) H)) (a+1) s0 [] .nil [] [(c.heap.size,203,Fu (Y (O ⟨ar,0,U⟩) (n+1) H) p),tkB l.heap.size s] [(Y (O ⟨ar,0,U⟩) (n+1) H,D++[(E.tk a).x])]):=G.setL (by intro bd al;obtain rfl:=List.mem_singleton.1 al;show 74≠203;decide);refine d _ _ trivial (λo=>by cases o) ?_;refine DB (by kernel_rfl) ?_ _;generalize f.setCell _ _=cI at a2⊢;go_wp2_with fail;first
    |(refine gL (Cp a2 (by rw[y];decide)) λbh K=>?_
      go_wp2;go_roundg (E.n-(a+1))
      case measure=>omega
      case rel=>exact⟨a+1,D++[(E.tk a).x],[],p,B1,_,n+1,H,rfl,by rw[bm,ak];rfl,by omega,by omega,.close y (by omega),K,w.1,w.2⟩)
    |(refine gL (xI a2 y) λbh K=>?_
      go_wp2;go_roundg (E.n-(a+2))
      case measure=>omega
      case rel=>exact⟨a+2,D++[(E.tk a).x],bb,p,ao,_,n+1,H,rfl,by rw[bm,ak];rfl,by omega,by omega,bk,K,w.1,w.2⟩)
end
abbrev CxP(E:Pe)(i:Nat)(x:Fo)(j:Nat):Prop:=CN E 212 #[pV E] i x j
abbrev ClP(E:Pe)(i:Nat)(x:Fo)(j:Nat):Prop:=CR E 243 #[pV E,.func (.func 212) #[pV E] #[]] i x j
def PI(E:Pe):Tsk->Nat->Fo->Nat->Prop
 | .unit,i,R,j=>CN E 275 #[pV E] i R j
 | .expr p,i,R,j=>CXi E p i R j
 | .more p s x,i,R,j=>∃m,Ms E (CXi E) p s m x i R j
 | .base,i,R,j=>CN E 213 #[pV E] i R j
 | .post s x,i,R,j=>∃m,Pss E (CxP E) (ClP E) s m x i R j
 | .exprs,i,R,j=>ClP E i R j
 | .moreE,i,R,j=>∃m,Ls E (CN E 212 #[pV E]) m i R j
 | .moreB,i,R,j=>∃m,Ls E (CN E 213 #[pV E]) m i R j
 | .stat,i,R,j=>CN E 161 #[pV E] i R j
 | .stats,i,R,j=>∃m,Ss E (CN E 161 #[pV E]) m i R j
 | .block,i,R,j=>CN E 214 #[pV E] i R j
 | .body s,i,R,j=>CN E 245 #[pV E,F1 (wo s.k s)] i R j
 | .entry,i,R,j=>CN E 305 #[pV E] i R j
 | .entries,i,R,j=>∃m,Es E (CN E 305 #[pV E]) m i R j
 | .branch,i,R,j=>CN E 205 #[pV E] i R j
def al5{k:Int}(h:qh k=F0):k=25\/k=50\/k=62\/k=69:=by
 have:=aG h;omega
def Fv{f:FuncId}{x:Fo}(b:∀(args:Array Ax) (w:B2),(callFunc f args).run B6 w= .ok (.enter f args) w)(d:CN E f #[pV E] i x k)(h:(E.tk k).k≠46)(c:k<E.n):CR E 243 #[pV E,.func (.func f) #[pV E] #[]] i x k:=by
 have a:=aem b d (Ls.stop h c);rw[Fo.app_nil]at a;exact a
def ajx(y:∀u,(E.tk u).k<=78){t:Tsk}{j:Nat}{R:Fo}(h:P E.tk E.n t i R j):PI E t i R j:=by
 induction h with
 |upre a b d c=>
  have:=d.pos;simp only[gG]at this;rcases al5 a with h|h|h|h
  .rw[h];exact xo (by constructor) h b (jm (.pre (by decide) h b c (by omega) (by omega)))
  .rw[h];exact xo (by constructor) h b (jm (.pre (by decide) h b c (by omega) (by omega)))
  .rw[h];exact xo (by constructor) h b (jm (.pre (by decide) h b c (by omega) (by omega)))
  .rw[h];exact xo (by constructor) h b (jm (.pre (by decide) h b c (by omega) (by omega)))
 |uint a b=>exact ati b a
 |uflt a b=>exact xo (by constructor) a (by omega) (ajw b (by decide) (by decide) a)
 |ustr a b=>exact xo (by constructor) a (by omega) (ajw b (by decide) (by decide) a)
 |unil a b=>exact xo (by constructor) a (by omega) (jm (.leaf (by decide) (by decide) a b))
 |utru a b=>exact xo (by constructor) a (by omega) (jm (.leaf (by decide) (by decide) a b))
 |ufls a b=>exact xo (by constructor) a (by omega) (jm (.leaf (by decide) (by decide) a b))
 |urst a b=>exact xo (by constructor) a (by omega) (jm (.leaf (by decide) (by decide) a b))
 |@ufn i j R a b d c=>exact jm (.ufn a b (by have u:CN E 245 #[pV E,F1 (wo (E.tk i).k (E.tk i))] (i+1) R j:=c;rw[a]at u;exact u))
 |utab a b d f g c=>obtain⟨o,c⟩:=c;exact xo (by constructor) a b (atj a b c f g)
 |ubas a b d c=>
  rcases a with h|h
  .exact xo (by constructor) h b c
  .exact xo (by constructor) h b c
 |ex a b d f m p=>obtain⟨o,c⟩:=p;exact apn a b y m c
 |mstop a b=>exact⟨0,.stop a b⟩
 |mgo a b d f g p w=>obtain⟨o,c⟩:=w;have:=f.pos;simp only[gG]at this;exact⟨o+1,.go a b d p (by omega) (by omega) c⟩
 |bname a b d c=>obtain⟨o,c⟩:=c;have:=d.pos;simp only[gG]at this;exact ana a b (.inl ⟨rfl,ajw (by omega) (by decide) (by decide) a⟩) c
 |bopen a b d f g l m r=>obtain⟨o,c⟩:=r;have:=d.pos;have:=l.pos;simp only[gG]at *;exact ana a b (.inr ⟨rfl,ars a b (jm (.expr m)) f (by omega) (by omega)⟩) c
 |pstop a b=>exact⟨0,.stop a b⟩
 |pdot a b d f c=>obtain⟨o,c⟩:=c;have:=f.pos;exact⟨o+1,.dot a b (by omega) c⟩
 |psq a b d f g l m r=>obtain⟨o,c⟩:=r;have:=l.pos;exact⟨o+1,.sq a b (jm (.expr m)) f (by omega) c⟩
 |pcall0 a b d f c=>obtain⟨o,c⟩:=c;have:=f.pos;exact⟨o+1,.call0 a b (by omega) c⟩
 |pcall a b d f g l q p s=>obtain⟨o,c⟩:=s;have:=q.pos;exact⟨o+1,.call a b d p g (by omega) c⟩
 |es a b A B=>obtain⟨o,c⟩:=B;exact aem cfE (jm (.expr A)) c
 |estop a b=>exact⟨0,.stop a b⟩
 |ego a b d f m p=>obtain⟨o,c⟩:=p;exact⟨o+1,.go a b (jm (.expr m)) c⟩
 |bstop a b=>exact⟨0,.stop a b⟩
 |bgo a b d f m p=>obtain⟨o,c⟩:=p;exact⟨o+1,.go a b m c⟩
 |body a b d f c=>have:=d.pos;have:=f.pos;simp only[gG]at *;exact aru rfl a (by omega) d c (by omega) (by omega)
 |block a b d f g c=>obtain⟨o,c⟩:=c;exact jm (.blk a b (ai2 (.inl f) c) f g)
 |sstop a b=>exact⟨0,.stop b⟩
 |ssep a b d c=>obtain⟨o,c⟩:=c;exact⟨o+1,.sep a b c⟩
 |sgo a b d f g l w r=>obtain⟨o,c⟩:=r;exact⟨o+1,.go a b d f w c⟩
 |nstop a b=>exact⟨0,.stop a b⟩
 |ncom a b d f g l m r=>obtain⟨o,c⟩:=r;exact⟨o+1,.com a b m f g c⟩
 |nlast a b d f g l m r=>obtain⟨o,c⟩:=r;exact⟨o+1,.last a b m f g c⟩
 |item a b d f g c=>have:=g.pos;simp only[gG]at this;exact jm (.item a b d rfl f (jm (.expr c)) (by omega) (by omega))
 |pair a b d f g l q m s=>have:=d.pos;have:=q.pos;simp only[gG]at *;exact jm (.pair a b (jm (.expr m)) f g l (jm (.expr s)) (by omega) (by omega))
 |named a b d f g c=>have:=g.pos;simp only[gG]at this;exact jm (.named a b d f (jm (.expr c)) (by omega) (by omega))
 |belif a b d f g l q m p s=>have:=d.pos;have:=f.pos;have:=q.pos;simp only[gG]at *;exact jm (.if1 a rfl b (jm (.expr m)) p l g s (by omega) (by omega))
 |belse a b d f g l q m p s=>have:=d.pos;have:=f.pos;have:=q.pos;simp only[gG]at *;exact jm (.if2 a rfl b (jm (.expr m)) p l g s (by omega) (by omega))
 |bno a b d f g l q m p=>have:=d.pos;have:=f.pos;simp only[gG]at *;exact jm (.if0 a rfl b (jm (.expr m)) p (by omega) q g l)
 |tlet0 a b d f g=>have:=f.pos;exact xo (by constructor) a (by omega) (jm (.let0 a (by omega) (yq d b f) (by omega) (by omega) g))
 |tlet a b d f g l c=>have:=f.pos;have:=l.pos;simp only[gG]at *;exact xo (by constructor) a (by omega) (jm (.let1 a (by omega) (yq d b f) (by omega) g c (by omega) (by omega)))
 |tcon a b d f g c=>have:=g.pos;simp only[gG]at *;exact xo (by constructor) a (by omega) (jm (.con a (by omega) (yq b (by omega) (.stop (by rw[d];decide) (by omega))) (by omega) d (jm (.expr c)) (by omega) (by omega)))
 |@tfn i j x a b d f g c=>have:=g.pos;simp only[gG]at *;exact xo (by constructor) a (by omega) (jm (.fn a (by omega) (yq b (by omega) (.stop (by rw[d];decide) (by omega))) (by omega) d (by have u:CN E 245 #[pV E,F1 (wo (E.tk (i+2)).k (E.tk (i+2)))] (i+2) x j:=c;rw[d]at u;exact u) (by omega) (by omega)))
 |tif a b d c=>exact xo (by constructor) a b c
 |twhile a b d f m p=>have:=d.pos;have:=f.pos;simp only[gG]at *;exact xo (by constructor) a b (jm (.whl a b (jm (.expr m)) p (by omega) (by omega)))
 |tfor a b d f g l q r s=>have:=f.pos;have:=l.pos;have:=q.pos;simp only[gG]at *;exact xo (by constructor) a (by omega) (jm (.for_ (by decide) a (by omega) (yq d b f) (by omega) g r s (by omega) (by omega)))
 |teach a b d f g l q v z r F=>have:=f.pos;have:=l.pos;have:=z.pos;simp only[gG]at *;exact xo (by constructor) a (by omega) (jm (.for_ (by decide) a (by omega) (yq d b f) (by omega) g (Fv cfE (jm (.expr r)) (by rw[q];decide) v) F (by omega) (by omega)))
 |tbreak a b=>exact xo (by constructor) a (by omega) (jm (.leaf (by decide) (by decide) a b))
 |tnext a b=>exact xo (by constructor) a (by omega) (jm (.leaf (by decide) (by decide) a b))
 |tret0 a b d=>exact xo (by constructor) a (by omega) (jm (.ret0 a b (aI d)))
 |tret a b d f c=>have:=f.pos;simp only[gG]at *;exact xo (by constructor) a (by omega) (jm (.ret1 a b (aE λe=>by rcases e with e|e|e<;>(rw[e]at d;revert d;decide)) c (by omega) (by omega)))
 |ttry a b d f g l q v m C=>have:=d.pos;have:=q.pos;have:=v.pos;simp only[gG]at *;exact xo (by constructor) a b (jm (.try_ a b m f (by omega) (yq l g q) C (by omega) (by omega)))
 |tthrow a b d c=>have:=d.pos;simp only[gG]at *;exact xo (by constructor) a b (jm (.wthE a b (jm (.expr c)) (by omega) (by omega)))
 |tdefer a b d c=>have:=d.pos;simp only[gG]at *;exact xo (by constructor) a b (jm (.wthB a b c (by omega) (by omega)))
 |tblock a b d c=>exact xo (by constructor) a b c
 |tdo a b d f g l c=>
  have:=d.pos;simp only[gG]at *;rcases a with h|h
  .exact xo (by constructor) h b (jm (.do_ (.inl rfl) h b (Fv cfB c f l) g l (by omega)))
  .exact xo (by constructor) h b (jm (.do_ (.inr rfl) h b (Fv cfB c f l) g l (by omega)))
 |tset a b d f g l q m p s=>
  obtain⟨o,p⟩:=p;have:=d.pos;have:=f.pos;have:=q.pos;simp only[gG]at *;rcases a with h|h
  .exact xo (by constructor) h b (setP (.inl rfl) h b (aem cfB m p) g l s (by omega) (by omega))
  .exact xo (by constructor) h b (setP (.inr rfl) h b (aem cfB m p) g l s (by omega) (by omega))
def atl(b c a d e f:Ax)(w:B2):(Instr.field 74 (F1 #[b,c,a,d,e,f]) 2).run B6 w= .ok a w:=by kernel_rfl
def arv{j:Nat}{R:Fo}(hS:CR E 93 #[pV E] i R j)(g:j<E.n):CN E 28 #[pV E] i (one ⟨1,0,(E.tk j).t,1,0,0,z0,[],[]⟩ R) j:=by
 intro s f h;have b:=Sw.start f;have m:=atl;simp only[dL]at h;go_in;go_wp21
 refine(ael b hS).mono ?_;rintro e u ⟨k,q,l,r,rfl,a,o⟩;go_wp21
 refine(ai1 a.pp g).mono ?_;rintro e v ⟨⟨p,_,rfl⟩,d⟩;have c:=sB a d;go_wp21
 go_ret;exact⟨_,rfl,aaG c ⟨1,0,(E.tk j).t,1,0,0,z0,[],[]⟩ rfl rfl rfl rfl⟩
structure Fm (lo:Nat) (lb:Option Nat) (w w':B2):Prop where
 bl:Below lo w w'
 at_:∀k cs t fr,w.heap[k]?=O (.cells cs t fr)->lb≠O k->w'.heap[k]?=O (.cells cs t fr)\/∃c u,t=yi c/\w'.heap[k]?=O (.cells (cs.setIfInBounds 4 (.int .i64 u)) t fr)
def atm(cs:Array Ax)(u v:Ax):(cs.setIfInBounds 4 u).setIfInBounds 4 v=cs.setIfInBounds 4 v:=by simp
def Fm.trans{lb c:Option Nat}{x m z:B2}(h:Fm lo lb x m)(k:Fm lo c m z)(p:∀g,c=O g->lb=O g\/x.heap.size<=g):Fm lo lb x z:=by
 refine⟨h.bl.trans k.bl,λa n q o f i=>?_⟩;have j:c≠O a:=λe=>by
  rcases p a e with e|e
  .exact i e
  .have:=ai f;omega
 rcases h.at_ a n q o f i with g|⟨d,r,l,g⟩
 .exact k.at_ a _ _ _ g j
 .rcases k.at_ a _ _ _ g j with b|⟨t,s,u,b⟩
  .exact .inr ⟨d,r,l,b⟩
  .rw[atm]at b;exact .inr ⟨d,s,l,b⟩
def Fm.of_below{w':B2}(b:be w w')(c:lo<=w.heap.size)(lb:Option Nat):Fm lo lb w w':=⟨b.mono c,λf d g e a _=> .inl ((b.block _ (ai a)).trans a)⟩
def iE{c:Nat}:yi c≠9/\yi c≠44/\yi c≠3/\yi c≠61:=by
 match c with
 |0=>decide
 |1=>decide
 |2=>decide
 |3=>decide
 |4=>decide
 |5=>decide
 |n+6=>exact⟨show 132≠9 by decide,show 132≠44 by decide,show 132≠3 by decide,show 132≠61 by decide⟩
section
variable {lo : Nat} {lb : Option Nat} {w w' : World}
def Fm.blk(h:Fm lo lb w w'){cs:Array Ax}(d:w.heap[k]?=O (Z cs t fr))(e:lb≠O k)(ht:∀c,t≠yi c):w'.heap[k]?=O (Z cs t fr):=by
 rcases h.at_ k cs t fr d e with a|⟨c,f,b,_⟩
 .exact a
 .exact absurd b (ht c)
def Fm.row(h:Fm lo lb w w'){b e size:Nat}(o:w.ownsRow b e size v n xs)(l:∀g,v.ownBlock=O g->lb≠O g)(ht:∀c,e≠yi c):w'.ownsRow b e size v n xs:=by
 obtain⟨i,a⟩:=o;refine⟨i,?_⟩;rcases a with a|⟨g,d,f,rfl,k,j,m⟩
 .exact .inl a
 .exact .inr ⟨g,d,f,rfl,k,h.blk j (l g rfl) ht,m⟩
def Fm.box(h:Fm lo lb w w'){e:Ax}{d:Int}(c:ic w b N vn d e)(f:lb≠O b):∃g,ic w' b N vn g e:=by
 unfold ic at c;rcases h.at_ b _ _ _ c f with a|⟨j,i,_,a⟩
 .exact⟨d,a⟩
 .exact⟨i,a⟩
def Fm.nodes(h:Fm lo lb w w')(l:∀g,lb=O g->∃cs t fr,w.heap[g]?=O (Z cs t fr)/\t≠9/\t≠44/\∀c,t≠yi c):∀(R:Fo)(vs:List Ax)(i:List Nat){d:Nat}{a:Option Nat},uG w d a R vs i->uG w' d a R vs i
 | .nil,vs,i,d,a,f=>f
 | .cons N k r,vs,i,d,a,⟨b,al,vn,vk,kv,vs',bk,br,e,⟨u,v,n,x⟩,G,k1,I,J⟩=>by
  have o:∀{g:Nat}{cs:Array Ax}{t:C2}{fr:Nat×Nat},w.heap[g]?=O (Z cs t fr)->(t=9\/t=44\/∃c,t=yi c)->lb≠O g:=λ{g cs t fr} j ht e=>by
   obtain⟨L,an,ak,f,A,B,C⟩:=l _ e;rw[j]at f;simp only[fI,nH]at f;obtain⟨_,rfl,_⟩:=f;rcases ht with ht|ht|⟨c,ht⟩
   .exact A ht
   .exact B ht
   .exact C c ht
  have p:∀{t:C2}{q:Ax}{s:List Ax},Rv w d a t q s->(t=9\/t=44)->(∀c,t≠yi c)->Rv w' d a t q s:=λm ht F=>⟨h.row m.1 (λg j=>by
   rcases m.1.2 with⟨rfl,_⟩|⟨z,K,ad,rfl,_,E,_⟩
   .simp[A2]at j
   .obtain rfl:z=g:=by simpa [A2] using j
    exact o E (by rcases ht with ht|ht;exact .inl ht;exact .inr (.inl ht))) F,m.2⟩
  obtain⟨H,y⟩:=h.box n (o n (.inr (.inr ⟨_,rfl⟩)));exact⟨b,H,vn,vk,kv,vs',bk,br,e,⟨u,v,y,x⟩,p G (.inl rfl) (λc=>iE.1.symm),p k1 (.inr rfl) (λc=>iE.2.1.symm),Fm.nodes h l k kv bk I,Fm.nodes h l r vs' br J⟩
def Fm.num{d:Ax}{h:Int}(a:ic w b N vn h d)(i:lo<=b)(u:Int)(lb:Option Nat):Fm lo lb w (w.setCell ⟨b,4,U⟩ (X V u))/\ic (w.setCell ⟨b,4,U⟩ (X V u)) b N vn u d:=by
 unfold ic at a⊢;have e:(w.setCell ⟨b,4,U⟩ (X V u)).heap[b]?=O (Z (([X V N.k,X V N.f,X V N.t,X V N.l,X V h,d]++exT N vn (dF N.k)).toArray.setIfInBounds 4 (X V u)) (yi (dF N.k)) (0,0)):=bg _ b 4 _ _ _ a;refine⟨⟨(ah _ w).setCell i _,λj k n m c _=>?_⟩,e⟩;by_cases g:j=b
 .subst g;rw[a]at c;cases c;exact .inr ⟨_,u,rfl,e⟩
 .exact .inl ((aC _ _ _ _ g).trans c)
end
def Fr(s:Nat)(v:Ax):Prop:=∀g,v.ownBlock=O g->s<=g
def Fr.le{s t:Nat}(h:Fr s v)(ht:t<=s):Fr t v:=λa b=>di ht (h a b)
def LP(lo:Nat)(N:Nd)(ks:Fo)(w:B2)(v:Ax)(d:List Nat)(L:List Mb)(c:Ax)(e:Ending)(w':B2):Prop:=∃a M,e= Fs a/\Lw w' lo a (L++M)/\M.map Mb.N=(one N ks).flat L.length/\(∀y,(M.flatMap λx=>x.vn.ownBlock.toList).count y<=d.count y)/\((∀x∈M,Fr w.heap.size x.vk)/\(M.flatMap λx=>x.vk.ownBlock.toList).Nodup)/\Fm lo c.ownBlock w w'/\(∀g,a.ownBlock=O g->c.ownBlock=O g\/w.heap.size<=g)/\∃b t,v= Br t (A0 (O ⟨b,0,U⟩))/\w'.cell? ⟨b,4,U⟩=O (X V ((L.length+ks.sz:Nat):Int))
def LC(lo:Nat)(N:Nd)(ks:Fo):Prop:=∀(w:B2)(v:Ax)(a:List Nat)(L:List Mb)(lv:Ax),uG w lo U (one N ks) [v] a->Lw w lo lv L->lo<=w.heap.size->L.length+(one N ks).sz<=50000000->
 G2 B6 27 #[v,lv] w (LP lo N ks w v a L lv)
def LCs(lo:Nat):Fo->Prop
 | .nil=>True
 | .cons N k r=>LC lo N k/\LCs lo r
def kB(M:List Mb):List Nat:=M.flatMap λx=>x.vk.ownBlock.toList
def nB'(M:List Mb):List Nat:=M.flatMap λx=>x.vn.ownBlock.toList
structure Lj (lo:Nat) (w wr:B2) (N:Nd) (b rb:Nat) (vn vk lv lv1:Ax) (L M:List Mb) (ks D R':Fo) (kv us vs':List Ax) (bk bd br:List Nat) (tp:List Int) (ac:Option Addr) (nc cc:Nat):Prop where
 e1:D.app R'=ks
 e2:us++vs'=kv
 ln:us.length=D.len
 lc:LCs lo R'
 nr:uG wr lo U R' vs' br
 pb:(bd++br).Perm bk
 lw:Lw wr lo lv1 (L++M)
 mf:M.map Mb.N=D.flat L.length
 mp:∀y,(nB' M).count y<=bd.count y
 mr:∀x∈M,Fr w.heap.size x.vk
 fm:Fm lo lv.ownBlock w wr
 lb:∀g,lv1.ownBlock=O g->lv.ownBlock=O g\/w.heap.size<=g
 rb:w.heap.size<=rb/\lv1.ownBlock≠O rb/\wr.heap[rb]?=O (.cells (B9 N (vf vn (dF N.k)) (.slice ac nc cc)) 61 (0,0))
 kr:wr.ownsRow w.heap.size 3 1 (.slice ac nc cc) nc (tp.map (H1 .i64))
 kd:(kB M++(B3 ac nc cc).ownBlock.toList).Nodup
 bx:∃num,ic wr b N vn num vk
 vr:wr.ownsRow lo 44 1 vk kv.length kv
 lq:∀x∈L,∀g,x.vk.ownBlock=O g->g<w.heap.size
 nw:wr.ownsRow lo 9 1 vn (N.nm.map B4).length (N.nm.map B4)
section
variable {lo : Nat} {w wr w4 : World} {N N' : Nd} {b rb : Nat} {vn vk lv lv1 lv2 v : Value} {L M M2 : List Mb} {ks D k' r : Fo} {kv us vs' : List Value} {bk bd br : List Nat} {tp : List Int} {ac : Option Addr} {nc cc : Nat}
def apo(M a:List Mb):kB (M++a)=kB M++kB a:=wE
def apq(M a:List Mb):nB' (M++a)=nB' M++nB' a:=wE
def qp{w:B2}{e size:Nat}{v:Ax}(o:w.ownsRow base e size v n xs)(a:v.ownBlock=O g):∃cs fr,w.heap[g]?=O (Z cs e fr):=by
 rcases o.2 with⟨rfl,_⟩|⟨b,d,f,rfl,_,c,_⟩
 .simp[A2]at a
 .obtain rfl:b=g:=by simpa [A2] using a
  exact⟨_,_,c⟩
def Lj.kid(h:Lj lo w wr N b rb vn vk lv lv1 L M ks D (.cons N' k' r) kv us (v::vs') bk bd br tp ac nc cc)(k:Fm lo lv1.ownBlock wr w4)(ak:Lw w4 lo lv2 ((L++M)++M2))(al:M2.map Mb.N=(one N' k').flat (L++M).length){l:List Nat}(J:∃d,br=l++d/\uG wr lo U r vs' d)(ao:∀y,(nB' M2).count y<=l.count y)(q:∀x∈M2,Fr wr.heap.size x.vk)(F:(kB M2).Nodup)(p:∀g,lv2.ownBlock=O g->lv1.ownBlock=O g\/wr.heap.size<=g):∃d,Lj lo w w4 N b rb vn vk lv lv2 L (M++M2) ks (D.app (one N' k')) r kv (us++[v]) vs' bk (bd++l) d tp ac nc cc:=by
 obtain⟨d,rfl,an⟩:=J;have ad:=h.fm.bl.size;have t:∀g,lv1.ownBlock=O g->∃i j,wr.heap[g]?=O (Z i 61 j):=λg a=>qp h.lw.row a;have z:∀{g:Nat}{i:Array Ax}{B:C2}{j:Nat×Nat},wr.heap[g]?=O (Z i B j)->B≠61->lv1.ownBlock≠O g:=λa K e=>by
  obtain⟨ap,ar,c⟩:=t _ e;rw[a]at c;simp only[fI,nH]at c;exact K c.2.1
 have o:∀{u e size n:Nat}{C:Ax}{E:List Ax},wr.ownsRow u e size C n E->e≠61->(∀f,e≠yi f)->w4.ownsRow u e size C n E:=λA G H=>k.row A (λg a=>by obtain⟨i,j,c⟩:=qp A a;exact z c G) H;have I:(L++M).length=L.length+D.sz:=by
  have e:=congrArg List.length h.mf;rw[bC,Fo.flat_len]at e;rw[bm,e]
 have⟨av,s⟩:=h.bx;have au:=ai h.rb.2.2;refine⟨d,?_,?_,?_,h.lc.2,k.nodes (λg a=>by obtain⟨i,j,c⟩:=t g a;exact⟨i,_,j,c,by decide,by decide,λf=>iE.2.2.2.symm⟩) _ _ _ an,?_,by rw[<-dj];exact ak,?_,?_,?_,h.fm.trans k h.lb,?_,⟨h.rb.1,?_,k.blk h.rb.2.2 h.rb.2.1 (λf=>iE.2.2.2.symm)⟩,o h.kr (by decide) (λf=>iE.2.2.1.symm),?_,k.box s (z s iE.2.2.2),o h.vr (by decide) (λf=>iE.2.1.symm),h.lq,o h.nw (by decide) (λf=>iE.1.symm)⟩
 .rw[Fo.app_app];exact h.e1
 .rw[dj];exact h.e2
 .rw[bm,Fo.len_app,h.ln];rfl
 .rw[dj];exact h.pb
 .rw[eK,h.mf,al,Fo.flat_app,I]
 .intro y;have ax:=h.mp y;have a0:=ao y;rw[apq,Hv,Hv];omega
 .intro x hx;rcases List.mem_append.1 hx with hx|hx
  .exact h.mr x hx
  .exact(q x hx).le ad
 .intro g a;rcases p g a with e|e
  .exact h.lb g e
  .exact .inr (by omega)
 .intro e;rcases p rb e with e|e
  .exact h.rb.2.1 e
  .omega
 .rw[apo];refine nd3 (n:=wr.heap.size) h.kd F (λx hx=>?_) (λx hx=>?_)
  .rcases List.mem_append.1 hx with hx|hx
   .obtain⟨y,m,hx⟩:=List.mem_flatMap.1 hx;exact((h.lw.each y (Hx _ m)).2.lt x (by simpa using hx)).2
   .exact(h.kr.lt x (by simpa using hx)).2
  .obtain⟨y,m,hx⟩:=List.mem_flatMap.1 hx;exact q y m x (by simpa using hx)
def Lj.put{ad:Fo}{z:Int}{o:Obj}{s:Nat}{m:B2}(h:Lj lo w wr N b rb vn vk lv lv1 L M ks D ad kv us vs' bk bd br tp ac nc cc)(ao:m.ownsRow w.heap.size 3 1 (Y (O ⟨g,0,U⟩) (nc+1) s) (nc+1) ((tp++[z]).map (H1 V)))(n:(wr.alloc o).grownBy m (B3 ac nc cc).ownBlock)(ar:(B3 ac nc cc).ownBlock=O g\/g=(wr.alloc o).heap.size)(C:lo<=w.heap.size):Lj lo w (m.setCell ⟨rb,8,U⟩ (Y (O ⟨g,0,U⟩) (nc+1) s)) N b rb vn vk lv lv1 L M ks D ad kv us vs' bk bd br (tp++[z]) (O ⟨g,0,U⟩) (nc+1) s:=by
 have an:=h.fm.bl.size;have av:=(gc wr o).size;have H:∀c,(B3 ac nc cc).ownBlock=O c->w.heap.size<=c:=λc a=>(h.kr.lt c a).1;have x:Fm lo (B3 ac nc cc).ownBlock wr m:=⟨((gc wr o).mono (di C an)).trans ((ah lo (wr.alloc o)).grown n (di C (di an av)) (λc a=>di C (H c a))),λc j t k a F=> .inl ((n.block c (by have:=ai a;omega) (λe=>F e.symm)).trans (((gc wr o).block c (ai a)).trans a))⟩;have E:∀{c:Nat}{j:Array Ax}{t:C2}{k:Nat×Nat},wr.heap[c]?=O (Z j t k)->t≠3->(B3 ac nc cc).ownBlock≠O c:=λa G e=>oF h.kr a G e;have I:=x.blk h.rb.2.2 (E h.rb.2.2 (by decide)) (λi=>iE.2.2.2.symm);have y:Fm lo (O rb) m (m.setCell ⟨rb,8,U⟩ (Y (O ⟨g,0,U⟩) (nc+1) s)):=⟨(ah lo m).setCell (show lo<=(⟨rb,8,U⟩:Addr).block from di C h.rb.1) _,λc j t k a F=> .inl ((aC _ _ _ _ (λe=>F (by rw[e]))).trans a)⟩;have ap:∀{c:Nat}{j:Array Ax}{t:C2}{k:Nat×Nat},m.heap[c]?=O (Z j t k)->t≠61->O rb≠O c:=λa G e=>by
  cases e;rw[I]at a;simp only[fI,nH]at a;exact G a.2.1.symm
 have J:∀{p e size q:Nat}{l:Ax}{r:List Ax},wr.ownsRow p e size l q r->(∀g,l.ownBlock=O g->(B3 ac nc cc).ownBlock≠O g)->(∀g,l.ownBlock=O g->g≠rb)->(∀i,e≠yi i)->(m.setCell ⟨rb,8,U⟩ (Y (O ⟨g,0,U⟩) (nc+1) s)).ownsRow p e size l q r:=λf u A B=>y.row (x.row f u B) (λg n e=>A g n (by cases e;rfl)) B;have K:∀{p e size q:Nat}{l:Ax}{r:List Ax},wr.ownsRow p e size l q r->e≠3->e≠61->(∀i,e≠yi i)->(m.setCell ⟨rb,8,U⟩ (Y (O ⟨g,0,U⟩) (nc+1) s)).ownsRow p e size l q r:=λf u A B=>J f (λg n=>by obtain⟨j,k,d⟩:=qp f n;exact E d u) (λg n e=>by obtain⟨j,k,d⟩:=qp f n;rw[e,h.rb.2.2]at d;simp only[fI,nH]at d;exact A d.2.1.symm) B;have a0:∀{p q:Nat}{l:Ax}{r:List Ax},wr.ownsRow p 3 1 l q r->(∀g,l.ownBlock=O g->(B3 ac nc cc).ownBlock≠O g)->(m.setCell ⟨rb,8,U⟩ (Y (O ⟨g,0,U⟩) (nc+1) s)).ownsRow p 3 1 l q r:=λf u=>J f u (λg n e=>by obtain⟨j,k,d⟩:=qp f n;rw[e,h.rb.2.2]at d;simp only[fI,nH]at d;exact absurd d.2.1 (by decide)) (λi=>iE.2.2.1.symm);have⟨a3,ak⟩:=h.bx;have⟨a4,al⟩:=x.box ak (E ak iE.2.2.1);refine⟨h.e1,h.e2,h.ln,h.lc,y.nodes (λc a=>by cases a;exact⟨_,_,_,I,by decide,by decide,λi=>iE.2.2.2.symm⟩) _ _ _ (x.nodes (λc a=>by obtain⟨j,k,d⟩:=qp h.kr a;exact⟨_,_,_,d,by decide,by decide,λi=>iE.2.2.1.symm⟩) _ _ _ h.nr),h.pb,⟨J h.lw.row (λc a=>by obtain⟨j,k,d⟩:=qp h.lw.row a;exact E d (by decide)) (λc a e=>h.rb.2.1 (by rw[<-e];exact a)) (λi=>iE.2.2.2.symm),λv hx=>⟨K (h.lw.each v hx).1 (by decide) (by decide) (λi=>iE.1.symm),a0 (h.lw.each v hx).2 (λc a e=>?_)⟩⟩,h.mf,h.mp,h.mr,(h.fm.trans x (λc a=> .inr (H c a))).trans y (λc a=> .inr (by cases a;exact h.rb.1)),h.lb,⟨h.rb.1,h.rb.2.1,bg _ rb 8 _ _ _ I⟩,?_,?_,y.box al (ap al iE.2.2.2),K h.vr (by decide) (by decide) (λi=>iE.2.1.symm),h.lq,K h.nw (by decide) (by decide) (λi=>iE.1.symm)⟩
 .rcases List.mem_append.1 hx with hx|hx
  .have:=h.lq v hx c a;have:=H c e;omega
  .have f:=List.nodup_append.1 h.kd;exact f.2.2 c (List.mem_flatMap.2 ⟨v,hx,by simp[a]⟩) c (by simp[e]) rfl
 .exact y.row ao (λc a=>by obtain⟨j,k,d⟩:=qp ao a;exact ap d (by decide)) (λi=>iE.2.2.1.symm)
 .rcases ar with e|e
  .have f:=h.kd;rw[e]at f;exact f
  .have f:=(List.nodup_append.1 h.kd).1;rw[rl];refine⟨f,JH _,λv hx a2 ax=>?_⟩;have⟨a1,au,hx⟩:=List.mem_flatMap.1 hx;have u:=((h.lw.each a1 (Hx _ au)).2.lt v (by simpa using hx)).2;have A:a2=g:=by simpa [A2] using ax
   omega
def atn:∀(c:Nat),py N c=N->w.ownsRow lo 9 1 vn (N.nm.map B4).length (N.nm.map B4)->w.ownsRow lo 9 1 (vf vn c) N.nm.length (N.nm.map B4)/\∀y,(vf vn c).ownBlock.toList.count y<=vn.ownBlock.toList.count y
 |0,_,o=>⟨by rw[bC]at o;exact o,λy=>af _⟩
 |5,_,o=>⟨by rw[bC]at o;exact o,λy=>af _⟩
 |1,e,_|2,e,_|3,e,_|4,e,_|n+6,e,_=>by
  have h:[]=N.nm:=congrArg Nd.nm e;rw[<-h];exact⟨fE _ _ _ _,λy=>by simp[vf,A2]⟩
def Lj.fin{u:Int}{o:Obj}{n:Nat}{f:B2}(h:Lj lo w wr N b rb vn vk lv lv1 L M ks ks .nil kv us [] bk bd [] (ks.tops L.length) ac nc cc)(ak:lo<=b)(ad:py N (dF N.k)=N)(ao:lo<=w.heap.size)(ar:nc=ks.len)(av:u=((L.length+ks.sz:Nat):Int))(ax:f.ownsRow lo 61 9 (Y (O ⟨g,0,U⟩) ((L++M).length+1) n) ((L++M).length+1) (im ((L++M)++[⟨{N with ks:=ks.tops L.length},vf vn (dF N.k),Y ac nc cc⟩])))(d:((wr.setCell ⟨b,4,U⟩ (X V u)).alloc o).grownBy f lv1.ownBlock)(B:lv1.ownBlock=O g\/g=((wr.setCell ⟨b,4,U⟩ (X V u)).alloc o).heap.size)(t:C2):
  ∃M',Lw f lo (Y (O ⟨g,0,U⟩) ((L++M).length+1) n) (L++M')/\M'.map Mb.N=(one N ks).flat L.length/\(∀y,(M'.flatMap λx=>x.vn.ownBlock.toList).count y<=(vn.ownBlock.toList++(bk++[])).count y)/\((∀x∈M',Fr w.heap.size x.vk)/\(M'.flatMap λx=>x.vk.ownBlock.toList).Nodup)/\Fm lo lv.ownBlock w f/\(∀k,(B3 (O ⟨g,0,U⟩) ((L++M).length+1) n).ownBlock=O k->lv.ownBlock=O k\/w.heap.size<=k)/\∃z a4,Value.iface t (A0 (O ⟨b,0,U⟩))= Br a4 (A0 (O ⟨z,0,U⟩))/\f.cell? ⟨z,4,U⟩=O (X V ((L.length+ks.sz:Nat):Int)):=by
 have a7:=h.fm.bl.size;have⟨a9,al⟩:=h.bx;obtain⟨j,l⟩:=Fm.num (lo:=lo) al ak u U;generalize a8:wr.setCell ⟨b,4,U⟩ (X V u)=e at j l d B;have a5:=(gc e o).size;have a6:=j.bl.size;have I:=j.row h.lw.row (λ_ _=>by simp) (λi=>iE.2.2.2.symm);have F:∀{k:Nat}{p:Array Ax}{t:C2}{r:Nat×Nat},e.heap[k]?=O (Z p t r)->t≠61->lv1.ownBlock≠O k:=λc au a=>oF I c au a;have an:∀k,lv1.ownBlock=O k->lo<=k:=λk c=>(h.lw.row.lt k c).1;have v:Fm lo lv1.ownBlock e f:=⟨((gc e o).mono (by omega)).trans ((ah lo (e.alloc o)).grown d (by omega) an),λk p t r c ap=> .inl ((d.block k (by have:=ai c;omega) (λa=>ap a.symm)).trans (((gc e o).block k (ai c)).trans c))⟩;have m:∀{C a size E:Nat}{u:Ax}{H:List Ax},wr.ownsRow C a size u E H->a≠61->(∀i,a≠yi i)->f.ownsRow C a size u E H:=λq K A=>by
  have G:=j.row q (λ_ _=>by simp) A;exact v.row G (λg d=>by obtain⟨p,r,a0⟩:=qp G d;exact F a0 K) A
 have J:=(d.block b (by have:=ai l;omega) (λa=>F l iE.2.2.2 a.symm)).trans (((gc e o).block b (ai l)).trans l);have⟨a2,a3⟩:=atn (dF N.k) ad (m h.nw (by decide) (λi=>iE.1.symm));refine⟨M++[⟨{N with ks:=ks.tops L.length},vf vn (dF N.k),Y ac nc cc⟩],⟨?_,λx hx=>?_⟩,?_,λy=>?_,⟨λx hx=>?_,?_⟩,(h.fm.trans (j:Fm lo U wr e) (λk c=>by cases c)).trans v h.lb,λk c=>?_,b,t,rfl,?_⟩
 .rw[<-dj];have a:∀(s:List Mb)(x:Mb),(s++[x]).length=s.length+1:=λs x=>by simp
  rw[a (L++M)];exact ax
 .rw[<-dj]at hx;rcases List.mem_append.1 hx with hx|hx
  .exact⟨m (h.lw.each x hx).1 (by decide) (λi=>iE.1.symm),m (h.lw.each x hx).2 (by decide) (λi=>iE.2.2.1.symm)⟩
  .obtain rfl:=List.mem_singleton.1 hx;refine⟨a2,?_⟩;have q:=rK (m h.kr (by decide) (λi=>iE.2.2.1.symm)) ao;show f.ownsRow lo 3 1 _ (ks.tops L.length).length _;rw[Fo.tops_len,<-ar];exact q
 .rw[eK,h.mf,DC];rfl
 .have ba:=h.mp y;have a1:=h.pb.count_eq y;have bb:=a3 y;have a:(List.flatMap (λx=>x.vn.ownBlock.toList) (M++[(⟨{N with ks:=ks.tops L.length},vf vn (dF N.k),Y ac nc cc⟩:Mb)]))=nB' M++((vf vn (dF N.k)).ownBlock.toList++[]):=wE;rw[a];simp only[dC,Hv]at a1⊢;omega
 .rcases List.mem_append.1 hx with hx|hx
  .exact h.mr x hx
  .obtain rfl:=List.mem_singleton.1 hx;exact λg d=>(h.kr.lt g d).1
 .have q:=h.kd;have a:(List.flatMap (λx=>x.vk.ownBlock.toList) (M++[(⟨{N with ks:=ks.tops L.length},vf vn (dF N.k),Y ac nc cc⟩:Mb)]))=kB M++((B3 ac nc cc).ownBlock.toList++[]):=wE;rw[a,dC];exact q
 .obtain rfl:g=k:=by simpa [A2] using c
  rcases B with q|q
  .exact h.lb g q
  .exact .inr (by omega)
 .rw[aj _ _ _ _ _ _ J,av];rfl
end
def BI{ks:Fo}(fb:LCs lo ks):LC lo N ks:=by
 intro m v gn d hs cp K a4 cv;obtain⟨n,d6,hB,hA,a6,F,ax,bo,⟨ep,bw⟩,⟨c8,gl,c9,da⟩,d5,d2,d8,gd⟩:=cp;obtain⟨rfl,rfl⟩:=gd;obtain rfl:=(mK ep).1;obtain⟨bn,bv,rfl⟩:=cg d5.1;obtain⟨bj,bt,rfl⟩:=cg K.row;obtain⟨bh,ce,rfl⟩:=cg d2.1;have fd:=Dk.len _ _ ⟨ax,d8⟩;have bF:=λm=>tr (dF N.k) n m;have fB:=λm=>dw n m;obtain⟨H,ao,J,b0⟩:∃el c df,vf (Y bn (N.nm.map B4).length bv) (dF N.k)= Y el c df:=by unfold vf;split<;>exact⟨_,_,_,rfl⟩
 have a5:=Hd m n N _ _ d6 ⟨_,_,_,rfl⟩ c9;rw[da,b0]at a5;unfold jG at a5;unfold gB at a5⊢;generalize hd:lH (dF N.k)=f9 at a5 bF⊢;have x:=am c9;have⟨c,L⟩:=aJ a6.length;have⟨E,a3⟩:=aJ d.length;have hb:c<=50000000:=by have:=ks.len_le;rw[dL]at cv;omega
 rw[L]at x;rw[a3];go_in;go_wp2_with (go_at_call 330;refine iI (fB _) ?_);refine a5.mono ?_;rintro e j ⟨rfl,I⟩;have gz:∀o,(j.alloc o).cell? ⟨n,5,U⟩=O (Y bh c ce):=λo=>by
  have a:=((gc j o).block _ (iu (ai x) I.size)).trans ((I.block _ (ai x)).trans x);rw[aj _ _ _ _ _ _ a];rfl
 have e8:=gc j (Z (B9 N (Y H ao J) (Y U 0 0)) 61);have s:=I.trans (e8.mono I.size);have ec:Hid (Lj lo m (j.alloc (Z (B9 N (Y H ao J) (Y U 0 0)) 61)) N n j.heap.size (Y bn (N.nm.map B4).length bv) (Y bh c ce) (Y bj E bt) (Y bj E bt) d [] ks .nil ks a6 [] a6 ax [] ax [] U 0 0):=by
  refine⟨rfl,rfl,rfl,fb,uG.mono (λfA eF eL e0=>⟨s.block fA e0,eF,eL⟩) _ _ _ d8,List.Perm.refl _,?_,rfl,λhE=>af _,λbc ad=>(by cases ad),Fm.of_below s a4 _,λg ct=> .inl ct,⟨I.size,λe=>?_,by rw[b0];exact aB j _⟩,fE _ _ _ _,by simp[kB,A2],⟨d6,(s.block _ (ai x)).trans x⟩,by have:=de d2.1 s;rw[L]at this⊢;exact this,λbc ad g ct=>((K.each bc ad).2.lt g ct).2,de d5.1 s⟩
  .rw[dC];exact⟨by have:=de K.row s;rw[a3]at this⊢;exact this,λbc ad=>⟨de (K.each bc ad).1 s,de (K.each bc ad).2 s⟩⟩
  .have:=(K.row.lt _ (by rw[a3];exact e)).2;have:=I.size;omega
 go_wp2;go_loopw [1,18] (λgf c6 wr=>∃(a:Nat) (D au:Fo) (a9 F:List Ax) (ca bo:List Nat) (f:List Mb) (b9:Option Addr) (w cb:Nat) (ac:Option Addr) (k:Nat),gf= Y b9 w cb/\c6= X V a/\a<=c/\a9.length=a/\Hid (Lj lo m wr N n j.heap.size (Y bn (N.nm.map B4).length bv) (Y bh c ce) (Y bj E bt) (Y b9 w cb) d f ks D au a6 a9 F ax ca bo (D.tops E) ac a k)) (λ_ c6 _=>c-(intOf c6).toNat)
 case atStart=>exact⟨0,.nil,ks,[],a6,[],ax,[],bj,E,bt,U,0,rfl,rfl,aH _,rfl,ec⟩
 case round=>
  obtain⟨a,D,au,a9,F,ca,bo,f,b9,w,cb,ac,k,rfl,rfl,hf,cw,b⟩:=hrel;by_cases g6:a<c
  .have fg:a9.length+F.length=c:=by rw[<-L,<-b.out.e2,bm]
   obtain⟨v,ap,rfl⟩:∃v ap,F=v::ap:=by
    cases F with
    |nil=>simp at fg;omega
    |cons v ap=>exact⟨v,ap,rfl⟩
   cases au with
   |nil=>have:=b.nr.1;cases this
   |cons q B b6=>
    obtain⟨r,d7,ba,ea,d3,gi,a0,dd,⟨cf,er⟩,es,et,ev,ew,ey⟩:=b.nr;obtain⟨rfl,rfl⟩:=mK cf;obtain⟨g,rfl⟩:∃g,bh=O ⟨g,0,U⟩:=by
     have o:=b.vr;rw[L]at o;rcases bJ o with⟨gt,_⟩|⟨g,gs,cy⟩
     .omega
     .exact⟨g,(acB cy).1⟩
    have dg:wr.cell? ⟨g,a,U⟩=O (gB q.k r):=by
     have:=b.vr.cells (g:=g) rfl a (gB q.k r) (by rw[<-b.out.e2,dE (by omega),cw,fH];rfl);have e7:(⟨g,0,U⟩:Addr).add a=⟨g,a,U⟩:=by unfold Addr.add;split<;>simp_all
     rw[e7]at this;exact this
    have e5:Hid (uG wr lo U (one q B) [gB q.k r] (ba.ownBlock.toList++(a0++[]))):=⟨r,d7,ba,ea,d3,[],a0,[],⟨rfl,rfl⟩,es,et,ev,ew,rfl,rfl⟩;have e3:Hid (∃bp,bo=(ba.ownBlock.toList++(a0++[]))++bp/\uG wr lo U b6 ap bp):=⟨dd,by rw[er];simp,ey⟩;have fn:=λm=>tr (dF q.k) r m;have fF:=λm=>dw r m;have bA:(d++f).length=d.length+D.sz:=by
     have e:=congrArg List.length b.mf;rw[bC,Fo.flat_len]at e;rw[bm,e]
    have hl:D.sz+(B.sz+1+b6.sz)=ks.sz:=by have e:=congrArg Fo.sz b.e1;rw[Fo.sz_app]at e;exact e
    have ef:=am b.lc.1;have fk:=di a4 b.fm.bl.size;have cq:=e5;unfold gB at dg cq;generalize he:lH (dF q.k)=gb at dg cq fn;have hh:(0:Int)<=(a:Int):=by omega
    have hi:(a:Int)<(c:Int):=by omega
    go_wp2_with fail;refine(ef wr _ _ (d++f) _ cq b.lw fk (by rw[bA,dL];rw[dL]at cv;omega)).mono ?_;rintro e p ⟨ht,c7,rfl,c3,f5,f8,⟨dn,eo⟩,e9,dc,gm,hy,cy,fr⟩;obtain⟨em,en,rfl⟩:=cg c3.row;cases cy;generalize ha:((d++f)++c7).length=f3 at c3 dc⊢;have⟨bp,eg⟩:=b.kid e9 c3 f5 e3 f8 dn eo dc;have G:=am eg;have a7:p.drew.cell? ⟨j.heap.size,8,U⟩=O (Y ac a k):=by have l:=G.rb.2.2;show p.cell? _=_;rw[aj _ _ _ _ _ _ l];rfl
    have fq:p.drew.cell? ⟨r,4,U⟩=O (X V (((d++f).length+B.sz:Nat):Int)):=fr;generalize fz:((((d++f).length+B.sz:Nat)):Int)=z at fq;go_wp2_with fail;refine F2 (S:=λ_=>True) (by kernel_rfl) trivial (λhS=>?_);simp only[jo,bB,fs,Nat.reduceAdd,jI,kG,kH,dI,ed];refine dB 0 (A0 (O ⟨j.heap.size,8,U⟩)) rfl rfl hS (λeb d1=>by go_simp) ?_;simp only[Ck];refine dB 2 (Br gb (A0 (O ⟨r,0,U⟩))) rfl rfl hS (λeb d1=>by go_simp) ?_;simp only[Ck];refine Ar (S:=λek=>ek.cell? ⟨j.heap.size,8,U⟩=O (Y ac a k)) (C:=λA=>!(A==8||A==9||A==10)) (i:=1) (v:= Y ac a k) rfl (Hp (by kernel_rfl)) (λ_ _ _ cp=>cp) ?hC _ _ _ _ (Hs rfl (by kernel_rfl)) (List.contains_iff_mem.1 (by kernel_rfl)) (Or.inl ⟨by rfl,λeb d1=>by go_simp⟩) hS a7 ?_
    case hC=>
     intro A hw dx t;simp only[Bool.not_eq_false',yz,mj]at t;rcases t with(rfl|rfl)|rfl
     .obtain rfl:=bz dx;exact⟨{on:=1,ground:=Ground.data},by simp,rfl,rfl⟩
     all_goals
      obtain rfl:=bz dx;exact⟨{on:=1,ground:=Ground.phase},by simp,rfl,rfl⟩
    simp only[Act.put,fe,fl,fG];refine iH (i:=3) (by kernel_rfl) rfl (λy h=>?_);go_simp;refine iI (fF _) ?_;refine h _ _ trivial (λ_=>a7) ?_;try simp only[fe,fl,fG]
    refine iH (i:=4) (by kernel_rfl) rfl (λy h=>?_);go_simp;refine h _ _ trivial (λ_=>a7) ?_;try simp only[fe,fl,fG]
    refine iH (i:=5) (by kernel_rfl) rfl (λy h=>?_);go_simp;refine h _ _ trivial (λ_=>a7) ?_;try simp only[fe,fl,fG]
    refine iH (i:=6) (by kernel_rfl) rfl (λy h=>?_);go_simp;refine h _ _ trivial (λ_=>a7) ?_;try simp only[fe,fl,fG]
    refine iH (i:=7) (by kernel_rfl) rfl (λy h=>?_);go_simp;have l:=G.rb.2.2;have f0:∀o,(p.alloc o).cell? ⟨j.heap.size,8,U⟩=O (Y ac a k):=λo=>by rw[aj _ _ _ _ _ _ (((gc p o).block _ (ai l)).trans l)];rfl
    refine h _ _ trivial (λ_=>f0 _) ?_;try simp only[fe,fl,fG]
    have⟨cz,cB,cF,cI,c0⟩:=eu aiK;have fx:=G.fm.bl.size;refine iH (i:=8) (by kernel_rfl) rfl (λy h=>?_);refine step_append_lies _ (by rfl) _ _ 59 (by rfl) m.heap.size 3 cz _ 1 8 underlying59 cB cF cI c0 rfl (by decide) (Y ac a k) a _ (by rfl) (de G.kr (aw (gc p (Z #[X V z] 3)))) ⟨p.heap.size,0,U⟩ 1 1 [X V z] (by rfl) rfl (Ce (aB p _)) (by intro ge b5;rw[List.mem_singleton.1 b5];rfl) (by decide) (by unfold H0;omega) (by omega) (di fx (gc p (Z #[X V z] 3)).size) _ rfl ?_;intro cm cd b7 a8 u bD g0;have ds:(p.alloc (Z #[X V z] 3)).grownBy b7 (B3 ac a k).ownBlock:=⟨u.os,u.tape,u.output,u.size,u.block⟩;have ei:=G.put (z:=z) (o:= Z #[X V z] 3) (by rw[eK];exact a8) ds bD a4;have d9:=(ds.block _ (by have:=ai l;rw[dm];omega) (λe=>oF G.kr l (by decide) e.symm)).trans (((gc p (Z #[X V z] 3)).block _ (ai l)).trans l);have hp:b7.cell? ⟨j.heap.size,8,U⟩=O (Y ac a k):=by rw[aj _ _ _ _ _ _ d9];rfl
    have hr:∀A,b7.frozen? ⟨j.heap.size,A,U⟩=B1:=λA=>cC _ _ _ _ _ d9;have eh:=am ei;refine h _ _ trivial (λt=>by cases t) ?_;simp only[Act.put,fe,fl,fG];refine iH (i:=9) (by kernel_rfl) rfl (λy h=>?_);go_simp;refine h _ _ trivial (λt=>by cases t) ?_;try simp only[fe,fl,fG]
    refine iH (i:=10) (by kernel_rfl) rfl (λy h=>?_);go_simp;refine h _ _ trivial (λt=>by cases t) ?_;refine DB (by kernel_rfl) ?_ _;go_wp2_with fail;refine⟨⟨a+1,D.app (one q B),b6,a9++[gB q.k r],ap,ca++(ba.ownBlock.toList++(a0++[])),bp,f++c7,em,f3,en,O ⟨cm,0,U⟩,cd,rfl,by go_num,by omega,by rw[bm,cw];rfl,?_⟩,by simp[intOf];omega⟩;have e:(D.app (one q B)).tops E=D.tops E++[z]:=by rw[Fo.tops_app,<-fz,bA,a3];rfl
    rw[e];exact eh
  .have ft:c=a:=by omega
   subst ft;have bA:(d++f).length=d.length+D.sz:=by
    have e:=congrArg List.length b.mf;rw[bC,Fo.flat_len]at e;rw[bm,e]
   have fv:F=[]:=by
    have e:=congrArg List.length b.e2;rw[bm,cw,L]at e;exact jb (by omega)
   subst fv;have e6:au= .nil:=by
    cases au with
    |nil=>rfl
    |cons q B b6=>obtain⟨r,d7,ba,ea,d3,gi,a0,dd,⟨cf,_⟩,_⟩:=b.nr;cases cf
   subst e6;obtain⟨_,rfl⟩:=b.nr;have e4:D=ks:=by have e:=b.e1;rw[Fo.app_nil]at e;exact e
   subst e4;obtain⟨gj,gp,d0⟩:=cg b.lw.row;have cu:Hid (w=(d++f).length):=(acB d0).2.1;clear d0;have fo:Hid (c=D.len):=by show c=_;rw[<-L];exact fd
   subst a3;have ee:=am bw;clear bw;have g9:w<=50000000:=by have:=cu.out;rw[dL]at cv;omega
   obtain⟨f6,bE⟩:=b.bx;have gv:=ai x.out;have l:=b.rb.2.2;have ho:=b.rb.1;rw[b0]at l;have gr:wr.cell? ⟨n,4,U⟩=O (X V f6):=by rw[aj _ _ _ _ _ _ bE];rfl
   have dn:wr.frozen? ⟨n,4,U⟩=B1:=cC _ _ _ _ _ bE;have dq:(wr.setCell ⟨n,4,U⟩ (X V (w:Int))).heap[j.heap.size]?=_:=(aC _ _ _ _ (by show j.heap.size≠n;omega)).trans l;obtain⟨av,cs⟩:=aJ (wr.setCell ⟨n,4,U⟩ (X V (w:Int)));rw[cs]at dq;obtain⟨hG,hH,hI,hJ,hK,h4,h5,h6,h7,h9⟩:=bu dq;have g8:¬(c:Int)<(c:Int):=by omega
   have bf:=(Fm.num (lo:=lo) bE c8 (w:Int) U).1;rw[cs]at bf;have b8:=bf.row b.lw.row (λ_ _=>by simp) (λdf=>iE.2.2.2.symm);have ff:lo<=av.heap.size:=di a4 (di b.fm.bl.size bf.bl.size);rw[<-cu.out]at b8;have f7:=de b8 (gc av (Z (B9 N (Y H ao J) (Y ac c k)) 61));have fu:=(gc av (Z (B9 N (Y H ao J) (Y ac c k)) 61)).size;obtain⟨cz,cB,cF,cI,c0⟩:=eu IA;clear bF bE l bf b8;go_wp2_with (at_builtin;refine wpList_append_own_at _ rfl _ _ 23 rfl lo 61 cz _ 9 112 underlying23 cB cF cI c0 rfl (by decide) _ _ _ rfl f7 ⟨av.heap.size,0,U⟩ 1 1 (B9 N (Y H ao J) (Y ac c k)).toList rfl rfl (Ce (aB av _)) (by intro ge b5;simp at b5;rcases b5 with rfl|rfl|rfl|rfl|rfl|rfl|rfl|rfl|rfl<;>rfl) (by unfold H0;omega) (by omega) (di ff fu) ?_;intro hz b7 a8 u _ bD;obtain⟨cm,cd,rfl⟩:=Hm a8);go_ret;have eq:im (d++f)++(B9 N (Y H ao J) (Y ac c k)).toList=im ((d++f)++[⟨{N with ks:=D.tops d.length},vf (Y bn (N.nm.map B4).length bv) (dF N.k),Y ac c k⟩]):=by rw[tg (d++f),b0];show _=im (d++f)++(J9 _++[]);rw[dC];rfl
   rw[eq]at a8;have bF:=cu.out;subst bF;rw[<-cs]at u bD;have⟨ej,a⟩:=b.fin c8 da a4 fo (by rw[bA]) a8 u (by rcases bD with e|e;exact .inl e.symm;exact .inr (by simpa [A2] using e)) f9;have bw:=ee.out;subst bw;exact(show LP _ _ _ _ _ _ _ _ _ _ from⟨Y (O ⟨cm,0,U⟩) ((d++f).length+1) cd,ej,rfl,a⟩)
attribute [local go_sem] mi
def J6{P:Program}{b:Array Oper}{Q:Exit->Act->B2->Prop}{id:Nat}{S:B2->Prop}{a:Act}(c:P.follows .mixedOrders=F0)(hS:S w.drew)
  (h:S w.drew->wpAnyH P .any b Q S b.size (Array.replicate b.size B1) a w.drew):(Go.Code.region id b F0).wp P Q a w:=
 wp_region_any c (wpAny_of_held _ _ _ _ (h hS))
def arw(h:(du s p).ok=F0):(du s p).d=if(du s p).k=7 then 1 else 0:=by
 unfold du at h⊢;split
 .simp only;unfold Ka;cases hf:xr gA (s.extract p (rv s (s.size+1) p)) 22 0 with
  |none=>simp
  |some k=>simp only;rw[aa (by omega)]
 split
 .split
  .simp only;unfold yk;split
   .simp
   .split<;>simp
  .rename_i a b c;rw[aa a,ae b,aa c]at h;cases h
 split
 .split
  .simp
  .rename_i a b c e;rw[aa a,aa b,ae c,aa e]at h;cases h
 split
 .rename_i a b c e;rw[aa a,aa b,aa c,ae e]at h;cases h
 .rfl
section
variable {s : ByteArray} {R : List Tk × List Int × Int} {st stk : List Int} {p : Nat} {l : Int} {out : List Tk} {f : Nat}
end
def okO(o:Obj):Prop:=(∃c a,o= .map c a)\/(∃b t fr,o= Z b t fr/\t≠123)
def qJ(W b:B2):Prop:=∀(k:Nat)(a:Obj),okO a->W.heap[k]?=O a->b.heap[k]?=O a
def qJ.cells(h:qJ W W'){cs:Array Ax}(a:W.heap[k]?=O (Z cs t fr))(ht:t≠123):W'.heap[k]?=O (Z cs t fr):=h k _ (.inr ⟨_,_,_,rfl,ht⟩) a
def qJ.row(h:qJ W W'){e size:Nat}(a:W.ownsRow base e size v n xs)(g:e≠123):W'.ownsRow base e size v n xs:=by
 refine⟨a.1,?_⟩;rcases a.2 with f|⟨d,b,c,i,j,k,l⟩
 .exact .inl f
 .exact .inr ⟨d,b,c,i,j,h.cells k g,l⟩
def qJ.of_gr(g:W.grownBy W' (O b))(j:ScX b W):qJ W W':=by
 intro d q h a;obtain⟨l,o,f⟩:=j;refine(g.block d (aF a) ?_).trans a;intro e;obtain rfl:d=b:=by simpa using e
 rw[f]at a;obtain rfl:=bz a;rcases h with⟨n,k,c⟩|⟨m,r,p,c,i⟩
 .cases c
 .cases c;exact i rfl
def qJ.of_put{l:Nat}{r:Loop}(c:W.heap[l]?=O (.loop r))(e:Obj):qJ W (W.putObj l e):=by
 intro k m d a;refine(B0 ?_).trans a;rintro rfl;rw[c]at a;obtain rfl:=bz a;rcases d with⟨h,f,b⟩|⟨g,n,i,b,j⟩<;>cases b
def qJ.of_putD{l:Nat}{f:Option (List Deferred)}(c:W.heap[l]?=O (.deferred f))(e:Obj):qJ W (W.putObj l e):=by
 intro m n d a;refine(B0 ?_).trans a;rintro rfl;rw[c]at a;obtain rfl:=bz a;rcases d with⟨i,g,b⟩|⟨h,o,j,b,k⟩<;>cases b
def qJ.of_below(h:be W W'):qJ W W':=λb c _ a=>(h.block b (aF a)).trans a
def GQ.kept{st:List Int}(h:GQ W base gb mg st)(a:qJ W W'):GQ W' base gb mg st:=by
 have⟨e,c,d⟩:=h.g.ex;exact⟨⟨⟨e,a.cells c (by decide),a.row d (by decide)⟩,h.g.lo⟩,h.r.same (λi f b=>a _ _ (.inl ⟨_,_,rfl⟩) b) (λk g j b=>a.cells b (by decide)),h.ok,h.len⟩
def GQ.same{st:List Int}(h:GQ W base gb mg st)(b:∀(k:Nat) (o:Obj),W.heap[k]?=O o->(∀cs fr,o≠ Z cs 74 fr)->(∀cs fr,o≠ Z cs 71 fr)->W'.heap[k]?=O o):GQ W' base gb mg st:=by
 have⟨p,i,d⟩:=h.g.ex;refine⟨⟨⟨p,b _ _ i (by intro cs fr a;cases a) (by intro cs fr a;cases a),d.1,?_⟩,h.g.lo⟩,h.r.same (λs q a=>b _ _ a (by intro cs fr a;cases a) (by intro cs fr a;cases a)) (λc cs fr a=>b _ _ a (by intro cs fr a;cases a) (by intro cs fr a;cases a)),h.ok,h.len⟩;rcases d.2 with g|⟨c,e,f,j,l,m,n⟩
 .exact .inl g
 .exact .inr ⟨c,e,f,j,l,b _ _ m (by intro cs fr a;cases a) (by intro cs fr a;cases a),n⟩
structure xq (w:B2) (base gb mg tv:Nat) (s:ByteArray) (st:List Int) (out:List Tk) (W:B2):Prop where
 q:GQ W base gb mg st
 bl:Below base w W
 b0:W.heap[w.heap.size]?=O (.cells #[.pointer (O ⟨gb,0,U⟩)] 69 (0,0))
 b1:W.heap[w.heap.size+1]?=O (.cells #[.string s] 9 (0,0))
 tk:∃v,W.heap[tv]?=O (.cells #[v] 71 (0,0))/\W.ownsRow w.heap.size 74 6 v out.length (Ip out)
def xq.kept{st:List Int}(h:xq w base gb mg tv s st out W)(a:qJ W W')(b:Below base W W'):xq w base gb mg tv s st out W':=by
 have⟨e,c,d⟩:=h.tk;exact⟨h.q.kept a,h.bl.trans b,a.cells h.b0 (by decide),a.cells h.b1 (by decide),⟨e,a.cells c (by decide),a.row d (by decide)⟩⟩
def xq.below{st:List Int}(h:xq w base gb mg tv s st out W)(a:be W W')(b:base<=W.heap.size):xq w base gb mg tv s st out W':=h.kept (.of_below a) (a.mono b)
def xq.turn{st c:List Int}(h:xq w base gb mg tv s st out W)(l:GQ W' base gb mg c)(a:Gp gb W W')(j:Below base W W')(t:gb<w.heap.size)(u:w.heap.size<tv):xq w base gb mg tv s c out W':=by
 have⟨r,p,d⟩:=h.tk;have⟨v,k,_⟩:=h.q.g.ex;refine⟨l,h.bl.trans j,lG a h.b0 (by omega),lG a h.b1 (by omega),⟨r,lG a p (by omega),d.1,?_⟩⟩;rcases d.2 with i|⟨g,e,f,m,n,b,o⟩
 .exact .inl i
 .refine .inr ⟨g,e,f,m,n,lG a b ?_,o⟩;rintro rfl;rw[k]at b;cases b
def xq.setTok{d:Nat}{st:List Int}{cs:Array Ax}(h:xq w base gb mg tv s st out W)(n:W.heap[d]?=O (Z cs 74 fr))(l:∀v,W.heap[tv]?=O (Z #[v] 71 (0,0))->v.ownBlock≠O d)(j:base<=d)(u:Ax):xq w base gb mg tv s st out (W.setCell ⟨d,0,U⟩ u):=by
 have a:∀(e:Nat)(c:Obj),W.heap[e]?=O c->(∀cs fr,c≠ Z cs 74 fr)->(W.setCell ⟨d,0,U⟩ u).heap[e]?=O c:=λe c a m=>(aC _ _ _ _ (by rintro rfl;rw[n]at a;exact m _ _ (bz a).symm)).trans a;have⟨v,f,o⟩:=h.tk;refine⟨h.q.same (λe c g i _=>a e c g i),h.bl.setCell j _,a _ _ h.b0 (by intro cs fr b;cases b),a _ _ h.b1 (by intro cs fr b;cases b),⟨v,a _ _ f (by intro cs fr b;cases b),?_⟩⟩;exact CB o (row:=O d) ⟨rfl,rfl,rfl,by simp[E1],λq p k=>aC _ _ _ _ (λb=>k (by rw[b]))⟩ (.inr (l v f))
def Iw.turn{k j:Nat}{i g:Int}{cs:Array Ax}(h:Iw b mb B s I W k i p l)(c:W.heap[gb]?=O (Z cs 119 fr))(d:Gp gb W W')(r:Below base W W')(w:12<=base)(u:I j g W'):Iw b mb B s I W' k i j g:=by
 have⟨q,f⟩:=h.sc;have t:b≠gb:=by rintro rfl;rw[show W.heap[b]?=_ from f]at c;cases c
 refine⟨⟨q,lG d f t⟩,?_,h.ly.blocks (λv x=>r.block v (by omega)),u,di h.sz d.size⟩;have⟨o,m,a,n⟩:=h.mp;exact⟨o,m,(d.block _ (aF a) (by rintro rfl;rw[a]at c;cases c) (λcs fr e=>by rw[a]at e;cases e)).trans a,n⟩
def Iw.below{j i:Nat}{g f:Int}(h:Iw b mb B s I W j g p l)(a:be W W')(n:12<=B)(m:I i f W'):Iw b mb B s I W' j g i f:=by
 have⟨k,e⟩:=h.sc;have o:=h.sz;exact⟨⟨k,(a.block _ (aF e)).trans e⟩,h.mp.kept (row:=U) ⟨a.os,a.tape,a.output,a.size,λc d _=>a.block c d⟩ (by simp),h.ly.blocks (λc d=>a.block c (by omega)),m,di h.sz a.size⟩
def Iw.put{L:Nat}{f:Nat}{e:Int}{r:Loop}(h:Iw b mb B s I W f e p l)(c:W.heap[L]?=O (.loop r))(o:Obj)(q:12<=L)(n:I p l (W.putObj L o)):Iw b mb B s I (W.putObj L o) f e p l:=by
 have⟨k,d⟩:=h.sc;have m:b≠L:=by rintro rfl;rw[show W.heap[b]?=_ from d]at c;cases c
 have⟨j,g,a,i⟩:=h.mp;exact⟨⟨k,(B0 m).trans d⟩,⟨j,g,(B0 (by rintro rfl;rw[c]at a;cases a)).trans a,i⟩,h.ly.blocks (λu t=>B0 (by omega)),n,by simpa using h.sz⟩
def apr{f:Nat}{st:List Int}{R:List Tk×List Int×Int}(h:xG s (f+1) st p l out=R)(g:R.2.2= -1)(o:p<s.size):(du s p).ok=F0/\((du s p).k=7/\(dz st 5).2=B1/\xG s f st (blk s (s.size+1) (du s p).a) (l+1) out=R\/
  ∃b i,((du s p).k=7/\b=5/\i=l+1\/((du s p).k==7)=B1/\b=(du s p).k/\l=i)/\1<=b/\b<=78/\(dz st b).2=F0/\xG s f (dz st b).1 (blk s (s.size+1) (du s p).a) i (out++[⟨b,(p:Nat),((du s p).a:Nat),l,(du s p).n,(du s p).x⟩])=R):=by
 rw[xG,aa (by omega)]at h;split at h
 .rename_i c;have⟨e,c⟩:=aoH s p c;refine⟨e,?_⟩;split at h
  .exact .inr ⟨5,_,.inl ⟨c,rfl,rfl⟩,by decide,by decide,by assumption,h⟩
  .rename_i d;exact .inl ⟨c,by simpa using d,h⟩
 .rename_i c;split at h
  .rename_i d;split at h
   .rename_i e;have m:zH s p=(du s p).k:=by unfold zH;rw[ae e]
    rw[m]at c d h;have j:=ad1 s p e;unfold aay at d;rw[ae (by omega)]at d;exact⟨e,.inr ⟨_,_,.inr ⟨by simpa using c,rfl,rfl⟩,j.1,j.2,d,h⟩⟩
   .rw[<-h]at g;simp at g
  .rw[<-h]at g;simp at g
attribute [local go_sem] mi
structure WkV (s:ByteArray) (R:List Tk×List Int×Int) (st stk:List Int) (p:Nat) (l:Int) (out:List Tk) (f:Nat):Prop where
 sim:Sim st stk
 wk:asD s f stk (blk s (s.size+1) p) l out R
 fu:s.size<blk s (s.size+1) p+f
 len:st.length<=45*p+2
 l0:0<=l
 l1:l<=(p:Int)+1
 le:p<=s.size
 ol:out.length<=p
section
variable {s : ByteArray} {R : List Tk × List Int × Int} {st stk : List Int} {p : Nat} {l : Int} {out : List Tk} {f : Nat}
def WkV.move{a:Nat}(h:WkV s R st stk p l out f)(b:blk s (s.size+1) p=blk s (s.size+1) a)(d:p<=a)(c:a<=s.size):WkV s R st stk a l out f:=
 ⟨h.sim,by rw[<-b];exact h.wk,by rw[<-b];exact h.fu,by have:=h.len;omega,h.l0,by have:=h.l1;omega,c,by have:=h.ol;omega⟩
def WkV.next(h:WkV s R st stk p l out f)(ht:E9 s p)(j:(du s p).ok=F0){c e:List Int}{b:List Tk}(x:s.size<p+1+g)(k:Sim c e)(y:c.length<=st.length+45)(z:b.length<=out.length+1)
  (m:xG s g e (blk s (s.size+1) (du s p).a) (l+(du s p).d) b=R):WkV s R c e (du s p).a (l+(du s p).d) b g:=by
 have⟨n,i,o,q⟩:=uw s p ht.lt j;have w:=yl s (s.size+1) (du s p).a i;have r:=h.len;have t:=h.l0;have u:=h.l1;have v:=h.ol;exact⟨k,⟨m⟩,by omega,by omega,by omega,by omega,i,by omega⟩
def WkV.go(h:WkV s R st stk p l out f)(A:R.2.2= -1)(ht:E9 s p):(du s p).ok=F0/\((du s p).k=7/\uL st 5=B1/\(∃g,WkV s R st stk (du s p).a (l+(du s p).d) out g)\/
  ∃b,((du s p).k=7/\b=5\/((du s p).k==7)=B1/\b=(du s p).k)/\(1<=b/\b<=78)/\uL st b=F0/\∃o z g,passOk (st.length+45) z st b o/\WkV s R o (dz stk b).1 (du s p).a (l+(du s p).d) (out++[⟨b,(p:Nat),((du s p).a:Nat),l,(du s p).n,(du s p).x⟩]) g):=by
 have B:=Jc s p ht.nb ht.nd;have C:=h.fu;have v:=h.wk.out;rw[B]at C v;have E:=ht.lt;obtain⟨g,rfl⟩:∃g,f=g+1:=⟨f-1,by omega⟩;have⟨j,c⟩:=apr v A E;refine⟨j,?_⟩;have i:=arw j;rcases c with⟨e,m,c⟩|⟨b,G,e,q,r,m,c⟩
 .rw[ae e]at i;exact .inl ⟨e,(h.sim.may (by decide) (by decide)).trans m,g,h.next ht j (by omega) h.sim (by omega) (by omega) (by rw[i];exact c)⟩
 .have t:=(h.sim.may q r).trans m;have⟨o,u,F⟩:=h.sim.passOk q r t;have y:G=l+(du s p).d:=by
   rcases e with⟨a,_,w⟩|⟨a,_,w⟩
   .rw[ae a]at i;omega
   .rw[aa (by simpa using a)]at i;omega
  rw[y]at c;exact .inr ⟨b,e.imp (λx=>⟨x.1,x.2.1⟩) (λx=>⟨x.1,x.2.1⟩),⟨q,r⟩,t,o,_,g,u,h.next ht j (by omega) F (um u) (by simp) c⟩
def WkV.fin(h:WkV s R st stk s.size l out f):R=(out++[⟨6,(s.size:Nat),(s.size:Nat),l,0,⟨#[]⟩⟩],stk, -1):=by
 have c:=adq s s.size (af _);have d:=h.fu;have a:=h.wk.out;rw[c]at d a;obtain⟨b,rfl⟩:∃b,f=b+1:=⟨f-1,by omega⟩;rw[xG,ae (af _)]at a;exact a.symm
end
def WkV.begin(s:ByteArray):WkV s (rD s) [100,6] [100,6] 0 1 [] (s.size+1):=
 ⟨aeE,⟨rfl⟩,by omega,by simp,by omega,by omega,aH _,by simp⟩
def aa2{st b:List Int}{k tf tt tl tn:Int}{tx:ByteArray}{f:Nat}(h:GQ w base gb mb st)(o:1<=k)(p:k<=78)(x:uL st k=F0)(y:passOk (st.length+45) f st k b)(z:b.length<=99999000)(A:∀a∈b,0<=a/\a<=133):
  G2 B6 26 #[A0 (O ⟨gb,0,U⟩),F1 #[X V k,X V tf,X V tt,X V tl,X V tn,A5 tx],A5 s] w λe w'=>e= Fs (H2 #[])/\GQ w' base gb mb b/\Gp gb w w'/\Below base w w':=by
 have l:=gc w (Z #[X V k,X V tf,X V tt,X V tl,X V tn,A5 tx] 74);have u:=aB w (Z #[X V k,X V tf,X V tt,X V tl,X V tn,A5 tx] 74);have m:=h.below l;have I:gb<w.heap.size:=by obtain⟨K,v,_⟩:=h.g.ex;exact aF v
 have B:=m.may o p x;have J:=h.g.lo;have d:=iK u m;go_in;go_wp2_with fail;refine B.mono ?_;rintro e j ⟨rfl,i⟩;have n:be w j:=l.trans (i.mono (by simp));have G:j.cell? ⟨w.heap.size,0,U⟩=O (X V k):=by rw[aj _ _ _ _ _ _ ((i.block _ (aF d.1)).trans d.1)];rfl
 have c:=d.2.below i;have C:=ag2 j base gb mb st k (st.length+45) f b c.g c.r c.ok (by omega) (by have:=c.len;omega) o p y;have H:IntKind.u8.wrap k=k:=by rw[acF];omega
 go_wp2_with (go_at_call 91;refine C.mono ?_;rintro e L ⟨rfl,t,F,E,q⟩);go_end0
 exact⟨rfl,⟨t,F,A,z⟩,(Gp.of_below n).trans E,(n.mono (by omega)).trans q⟩
attribute [local go_sem] mi
def aps(W:B2)(b:Nat)(a c d e f g:Ax):W.grownBy (Ko W b a c d e f g) (O b):=by
 unfold Ko;refine oH ?_ (qm _ b 5 _);refine oH ?_ (qm _ b 4 _);refine oH ?_ (qm _ b 3 _);refine oH ?_ (qm _ b 2 _);refine oH ?_ (qm _ b 1 _);exact qm _ b 0 _
def aes:(Tryz.prog.info? 74).map (λi=>(i.zero,i.size,i.bytes))=O (O (F1 #[X V 0,X V 0,X V 0,X V 0,X V 0,A5 ⟨#[]⟩]),6,56):=by kernel_rfl
structure Ad1 (w:B2) (gb:Nat) (s:ByteArray) (b mb:Nat) (W:B2):Prop where
 bl:be w W
 b0:W.heap[w.heap.size]?=O (.cells #[.pointer (O ⟨gb,0,U⟩)] 69 (0,0))
 b1:W.heap[w.heap.size+1]?=O (.cells #[.string s] 9 (0,0))
 sc:je b W s (.map (O mb)) 0 0 1 B1
 mp:W.ownsMap B6 9 (plainElem (H:=Unit) B6 3) mb 22 (Ai 22)
 lo:w.heap.size+2<=b
 ne:mb≠b
def amA(w:B2)(a b mb:Nat)(s:ByteArray)(l m c d e f g h i j k:Ax):Act:={tmps:=#[A0 (O ⟨a,0,U⟩),A5 s,A0 (O ⟨w.heap.size,0,U⟩),A0 (O ⟨w.heap.size+1,0,U⟩),Y U 0 0,A0 (O ⟨b,0,U⟩),l,m,A5 s,.map (O mb),F1 #[A5 s,.map (O mb),X V 0,X V 0,X V 1,E0 B1],c,d,e,f,g,h,i,j,k,A9,A9,A9,A9,A9,A9,A9,A9,A9,A9,A9,A9,A9,A9,A9,A9,A9,A9,A9,A9,A9,A9,A9,A9],defers:=[]}
def al6{α:Type}(Q:α->B2->Prop)(pre:List α)(W:B2):Prop:=∀x,pre.getLast?=O x->Q x W
def al6.mk{α:Type}{Q:α->B2->Prop}{pre:List α}{x:α}(h:Q x W):al6 Q (pre++[x]) W:=λb a=>by rw[List.getLast?_concat]at a;cases a;exact h
def AmP(w:B2)(base b mb:Nat)(s:ByteArray)(e:Ending)(w':B2):Prop:=∃st stk a l v,rD s=(a++[⟨6,(s.size:Nat),(s.size:Nat),l,0,⟨#[]⟩⟩],stk, -1)/\Sim st stk/\e= Fs v/\w'.ownsRow w.heap.size 74 6 v a.length (Ip a)/\GQ w' base b mb st/\st.length<=45*s.size+2/\a.length<=s.size/\Below base w w'
def aa3(w:B2)(base E bn:Nat)(s:ByteArray)(h:GQ w base E bn [100,6])(ew:Lay w)(ki:s.size<=65536)(gp:12<=base)(dg:(rD s).2.2= -1):
  G2 B6 25 #[A0 (O ⟨E,0,U⟩),A5 s] w (AmP w base E bn s):=by
 have⟨tt,fr,ce⟩:=ew.tabs.word;have g7:E<w.heap.size:=by obtain⟨J,v,_⟩:=h.g.ex;exact aF v
 have kh:=h.g.lo;refine mJ (n:=5).1 ?_;refine callsIn_of_wp_marks func25 rfl trivial ?_ rfl;simp only[ntmps25,jo,bB,fs,Nat.reduceAdd,Nat.reduceSub,jI,kG,kH,qd,dI,ed];refine wpIn_seq_k (λiv kc=>wpIn_wide.2 ?_);go_wp2_with fail;generalize gz:(w.alloc _).alloc _=au;have⟨e7,b3,c9,ft⟩:=If gz;refine wpIn_seq_k (λei gr=>?_);have df:∀(i q:Nat)(ar:B2),Ad1 w E s i q ar->ei (amA w E i q s A9 A9 A9 A9 A9 A9 A9 A9 A9 A9 A9) ar:=by
  intro i q ar y;refine gr _ _ ?_;unfold amA;have⟨b,fu⟩:=aJ ar.heap.size;have eL:=aF y.sc;have ke:=y.lo;refine wpIn_seq_k (λiy df=>wpIn_wide.2 ?_);go_wp2_with fail;refine wpIn_seq_k (λba L=>?_);refine wpIn_seq_k (λi1 kd=>wpIn_wide.2 ?_);go_wp2_with fail;refine wpIn_block ?_;have dc:=gc ar (Z #[Y U 0 0] 71);have dd:=y.bl.alloc y.bl.size (Z #[Y U 0 0] 71);have fq:C6 i _ s (.map (O q)) 0 1 B1:=⟨0,(dc.block _ eL).trans y.sc⟩;have fk:=y.mp.alloc (Z #[Y U 0 0] 71);have e6:xq w base E bn b s [100,6] [] (ar.alloc (Z #[Y U 0 0] 71)):=
   ⟨h.below dd,dd.mono (by omega),(dc.block _ (aF y.b0)).trans y.b0,(dc.block _ (aF y.b1)).trans y.b1,⟨Y U 0 0,by rw[<-fu];exact aB ar _,fE _ _ _ _⟩⟩
  have ey:=ew.below dd (af _);have an:(ar.alloc (Z #[Y U 0 0] 71)).heap.size=b+1:=by simp;omega
  rw[fu]at eL;generalize ar.alloc (Z #[Y U 0 0] 71)=f8 at fq fk e6 ey an⊢;have cn:=y.ne;have⟨f7,eF⟩:=aJ (rD s);have fb:=WkV.begin s;have f6:=am eF;rw[eF]at fb dg;obtain⟨I,K⟩:∃I:Nat->Int->B2->Prop,I=λp l a=>∃x z u B,WkV s f7 x z p l u B/\xq w base E bn b s x u a:=⟨_,rfl⟩;have et:Iw i q (b+1) s I f8 0 1 0 1:=⟨fq,fk,ey,by rw[K];exact⟨_,_,_,_,fb,e6⟩,by omega⟩;have gv:∀p l a av,I p l a->ScX i a->a.grownBy av (O i)->I p l av:=by
   intro p l a av h b7 v;rw[K]at h⊢;obtain⟨x,z,u,B,j,o⟩:=h;exact⟨x,z,u,B,j,o.kept (.of_gr v b7) ⟨v.os,v.tape,v.output,by have:=o.bl.size;have:=v.size;have:=aF o.b0;omega,λcu dx=>v.block cu (by have:=aF o.b0;omega) (by simp;omega)⟩⟩
  have gt:∀p e l a,blk s (s.size+1) p=blk s (s.size+1) e->p<=e->e<=s.size->I p l a->I e l a:=by
   intro p e l a g3 hj k h;rw[K]at h⊢;obtain⟨x,z,u,B,j,o⟩:=h;exact⟨x,z,u,B,j.move g3 hj k,o⟩
  have gs:∀p l a,I p l a->0<=l/\l<=(p:Int)+1/\p<=s.size:=by
   intro p l a h;rw[K]at h;obtain⟨x,z,u,B,j,o⟩:=h;exact⟨j.l0,j.l1,j.le⟩
  have d7:∀{a:B2}{e p:Nat}{ee l:Int}{b8:Loop}(r:Obj),Iw i q (b+1) s I a e ee p l->a.heap[b+1+1]?=O (.loop b8)->Iw i q (b+1) s I (a.putObj (b+1+1) r) e ee p l:=by
   intro a e p ee l b8 r h ak;refine h.put ak r (by omega) ?_;have G:=h.ii;rw[K]at G⊢;obtain⟨x,z,u,B,j,o⟩:=G;refine⟨x,z,u,B,j,o.kept (.of_put ak r) ?_⟩;exact(ah base a).grown (G0 a (b+1+1) r) (by have:=h.sz;omega) (λh0 d=>by cases d;omega)
  refine aa6 (P:=B6) (α:=Nat×Int) (n:=5) (gf:=88) (bd:=#[A0 (O ⟨i,0,U⟩)]) rfl (enters_of func88 (by kernel_rfl) rfl) (λc=>#[vTk ⟨(du s c.1).k,(c.1:Int),((du s c.1).a:Int),c.2,(du s c.1).n,(du s c.1).x⟩]) (λ_=>rfl)
   (λ_ c a=>E9 s c.1/\Iw i q (b+1) s I a (du s c.1).a (c.2+(du s c.1).d) c.1 c.2)
   (al6 λc a=>Iw i q (b+1) s I a (du s c.1).a (c.2+(du s c.1).d) (du s c.1).a (c.2+(du s c.1).d))
   (λ_ c cz a=>(E9 s c.1/\Iw i q (b+1) s I a (du s c.1).a (c.2+(du s c.1).d) c.1 c.2)/\∃C,b+1<=C/\(∀J,a.heap[b]?=O (Z #[J] 71 (0,0))->J.ownBlock≠O C)/\gg C a (du s c.1).k (c.1:Int) ((du s c.1).a:Int) c.2 (du s c.1).n (du s c.1).x/\
    cz=amA w E i q s (A0 (O ⟨b,0,U⟩)) (A0 (O ⟨C,0,U⟩)) (.func (.func 88) #[A0 (O ⟨i,0,U⟩)] #[]) (vTk ⟨(du s c.1).k,(c.1:Int),((du s c.1).a:Int),c.2,(du s c.1).n,(du s c.1).x⟩) A9 A9 A9 A9 A9 A9 A9)
   (λa=>∃l,Iw i q (b+1) s I a s.size l s.size l)
   ?pZ ?pAx ?pD (λ_ _ _ c b7=>by cases b7) ?assign ?body ?seq ?done
  case pZ=>
   rintro pre a b8 r h ak c b7;rw[an]at ak⊢;exact d7 r (h c b7) ak
  case pAx=>
   rintro pre c cz a b8 r ⟨⟨j,bc⟩,C,c8,ds,eo,gn⟩ ak;rw[an]at ak⊢;exact⟨⟨j,d7 r bc ak⟩,C,c8,λJ bk=>ds J ((B0 (by omega)).symm.trans bk),(B0 (by rintro rfl;have:=(show a.heap[b+1+1]?=_ from eo).symm.trans ak;cases this)).trans eo,gn⟩
  case pD=>
   rintro a b8 r ⟨l,h⟩ ak;rw[an]at ak⊢;exact⟨l,d7 r h ak⟩
  case assign=>
   rintro l pre ⟨p,g⟩ a a5 ⟨j,bc⟩ bF;unfold vTk amA at bF;unfold vTk;simp only at j bc bF⊢;have f:=iK j bc
   gi_wp2
   have er:=gc a (Z #[X V (du s p).k,X V (p:Int),X V ((du s p).a:Int),X V g,X V (du s p).n,A5 (du s p).x] 74);have G:=f.2.ii;have hB:=f.2.sz;rw[K]at G;obtain⟨x,z,u,B,j,o⟩:=G;refine bF _ _ ⟨⟨f.1,Iw.below f.2 er (by omega) (by rw[K];exact⟨x,z,u,B,j,o.below er (by omega)⟩)⟩,a.heap.size,hB,λJ bk=>?_,aB a _,rfl⟩ ((KeepsOthers.alloc a _).from _);have⟨kq,b9,ca⟩:=o.tk;rw[fp a _ b (by omega),b9]at bk;cases bk;intro d;have:=(ca.lt _ d).2;omega
  case body=>
   rintro l pre ⟨p,g⟩ cz a ⟨⟨b5,al⟩,C,kk,ds,a4,rfl⟩;rw[an];refine wpIn_mono (Q:=agm (b+1) a λek=>Iw i q (b+1) s I ek (du s p).a (g+(du s p).d) (du s p).a (g+(du s p).d)) ?_ λd bA ar h=>by cases d<;>first|exact⟨h.1,al6.mk h.2⟩|exact h.elim
   unfold vTk amA;simp only at b5 al a4⊢;have G:=al.ii;rw[K]at G;obtain⟨x,z,u,B,ea,bh⟩:=G;have⟨hf,bj⟩:=ea.go dg b5;have⟨ef,eg,eh,ih⟩:=uw s p b5.lt hf;have kn:=al.sz;have kg:=ea.len;have hh:=ea.ol;generalize (du s p).k=cu at a4 bj⊢;generalize (du s p).a=A at a4 ef eg al bj⊢;generalize (du s p).d=bb at eh ih al bj⊢;generalize (du s p).n=ax at a4 bj⊢;generalize (du s p).x=a0 at a4 bj⊢;have⟨il,b9,ca,io,ip,ir,tf⟩:=db a4;have el:=eH bh.b0;rcases bj with⟨rfl,hd,gm,v⟩|⟨a5,bF,⟨h8,ia⟩,fg,ik,j5,gm,fo,v⟩
   .have eb:=CallsIn.inRound l (mJ (n:=2).2 (bh.q.may (t:=5) (by decide) (by decide) hd));have f:=mo bh al v;refine wpIn_block ?_;refine wpIn_seq_k (λej ev=>?_)
    gi_wp2_with (refine⟨trivial,?_⟩;gi_at_call 89;fail)
    refine⟨trivial,eb.mono ?_⟩;rintro d m ⟨rfl,ad⟩;have ap:Hid (G3 (b+1) a m/\Iw i q (b+1) s I m A (g+bb) A (g+bb)):=⟨zg ad,Iw.below f.2.1 ad (by omega) (by rw[K];exact⟨_,_,_,_,f.2.2,f.1.below ad (by omega)⟩)⟩
    gi_wp2
    exact ap
   .refine wpIn_block ?_;refine wpIn_seq_k (λej ev=>?_);have fB:∀(av:B2)(bo bp br bs bt bv bw:Ax),G3 (b+1) a av->Iw i q (b+1) s (λ_ _ _=>True) av A (g+bb) p g->xq w base E bn b s x u av->gg C av a5 (p:Int) (A:Int) g ax a0->
      ej (amA w E i q s (A0 (O ⟨b,0,U⟩)) (A0 (O ⟨C,0,U⟩)) (.func (.func 88) #[A0 (O ⟨i,0,U⟩)] #[]) (F1 #[X V cu,X V (p:Int),X V (A:Int),X V g,X V ax,A5 a0]) bo bp br bs bt bv bw) av:=by
     intro av bo bp br bs bt bv bw g1 ck b2 e9;refine ev _ _ ?_;unfold amA;have el:=eH b2.b0;have i7:=eH b2.b1;have⟨il,b9,ca,io,ip,ir,tf⟩:=db e9;have kf:=um fo;have ib:=CallsIn.inRound l (mJ (n:=2).2 (aa2 (tf:=(p:Int)) (tt:=(A:Int)) (tl:=g) (tn:=ax) (tx:=a0) (s:=s) b2.q h8 ia fg fo (by omega) λbA bf=>by have:=aG (v.sim.o1 bA bf);omega))
     gi_wp2_with (refine⟨trivial,?_⟩;gi_at_call 26;fail)
     refine⟨trivial,ib.mono ?_⟩;rintro d m ⟨rfl,hn,cp,ad⟩;have⟨kr,ff,_⟩:=b2.q.g.ex;have cl:=b2.turn hn cp ad g7 (by omega);have a7:gg C m a5 (p:Int) (A:Int) g ax a0:=lG cp e9 (by omega);have a8:Iw i q (b+1) s (λ_ _ _=>True) m A (g+bb) p g:=Iw.turn (I:=λ_ _ _=>True) (p:=p) (l:=g) ⟨ck.sc,ck.mp,ck.ly,trivial,ck.sz⟩ ff cp ad gp trivial;have hc:G3 (b+1) a m:=g1.trans (amu ff cp);have⟨J,cq,b6⟩:=cl.tk;obtain⟨fF,f1,rfl⟩:=cg b6;have gj:=eH cq;have j9:m.frozen? ⟨b,0,U⟩=B1:=cC _ _ _ _ _ cq;have⟨ks,kt,kv,kw,kx,ky,kz⟩:=db a7;have⟨hJ,g8,hC,hE,hH⟩:=eu aes;have⟨on,fm⟩:=aJ u.length;rw[fm]at cq b6 gj hh;have kl:b+1<=m.heap.size:=a8.sz;have d9:∀e,(B3 fF on f1).ownBlock=O e->w.heap.size<=e/\∃cs fr,m.heap[e]?=O (Z cs 74 fr):=λe k=>by
      refine⟨(b6.lt e k).1,?_⟩;rcases b6.2 with⟨a1,_⟩|⟨en,ge,gi,a1,_,bD,_⟩
      .rw[a1]at k;cases k
      .rw[a1]at k;obtain rfl:en=e:=by simpa [A2] using k
       exact⟨_,_,bD⟩
     have f:=ajF v cl a8 hc cq fm
     gi_wp2_with (gi_at_builtin;refine wpListIn_append_own _ rfl _ _ 71 rfl w.heap.size 74 hJ _ 6 56 underlying71 g8 hC hE hH rfl (by decide) _ _ _ rfl (b6.alloc _) ⟨m.heap.size,0,U⟩ 1 1 [X V a5,X V (p:Int),X V (A:Int),X V g,X V ax,A5 a0] rfl rfl (Ce (cs:=#[X V a5,X V (p:Int),X V (A:Int),X V g,X V ax,A5 a0]) (fr:=(0,0)) (aB m _)) (by intro ko fx;simp at fx;rcases fx with rfl|rfl|rfl|rfl|rfl|rfl<;>rfl) (by unfold H0;omega) (by omega) (by simp;omega) ?_;intro kp bx d6 cm _;obtain⟨cb,cB,rfl⟩:=Hm d6;have cr:bx.heap[b]?=O (Z #[Y fF on f1] 71 (0,0)):=(cm.block b (by simp;omega) (λd=>by obtain⟨_,cs,fr,a2⟩:=d9 b d.symm;rw[f.out.2.2.2.2.1]at a2;cases a2)).trans ((fp _ _ _ (by omega)).trans f.2.2.2.2.1);have i6:=eH cr;have ka:bx.frozen? ⟨b,0,U⟩=B1:=cC _ _ _ _ _ cr)
     have a3:∀(e:Nat)(r:Obj),m.heap[e]?=O r->(∀cs fr,r≠ Z cs 74 fr)->e≠b->(bx.setCell ⟨b,0,U⟩ (Y (O ⟨cb,0,U⟩) (on+1) cB)).heap[e]?=O r:=λe r k b4 cn=>by
      refine(aC _ _ _ _ cn).trans ((cm.block e (by simp;have:=aF k;omega) (λd=>?_)).trans ((fp _ _ _ (aF k)).trans k));have⟨_,cs,fr,a2⟩:=d9 e d.symm;rw[k]at a2;exact b4 cs fr (bz a2)
     have kj:m.heap.size<=bx.heap.size:=by have:=cm.size;simp at this;omega
     have e8:Below base m (bx.setCell ⟨b,0,U⟩ (Y (O ⟨cb,0,U⟩) (on+1) cB)):=by
      have f9:Below base m (m.alloc (Z #[X V a5,X V (p:Int),X V (A:Int),X V g,X V ax,A5 a0] 74)):=(ah _ m).alloc (by omega) _;exact(f9.grown cm (by simp;omega) (λe k=>by have:=(d9 e k).1;omega)).setCell (by show base<=b;omega) _
     have g5:xq w base E bn b s ik (u++[⟨a5,(p:Nat),(A:Nat),g,ax,a0⟩]) (bx.setCell ⟨b,0,U⟩ (Y (O ⟨cb,0,U⟩) (on+1) cB)):=by
      have bf:=f.2.1;refine⟨bf.q.same (λe r k j o=>a3 e r k j (by rintro rfl;rw[f.out.2.2.2.2.1]at k;exact o _ _ (bz k).symm)),bf.bl.trans e8,a3 _ _ bf.b0 (by intro cs fr d;cases d) (by omega),a3 _ _ bf.b1 (by intro cs fr d;cases d) (by omega),⟨_,bg _ _ 0 _ _ _ cr,?_⟩⟩;rw[bm,f.out.2.2.2.2.2,KG];refine CB d6 (row:=O b) ⟨rfl,rfl,rfl,by simp[E1],λe k cn=>aC _ _ _ _ (λd=>cn (by rw[d]))⟩ (.inr ?_);intro d;have a2:cb=b:=by simpa [A2] using d
      subst a2;rcases d6.2 with⟨a1,_⟩|⟨en,ge,gi,a1,_,bD,_⟩
      .cases a1
      .cases a1;rw[cr]at bD;cases bD
     refine⟨f.2.2.2.1.trans ?_,?_⟩
     .exact⟨by simp[E1];omega,λe r _ k b4=>a3 e r k (λcs fr d=>by rw[d]at b4;cases b4) (by rintro rfl;rw[f.out.2.2.2.2.1]at k;obtain rfl:=bz k;cases b4)⟩
     .obtain⟨c7,d8⟩:=f.2.2.1.sc;have⟨c6,cF,a6,cI⟩:=f.2.2.1.mp;refine⟨⟨c7,a3 _ _ d8 (by intro cs fr d;cases d) (by omega)⟩,⟨c6,cF,a3 _ _ a6 (by intro cs fr d;cases d) (by rintro rfl;rw[f.out.2.2.2.2.1]at a6;cases a6),cI⟩,f.2.2.1.ly.blocks (λe k=>e8.block e (by omega)),?_,by simp[E1];omega⟩;rw[K];exact⟨_,_,_,_,f.1,g5⟩
    rcases bF with⟨rfl,rfl⟩|⟨kb,rfl⟩
    .have eb:=CallsIn.inRound l (mJ (n:=2).2 (bh.q.may (t:=5) (by decide) (by decide) fg));have f:=mo bh al a4
     gi_wp2_with (refine⟨trivial,?_⟩;gi_at_call 89;fail)
     refine⟨trivial,eb.mono ?_⟩;rintro d m ⟨rfl,ad⟩;have cl:=f.1.below ad (by omega);have a7:gg C m 7 (p:Int) (A:Int) g ax a0:=(ad.block _ (aF f.2.2)).trans f.2.2;have z0:=(db a7).1;have kA:=(db a7).2.2.2.2.2.2 0;have g6:∀J,m.heap[b]?=O (Z #[J] 71 (0,0))->J.ownBlock≠O C:=λJ bk=>ds J ((ad.block _ (by omega)).symm.trans bk);have a8:Iw i q (b+1) s (λ_ _ _=>True) m A (g+bb) p g:=Iw.below (I:=λ_ _ _=>True) (p:=p) (l:=g) ⟨f.2.1.sc,f.2.1.mp,f.2.1.ly,trivial,f.2.1.sz⟩ ad (by omega) trivial;have g9:Iw i q (b+1) s (λ_ _ _=>True) (m.setCell ⟨C,0,U⟩ (X V 5)) A (g+bb) p g:=by
      have⟨c7,d8⟩:=a8.sc;have⟨c6,cF,a6,cI⟩:=a8.mp;exact⟨⟨c7,(aC _ _ _ _ (by show i≠C;omega)).trans d8⟩,⟨c6,cF,(aC _ _ _ _ (by rintro rfl;rw[show m.heap[_]?=_ from a7]at a6;cases a6)).trans a6,cI⟩,a8.ly.blocks (λe k=>aC _ _ _ _ (by show e≠C;omega)),trivial,by simp[E1];exact a8.sz⟩
     have cy:=am λbo bp br bs bt bv bw=>fB _ bo bp br bs bt bv bw ((zg ad).trans ((KeepsOthers.setCell _ _ _).from _)) g9 (cl.setTok a7 g6 (by omega) _) (bg _ _ 0 _ _ _ a7)
     gi_wp2
     exact cy.out _ _ _ _ _ _ _
    .have cy:=am λbo bp br bs bt bv bw=>fB a bo bp br bs bt bv bw (KeepsFrom.refl _ _) ⟨al.sc,al.mp,al.ly,trivial,al.sz⟩ bh a4
     gi_wp2
     exact cy.out _ _ _ _ _ _ _
  case seq=>
   rintro l f5 eq g0 a _ a3 dn;unfold be at *;rw[an]at eq dn;refine afC 4 l i q (b+1) s (by omega) (by omega) (by omega) (by omega) I gv gt gs (λp g a b5 h=>?_) f5 eq (λp g a j _ bc c8=>?_) a 0 1 ?_ a3
   .rw[K]at h;obtain⟨x,z,u,B,j,o⟩:=h;exact(j.go dg b5).1
   .obtain⟨gl,t,bA,gd,hw,hp⟩:=g0 [] (p,g) a ⟨j,bc⟩ c8;exact⟨gl,t,bA,gd,hw,hp.mono λd ek ⟨ef,eg,eh⟩=>⟨ef,eg _ rfl,eh⟩⟩
   .refine Iw.below et (by unfold be;rw[an];exact dn) (by omega) ?_;have G:=et.ii;rw[K]at G⊢;obtain⟨x,z,u,B,j,o⟩:=G;exact⟨x,z,u,B,j,o.below (by unfold be;rw[an];exact dn) (by omega)⟩
  case done=>
   rintro a ⟨l,h⟩ cd;rw[an]at cd⊢;refine L _ _ (wpIn_wide.2 ?_);have G:=h.ii;rw[K]at G;obtain⟨x,z,u,B,j,o⟩:=G;have⟨J,b9,ca⟩:=o.tk;have⟨el,em,i2,i3,i4,j6,j7,j8⟩:=C6.cells h.sc;have i5:=eH b9;have ap:=mo j o ca;go_wp2_with fail;refine⟨by simp,.inl ⟨_,_,rfl,run_takeDeferred cd,?_⟩⟩;have dx:=qJ.of_putD cd (.deferred U);refine⟨_,results_tmp rfl _ _ _,show AmP _ _ _ _ _ _ _ from⟨x,z,u,l,J,f6.out.trans ap.1.fin,ap.1.sim,rfl,dx.row ap.2.2 (by decide),ap.2.1.q.kept dx,ap.1.len,ap.1.ol,?_⟩⟩;exact ap.2.1.bl.grown (G0 a (b+1) (.deferred U)) (by have:=ap.2.1.bl.size;have:=aF cd;omega) (λh0 d=>by cases d;omega)
 refine wpIn_wide.2 (Code.wp_mono (Q:=Exit.then ei (λ_ _ _=>False)) (λd bA w h=>by cases d<;>first|exact h|exact h.elim) ?_);have em:au.drew.cell? ⟨w.heap.size+1,0,U⟩=O (A5 s):=eH b3;refine J6 (S:=λcw=>cw.cell? ⟨w.heap.size+1,0,U⟩=O (A5 s)) (by kernel_rfl) em (λhS=>?_);refine dB 0 (A5 s) rfl rfl hS (λcw fz=>by go_simp) ?_;simp only[Ck];refine E3 (rs:=[1,3]) (by kernel_rfl) (by simp) (B7 rfl (λba L=>?_) (B7 rfl (λba L=>?_) E2))
 .go_simp;have da:be w au.drew:=c9.drew;refine(rJ (H:=Unit) au.drew fr tt ((da.block _ (aF ce)).trans ce)).mono ?_;rintro d ao ⟨rfl,a9,F⟩;have fd:au.drew.heap.size=w.heap.size+2:=ft;unfold be at *;rw[fd]at a9 F;have bE:be w ao:=da.trans (F.mono (by omega));have an:w.heap.size+2<=ao.heap.size:=by have:=F.size;omega
  have he:=a9.lt;refine L _ _ (eH ((F.block _ (by omega)).trans b3)) (λhS=>?_);try simp only[Act.put,fe,fl,fG]
  simp only[fd];refine dB 2 (F1 #[A5 s,.map (O (w.heap.size+2)),X V 0,X V 0,X V 1,E0 B1]) rfl rfl hS (λcw fz=>by go_simp) ?_;simp only[Ck];refine E3 (rs:=[3]) (by kernel_rfl) (by simp) (B7 rfl (λba L=>?_) E2);go_simp;refine L _ _ ((ag ((ah ao.heap.size ao).alloc (af _) _) hS)) (λhS=>?_);refine E3 (rs:=[4]) (by kernel_rfl) (by simp) (B7 rfl (λba L=>?_) E2);go_simp;have y:Ad1 w E s ao.heap.size (w.heap.size+2) (ao.alloc (Z #[A5 s,.map (O (w.heap.size+2)),X V 0,X V 0,X V 1,E0 B1] 123)):=
   ⟨bE.alloc bE.size _,(fp _ _ _ (by omega)).trans ((F.block _ (by omega)).trans e7),(fp _ _ _ (by omega)).trans ((F.block _ (by omega)).trans b3),aB ao _,a9.alloc _,by omega,by omega⟩
  refine L _ _ (eH y.b1) (λhS=>?_);refine wpAnyH_done (by kernel_rfl) ?_ _;exact df _ _ _ y
 .go_simp;have da:be w au.drew:=c9.drew;obtain⟨WA,cf⟩:=aJ ((au.alloc (Z #[A5 ⟨#[]⟩,.map U,X V 0,X V 0,X V 0,E0 B1] 123)).drew);have cc:Below (w.heap.size+2) au WA:=by rw[<-cf];exact((ah _ au).alloc (by omega) _).drew
  have fA:WA.heap.size=w.heap.size+3:=by rw[<-cf];show(au.alloc _).heap.size=_;simp;omega
  have g4:WA.heap[w.heap.size+2]?=O (Z #[A5 ⟨#[]⟩,.map U,X V 0,X V 0,X V 0,E0 B1] 123 (0,0)):=by rw[<-cf,<-ft];exact aB au _
  rw[cf];refine L _ _ (ag (cc.mono (by omega)) (eH b3)) (λhS=>?_);refine E3 (rs:=[1]) (by kernel_rfl) (by simp) (B7 rfl (λba L=>?_) E2);go_simp;have ep:be w WA:=c9.trans (cc.mono (by omega));refine(rJ (H:=Unit) WA fr tt ((ep.block _ (aF ce)).trans ce)).mono ?_;rintro d ao ⟨rfl,a9,F⟩;unfold be at *;rw[fA]at a9 F;have bE:be w ao:=ep.trans (F.mono (by omega));have he:=a9.lt;refine L _ _ (ag (F.mono (by omega)) hS) (λhS=>?_);try simp only[Act.put,fe,fl,fG]
  simp only[fA];refine dB 2 (F1 #[A5 s,.map (O (w.heap.size+3)),X V 0,X V 0,X V 1,E0 B1]) rfl rfl hS (λcw fz=>by go_simp) ?_;simp only[Ck];have dq:=(F.block _ (by omega)).trans g4;refine E3 (rs:=[4]) (by kernel_rfl) (by simp) (B7 rfl (λba L=>?_) E2);have⟨i8,i9,ji,jn,j0,j1⟩:=jk dq;have⟨j2,a1,a2,bD,j3,j4⟩:=sF dq;go_simp;have v:=aps ao (w.heap.size+2) (A5 s) (.map (O (w.heap.size+3))) (X V 0) (X V 0) (X V 1) (E0 B1);have y:Ad1 w E s (w.heap.size+2) (w.heap.size+3) (Ko ao (w.heap.size+2) (A5 s) (.map (O (w.heap.size+3))) (X V 0) (X V 0) (X V 1) (E0 B1)):=by
   have an:=F.size;refine⟨bE.grown v bE.size (λcu d=>by cases d;omega),?_,?_,Ii dq _ _ _ _ _ _,a9.kept v (by simp),by omega,by omega⟩
   .exact(v.block _ (by omega) (by simp)).trans ((F.block _ (by omega)).trans ((cc.block _ (by omega)).trans e7))
   .exact(v.block _ (by omega) (by simp)).trans ((F.block _ (by omega)).trans ((cc.block _ (by omega)).trans b3))
  refine L _ _ (eH y.b1) (λhS=>?_);refine wpAnyH_done (by kernel_rfl) ?_ _;exact df _ _ _ y
