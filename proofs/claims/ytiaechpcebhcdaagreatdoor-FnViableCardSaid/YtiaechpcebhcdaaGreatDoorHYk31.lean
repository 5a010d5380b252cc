import Derived.Test.YtiaechpcebhcdaaGreatDoorHYk14
import Derived.Test.YtiaechpcebhcdaaGreatDoorHYk27
import Derived.Test.YtiaechpcebhcdaaGreatDoorHYk30
import Derived.Test.YtiaechpcebhcdaaGreatDoorHYk08
set_option linter.all false
set_option maxRecDepth 100000
set_option maxHeartbeats 6400000
open Option renaming some->Q,none->V
open Go.Value renaming int->X,iface->Ax,pointer->A3,slice->A5,ownBlock->B0,bool->B1,string->B2,tuple->B3
open Go.IntKind renaming i64->Y
open Go.Lib renaming repeatL->A0,asciiSpaceTab->Ck,TabIs->D3
open Go.Proofs.Tryz renaming prog->A2
open Go.Ending renaming returned->A6
open Go renaming Value->A9,Calls->B5,World->B6,TypeId->C2
open Bool renaming false->Br,true->B7
open Go.Obj renaming cells->B4
open List renaming set->Ce
namespace Go.Proofs.YtiaechpcebhcdaaGreatDoor
open Go.RowKit Go.Maps Go.WideMaps
variable{M:List (Value×List Bz)}{T:Bxs}{W w:World}{b m:Nat}{r:Bool}{vs:List Value}
section
variable {E : Pe} {i j k k1 : Nat} {x y R Ex : Fo}
def Fh{nk:Int}(a:fH nk=3)(b:Nat):ig nk b= Ax 162 (A3 (Q ⟨b,0,V⟩)):=by unfold ig;rw[a];rfl
def aaD{nk:Int}(a:fH nk=3)(s:Tk)(e:Int)(x:Bz):pi (nd nk s e 0 0 x []) (fH nk)=nd nk s e 0 0 x []:=by rw[a];rfl
def aje(w:i+1<E.n){nk k:Int}(q:k≠6)(c:fH nk=3)(a:(E.tk i).k=k):CN E 198 #[pV E,X Y nk] i (one (nd nk (E.tk i) (E.tk i).t 0 0 (E.tk i).x []) .nil) (i+1):=by
 intro z p y;have m:=Sw.start p;go_in;go_wp2_with fail;refine dm (lB m a O q) λw1 o=>?_;have⟨s,r,d⟩:=Gn o a;simp only[qi]at r;go_wp2_with fail;have e:=sB d (bu (ai _ s));have h:=Gq d a;have j:=Gq e a;go_region_held3 (λb=>b.cell? ⟨w1.heap.size,0,V⟩=Q (X Y k)/\b.cell? ⟨w1.heap.size,1,V⟩=Q (X Y (E.tk i).f)/\b.cell? ⟨w1.heap.size,2,V⟩=Q (X Y (E.tk i).t)/\b.cell? ⟨w1.heap.size,3,V⟩=Q (X Y (E.tk i).l)/\b.cell? ⟨w1.heap.size,4,V⟩=Q (X Y (E.tk i).n)/\b.cell? ⟨w1.heap.size,5,V⟩=Q (B2 (E.tk i).x)) (first|exact h|exact j|exact Gq g a|go_keep) (first|(go_at_call 193;refine(tr e a O O _ _ _ _).mono ?_;rintro v u ⟨rfl,g⟩))
 go_wp2;go_ret;exact⟨_,rfl,Fh c u.heap.size ▸ aaj g (nd nk (E.tk i) (E.tk i).t 0 0 (E.tk i).x []) (aaD c _ _ _) rfl (by show _=(_++exT _ _ (fH nk)).toArray;rw[c];rfl) (by show _=yv (fH nk);rw[c];rfl)⟩
def atz(u:i+1<E.n)(a:(E.tk i).k=2):CN E 229 #[pV E] i (one (nd 23 (E.tk i) (E.tk i).t 0 (E.tk i).n z0 []) .nil) (i+1):=by
 intro w p v;have j:=Sw.start p;go_in;go_wp21
 refine dm (pa j a) λz o=>?_;go_wp21
 refine dm (lB o a O) λw1 m=>?_;have⟨r,q,c⟩:=Gn m a;simp only[qi]at q;go_wp21
 have d:=sB c (bu (ai _ r));have g:=Gq c a;have h:=Gq d a;go_region_held3 (λb=>b.cell? ⟨w1.heap.size,0,V⟩=Q (X Y 2)/\b.cell? ⟨w1.heap.size,1,V⟩=Q (X Y (E.tk i).f)/\b.cell? ⟨w1.heap.size,2,V⟩=Q (X Y (E.tk i).t)/\b.cell? ⟨w1.heap.size,3,V⟩=Q (X Y (E.tk i).l)/\b.cell? ⟨w1.heap.size,4,V⟩=Q (X Y (E.tk i).n)/\b.cell? ⟨w1.heap.size,5,V⟩=Q (B2 (E.tk i).x)) (first|exact g|exact h|exact Gq e a|go_keep) (first|(go_at_call 193;refine(tr d a O O 23 _ _ _).mono ?_;rintro s y ⟨rfl,e⟩))
 go_wp21
 go_ret;exact⟨_,rfl,aaj e (nd 23 (E.tk i) (E.tk i).t 0 (E.tk i).n z0 []) rfl rfl rfl rfl⟩
abbrev CXi(E:Pe)(p:Int)(i:Nat)(x:Fo)(j:Nat):Prop:=CN E 196 #[pV E,X Y p] i x j
def sT{c:A9}{a:List A9}{D:Fo}{b:Nat×C2×Array A9}(S:Hid (Sw E W w i c a D vs (b::T) M)):Hid (Sw E W w i c a D vs T M):=S.drop (λe d=>dC _ d) (.inl rfl)
def asf{k q:Int}{t:Tk}{d f:C2}{a b:A9}(i:Hid (Sw E W w j s0 [] R [Ax d a,Ax f b] T M))(r:t.k=k)(l:1<=j)(p:j<=E.n)(u:10<=q)(v:q<=78):B5 A2 231 #[pV E,X Y q,.agg (qi k t),Ax d a,Ax f b] w λe s=>∃g c,e= A6 (Ax g c)/\Hid (Sw E W s j s0 [] (one (AK q t (E.tk (j-1)).t) R) [Ax g c] T M):=by
 unfold AK;by_cases m:q=10<;>by_cases o:q=26;all_goals
  try omega
 all_goals
  try subst m
  try subst o
  simp only[*,↓reduceIte,Int.reduceEq];go_in;go_wp2_with fail;refine dm (tr (sLt (sBx i)) r l p _ _ _ _) λw h=>?_;go_wp2;go_ret;exact⟨_,_,rfl,sT (Hh h _ byR byR (by simp only[fp]<;>rfl) byR)⟩
def asg{D:Fo}{k:Int}(S:Hid (Sw E W w i s0 [] D vs T M))(n:jm k=B7)(m:k<=78):B5 A2 230 #[X Y k] w λe d=>e= A6 (B3 #[.agg #[X Y k,X Y (lpw k),X Y (rpw k)],B1 B7])/\Hid (Sw E W d i s0 [] D vs T M):=by
 obtain⟨c,b,rfl⟩:=ao9 n m;have⟨o,l,a⟩:=S.pp.pw;have⟨g,h,_,j⟩:=aec c b;refine(ack w o l a c b _ rfl j).mono ?_;rintro e d ⟨a,f⟩;rw[g,h]at a;exact⟨a,sB S f⟩
def ash{D:Fo}{k:Int}(S:Hid (Sw E W w i s0 [] D vs T M))(g:jm k=Br):B5 A2 230 #[X Y k] w λe b=>e= A6 (B3 #[.agg #[X Y 0,X Y 0,X Y 0],B1 Br])/\Hid (Sw E W b i s0 [] D vs T M):=by
 have⟨h,d,a⟩:=S.pp.pw;refine(acl w h d a k (λi f e=>?_)).mono ?_
 .have:=(aec i f).2.2.1;rw[e,g]at this;cases this
 rintro e b ⟨a,c⟩;exact⟨a,sB S c⟩
def aoc{D:Fo}(S:Hid (Sw E W w i s0 [] D vs T M))(a b c:A9):∃d,w.alloc (B4 #[a,b,c] 194)=d/\Hid (Sw E W d i s0 [] D vs ((w.heap.size,194,#[a,b,c])::T) M):=⟨_,rfl,S.boxg _ _ Z Z⟩
def sC3{D:Fo}{d:Nat}{a b c:A9}(S:Hid (Sw E W w i s0 [] D vs ((d,194,#[a,b,c])::T) M)):w.cell? ⟨d,0,V⟩=Q a/\w.cell? ⟨d,1,V⟩=Q b/\w.cell? ⟨d,2,V⟩=Q c:=by
 have e:=(S.tb _ (bH ..)).2.2;exact⟨by rw[au _ _ _ _ _ _ e];rfl,by rw[au _ _ _ _ _ _ e];rfl,by rw[au _ _ _ _ _ _ e];rfl⟩
def ap5{p:Int}(a1:(E.tk i).k≠6)(bl:i<E.n)(A:∀q,(E.tk q).k<=78)(a7:CN E 229 #[pV E] i x k)(C:Ms E (CXi E) p (E.tk i) m x k R j):CXi E p i R j:=by
 intro bg z bn;have ak:=Sw.start z;have ag:=aj C;have bo:=C.le;go_in;go_wp21
 refine dm (Ey ak rfl O a1) λw1 al=>?_;obtain⟨bv,a3,c⟩:=Gn al (t:=E.tk i) rfl;simp only[qi]at a3;go_wp21
 refine(yB c a7).mono ?_;rintro h bw ⟨bc,ba,rfl,am⟩;have K:=aj am;go_wp21
 go_loopg [6] m (λgk bf wr=>∃(k:Nat) (o:Fo) (t:C2) (F:A9),bf= Ax t F/\Hid (Ms E (CXi E) p (E.tk i) gk o k R j/\Sw E bg wr k s0 [] o [Ax t F] [tkB w1.heap.size (E.tk i)] []))
 case atStart=>exact⟨k,x,bc,ba,rfl,ag,K⟩
 case round=>
  obtain⟨b,o,bt,br,rfl,af⟩:=hrel;have⟨aL,a0⟩:=af.out;have c:=aj a0;cases aL with
  |stop g ap=>
   cases a:jm (E.tk j).k with
   |false=>
    go_wp21
    refine dm (pa c rfl g) λG d=>?_;go_wp21
    refine dm (ash d a) λH e=>?_;go_wp21
    go_ret;exact⟨_,rfl,(e.boxg _ _ Z Z).drop (λp r=>by cases r) (.inr rfl)⟩
   |true=>
    go_wp21
    refine dm (pa c rfl g) λG d=>?_;go_wp21
    refine dm (asg d a (A _)) λH e=>?_;have⟨bh,a4,f⟩:=aoc e (X Y (E.tk j).k) (X Y (lpw (E.tk j).k)) (X Y (rpw (E.tk j).k));have⟨s,u,v⟩:=sC3 f;go_wp21
    go_ret;exact⟨_,rfl,f.drop (λp r=>by cases r) (.inr rfl)⟩
  |@go a9 _ a8 _ _ b5 bj g a ap ar bk av y=>
   have a6:=y.le;rw[dj,Fo.sz_app]at a6;have a2:(E.tk b).k≠6:=λh=>by rw[h]at a;revert a;decide
   have B:=A b;have a5:10<=(E.tk b).k:=by have z:=be a;omega
   have ad:=aj y;go_wp21
   refine dm (pa c rfl g) λG d=>?_;go_wp21
   refine dm (asg d a B) λH e=>?_;have⟨bh,a4,f⟩:=aoc e (X Y (E.tk b).k) (X Y (lpw (E.tk b).k)) (X Y (rpw (E.tk b).k));have⟨s,u,v⟩:=sC3 f;go_wp21
   refine dm (lB f rfl g a2) λbx w=>?_;have⟨s,u,v⟩:=sC3 w;go_wp21
   refine(yB w ar).mono ?_;rintro h bA ⟨bs,bp,rfl,l⟩;have⟨s,u,v⟩:=sC3 l;have⟨bE,b0,b1,b2,b3,b4⟩:=Gq (sT l) rfl;go_wp21
   have an:=aj l;refine(asf an (t:=E.tk i) rfl O av a5 B).mono ?_;rintro h bD ⟨bd,bb,rfl,ao⟩;have L:=sT ao;go_wp21
   go_roundg a9
   case measure=>omega
   case rel=>exact⟨a8,_,bd,bb,rfl,ad,L⟩
end
section
variable {E : Pe} {i j k k1 : Nat} {x y R Ex : Fo}
def atA(p:(E.tk i).k=42)(ba:i<E.n)(a1:Es E (CN E 270 #[pV E]) m (i+1) Ex j)(aL:(E.tk j).k=43)(bb:j+1<E.n):CN E 253 #[pV E] i (one (lj 35 (E.tk i) (E.tk j).t) Ex) (j+1):=by
 intro a7 ao a0;have am:=Sw.start ao;have al:=aj a1;simp only[dj]at a0;go_in;go_wp21
 refine dm (lB am p O) λw1 an=>?_;have⟨bf,av,f⟩:=Gn an p;simp only[qi]at av;have ag:=aj f;go_wp21
 go_loopg [4] m (λgk a6 wr=>∃(k:Nat) (D r:Fo) (v:Option Addr) (n x:Nat) (K:List A9),a6= A5 v n x/\Hid (Es E (CN E 270 #[pV E]) gk k r j/\Sw E a7 wr k (A5 v n x) K D K [tkB w1.heap.size (E.tk i)] []/\D.app r=Ex))
 case atStart=>exact⟨i+1,.nil,Ex,V,0,0,[],rfl,al,ag,rfl⟩
 case round=>
  obtain⟨bd,D,r,v,n,x,K,rfl,ak⟩:=hrel;have⟨ap,L,b⟩:=ak.out;have f:=aj L;have bc:=Dl.len _ _ L.nn;cases ap with
  |stop o l=>
   rw[Fo.app_nil]at b;go_wp21
   refine dm (yh f aL l) λad a=>?_;have⟨bg,bh,c,bj,bk,bl⟩:=Gq a p;go_wp21
   refine dm (tr a p O O 35 _ _ _) λaf g=>?_;subst b;go_wp21
   go_ret;exact⟨_,rfl,aaj g (lj 35 (E.tk i) (E.tk j).t) rfl rfl rfl rfl⟩
  |@com G _ F _ c e o l z B C A=>
   have a2:D.sz+(c.sz+e.sz)<=50000000:=by have h:=congrArg Fo.sz b;simp only[Fo.sz_app]at h;omega
   have ar:=D.len_le;have d:=fD b A;go_wp21
   refine dm (Cv f o l) λad a=>?_;go_wp21
   refine(yB a z).mono ?_;rintro h af ⟨a4,a3,rfl,g⟩;go_wp2_with (at_builtin;refine sAp g rfl O rfl _ _ rfl rfl rfl ?_;intro w H y a8 s);refine dm (yh s B C) λa9 u=>?_;have q:=aj u;go_wp21
   go_roundg G
   case measure=>omega
   case rel=>exact⟨(F+1),D.app c,e,w,H,y,_,rfl,d.2,q,by rw[Fo.app_app];exact d.1⟩
  |@last G _ F _ c e o l z B C A=>
   have a2:D.sz+(c.sz+e.sz)<=50000000:=by have h:=congrArg Fo.sz b;simp only[Fo.sz_app]at h;omega
   have ar:=D.len_le;have d:=fD b A;go_wp21
   refine dm (Cv f o l) λad a=>?_;go_wp21
   refine(yB a z).mono ?_;rintro h af ⟨a4,a3,rfl,g⟩;go_wp2_with (at_builtin;refine sAp g rfl O rfl _ _ rfl rfl rfl ?_;intro w H y a8 s);refine dm (Cv s B C) λa9 u=>?_;have q:=aj u;go_wp21
   go_roundg G
   case measure=>omega
   case rel=>exact⟨F,D.app c,e,w,H,y,_,rfl,d.2,q,by rw[Fo.app_app];exact d.1⟩
end
section
variable {E : Pe} {i j k k1 : Nat} {x y R Ex : Fo}
def Dl.top{lo:Nat}{e:Option Nat}{N:Nd}{ks:Fo}{t:C2}{p:A9}(h:Dl w lo e (one N ks) [Ax t p]):∃b,t=rL (fH N.k)/\p= A3 (Q ⟨b,0,V⟩)/\w.cell? ⟨b,0,V⟩=Q (X Y N.k):=by
 obtain⟨i,b,l,n,m,j,o,f,g,d,⟨_,_,c,_⟩,_⟩:=h;have a:=(rh d.1).1;unfold ig at a;cases a;exact⟨b,rfl,rfl,by unfold ie at c;rw[au _ _ _ _ _ _ c];rfl⟩
def asi{N:Nd}{ks:Fo}(b:(E.tk i).k=40)(a0:i<E.n)(u:CN E 134 #[pV E] (i+1) (one N ks) k)(s:(E.tk k).k=41)(a1:i+1<=k)(a2:k+1<E.n):CN E 197 #[pV E] i (oI N ks (E.tk i) (E.tk k).t) (k+1):=by
 intro c F a3;have p:=Sw.start F;have a4:(one N ks).sz<=(oI N ks (E.tk i) (E.tk k).t).sz:=by unfold oI;split<;>simp only[dj]<;>omega
 rcases(by omega:N.k=34\/N.k=27\/(N.k≠34/\N.k≠27)) with hN|hN|hN
 .go_in;go_wp21
  refine dm (lB p b O) λw1 f=>?_;have⟨A,l,g⟩:=Gn f b;simp only[qi]at l;go_wp21
  refine(yB g u).mono ?_;rintro v B ⟨z,y,rfl,h⟩;go_wp21
  refine dm (lB h s O) λC d=>?_;obtain⟨a,rfl,rfl,o⟩:=Dl.top (N:=N) (ks:=ks) d.nn;have w:=λc=>GG (fH N.k) a c;have m:=λc=>jf a c;have r:=o;rw[hN]at r;generalize x:rL (fH N.k)=e at *;have⟨ad,af,ag,ak,al,am⟩:=Gq d b;have⟨K,G,j⟩:=aai d [Ax e (A3 (Q ⟨a,0,V⟩))] #[Ax e (A3 (Q ⟨a,0,V⟩))] rfl 1 rfl Z;have⟨an,ao,ap,ar,av,aL⟩:=Gq j b;go_wp2_with (go_at_call 308;refine eE (m _) ?_);refine dm (tr j b O O 37 _ _ _) λL q=>?_;go_wp21
  go_ret;refine⟨_,rfl,?_⟩;unfold oI;rw[ab O];exact aaj q (lj 37 (E.tk i) (E.tk k).t) rfl rfl rfl rfl
 .go_in;go_wp21
  refine dm (lB p b O) λw1 f=>?_;have⟨A,l,g⟩:=Gn f b;simp only[qi]at l;go_wp21
  refine(yB g u).mono ?_;rintro v B ⟨z,y,rfl,h⟩;go_wp21
  refine dm (lB h s O) λC d=>?_;obtain⟨a,rfl,rfl,o⟩:=Dl.top (N:=N) (ks:=ks) d.nn;have w:=λc=>GG (fH N.k) a c;have m:=λc=>jf a c;have r:=o;rw[hN]at r;generalize x:rL (fH N.k)=e at *;have⟨ad,af,ag,ak,al,am⟩:=Gq d b;have⟨K,G,j⟩:=aai d [Ax e (A3 (Q ⟨a,0,V⟩))] #[Ax e (A3 (Q ⟨a,0,V⟩))] rfl 1 rfl Z;have⟨an,ao,ap,ar,av,aL⟩:=Gq j b;go_wp2_with (go_at_call 308;refine eE (m _) ?_);refine dm (tr j b O O 37 _ _ _) λL q=>?_;go_wp21
  go_ret;refine⟨_,rfl,?_⟩;unfold oI;rw[ab O];exact aaj q (lj 37 (E.tk i) (E.tk k).t) rfl rfl rfl rfl
 .go_in;go_wp21
  refine dm (lB p b O) λw1 f=>?_;have⟨A,l,g⟩:=Gn f b;simp only[qi]at l;go_wp21
  refine(yB g u).mono ?_;rintro v B ⟨z,y,rfl,h⟩;go_wp21
  refine dm (lB h s O) λC d=>?_;obtain⟨a,rfl,rfl,o⟩:=Dl.top (N:=N) (ks:=ks) d.nn;have w:=λc=>GG (fH N.k) a c;have m:=λc=>jf a c;generalize x:rL (fH N.k)=e at *;go_wp2_with (first|(go_at_call 308;refine eE (m _) ?_));go_ret;refine⟨_,rfl,?_⟩;unfold oI;rw[aa O];exact d.drop (λa5 H=>by cases H) (.inr rfl)
def asj(f:(E.tk i).k=40)(e:(E.tk (i+1)).k=41)(g:i+1<E.n):CR E 199 #[pV E] i (.nil) (i+2):=by
 intro j d h;have a:=Sw.start d;go_in;go_wp2_with fail;refine dm (lB a f O) λw1 b=>?_;go_wp2_with fail;refine dm (yh b e) λl c=>?_;go_wp2;go_ret;exact⟨_,[],rfl,c⟩
def atB(j:(E.tk i).k=40)(q:i+1<E.n)(hn:(E.tk (i+1)).k≠41)(h:CR E 192 #[pV E,.func (.func 134) #[pV E] #[]] (i+1) Ex k)(g:(E.tk k).k=41)(r:k<E.n):CR E 199 #[pV E] i (Ex) (k+1):=by
 intro v f s;have a:=Sw.start f;go_in;go_wp21
 refine dm (lB a j O) λw1 b=>?_;go_wp21
 refine dm (Cv b hn) λw c=>?_;go_wp21
 refine(ad9 c h).mono ?_;rintro p x ⟨m,u,o,l,rfl,d,t⟩;go_wp21
 refine dm (lB d g O) λy e=>?_;go_wp21
 go_ret;exact⟨_,l,rfl,e⟩
def aod{q:Int}(a:(E.tk i).k=q)(cp:i<E.n)(bx:(q=1/\CN E 198 #[pV E,X Y 26] i x k)\/(q=40/\CN E 197 #[pV E] i x k))(a9:Pss E (λi x j=>CN E 134 #[pV E] i x j) (λi x j=>CR E 192 #[pV E,.func (.func 134) #[pV E] #[]] i x j) (E.tk i) m x k R j):CN E 135 #[pV E] i R j:=by
 intro b7 bp cq;have a3:=Sw.start bp;have bj:=a9;have cr:=a9.le;rcases bx with⟨rfl,am⟩|⟨rfl,am⟩
 case' inl=>
  go_in;go_wp2_with fail;refine dm (Ey a3 a O Z) λw1 af=>?_;have⟨b8,ak,d⟩:=Gn af a;simp only[qi]at ak;have⟨bE,b0,b1,b2,b3,b4⟩:=Gq d a;go_wp2_with fail;refine(yB d am).mono ?_;rintro L H ⟨bf,bb,rfl,e⟩;have a2:=aj e;go_wp2_with fail
 case' inr=>
  go_in;go_wp2_with fail;refine dm (Ey a3 a O Z) λw1 af=>?_;have⟨b8,ak,d⟩:=Gn af a;simp only[qi]at ak;have⟨bE,b0,b1,b2,b3,b4⟩:=Gq d a;go_wp2_with fail;refine(yB d am).mono ?_;rintro L H ⟨bf,bb,rfl,e⟩;have a2:=aj e;go_wp2_with fail
 all_goals
  go_loopg [4] m (λgk b6 wr=>∃(k:Nat) (K:Fo) (bd:C2) (ba:A9),b6= Ax bd ba/\Hid (Pss E (λi x j=>CN E 134 #[pV E] i x j) (λi x j=>CR E 192 #[pV E,.func (.func 134) #[pV E] #[]] i x j) (E.tk i) gk K k R j/\Sw E b7 wr k s0 [] K [Ax bd ba] [tkB w1.heap.size (E.tk i)] []))
  case atStart=>exact⟨k,x,bf,bb,rfl,bj,a2⟩
  case round=>
   obtain⟨F,K,o,l,rfl,bh⟩:=hrel;have⟨br,bs⟩:=bh.out;have d:=aj bs;cases br with
   |stop b g=>
    have cl:((E.tk j).k==48)=Br:=by have:=jE g;simp;omega
    have ck:((E.tk j).k==44)=Br:=by have:=jE g;simp;omega
    have ch:((E.tk j).k==40)=Br:=by have:=jE g;simp;omega
    go_wp2_with fail;refine dm (pa d rfl b) λad h=>?_;go_wp2;go_ret;exact⟨_,rfl,h.drop (λcs bw=>by cases bw) (.inr rfl)⟩
   |@dot u _ _ _ _ b g z f=>
    have cm:=al7;have p:=f;have t:=f.le;simp only[dj,Fo.sz_app]at t;go_wp2_with fail;refine dm (pa d b) λH e=>?_;go_wp2_with fail;refine dm (lB e b O) λad h=>?_;go_wp2_with fail;refine dm (lB h g O) λan c=>?_;simp only[qi];have⟨ap,ar,av,aL,a0,a1⟩:=Gq c a;have⟨b9,bv,v⟩:=aai c [Ax o l] #[Ax o l] rfl 1 rfl Z;have⟨cb,cc,cd,ce,cf,cg⟩:=Gq v a;go_wp2_with fail;refine dm (tr v a O O 33 _ _ _) λao s=>?_;go_wp2;go_roundg u
    case measure=>omega
    case rel=>
     refine⟨F+2,_,_,_,rfl,p,?_⟩;rw[<-Fh (nk:=33) Z];exact(Hh s (nd 33 (E.tk i) (E.tk (F+1)).t 0 0 (E.tk (F+1)).x []) (aaD Z _ _ _) rfl (by show _=(_++exT _ _ (fH 33)).toArray;rw[(Z:fH 33=3)];rfl) (by show _=yv (fH 33);rw[(Z:fH 33=3)];rfl)).out
   |@sq u _ C _ _ a6 _ b g z ag a8 f=>
    have p:=f;have t:=f.le;simp only[dj,Fo.sz_app]at t;go_wp2_with fail;refine dm (pa d b) λH e=>?_;go_wp2_with fail;refine dm (lB e b O) λad h=>?_;go_wp2_with fail;refine(yB h z).mono ?_;rintro L an ⟨bg,bc,rfl,c⟩;go_wp2_with fail;refine dm (lB c ag O) λct a4=>?_;have⟨ap,ar,av,aL,a0,a1⟩:=Gq a4 a;have⟨b9,bv,v⟩:=aai a4 [Ax o l,Ax bg bc] #[Ax o l,Ax bg bc] rfl 2 rfl Z;have⟨cb,cc,cd,ce,cf,cg⟩:=Gq v a;go_wp2_with fail;refine dm (tr v a O O 32 _ _ _) λao s=>?_;go_wp2;go_roundg u
    case measure=>omega
    case rel=>exact⟨C+1,_,_,_,rfl,p,(Hh s (lj 32 (E.tk i) (E.tk C).t) rfl rfl rfl rfl).out⟩
   |@call0 u _ _ _ _ b g z f=>
    have p:=f;have t:=f.le;simp only[dj,Fo.sz_app]at t;go_wp2_with fail;refine dm (pa d b) λH e=>?_;have⟨ad,bt,h⟩:=aai e [Ax o l] #[Ax o l] rfl 1 rfl Z;go_wp2_with fail;refine(aio h (asj b g O) Z).mono ?_;rintro L an ⟨bk,bA,bn,b5,rfl,c,r⟩;go_wp2_with (at_builtin;refine uz rfl _ _ rfl rfl c.ro rfl r.1 r.2.1 (by have:=r.2.2;have:Fo.nil.len=0:=rfl;have:=(.nil:Fo).len_le;show 1+_<=_;omega) (by have:=c.gr.size;omega) ?_;intro bl bD bo ca G al B A;have y:=c.put G B A;clear G al B A;have w:=y;clear y;obtain⟨ap,ar,av,aL,a0,a1⟩:=Gq w a);refine dm (tr w a O O 34 _ _ _) λao s=>?_;go_wp2;go_roundg u
    case measure=>omega
    case rel=>exact⟨(F+2),_,_,_,rfl,p,(Hh (Fo.app_nil K ▸ s) (lj 34 (E.tk i) (E.tk (F+1)).t) rfl rfl rfl rfl).out⟩
   |@call u _ C _ _ a6 _ b g z ag a8 cn f=>
    have p:=f;have t:=f.le;simp only[dj,Fo.sz_app]at t;go_wp2_with fail;refine dm (pa d b) λH e=>?_;have⟨ad,bt,h⟩:=aai e [Ax o l] #[Ax o l] rfl 1 rfl Z;go_wp2_with fail;refine(aio h (atB b g z ag a8 O) O).mono ?_;rintro L an ⟨bk,bA,bn,b5,rfl,c,r⟩;go_wp2_with (at_builtin;refine uz rfl _ _ rfl rfl c.ro rfl r.1 r.2.1 (by have:=r.2.2;have:Fo.nil.len=0:=rfl;have:=(a6:Fo).len_le;show 1+_<=_;omega) (by have:=c.gr.size;omega) ?_;intro bl bD bo ca G al B A;have y:=c.put G B A;clear G al B A;have w:=y;clear y;obtain⟨ap,ar,av,aL,a0,a1⟩:=Gq w a);refine dm (tr w a O O 34 _ _ _) λao s=>?_;go_wp2;go_roundg u
    case measure=>omega
    case rel=>exact⟨(C+1),_,_,_,rfl,p,(Hh s (lj 34 (E.tk i) (E.tk C).t) rfl rfl rfl rfl).out⟩
end
section
variable {E : Pe} {i j k k1 : Nat} {x y R Ex : Fo}
abbrev Fi(vn:A9)(r:Bool):Array A9:=#[X Y 0,X Y 0,X Y 0,X Y 0,X Y 0,A5 V 0 0,vn,B1 r]
theorem Sw.setL{q:Nat}{cs:Array A9}{u:A9}(h:Sw E W w i s0 [] .nil [] ((b,170,cs)::T) M)(v:∀p∈T,p.2.1≠170):Sw E W (w.setCell ⟨b,q,V⟩ u) i s0 [] .nil [] ((b,170,cs.setIfInBounds q u)::T) M:=by
 obtain⟨j,k,l⟩:=h.tb _ (bH ..);have a:∀{d:Nat}{cs:Array A9}{e:C2}{c:Nat×Nat},w.heap[d]?=Q (B4 cs e c)->e≠170->(w.setCell ⟨b,q,V⟩ u).heap[d]?=Q (B4 cs e c):=λ{d cs e c} g ad=>by
  rw[az _ _ _ _ (λa=>U)];exact g
 have⟨n,c,C,F⟩:=h.pp.tks;have⟨K,r,G⟩:=h.pp.pw;have z:=h.lt;have A:=h.pp.pg;refine⟨⟨h.pp.hn,⟨n,c,a C Z,F⟩,a h.pp.row Z,A,K,r,(az _ _ _ _ (show 1≠b from λak=>O)).trans G⟩,?_,z,dA _ _ _ _,⟨[],⟨rfl,rfl⟩,by obtain⟨L,af,ag⟩:=h.nb;grind⟩,λp hp=>?_,λp hp=>?_⟩
 .exact h.gr.andThen (rB (vD w _) q u) (λd g=> .inl U)
 .rcases List.mem_cons.1 hp with rfl|hp
  .exact⟨j,k,aI _ b q _ _ _ l⟩
  .exact⟨(h.tb p (dC _ hp)).1,(h.tb p (dC _ hp)).2.1,a (h.tb p (dC _ hp)).2.2 (v p hp)⟩
 .obtain⟨t,f⟩:=h.nm p hp;refine⟨t,?_⟩;rcases f with f|⟨s,m,o,B,y,x,H⟩
  .grind
  .exact .inr ⟨s,m,o,B,y,a x Z,H⟩
def agp{vn:A9}(h:w.heap[b]?=Q (B4 (Fi vn r) 170 (0,0))):w.cell? ⟨b,6,V⟩=Q vn/\w.cell? ⟨b,7,V⟩=Q (B1 r)/\∀j,w.frozen? ⟨b,j,V⟩=Br:=⟨by rw[au _ _ _ _ _ _ h];rfl,by rw[au _ _ _ _ _ _ h];rfl,λj=>cD _ _ _ _ _ h⟩
def sLC{vn:A9}(S:Hid (Sw E W w i s0 [] .nil [] ((b,170,Fi vn r)::T) M)):w.cell? ⟨b,6,V⟩=Q vn/\w.cell? ⟨b,7,V⟩=Q (B1 r)/\∀j,w.frozen? ⟨b,j,V⟩=Br:=agp (S.tb _ (bH ..)).2.2
end
section
variable {E : Pe} {i j k k1 : Nat} {x y R Ex : Fo}
def Sw.lam{o u:B6}{s:Tk}{v vn C:A9}{H:List Bz}(h:Sw E W w i s0 [] .nil [] ((b,170,Fi vn r)::T) ((vn,H)::M))(m:Sw E w o j C [v] R [v] [] []){e:Int}(ag:u.heap[b]?=Q (B4 #[X Y 36,X Y s.f,X Y e,X Y s.l,X Y 0,C,vn,B1 r] 170 (0,0)))(z:o.grownBy u (Q b)):Sw E W u j s0 [] (one (nd 36 s e (opR r) 0 z0 H) R) [Ax 168 (A3 (Q ⟨b,0,V⟩))] [] []:=by
 obtain⟨x,ap,y⟩:=h.tb _ (bH ..);have ak:=ah y;simp only at x ak;have am:=h.lt;have B:∀d,d<o.heap.size->d≠b->u.heap[d]?=o.heap[d]?:=λd p k=>z.block d p (λe=>k (by cases e;rfl));have aL:=m.gr.size;have⟨K,ad,an⟩:=m.nb;refine⟨m.pp.other O (λe=>?_) O z,(h.gr.trans m.gr).andThen z (λd al=> .inl (by cases al;exact x)),am,dA _ _ _ _,⟨_,⟨b,0,vn,C,[v],[],K,[],⟨rfl,rfl⟩,⟨x,by simp[B0],?_,?_⟩,⟨?_,λg _=>by simp[B0]⟩,⟨?_,λg _=>by simp[B0]⟩,?_,rfl,rfl⟩,?_⟩,λao A=>(by cases A),λao A=>(by cases A)⟩
 .obtain⟨ar,av,F,_⟩:=h.pp.tks;rw[<-e,y]at F;simp only[iL,tH]at F;exact absurd F.2.1 Z
 .unfold ie;rw[ag];cases r<;>rfl
 .cases r<;>rfl
 .have t:=h.nm _ (bH ..);refine jL (w:=w) t (λg L p k=>⟨?_,p⟩);rw[B g O (λe=>gy t y (Z:170≠9) (by rw[<-e];exact L))];exact m.gr.block g k (λe=>by cases e;omega)
 .exact jL (w:=o) m.ro (λg L p k=>⟨B g k O,O⟩)
 .exact uy.mono (w:=o) (λd p k af=>⟨B d af O,O,by simp[B0]⟩) _ _ _ ad
 .rw[show mB []=[] from rfl,dD,dD];have t:=h.nm _ (bH ..);have:=nd3 (a:=vn.ownBlock.toList) (b:=K) (c:=[]) (n:=w.heap.size) (by rw[dD];exact Jl _) (by simpa [mB] using an) (λG q=>by rw[dD]at q;exact(t.lt G (by simpa using q)).2) (λG q=>(ad.lt _ _ _ G q).1);rw[dD]at this;exact this
def ask{s:Tk}{q:Int}{A:List Bz}(a4:s.k=q)(b3:(E.tk i).k=40)(b2:i+1<E.n)(b5:Prm E.tk E.n (i+1) A r k)(b7:CN E 136 #[pV E] k x j)(a3:k+1<=j)(cp:j<=E.n):CN E 194 #[pV E,.agg (qi q s)] i (one (nd 36 s (E.tk (j-1)).t (opR r) 0 z0 A) x) j:=by
 intro l ar b4;have bp:=Sw.start ar;have bo:=aj b5;have cu:=ar.hn;have cm:=al7;simp only[dj]at b4;have⟨w1,bE,br⟩:=Gn bp a4;simp only[qi]at bE;go_in;go_wp2_with fail;refine dm (lB br b3 O) λc bs=>?_;have bj:Hid (Sw E l (c.alloc (B4 (Fi s0 Br) 170)) (i+1) s0 [] .nil [] [(c.heap.size,170,Fi (s0) Br),tkB l.heap.size s] [(s0,[])]):=by
  have B:=bs.boxg (Fi s0 Br) 170 Z Z;exact⟨B.pp,B.gr,B.lt,B.ro,⟨[],⟨rfl,rfl⟩,by simp[mB,B0]⟩,B.tb,λbg al=>by obtain rfl:=List.mem_singleton.1 al;exact dA _ _ _ _⟩
 go_wp2;go_loopg [13] (E.n-(i+1)) (λgk cz wr=>∃(a:Nat) (D aL:List Bz) (rr an:Bool) (g:Option Addr) (n h:Nat),gk=E.n-a/\D.length=n/\n<=a/\a<E.n/\Hid (Prm E.tk E.n a aL an k/\Sw E l wr a s0 [] .nil [] [(c.heap.size,170,Fi (A5 g n h) rr),tkB l.heap.size s] [(A5 g n h,D)]/\D++aL=A/\(rr||an)=r))
 case atStart=>exact⟨i+1,[],A,Br,r,V,0,0,rfl,rfl,O,b2,bo,bj,rfl,I⟩
 case round=>
  obtain⟨a,D,aL,rr,an,g,n,h,rfl,ak,ct,cq,bn⟩:=hrel;have⟨B,bD,af,ag⟩:=bn.out;have a0:=aj bD;cases B with
  |close u y=>
   rw[dD]at af;rw[If]at ag;subst af ag;go_wp2_with fail;refine dm (yh a0 u) λa7 p=>?_;go_wp2_with fail;refine(b7 _ p.pp O).mono ?_;rintro e K ⟨cy,rfl,m⟩;obtain⟨a6,a5,rfl⟩:=Dl.form m.nn;have a8:=p.step m.gr m.pp;have⟨cA,b0,L⟩:=aai m [Ax a6 a5] #[Ax a6 a5] rfl 1 rfl Z;have bt:=sB a8 (de K (B4 #[Ax a6 a5] 54));rw[b0]at bt;obtain⟨cF,cI,c0,c1,c2,c3⟩:=Gq (sT (b:=(c.heap.size,170,Fi (A5 g n h) rr)) a8) a4;go_wp2_with fail;refine dm (tr L a4 O O 36 _ _ _) λf G=>?_;have bv:=p.step G.gr G.pp;have z:=(bv.tb _ (bH ..)).2.2;have c4:f.cell? ⟨c.heap.size,0,V⟩=Q (X Y 0):=by rw[au _ _ _ _ _ _ z];rfl
   have c7:f.cell? ⟨c.heap.size,1,V⟩=Q (X Y 0):=by rw[au _ _ _ _ _ _ z];rfl
   have c8:f.cell? ⟨c.heap.size,2,V⟩=Q (X Y 0):=by rw[au _ _ _ _ _ _ z];rfl
   have c9:f.cell? ⟨c.heap.size,3,V⟩=Q (X Y 0):=by rw[au _ _ _ _ _ _ z];rfl
   have dc:f.cell? ⟨c.heap.size,4,V⟩=Q (X Y 0):=by rw[au _ _ _ _ _ _ z];rfl
   have dd:f.cell? ⟨c.heap.size,5,V⟩=Q (A5 V 0 0):=by rw[au _ _ _ _ _ _ z];rfl
   have dg:∀j,f.frozen? ⟨c.heap.size,j,V⟩=Br:=λj=>cD _ _ _ _ _ z;have bl:=aj z;go_wp2;go_ret;exact⟨_,rfl,p.lam (s:=s) (e:=(E.tk (j-1)).t) G (aI _ _ 5 _ _ _ (aI _ _ 4 _ _ _ (aI _ _ 3 _ _ _ (aI _ _ 2 _ _ _ (aI _ _ 1 _ _ _ (aI _ _ 0 _ _ _ bl)))))) (rB (rB (rB (rB (rB (rB (vD f _) 0 _) 1 _) 2 _) 3 _) 4 _) 5 _)⟩
  |rest u y bb=>
   have w:Hid (D++[]=A/\(B7||false)=r):=⟨af,by rw[<-ag,Bool.or_true];rfl⟩;go_wp2_with fail;refine dm (Cv a0 (by rw[u];decide)) λcg a1=>?_;go_wp2_with fail;refine dm (yh a1 u) λa7 p=>?_;have⟨bc,cd,ce⟩:=sLC p;have m:Hid (Sw E l (a7.setCell ⟨c.heap.size,7,V⟩ (B1 B7)) (a+1) s0 [] .nil [] [(c.heap.size,170,Fi (A5 g n h) B7),tkB l.heap.size s] [(A5 g n h,D)]):=p.setL (by intro bg al;obtain rfl:=List.mem_singleton.1 al;show 48≠170;decide);go_wp2_with fail;refine dm (Cv m (by rw[y];decide)) λbh ad=>?_;go_wp2;go_roundg (E.n-(a+1))
   case measure=>omega
   case rel=>exact⟨a+1,D,[],B7,Br,g,n,h,rfl,ak,O,O,.close y O,ad,w.1,w.2⟩
  |last u y bb=>?_
  |@go _ _ bd _ u y bb bA=>?_
  all_goals
   first
    |have w:Hid ((D++[(E.tk a).x])++[]=A/\(rr||false)=r):=⟨by rw[dD];exact af,ag⟩
    |(have w:Hid ((D++[(E.tk a).x])++bd=A/\(rr||an)=r):=⟨by rw[eB];exact af,ag⟩
      have bk:=aj bA)
   have cs:n<=50000000:=O;go_wp2_with fail;refine dm (Cv a0 (by rw[u];decide)) λcg a1=>?_;go_wp2_with fail;refine dm (Cv a1 (by rw[u];decide)) λa7 p=>?_;go_wp2_with fail;have a9:=sB p (bu (ai _ _));have⟨bc,cd,ce⟩:=sLC a9;refine wp_region_held_drew (S:=λ_=>True) J trivial (λhS=>?_);simp only[iB,db,fx,Nat.reduceAdd,iA,jb,jc,dI,dt];refine bB 0 (A3 (Q ⟨c.heap.size,0,V⟩)) rfl rfl hS (λao am=>by go_simp) ?_;simp only[Ce];refine bB 1 (A3 (Q ⟨c.heap.size,0,V⟩)) rfl rfl hS (λao am=>by go_simp) ?_;simp only[Ce];refine bB 2 (A3 (Q ⟨c.heap.size,0,V⟩)) rfl rfl hS (λao am=>by go_simp) ?_;simp only[Ce];refine bB 3 (A3 (Q ⟨c.heap.size,6,V⟩)) rfl rfl hS (λao am=>by go_simp) ?_;simp only[Ce];refine bB 5 (A3 (Q ⟨E.pb,0,V⟩)) rfl rfl hS (λao am=>by go_simp) ?_;simp only[Ce];refine tg (S:=λbw=>bw.cell? ⟨c.heap.size,6,V⟩=Q (A5 g n h)) (C:=λj=>!(j==9||j==10||j==11||j==12)) (i:=4) (v:= A5 g n h) rfl (zn J) (λ_ _ _ ar=>ar) ?hC _ _ _ _ (zo rfl J) (List.contains_iff_mem.1 J) (Or.inl ⟨byR,λao am=>by go_simp⟩) hS bc ?_
   case hC=>
    intro j cw a3 o;simp only[Bool.not_eq_false',xc,mL]at o;rcases o with((rfl|rfl)|rfl)|rfl
    .obtain rfl:=cC a3;exact⟨{on:=4,ground:=Ground.data},I,rfl,rfl⟩
    all_goals
     obtain rfl:=cC a3;exact⟨{on:=4,ground:=Ground.phase},I,rfl,rfl⟩
   simp only[Act.put,bF,bG,bI];refine eK (i:=6) J rfl (λF d=>?_);go_simp;refine dm (lB a9 u O) λK m=>?_;have ba:=(sLC m).1;refine d _ _ trivial (λ_=>ba) ?_;try simp only[bF,bG,bI]
   refine eK (i:=7) J rfl (λF d=>?_);simp only[qi];go_simp;refine d _ _ trivial (λ_=>ba) ?_;try simp only[bF,bG,bI]
   refine eK (i:=8) J rfl (λF d=>?_);go_simp;have L:=sB m (de K (B4 #[B2 (E.tk a).x] 9));have bx:=(sLC L).1;have bf:=L.nm _ (bH ..);rw[dr,ak]at bf;refine d _ _ trivial (λ_=>bx) ?_;try simp only[bF,bG,bI]
   have⟨b8,b9,ca,cb,cc⟩:=eC aah;refine eK (i:=9) J rfl (λF d=>?_);refine step_append_lies _ byR _ _ 97 byR l.heap.size 9 b8 _ 1 16 Tryz.underlying97 b9 ca cb cc rfl Z (A5 g n h) n _ byR bf ⟨K.heap.size,0,V⟩ 1 1 [B2 (E.tk a).x] byR rfl (World.news_of_block (ay K _)) (by intro cx b6;rw[List.mem_singleton.1 b6];rfl) Z py O (aK m.gr.size (de K _).size) _ rfl ?_;intro ap H f cf b1 cn cr;have G:Hid (Sw E l f (a+1) s0 [] .nil [] [(c.heap.size,170,Fi (A5 g n h) rr),tkB l.heap.size s] [(A5 (Q ⟨ap,0,V⟩) (n+1) H,D++[(E.tk a).x])]):=L.putN (by rw[dr,aB,ak,fy];exact cf) b1;have⟨ch,ck,cl⟩:=sLC G;refine d _ _ trivial (λo=>by cases o) ?_;simp only[Act.put,bF,bG,bI];refine eK (i:=10) J rfl (λF d=>?_);go_simp;refine d _ _ trivial (λo=>by cases o) ?_;try simp only[bF,bG,bI]
   refine eK (i:=11) J rfl (λF d=>?_);go_simp;refine d _ _ trivial (λo=>by cases o) ?_;try simp only[bF,bG,bI]
   refine eK (i:=12) J rfl (λF d=>?_);go_simp;have a2:Hid (Sw E l (f.setCell ⟨c.heap.size,6,V⟩ (A5 (Q ⟨ap,0,V⟩) (n+1) H)) (a+1) s0 [] .nil [] [(c.heap.size,170,Fi (A5 (Q ⟨ap,0,V⟩) (n+1) H) rr),tkB l.heap.size s] [(A5 (Q ⟨ap,0,V⟩) (n+1) H,D++[(E.tk a).x])]):=G.setL (by intro bg al;obtain rfl:=List.mem_singleton.1 al;show 48≠170;decide);refine d _ _ trivial (λo=>by cases o) ?_;refine vI J ?_ _;generalize f.setCell _ _=cB at a2⊢;go_wp2_with fail;first
    |(refine dm (Cv a2 (by rw[y];decide)) λbh ad=>?_
      go_wp2;go_roundg (E.n-(a+1))
      case measure=>omega
      case rel=>exact⟨a+1,D++[(E.tk a).x],[],rr,Br,_,n+1,H,rfl,by rw[aB,ak];rfl,O,O,.close y O,ad,w.1,w.2⟩)
    |(refine dm (yh a2 y) λbh ad=>?_
      go_wp2;go_roundg (E.n-(a+2))
      case measure=>omega
      case rel=>exact⟨a+2,D++[(E.tk a).x],bd,rr,an,_,n+1,H,rfl,by rw[aB,ak];rfl,O,O,bk,ad,w.1,w.2⟩)
end
def xI:Int->Bz
 |1=>⟨#[115,116,97,116,42]⟩
 |2=>⟨#[101,120,112,114,42]⟩
 |3=>⟨#[101,120,112,114]⟩
 |4=>⟨#[102,110]⟩
 |6=>⟨#[99,97,108,108]⟩
 |7=>⟨#[101,120,112,114,32,98,108,111,99,107,32,101,108,115,101,63]⟩
 |8=>⟨#[101,120,112,114,32,98,108,111,99,107]⟩
 |9=>⟨#[101,120,112,114,32,101,120,112,114,32,101,120,112,114,63,32,98,108,111,99,107]⟩
 |10=>⟨#[101,120,112,114,32,98,108,111,99,107]⟩
 |11=>⟨#[]⟩
 |12=>⟨#[]⟩
 |13=>⟨#[101,120,112,114,42]⟩
 |14=>⟨#[98,108,111,99,107,32,98,108,111,99,107]⟩
 |15=>⟨#[101,120,112,114]⟩
 |16=>⟨#[99,97,108,108]⟩
 |20=>⟨#[]⟩
 |21=>⟨#[]⟩
 |22=>⟨#[]⟩
 |23=>⟨#[]⟩
 |24=>⟨#[]⟩
 |25=>⟨#[]⟩
 |26=>⟨#[]⟩
 |27=>⟨#[]⟩
 |28=>⟨#[101,120,112,114,32,101,120,112,114]⟩
 |29=>⟨#[101,120,112,114,32,101,120,112,114]⟩
 |30=>⟨#[101,120,112,114]⟩
 |31=>⟨#[101,120,112,114,32,101,120,112,114]⟩
 |32=>⟨#[98,97,115,101,32,101,120,112,114]⟩
 |33=>⟨#[98,97,115,101]⟩
 |34=>⟨#[98,97,115,101,32,101,120,112,114,42]⟩
 |35=>⟨#[101,110,116,114,121,42]⟩
 |36=>⟨#[98,108,111,99,107]⟩
 |37=>⟨#[109,97,110,121]⟩
 |40=>⟨#[101,120,112,114]⟩
 |41=>⟨#[101,120,112,114,32,101,120,112,114]⟩
 |42=>⟨#[101,120,112,114]⟩
 |_=>⟨#[]⟩
def acC:Int->Option (List (Nat×Nat))
 |1=>Q [(0,1)]
 |2=>Q [(3,1)]
 |3=>Q [(3,0)]
 |4=>Q [(8,0)]
 |6=>Q [(6,0)]
 |7=>Q [(3,0),(1,0),(2,2)]
 |8=>Q [(3,0),(1,0)]
 |9=>Q [(3,0),(3,0),(3,2),(1,0)]
 |10=>Q [(3,0),(1,0)]
 |11=>Q []
 |12=>Q []
 |13=>Q [(3,1)]
 |14=>Q [(1,0),(1,0)]
 |15=>Q [(3,0)]
 |16=>Q [(6,0)]
 |20=>Q []
 |21=>Q []
 |22=>Q []
 |23=>Q []
 |24=>Q []
 |25=>Q []
 |26=>Q []
 |27=>Q []
 |28=>Q [(3,0),(3,0)]
 |29=>Q [(3,0),(3,0)]
 |30=>Q [(3,0)]
 |31=>Q [(3,0),(3,0)]
 |32=>Q [(4,0),(3,0)]
 |33=>Q [(4,0)]
 |34=>Q [(4,0),(3,1)]
 |35=>Q [(9,1)]
 |36=>Q [(1,0)]
 |37=>Q [(7,0)]
 |40=>Q [(3,0)]
 |41=>Q [(3,0),(3,0)]
 |42=>Q [(3,0)]
 |_=>V
def oe:List Int:=[1,2,3,4,6,7,8,9,10,11,12,13,14,15,16,20,21,22,23,24,25,26,27,28,29,30,31,32,33,34,35,36,37,40,41,42]
def JI(k:Int)(h:k ∉ oe):acC k=V/\xI k=⟨#[]⟩:=by
 simp only[oe,gG,iC,iD,not_or]at h;obtain⟨a,i,u,E,K,L,ad,af,n10,b,c,d,e,f,g,j,l,m,n,o,p,q,r,s,t,v,w,x,y,z,A,B,C,F,G,H⟩:=h;constructor
 .unfold acC;split<;>first|rfl|contradiction
 .unfold xI;split<;>first|rfl|contradiction
def aaE(k:Int)(h:k∈oe):∃a,acC k=Q a/\Lib.fields (xI k).data.toList=a.map (λx=>Cg x.1 x.2)/\(∀x∈a,x.1<10/\x.2<3)/\(xI k).size<100/\(∀(j:Nat) b,(xI k).data.toList[j]?=Q b->b.toNat<128)/\a.length<10:=by
 have d:∀(c:List UInt8),(c.all λb=>decide (b.toNat<128))=B7->∀(j:Nat) b,c[j]?=Q b->b.toNat<128:=λc f j b e=>by simpa using List.all_eq_true.1 f b (da e)
 simp only[oe,gG,iC,iD]at h;rcases h with rfl|rfl|rfl|rfl|rfl|rfl|rfl|rfl|rfl|rfl|rfl|rfl|rfl|rfl|rfl|rfl|rfl|rfl|rfl|rfl|rfl|rfl|rfl|rfl|rfl|rfl|rfl|rfl|rfl|rfl|rfl|rfl|rfl|rfl|rfl|rfl;all_goals exact⟨_,rfl,rfl,Z,Z,d _ Z,Z⟩
def ajf(k:Int)(w:B6)(h:k=1\/k=2\/k=3\/k=4\/k=6\/k=7\/k=8\/k=9\/k=10):B5 A2 206 #[X Y k] w λe a=>e= A6 (B3 #[B2 (xI k),B1 B7])/\a=w:=by
 rcases h with rfl|rfl|rfl|rfl|rfl|rfl|rfl|rfl|rfl;all_goals
  simp only[xI];go_in;go_wp2;go_ret2;exact rr
def ajg(k:Int)(w:B6)(h:k=11\/k=12\/k=13\/k=14\/k=15\/k=16\/k=20\/k=21\/k=22):B5 A2 206 #[X Y k] w λe a=>e= A6 (B3 #[B2 (xI k),B1 B7])/\a=w:=by
 rcases h with rfl|rfl|rfl|rfl|rfl|rfl|rfl|rfl|rfl;all_goals
  simp only[xI];go_in;go_wp2;go_ret2;exact rr
def ajh(k:Int)(w:B6)(h:k=23\/k=24\/k=25\/k=26\/k=27\/k=28\/k=29\/k=30\/k=31):B5 A2 206 #[X Y k] w λe a=>e= A6 (B3 #[B2 (xI k),B1 B7])/\a=w:=by
 rcases h with rfl|rfl|rfl|rfl|rfl|rfl|rfl|rfl|rfl;all_goals
  simp only[xI];go_in;go_wp2;go_ret2;exact rr
def aji(k:Int)(w:B6)(h:k=32\/k=33\/k=34\/k=35\/k=36\/k=37\/k=40\/k=41\/k=42):B5 A2 206 #[X Y k] w λe a=>e= A6 (B3 #[B2 (xI k),B1 B7])/\a=w:=by
 rcases h with rfl|rfl|rfl|rfl|rfl|rfl|rfl|rfl|rfl;all_goals
  simp only[xI];go_in;go_wp2;go_ret2;exact rr
def agq(k:Int)(w:B6)(h:k ∉ oe):B5 A2 206 #[X Y k] w λe a=>e= A6 (B3 #[B2 ⟨#[]⟩,B1 Br])/\a=w:=by
 simp only[oe,gG,iC,iD,not_or]at h;obtain⟨b,l,x,H,af,ag,ak,al,n10,c,d,f,g,i,j,m,n,o,p,q,r,s,t,u,v,y,z,A,B,C,E,F,G,K,L,ad⟩:=h;go_in;go_wp2;go_ret2;exact rr
def aaF(k:Int)(w:B6):B5 A2 206 #[X Y k] w λe c=>e= A6 (B3 #[B2 (xI k),B1 (acC k).isSome])/\c=w:=by
 by_cases h:k∈oe
 .obtain⟨d,a,_⟩:=aaE k h;rw[a,Option.isSome_some];simp only[oe,gG,iC,iD]at h;rcases((O:(k=1\/k=2\/k=3\/k=4\/k=6\/k=7\/k=8\/k=9\/k=10)\/(k=11\/k=12\/k=13\/k=14\/k=15\/k=16\/k=20\/k=21\/k=22)\/(k=23\/k=24\/k=25\/k=26\/k=27\/k=28\/k=29\/k=30\/k=31)\/(k=32\/k=33\/k=34\/k=35\/k=36\/k=37\/k=40\/k=41\/k=42))) with h|h|h|h
  .exact ajf k w h
  .exact ajg k w h
  .exact ajh k w h
  .exact aji k w h
 .obtain⟨a,b⟩:=JI k h;rw[a,b];exact agq k w h
def Gs(n:Nat):List (Nat×Nat):=List.replicate n (5,0)++[(3,0),(3,1)]
def setB(n:Nat):Bz:=⟨(A0 [116,97,114,103,101,116,32] n).toArray⟩++⟨#[101,120,112,114,32,101,120,112,114,42]⟩
def Bo(n:Nat):(setB n).data.toList=A0 [116,97,114,103,101,116,32] n++[101,120,112,114,32,101,120,112,114,42]:=by
 unfold setB;rw[wD];simp
def Ch:∀n,Lib.fields (A0 [116,97,114,103,101,116,32] n++[101,120,112,114,32,101,120,112,114,42])=(Gs n).map λx=>Cg x.1 x.2
 |0=>Z
 |n+1=>by
  have b:=Ch n;have a:Lib.fields (A0 [116,97,114,103,101,116,32] (n+1)++[101,120,112,114,32,101,120,112,114,42])=[116,97,114,103,101,116]::Lib.fields (A0 [116,97,114,103,101,116,32] n++[101,120,112,114,32,101,120,112,114,42]):=by
   rw[A0];rfl
  rw[a,b];rfl
def acD(n:Nat):∀(j:Nat) b,(setB n).data.toList[j]?=Q b->b.toNat<128:=by
 rw[Bo];have c:∀(a:List UInt8),(a.all λb=>decide (b.toNat<128))=B7->∀b∈a,b.toNat<128:=λa d b hb=>by simpa using List.all_eq_true.1 d b hb
 have e:∀n,∀b∈A0 [116,97,114,103,101,116,32] n,b.toNat<128:=by
  intro n
  induction n with
  |zero=>intro b hb;simp[A0]at hb
  |succ n f=>
   intro b hb;rw[A0]at hb;rcases List.mem_append.1 hb with hb|hb
   .exact c _ Z b hb
   .exact f b hb
 intro j b hb;rcases List.mem_append.1 (da hb) with h|h
 .exact e n b h
 .exact c _ Z b h
def ags(n:Nat):(setB n).size=7*n+10:=by
 have a:=congrArg List.length (Bo n);rw[aB,Lib.repeatL_length]at a;simp at a;omega
def amx(n:Nat):∀x∈Gs n,x.1<10/\x.2<3:=by
 intro x hx;unfold Gs at hx;rcases List.mem_append.1 hx with hx|hx
 .rw[(List.mem_replicate.1 hx).2];decide
 .simp at hx;rcases hx with rfl|rfl<;>decide
def aaG(w:B6)(b:Nat)(nk s u t v:Int)(n:Nat)(hn:n<=200)(vk:A9)(ks:List Int)(h:lE w vk ks)(o:ks.length<=1048576)(q:∀W,Below w.heap.size w W->D3 A2 W "strings.asciiSpace" .u8 Ck)
  (g:w.heap[b]?=Q (B4 #[X Y nk,X Y s,X Y u,X Y t,X Y v,vk,X Y (n:Int)] 158 (0,0))):
  B5 A2 141 #[Ax 156 (A3 (Q ⟨b,0,V⟩))] w λe x=>e= A6 (B1 (gE (Gs n) ks))/\Below w.heap.size w x:=by
 have E:=λw=>asT b w 156 Z;have i:=ab9 n w hn;have a:=λW (f:Below w.heap.size w W)=>yk W (setB n) (Gs n) vk ks (by rw[Bo];exact Ch n) (amx n) (by rw[ags];omega) (acD n) (q W f) (h.below f) o (by unfold Gs;rw[aB,List.length_replicate];simp;omega);obtain⟨k,l,rfl⟩:=h.form;have d:w.cell? ⟨b,5,V⟩=Q (A5 k ks.length l):=by rw[au _ _ _ _ _ _ g];rfl
 have C:w.cell? ⟨b,6,V⟩=Q (X Y (n:Int)):=by rw[au _ _ _ _ _ _ g];rfl
 have p:((⟨(A0 [116,97,114,103,101,116,32] n).toArray⟩:Bz)).size=7*n:=by
  have e:((⟨(A0 [116,97,114,103,101,116,32] n).toArray⟩:Bz)).size=(A0 [116,97,114,103,101,116,32] n).length:=by simp[ByteArray.size]
  rw[e,Lib.repeatL_length];simp;omega
 unfold setB at a;generalize gE (Gs n) ks=A at a⊢;generalize ks.length=z at a d;generalize (⟨(A0 [116,97,114,103,101,116,32] n).toArray⟩:Bz)=B at a i p;have j:=aj d;go_in;go_wp21
 refine i.mono ?_;rintro e y ⟨rfl,c⟩;have d:=aq c j.out;have r:=a y c;go_wp21
 refine r.mono ?_;rintro e F ⟨rfl,m⟩;go_wp21
 go_ret;exact⟨rfl,c.trans (m.mono c.size)⟩
def asS(k:Int)(h:fH k≠1)(b:Nat)(w:B6):(Instr.typeAssert (Ax (rL (fH k)) (A3 (Q ⟨b,0,V⟩))) 54 156 B7).run A2 w= .ok (B3 #[A3 V,B1 Br]) w:=by
 have a:=h;rcases Ff k with g|g|g|g|g|g|g<;>rw[g]at a⊢;all_goals first|exact absurd rfl a|exact asF b w _ _ Z Z Z
def rkB(k:Int)(ks:List Int):Bool:=match acC k with|some a=>gE a ks|none=>Br
def aaH(w:B6)(b:Nat)(k:Int)(r:fH k≠1)(vk:A9)(ks:List Int)(h:lE w vk ks)(s:ks.length<=1048576)(t:D3 A2 w "strings.asciiSpace" .u8 Ck)
  (B:w.cell? ⟨b,0,V⟩=Q (X Y k)) (n:w.cell? ⟨b,5,V⟩=Q vk):
  B5 A2 141 #[ig k b] w λe v=>e= A6 (B1 (rkB k ks))/\Below w.heap.size w v:=by
 have g:=λw=>asS k r b w;have j:=λw=>Fg k b w;have l:=λw=>jf b w;have a:=λw=>aaF k w;unfold ig rkB;by_cases i:k∈oe
 .obtain⟨m,c,f,o,E,p,F⟩:=aaE k i;have d:=yk w (xI k) m vk ks f o O p t h s O;rw[c]at a⊢;simp only[Option.isSome_some]at a⊢;obtain⟨A,C,rfl⟩:=h.form;generalize ks.length=x at d n;generalize gE m ks=y at d⊢;generalize xI k=z at d a;generalize rL (fH k)=u at g j⊢;go_in;go_wp2_with (first|(go_at_call 308;refine eE (l _) ?_)|(go_at_call 206;refine eE (a _) ?_)|(go_at_call 205;refine d.mono ?_;rintro e G ⟨rfl,q⟩));go_ret;exact⟨rfl,q⟩
 .obtain⟨c,f⟩:=JI k i;rw[c,f]at a;rw[c];simp only[Option.isSome_none]at a⊢;generalize rL (fH k)=u at g j⊢;go_in;go_wp2_with (first|(go_at_call 308;refine eE (l _) ?_)|(go_at_call 206;refine eE (a _) ?_));go_ret;exact⟨rfl,ai _ _⟩
