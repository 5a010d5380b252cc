import Derived.Test.YthkcmkmkapijkaaGreatDoorh12
import Derived.Laws.Cover2
import Derived.Test.YthkcmkmkapijkaaGreatDoorh13
import Derived.Test.YthkcmkmkapijkaaGreatDoorh28
import Derived.Test.YthkcmkmkapijkaaGreatDoorh35
import Derived.Test.YthkcmkmkapijkaaGreatDoorh16
set_option linter.all false
set_option maxRecDepth 100000
set_option maxHeartbeats 6400000
open Go.Proofs.Tryz
open List renaming length->M,set->Br,range->F2
open Go.World renaming putObj_heap_other->N,news_of_block->C2,setCell->Fs
open Option renaming some->T,none->D1
open Go renaming World->V,undef->Y,Calls->B0,Value->B2,KeepsFrom->B5,TypeId->E0,ownsRow_succ->E1,grownBy_putObj'->E3,wpAnyH_ready->F0
open Go.Proofs.Tryz renaming prog->X
open Go.Obj renaming cells->Ax
open Go.RowKit renaming Below->A0,intOf->B7,Hid->B9
open Go.Ending renaming returned->A1
open Bool renaming false->A2,true->A3
open Go.Value renaming bool->A5,slice->A9,string->B3,ownBlock->B4,agg->D2,tuple->E2,slice->F1
open Go.Calls renaming quiet_of_same->B1
open Go.Fence renaming wide->B6
namespace Go.Proofs.YthkcmkmkapijkaaGreatDoor
open Go.RowKit
variable{B b base gb k m mb mg n p:Nat}{I1:Nat->Int->World->Prop}{W W' w:World}{a l l2 t:Int}{c:zLN}{fr:Nat×Nat}{r:Loop}{s:Bz}{stk:zLI}{v vs:Value}
def arC:(X.info? 115).map (λi=>(i.zero,i.size,i.bytes))=T (T<|zU 0,1,1):=J
def cSy(a:zLI):zLV:=a.reverse.map zU
def ad4(a)(b:zLI):cSy (a::b)=cSy b++[zU a]:=by simp[cSy]
def abk(a):M (cSy a)=M a:=by simp[cSy]
structure GAt (W:V) (base gb:Nat) (mv:B2) (st:zLI):Prop where
 ex:∃v,W.heap[gb]?=T (.cells #[mv,v] 113 (0,0))/\W.ownsRow base 115 1 v (M st) (cSy st)
 lo:base<=gb
def GAt.below{mv c}(h:GAt W base gb mv c)(b:A0 W.heap.size W W'):GAt W' base gb mv c:=by
 have⟨e,a,d⟩:=h.ex;exact⟨⟨e,(b.block _<|ai a).trans a,cj d b⟩,h.lo⟩
structure Gp (gb:Nat) (w w':V):Prop where
 os:w'.os=w.os
 tape:w'.tape=w.tape
 output:w'.output=w.output
 size:w.heap.size<=w'.heap.size
 block:∀k,k<w.heap.size->k≠gb->(∀cs fr,w.heap[k]?≠T (.cells cs 115 fr))->w'.heap[k]?=w.heap[k]?
theorem Gp.trans{x e z}(h:Gp gb x e)(k:Gp gb e z):Gp gb x z:=
 ⟨k.os.trans h.os,k.tape.trans h.tape,k.output.trans h.output,bK h.size k.size,λc a b d=>
  (k.block c (jm a h.size) b (λ_ _=>by rw[h.block c a b d];grind)).trans (h.block c a b d)⟩
def Gp.of_below{a}(h:A0 w.heap.size w a):Gp gb w a:=⟨h.os,h.tape,h.output,h.size,λc b _ _=>h.block c b⟩
theorem GAt.put{mv i}(f:W.heap[gb]?=T (Ax #[mv,i] 113 (0,0)))(h:base<=gb){c:zLI}(b:W.ownsRow base 115 1 v (M c) (cSy c)):GAt (W.setCell (aj gb 1) v) base gb mv c:=by
 refine⟨⟨v,aD _ gb 1 _ _ _ f,?_⟩,h⟩;refine b.kept (row:=T gb) ⟨R,R,R,byS,λ_ _ g=>jg (λa=>g (by rw[a]))⟩ ?_;obtain⟨_,rfl⟩|⟨d,_,rfl⟩:=aC b
 .exact .inl R
 .refine .inr ?_;intro a;obtain rfl:d=gb:=by simpa [B4] using a
  obtain⟨e,_⟩|⟨_,_,_,e,_,_,_⟩:=b.2;all_goals grind
theorem El(w c b mv q a)(h:GAt w c b mv q)(K:M q<=100000000):
  B0 X 47 #[be b 1,zU a] w λe d=>e=A1 (E2 #[])/\GAt d c b mv (a::q)/\Gp b w d/\A0 c w d:=by
 have⟨_,t,k⟩:=h.ex;have z:=h.lo;have⟨i,A⟩:=aw<|M q;rw[A]at k K;obtain⟨n,o,rfl⟩:=aF k;have⟨ak,al,am,an,ao⟩:=dw arC;have L:=ai t;have ap:w.cell? (aj b 1)=T (A9 n i o):=crV t;have B:∀g,(F1 n i o).ownBlock=T g->g≠b/\c<=g:=λg j=>by
  refine⟨?_,(k.lt g j).1⟩;rintro rfl;obtain⟨d,_⟩|⟨s,F,G,d,_,H,_⟩:=k.2
  .rw[d]at j;simp[B4]at j
  .rw[d]at j;obtain rfl:s=g:=by simpa [B4] using j
   grind
 have m:=jG k t A;go_in;go_wp2_with (at_builtin;apply nJ _ R _ _ _ R c 115 ak _ 1 1 underlying109 al am an ao R Z _ _ _ R (m.1.alloc _) _ 1 1 [.int _ a] rfl R (C2 (cs:=#[.int _ a])<|au w _) (by intro _ E;simp at E;subst E;rfl) byM O lr;intro _ r C f _;obtain⟨y,x,rfl⟩:=E1 C;have u:=(f.block b lr (λe=>(B b e.symm).1 R)).trans<|(alO L).trans m.2.1;have a1:r.cell? (aj b 1)=T (A9 n i o):=(crV u);have ar:r.frozen? (aj b 1)=A2:=frR u);have af:=f.size;rw[dC]at af;have a0:=GAt.put u z (by rw[dD,m.out.2.2,ad4];exact C);have ax:Gp b w (r.setCell (aj b 1)<|bI y (i+1) x):=by
  refine⟨f.os,f.tape,f.output,by simp[Fs];omega,λl v ad _=>?_⟩;rw[jg ad];refine(f.block l lr (λe=>?_)).trans<|alO v;have p:(F1 n i o).ownBlock=T l:=e.symm;obtain⟨d,_⟩|⟨s,F,G,d,_,H,_⟩:=m.1.2
  .rw[d]at p;simp[B4]at p
  .rw[d]at p;obtain rfl:s=l:=by simpa [B4] using p
   grind
 have p:A0 c w (r.setCell (aj b 1)<|bI y (i+1) x):=by
  have d:A0 c w (w.alloc<|Ax #[zU a] 115):=(ay _ w).alloc O _;exact(d.grown f lr (λl v=>(B l v).2)).setCell z _
 go_end0
 grind
theorem ad5(w g b mv)(f:zLI)(a)(h:GAt w g b mv (a::f))(o:M f<=100000000):
  B0 X 150 #[be b 1] w λe c=>e=A1 (zU a)/\GAt c g b mv f/\Gp b w c/\A0 g w c:=by
 have⟨_,i,d⟩:=h.ex;have l:=h.lo;have⟨j,c⟩:=aw<|M f;rw[dD,ad4,c]at d;rw[c]at o;obtain⟨k,n,rfl⟩:=E1 d;have hcut:=agC (by rw[abk,c,zm]) d;have t:=agD d;have q:w.cell? (aj b 1)=T (bI k (j+1) n):=crV i;have r:w.cell? (aj k j)=T (zU a):=by
  rw[d.cellAt j O,jI (by rw[abk];omega),abk,c,iI];rfl
 have s:w.frozen? (aj b 1)=A2:=frR i;have m:=ah<|GAt.put i l (by rw[c];omega);go_in;go_wp21
 go_ret;refine⟨R,m,⟨R,R,R,byS,λ_ _ p _=>jg p⟩,(ay _ w).setCell l _⟩
open Go.Maps Go.WideMaps
structure RI (W:V) (base mb:Nat):Prop where
 ex:∃(D:DataW B2) (f:Int->B2) (n:Nat),W.ownsMap X 115 EJ mb n D/\∀a,0<=a->a<=255->D.atKey (.int .u8 a) (.held<|.slice D1 0 0)= .held (f a)/\jC W base (f a) (mj a)
theorem RM.ri{R1}(h:RM W base mb n R1)(d:∀a,0<=a->a<=255->Fq R1 a=mj a):RI W base mb:=by
 have⟨D,b,c,_,_⟩:=h.ex;exact⟨D,b,n,c,λa _ _=>U⟩
theorem RI.same(h:RI W base mb)(n:∀a c,W.heap[mb]?=T (.map a c)->W'.heap[mb]?=T (.map a c))(o:∀(g:Nat) (cs:zAV) (fr),W.heap[g]?=T (Ax cs 200 fr)->W'.heap[g]?=T (Ax cs 200 fr)):RI W' base mb:=by
 have⟨D,m,p,⟨a,c,k,l⟩,f⟩:=h.ex;refine⟨D,m,p,⟨a,c,n _ _ k,l⟩,λb d e=>⟨(f b d e).1,?_⟩⟩;have:=(f b d e).2;refine⟨this.1,?_⟩;obtain h|⟨g,i,j,q,r,s,t⟩:=this.2
 .grind
 .exact .inr ⟨g,i,j,q,r,o _ _ _ s,t⟩
def RI.below(h:RI W base mb)(b:A0 W.heap.size W W'):RI W' base mb:=
 h.same (λ_ _ a=>(b.block _<|aH a).trans a) (λ_ _ _ a=>(b.block _<|aH a).trans a)
theorem RI.gp{cs:zAV}(h:RI W base mb)(d:W.heap[gb]?=T (Ax cs 113 fr))(b:Gp gb W W'):RI W' base mb:=
 h.same (λ_ _ a=>(b.block _ (aH a) U (λcs fr c=>U)).trans a)
  (λ_ cs fr a=>(b.block _ (aH a) U (λcs fr c=>U)).trans a)
theorem ad6(c:0<=a)(d:a<=255):∀R1,((F2 256).all λa=>decide (Fq R1 (a:Int)=mj (a:Int)))=A3->Fq R1 a=mj a:=by
 intro R1 b;have:=fH.1 b a.toNat U;grind
def abl(w h fr)(f:w.heap[3]?=T (Ax Fg h fr)):
  B0 X 46 #[] w λe a=>e=A1 (.map<|T w.heap.size)/\RI a w.heap.size w.heap.size/\A0 w.heap.size w a:=by
 have g:=aH f;have o:∀w:V,(Instr.makeMap 107<|T<|zU 34).run X w= .ok (.map<|T w.heap.size) (w.alloc<|.map #[] 0):=λw=>by rfl
 have i:RM (w.alloc<|.map #[] 0) w.heap.size w.heap.size 0 []:=⟨⟨_,_,World.ownsMap_made _ _ _ _,λa _ _=>⟨R,⟨R,.inl ⟨R,R⟩⟩⟩,λa _ _ _ _ _ _=> .inl R⟩,O⟩;have b:A0 w.heap.size w (w.alloc<|.map #[] 0):=blR.alloc O _;have m:=ah f;go_in;go_wp2_with (first
  |(go_at_call 138;apply(adj _ _ _ 0 _ i O).mono;rintro e _ ⟨rfl,j,c⟩)
  |(go_at_call 139;apply(adh _ _ _ _ _ j O).mono;rintro e _ ⟨rfl,k,d⟩)
  |(go_at_call 140;apply(adi _ _ _ _ _ k O h fr ((((b.trans c).trans d).block _ g).trans m) g).mono;rintro e _ ⟨rfl,l,n⟩))
 go_ret;exact⟨R,l.ri (λa j k=>ad6 j k _ byR),((b.trans c).trans d).trans n⟩
def abm(w h fr)(p:w.heap[3]?=T (Ax Fg h fr)):
  B0 X 18 #[] w λe a=>∃gb,e=A1 (be gb 0)/\GAt a w.heap.size gb (.map<|T w.heap.size) [100,6]/\RI a w.heap.size w.heap.size/\A0 w.heap.size w a:=by
 go_in;go_wp21
 apply(abl w h fr p).mono;rintro e w1 ⟨rfl,j,f⟩;have g:=f.size;have b:GAt (w1.alloc<|Ax #[.map<|T w.heap.size,fe] 113 (0,0)) w.heap.size w1.heap.size (.map<|T w.heap.size) []:=⟨⟨_,au w1 _,⟨R,.inl ⟨R,R⟩⟩⟩,g⟩;have a:=f.alloc g<|Ax #[.map<|T w.heap.size,fe] 113 (0,0);have d:=fs (j.below<|(ay _ w1).alloc O<|Ax #[.map<|T w.heap.size,fe] 113 (0,0)) a;go_wp21
 apply(El _ _ _ _ _ 6 b Z).mono;rintro e _ ⟨rfl,c,k,a⟩;go_wp21
 apply(El _ _ _ _ _ _ c Z).mono;rintro e _ ⟨rfl,i,l,o⟩;go_wp21
 go_ret;have⟨_,m,_⟩:=b.ex;have⟨_,n,_⟩:=c.ex;exact⟨_,R,i,(d.1.gp m k).gp n l,(d.2.trans a).trans o⟩
structure GB (W:V) (base gb mb:Nat):Prop where
 c:W.cell? (aj gb 0)=T (.map<|T mb)
 r:RI W base mb
def GB.below(h:GB W base gb mb)(a:A0 W.heap.size W W'):GB W' base gb mb:=⟨ag a h.c,h.r.below a⟩
def dp(a:Int):Nat:=ite (a<100) 0<|ite (a=100) 3<|ite (a=102) 2<|ite (a=110\/a=111) 4<|ite (a=114) 2<|ite (a=117) 3<|ite (a=118) 2<|ite (a=122) 5<|ite (a=124) 4 1
def hdN(f:Nat)(t:Int)(r:zLI):Bool:=EI f (r.getD 0 0) t
def En(L:zLL)(d:Nat):Bool:=decide (M L<=30)&&L.all λr=>decide (M r<=6)&&r.all (λa=>decide (1<=a/\a<=133))&&decide (dp (r.getD 0 0)+1<=d)
def ad7:((F2 256).all λa=>En (mj (a:Int))<|dp (a:Int))=A3:=by decide+kernel
theorem Gw(b:0<=a)(c:a<=255):En (mj a) (dp a)=A3:=by
 have:=fH.1 ad7 a.toNat U;grind
theorem atc(a:1<=t)(f r):hdN (f+1) t r=(match r with|[]=>A2|h::_=>EI (f+1) h t):=by
 cases r with
 |nil=>
  show EI (f+1) 0 t=A2;rw[EI,ifp];grind|cons h b=>rfl
theorem aii{r:zLI}(h:M r<=6):rc r=[zU<|r.getD 0 0,zU<|r.getD 1 0,zU<|r.getD 2 0,zU<|r.getD 3 0,zU<|r.getD 4 0,zU<|r.getD 5 0]:=by
 match r,h with
 |[],_=>rfl|[_],_=>rfl|[_,_],_=>rfl|[_,_,_],_=>rfl|[_,_,_,_],_=>rfl|[_,_,_,_,_],_=>rfl|[_,_,_,_,_,_],_=>rfl|_::_::_::_::_::_::_::_,h=>grind
theorem jC.cell{g c L}(h:jC W base (bI g n c) L)(j:∀r∈L,M r<=6){r}(e:L[k]?=T r){i}(l:i<6):
  W.cell? (aj g<|k*6+i)=T (zU<|r.getD i 0):=by
 have m:=(dr.1 e).1;have d:n=M L:=by
  obtain⟨h,_⟩|⟨_,_,_,h,_⟩:=h.2;all_goals grind
 subst d;rw[World.ownsRow.cellAt h _ O];have q:∀(L:zLL),(∀r∈L,M r<=6)->∀k r,L[k]?=T r->(wD L)[k*6+i]?=T (zU<|r.getD i 0):=by
  intro L
  induction L with
  |nil=>grind|cons a L p=>
   intro h k r b;have f:=h a I;rw[show wD (a::L)=rc a++wD L from rfl];have o:M (rc a)=6:=by simp[rc];omega
   cases k with
   |zero=>
    simp at b;subst b;rw[nH O,aii f];obtain rfl|rfl|rfl|rfl|rfl|rfl:=(O:i=0\/i=1\/i=2\/i=3\/i=4\/i=5)<;>rfl
   |succ k=>
    grind
 grind
def aj9(W:V)(b:Nat)(x0 a c d e f:Int):V:=((((((W.setCell (aj b 0)<|zU x0).setCell ⟨b,1,D1⟩<|zU a).setCell ⟨b,2,D1⟩<|zU c).setCell ⟨b,3,D1⟩<|zU d).setCell ⟨b,4,D1⟩<|zU e).setCell ⟨b,5,D1⟩<|zU f)
def ad8{t l m n o p q}(h:W.heap[b]?=T (Ax #[zU l,zU m,zU n,zU o,zU p,zU q] t (0,0)))(x0 c d e f g):(aj9 W b x0 c d e f g).heap[b]?=T (Ax #[zU x0,zU c,zU d,zU e,zU f,zU g] t (0,0)):=by
 have a:=λi j {W k}=>aD W b i k t<|zU j;simpa [aj9] using a 5 g (a 4 f<|a 3 e<|a 2 d<|a 1 c<|a 0 x0 h)
def I5(h:A0 base w W)(a:base<=b)(x0 c d e f g):A0 base w (aj9 W b x0 c d e f g):=by
 unfold aj9
 iterate 6 refine gE ?_ a _
 exact h
def aij{fn}{p u:Tmp}(h:fn.results=#[.cell p 200,.tmp u])(tmps:zAV)(w g x0 a c d e f b)(j:tmps.getD p Y=be g 0)(k:tmps.getD u Y=A5 b)
  (i:w.heap[g]?=T (Ax #[zU x0,zU a,zU c,zU d,zU e,zU f] 200 (0,0))):(results fn tmps).run X w= .ok (E2 #[D2 #[zU x0,zU a,zU c,zU d,zU e,zU f],A5 b]) w:=by
 rw[results_cell_tmp h,j];simp only[asAddr,Sem.run_pure,FI];rw[FL w g _ _ _ _ _ i underlying200 R J,FI,k]
def aik(n:Nat):Prop:=∀(w:V)(base gb mb:Nat)(a t:Int),GB w base gb mb->0<=a->a<=133->dp a<=n->1<=t->t<=78->
 B0 X 145 #[be gb 0,zU a,zU t] w λb c=>b=A1 (A5<|EI (n+1) a t)/\A0 w.heap.size w c
def rwN(f:Nat)(L:zLL)(t:Int):zLI:=(L.find?<|hdN f t).getD []
structure I7 (f:Nat) (t:Int) (L:zLL) (k:Nat) (r:zLI) (b:Bool):Prop where
 fd:rwN f (L.drop k) t=r
 an:(L.drop k).any (hdN f t)=b
theorem I8(n)(bw:aik n)(w ax K mb a t)(af:GB w ax K mb)(G:0<=a)(cm:a<=133)(cp:dp a<=n+1)(b8:1<=t)(b9:t<=78)(v s)(bs:I7 (n+1) t (mj a) 0 v s):
  B0 X 151 #[be K 0,zU a,zU t] w λe b=>e=A1 (E2 #[D2 (rc v).toArray,A5 s])/\A0 w.heap.size w b:=by
 have⟨D,_,_,a2,bo⟩:=af.r.ex;have⟨a4,f⟩:=bo a G O;have E:=Gw G O;generalize mj a=g at *;unfold En at E;rw[dF,fH]at E;have bt:=aL E.1;have j:∀b∈g,M b<=6:=λb d=>U;have bE:∀b∈g,dp (b.getD 0 0)<=n:=λb d=>U;have bF:∀b∈g,0<=b.getD 0 0/\b.getD 0 0<=133:=λb d=>by
  have:=E.2 b d;simp only[dF,fH]at this;cases b with
  |nil=>simp|cons c b=>grind
 have⟨B,a8⟩:=aw<|M g;have am:=f;unfold jC at am;rw[a8]at am bt;have⟨bj,_,bz⟩:=aF am;rw[bz]at a4 f;have bk:=af.c;have bA:=a2.lt;have cn:=λo=>ag (al1 (o:=o) R).2.1 bk;have F:=Cg af f a8 bs;go_in;go_wp2_with (at_lookup;refine uo R _ _ R R a2 ?blk a G O R a4 ?_)
 .exact alO bA
 go_loopw [17] (λi wr=>∃c:Nat,c<=B/\i=zI c/\I7 (n+1) t g c v s/\A0 w.heap.size w wr/\wr.heap[w.heap.size]?=T (Ax #[zU 0,zU 0,zU 0,zU 0,zU 0,zU 0] 200 (0,0))) (λi _=>B-(B7 i).toNat)
 .exact⟨0,O,R,F.2.2.2,(al1 R).2.1,(al1 R).1⟩
 .
  obtain⟨c,_,rfl,u,y,A⟩:=hrel;by_cases cs:c<B
  .obtain⟨b,d⟩:∃b,g[c]?=T b:=⟨_,bm O⟩;have al:=db d;have f:=F.2.1.keep y;obtain⟨H,rfl⟩:∃H,bj=T (aj H 0):=by
    obtain⟨h,_⟩|⟨H,k,h⟩:=aC f;all_goals grind
   have bf:=f.cell j d (i:=0) Z;have b3:=f.cell j d (i:=1) Z;have b4:=f.cell j d (i:=2) Z;have b5:=f.cell j d (i:=3) Z;have b6:=f.cell j d (i:=4) Z;have b7:=f.cell j d (i:=5) Z;have⟨h,ao⟩:=aw<|b.getD 0 0;have⟨k,a9⟩:=aw<|b.getD 1 0;have⟨l,ba⟩:=aw<|b.getD 2 0;have⟨m,bb⟩:=aw<|b.getD 3 0;have⟨p,bc⟩:=aw<|b.getD 4 0;have⟨q,bd⟩:=aw<|b.getD 5 0;rw[ao]at bf;rw[a9]at b3;rw[ba]at b4;rw[bb]at b5;rw[bc]at b6;rw[bd]at b7;rw[jy]at bf;have⟨a5,a6⟩:=bF b al;have a7:=bE b al;rw[ao]at a5 a6 a7;have cr:(c:Int)<(B:Int):=O;have cq:(0:Int)<=(c:Int):=O;have ar:=ay0 d al ao a9 ba bb bc bd;have a3:=y.alloc y.size<|Ax #[zU h,zU k,zU l,zU m,zU p,zU q] 200 (0,0);have b2:=bw _ ax K mb h t (F.1.below a3) a5 a6 a7 b8 b9;go_wp2_with fail;apply b2.mono;rintro e ca ⟨rfl,L⟩;have ct:=y.size;have b1:=aH A;have bx:=(L.block _ I).trans<|au wr _;have ap:=((L.block _ lr).trans<|alO b1).trans A;have br:=a3.trans<|L.mono lr;have C:g.drop c=b::g.drop (c+1):=by
    have⟨x,r⟩:=dr.1 ar.1;rw[my x,r]
   have z:hdN (n+1) t b=EI (n+1) h t:=by unfold hdN;grind
   have bD:rc b=[zU h,zU k,zU l,zU m,zU p,zU q]:=by
    have⟨_,r,x,ad,ak,bh,bl,bn⟩:=ar.out;rw[aii<|j b r,x,ad,ak,bh,bl,bn]
   cases hbv:EI (n+1) h t with
   |true=>
    have r:B9 (v=b/\s=A3):=by
     rw[hbv]at z;refine⟨?_,?_⟩
     .rw[<-u.fd,C];unfold rwN;grind
     .rw[<-u.an,C,List.any_cons,z];rfl
    have ak:=ad8 ap h k l m p q;have ad:=I5 br eE h k l m p q;have⟨_,_,_,_,_,_⟩:=jb bx;have⟨z0,cf,cg,ch,ck,cl⟩:=jb ap;have⟨bl,bn,cb,cc,cd,ce⟩:=sf ap;have x:=fs ak ad;have bh:B9 (hdN (n+1) t b=A3/\rc b=[zU h,zU k,zU l,zU m,zU p,zU q]):=⟨z.trans hbv,bD⟩;go_wp2_with fail;try rw[BJ]
    change bodyPost _ _ _ _ _ (aj9 ca w.heap.size h k l m p q)
    refine aA (aij R _ _ _ h k l m p q A3 R R x.1) R ⟨?_,x.2⟩;rw[r.out.1,r.out.2,bh.out.2]|false=>
    have r:I7 (n+1) t g (c+1) v s:=by
     rw[hbv]at z;refine⟨?_,?_⟩
     .rw[<-u.fd,C];unfold rwN;grind
     .rw[<-u.an,C,List.any_cons,z];rfl
    go_wp2;go_roundw
    .grind
    simp[B7];omega
  .obtain rfl:c=B:=O;have r:B9 (v=[]/\s=A2):=by
    have h:g.drop c=[]:=lG O;refine⟨?_,?_⟩
    .rw[<-u.fd,h];rfl
    .rw[<-u.an,h];rfl
   have ak:=ad8 A 0 0 0 0 0 0;have ad:=I5 y eE 0 0 0 0 0 0;have⟨z0,cf,cg,ch,ck,cl⟩:=jb A;have⟨bl,bn,cb,cc,cd,ce⟩:=sf A;have x:=fs ak ad;go_wp2_with fail;try rw[BJ]
   change bodyPost _ _ _ _ _ (aj9 wr w.heap.size 0 0 0 0 0 0)
   refine aA (aij R _ _ _ 0 0 0 0 0 0 A2 R R x.1) R ⟨?_,x.2⟩;rw[r.out.1,r.out.2];rfl
def avC(a:1<=t)(f)(L:zLL):L.any (hdN (f+1) t)=L.any (λr=>match r with|[]=>A2|h::_=>EI (f+1) h t):=by
 congr 1
 funext r
 exact atc a f r
theorem E8(n)(r:n=0\/∃m,n=m+1/\aik m):aik n:=by
 intro x o p v a c q h l _ k w;by_cases j:a<100
 .have f:EI (n+1) a c=decide (a=c):=by rw[EI,ae j]
  rw[f];have b:(a==c)=decide (a=c):=U;have⟨_,d⟩:=aw<|decide (a=c);rw[d]at b⊢;go_in;go_wp21
  go_ret;exact⟨R,blR⟩
 .have y:1<=dp a:=by unfold dp;grind
  obtain⟨m,rfl,s⟩:=r.resolve_left O;obtain⟨b,e,g⟩:∃b e,I7 (m+1) c (mj a) 0 b e:=⟨_,_,⟨R,R⟩⟩;have f:EI (m+1+1) a c=e:=by
   rw[EI,aa j];apply(avC k m _).symm.trans;rw[<-g.an];rfl
  rw[f];have d:=I8 m s x o p v a c q h l O k w b e g;have u:M b<=6:=by
   have t:=Gw h O;rw[En,dF,fH]at t;have i:=g.fd;unfold rwN at i;cases hf:List.find? (hdN (m+1) c) (List.drop 0<|mj a) with
   |none=>grind|some z=>
    grind
  rw[aii u]at d;generalize b.getD 0 0=t at d;generalize b.getD 1 0=z at d;generalize b.getD 2 0=A at d;generalize b.getD 3 0=B at d;generalize b.getD 4 0=C at d;generalize b.getD 5 0=E at d;go_in;go_wp2_with (go_at_call 151;apply d.mono;rintro f _ ⟨rfl,i⟩);go_ret;exact⟨R,i.alloc i.size _⟩
def Bl:∀n,aik n|0=>E8 0<|.inl R|n+1=>E8 (n+1)<|.inr ⟨n,R,Bl n⟩
attribute [local go_sem] oJ
def avD(w):(Op.equalIn 10000 200 (D2 #[zU 0,zU 0,zU 0,zU 0,zU 0,zU 0])<|D2 #[zU 0,zU 0,zU 0,zU 0,zU 0,zU 0]).run X w= .ok A3 w:=J
theorem avE{x0}(h:x0≠0)(a b c d e w):(Op.equalIn 10000 200 (.agg #[zU 0,zU 0,zU 0,zU 0,zU 0,zU 0])<|.agg #[zU x0,zU a,zU b,zU c,zU d,zU e]).run X w= .ok A2 w:=by
 have f:(0==x0)=A2:=U;rw[show(10000:Nat)=9999+1 from rfl,Op.equalIn];simp only[zl,run_underlying underlying200,FI];simp only[Std.Legacy.Range.forIn_eq_forIn_range',Std.Legacy.Range.size,List.range'_succ,List.range'_zero,List.forIn_cons,List.forIn_nil];go_simp
def ad9{a}(h:A0 B a w)(n):A0 B a (w.drewN n):=⟨h.os,h.tape,h.output,h.size,h.block⟩
structure abn (L:zLL) (k:Nat) (b:Bool):Prop where
 out:(L.drop k).contains []=b
theorem aka(w C v L c)(b:jC w C v L)(G:M L<=30)(f:∀r∈L,M r<=6)(K:∀r∈L,r≠[]->1<=r.getD 0 0)(F:abn L 0 c):
  B0 X 300 #[v,D2 #[zU 0,zU 0,zU 0,zU 0,zU 0,zU 0]] w λe a=>(∃z,e=A1 (zI z)/\decide (0<=z)=c)/\A0 w.heap.size w a:=by
 have⟨h,q⟩:=aw<|M L;have m:=b;unfold jC at m;rw[q]at m G;obtain⟨B,_,rfl⟩:=aF m;have o:=jG b q F;go_in;go_wp2;go_loopw [8] (λi wr=>∃a:Nat,a<=h/\i=zI a/\abn L a c/\A0 w.heap.size w wr/\wr.heap[w.heap.size]?=T (Ax #[zU 0,zU 0,zU 0,zU 0,zU 0,zU 0] 200 (0,0))) (λi _=>h-(B7 i).toNat)
 .exact⟨0,O,R,o.2.2,(al1 R).2.1,(al1 R).1⟩
 .
  obtain⟨a,_,rfl,l,j,s⟩:=hrel;by_cases ap:a<h
  .obtain⟨r,d⟩:∃r,L[a]?=T r:=⟨_,bm O⟩;have b:=o.1.keep j;obtain⟨k,rfl⟩:∃k,B=T (aj k 0):=by
    obtain⟨g,_⟩|⟨k,_,g⟩:=aC b;all_goals grind
   have n:=b.cell f d (i:=0) Z;have t:=b.cell f d (i:=1) Z;have u:=b.cell f d (i:=2) Z;have x:=b.cell f d (i:=3) Z;have y:=b.cell f d (i:=4) Z;have A:=b.cell f d (i:=5) Z;rw[jy]at n;have H:=(Decidable.em _).imp_right<|K r<|db d;have p:L.drop a=r::L.drop (a+1):=by
    have⟨g,E⟩:=dr.1 d;rw[my g,E]
   have⟨_,_,_,_,_,_⟩:=jb s;have ao:(a:Int)<(h:Int):=O;have an:(0:Int)<=(a:Int):=O;obtain rfl|hpos:=H
   .have g:B9 (c=A3):=by
     show c=A3;rw[<-l.out,p];simp
    simp only[List.getD_nil]at n t u x y A;have E:=λw=>avD w;go_wp2_with fail;go_quiet (fail)
    go_wp2_with fail;try rw[BJ]
    go_ret;exact⟨⟨_,R,by rw[g.out];grind⟩,ad9 j nq⟩
   .have g:abn L (a+1) c:=by
     refine⟨?_⟩;rw[<-l.out,p,List.contains_cons];grind
    generalize r.getD 0 0=x0 at n hpos;generalize r.getD 1 0=ad at t;generalize r.getD 2 0=af at u;generalize r.getD 3 0=ak at x;generalize r.getD 4 0=al at y;generalize r.getD 5 0=am at A;have E:=λw=>avE (x0:=x0) O ad af ak al am w;go_wp2_with fail;go_quiet (fail)
    go_wp2;go_roundw
    .exact⟨_,O,by go_num,g,ad9 j nq,s⟩
    simp[B7];omega
  .obtain rfl:a=h:=O;have g:B9 (c=A2):=by
    show c=A2;rw[<-l.out,lG O];rfl
   go_wp2;go_ret;exact⟨⟨_,R,by rw[g.out];rfl⟩,j⟩
theorem abo(w b v L a)(i:jC w b v L)(h:M L<=30)(d:∀r∈L,M r<=6)(j:∀r∈L,r≠[]->1<=r.getD 0 0)(g:abn L 0 a):
  B0 X 241 #[v,D2 #[zU 0,zU 0,zU 0,zU 0,zU 0,zU 0]] w λe c=>e=A1 (A5 a)/\A0 w.heap.size w c:=by
 have c:=(ay w.heap.size w).alloc O<|Ax #[zU 0,zU 0,zU 0,zU 0,zU 0,zU 0] 200 (0,0);go_in;go_wp2_with (go_at_call 300;apply(aka _ b v L a (i.keep c) h d j g).mono;rintro e _ ⟨⟨_,rfl,_⟩,f⟩);go_ret;refine⟨?_,c.trans<|f.mono I⟩
 simp_all
theorem arD(w h i mb a)(j:GB w h i mb)(f:0<=a)(t:a<=133):
  B0 X 146 #[be i 0,zU a] w λe b=>e=A1 (A5<|adf a)/\A0 w.heap.size w b:=by
 have⟨D,_,_,n,o⟩:=j.r.ex;have⟨p,q⟩:=o a f O;have g:=Gw f O;unfold adf;generalize mj a=d at *;rw[En,dF,fH]at g;have r:∀b∈d,b≠[]->1<=b.getD 0 0:=λb l _=>by
  have:=g.2 b l;simp only[dF,fH]at this;cases b with
  |nil=>grind|cons k b=>grind
 have⟨m,k⟩:=aw<|d.contains [];have s:=abo w h _ d m q (aL g.1) (λb l=>U) r ⟨k⟩;rw[k];have u:=j.c;go_in;go_wp2_with (first
  |(at_lookup;apply uo R _ _ R R n R a f O R p)|(go_at_call 241;apply s.mono;rintro e _ ⟨rfl,_⟩))
 go_ret
 simp_all
theorem KH(n l Bs d o)(a:zOA)(f:Nat->B2)(A:d<=100000000)(z:d<=o)(b:Nat->V->Prop)(k:V->Prop)
  (p:∀m W,b m W->W.cell? (aj Bs 0)=T (A9 a d o))
  (w:∀m W,b m W->∀j,j<d->∃g,a=T g/\W.cell? (g.add j)=T (f j))
  (u:∀m W,m<d->b (m+1) W->YieldAt B6 (n-1) X l #[zI (m:Int),f m] W λe W'=>(e=A1 (A5 A3)/\b m W')\/(e=A1 (A5 A2)/\k W'))
  (W) (s:b d W):
  CallsIn B6 n X 240 #[.func (.yield l) #[] #[],be Bs 0] W λe W'=>(∃v,e=A1 v)/\(b 0 W'\/k W'):=by
 have y:=p _ _ s;refine callsIn_of_wp func240 R trivial ?_ R;simp[iC,fh]
 gi_wp2
 gi_loopw [3] (λi wr=>∃c:Nat,c<=d/\i=zI ((c:Int)-1)/\b c wr) (λi _=>(B7 i+1).toNat)
 .grind
 .
  obtain⟨c,_,rfl,h⟩:=hrel;have x:=p _ _ h;obtain rfl|hp:=F7 c
  .gi_wp2
   go_end0
   simp_all
  .obtain⟨m,rfl⟩:∃m,c=m+1:=⟨c-1,O⟩;obtain⟨g,rfl,_⟩:=w _ _ h m O;have⟨_,tmps,_,_,_,t⟩:=u m wr O h;have q:((m+1:Nat):Int)-1=(m:Int):=O;rw[q]
   gi_wp2
   refine⟨λr=>by simp[B6]at r,t.mono ?_⟩;rintro e _ (⟨rfl,_⟩|⟨rfl,_⟩)
   .gi_wp2
    go_roundw
    .grind
    simp[B7]
   .gi_wp2
    apply aA (fE R _ _ _) R
    simp_all
def Ay(a:zOA)(c b w):
  B0 X 144 #[A9 a c b] w λe d=>e=A1 (.func (.func 240) #[] #[be w.heap.size 0])/\d=w.alloc (Ax #[A9 a c b] 109):=by
 apply calls_of_wp func144 R;simp[iC,fh];exact gwS
attribute [local go_sem] oJ
def eu{t}(h:W.heap[b]?=T (Ax #[v] t (0,0))):W.cell? (aj b 0)=T v:=by
 rw[oe h];rfl
def Dn(h:A0 W.heap.size W W'):B5 B W W':=⟨h.size,λb _ _ a _=>(h.block b (mE.1 a).1).trans a⟩
structure yG (w:V) (gb:Nat) (t:Int) (vs:B2) (r:Bool) (W:V):Prop where
 bl:A0 w.heap.size w W
 b0:W.heap[w.heap.size]?=T (.cells #[be gb 0] 54 (0,0))
 b1:W.heap[w.heap.size+1]?=T (.cells #[zI t] 3 (0,0))
 b2:W.heap[w.heap.size+2]?=T (.cells #[.bool r] 4 (0,0))
 b3:W.heap[w.heap.size+3]?=T (.cells #[vs] 109 (0,0))
def yG.below{r}(h:yG w gb t vs r W)(a:A0 W.heap.size W W'):yG w gb t vs r W':=
 ⟨h.bl.trans<|a.mono h.bl.size,(a.block _<|aH h.b0).trans h.b0,(a.block _<|aH h.b1).trans h.b1,(a.block _<|aH h.b2).trans h.b2,(a.block _<|aH h.b3).trans h.b3⟩
theorem yG.put{r}(h:yG w gb t vs r W)(a:w.heap.size+3<k)(o):yG w gb t vs r (W.putObj k o):=
 ⟨h.bl.grown (E3 W k o) h.bl.size (λ_ _=>U),(N O).trans h.b0,(N O).trans h.b1,(N O).trans h.b2,(N O).trans h.b3⟩
theorem yG.set{r}(h:yG w gb t vs r W)(r'):yG w gb t vs r' (W.setCell (aj (w.heap.size+2) 0)<|A5 r'):=
 ⟨h.bl.setCell U _,(jg I).trans h.b0,(jg I).trans h.b1,aD _ _ 0 _ _ _ h.b2,(jg I).trans h.b3⟩
theorem aea{fn}{p:Tmp}(h:fn.results=#[.cell p 4])(tmps:zAV)(w g b)(e:tmps.getD p Y=be g 0)(a:w.heap[g]?=T (Ax #[A5 b] 4 (0,0))):(results fn tmps).run X w= .ok (A5 b) w:=by
 have c:tmps[p]?.getD Y=be g 0:=byS;have d:w.cell? (aj g 0)=T (A5 b):=crV a;simp[results,h,c,asAddr];go_simp
structure abp (st:zLI) (m:Nat) (t:Int) (R1:Bool):Prop where
 out:kJ (st.drop<|M st-m) t=R1
theorem atd(a):dp a<=8:=by
 unfold dp;grind
theorem Do(g j):(⟨g,0,D1⟩:Addr).add j=⟨g,j,D1⟩:=by unfold Addr.add;grind
def FA(a:zLI)(m:Nat):Int:=a.reverse.getD m 0
theorem ail{a:zLI}(d:M a=n)(c:m<n):a.drop (n-(m+1))=FA a m::a.drop (n-m):=by
 have b:n-(m+1)<M a:=O;rw[my b,(O:n-(m+1)+1=n-m)]
 congr 1
 unfold FA;grind
theorem avF{a:zLI}(c:M a=n)(b:m<n):FA a m∈a:=by
 have d:FA a m∈a.drop (n-(m+1)):=by rw[ail c b];simp
 grind
theorem arE{c}{d:zOA}{a}(h:W.ownsRow base 115 1 (A9 d n c) n (cSy a))(g:M a=n)(f:m<n):∃b,d=T b/\W.cell? (b.add m)=T (zU<|FA a m):=by
 obtain⟨_,_⟩|⟨_,_,e⟩:=aC h
 .omega
 .cases e;refine⟨_,R,?_⟩;rw[Do,h.cellAt m O];unfold cSy FA;grind
theorem aoq(w B f mb g t R1)(bt:GAt w B f (.map<|T mb) g)(bx:RI w B mb)(b7:∀a∈g,0<=a/\a<=133)(r:M g<=100000000)(cf:1<=t)(cg:t<=78)(ak:kJ g t=R1):
  B0 X 50 #[be f 0,zI t] w λe ch=>e=A1 (A5 R1)/\A0 w.heap.size w ch:=by
 have⟨cy,ax,am⟩:=bt.ex;have bw:GB w B f mb:=⟨crV ax,bx⟩;have⟨n,a7⟩:=aw<|M g;rw[a7]at am r;obtain⟨i,h,rfl⟩:=aF am;have ao:w.cell? (aj f 1)=T (A9 i n h):=crV ax;have b5:n<=h:=by
  obtain⟨bs,x⟩|⟨cs,cp,cq,bs,_,_,u,_⟩:=am.2;all_goals grind
 have s:=Lx bw am a7 ak b7;have ct:=aH ax;apply mC (n:=5).1;refine callsIn_of_wp_marks func50 R trivial ?_ R;simp[iC,fh];apply lH.2;have cn:=λ(b9 ca cb)=>ag (((((ay _ w).alloc O b9).alloc I ca)).alloc lr cb) ao;go_wp2_with (go_at_call 144;apply(Ay i n h _).mono;rintro e cz ⟨rfl,rfl⟩);rename_i ck a6;generalize bE:(w.alloc _).alloc _=bn;generalize bD:(bn.alloc _).alloc _=a3;have⟨cc,cd,pB,ce⟩:=Eu bE;have⟨bb,bc,a2,bd⟩:=Eu bD;rw[ce]at bb bc bd;have b8:yG w f t (A9 i n h) A2 a3:=⟨pB.trans<|a2.mono O,(a2.block _ O).trans cc,(a2.block _ O).trans cd,bb,bc⟩;have z:a3.heap.size=w.heap.size+4:=bd;apply(lH (n:=5)).1;refine zw (P:=X) (gf:=240) (lb:=#[be (w.heap.size+1+1+1) 0]) R (enters_of func240 byR R)
  (λ(d:Nat)=>#[zI d,zU<|FA g d]) (λ_=>rfl) n
  (λd b=>yG w f t (A9 i n h) A2 b/\abp g d t R1)
  (λd A b=>yG w f t (A9 i n h) A2 b/\abp g (d+1) t R1/\
   A={tmps:=#[be f 0,zI t,be w.heap.size 0,be (w.heap.size+1) 0,be (w.heap.size+1+1) 0,Y,zU<|FA g d,
    be f 0,be f 0,be f 1,be f 1,A9 i n h,.func (.func 240) #[] #[be (w.heap.size+1+1+1) 0],zI (d:Int),zU<|FA g d,
    Y,Y,Y,Y,Y,Y,Y,Y,Y],defers:=[]})
  (λb=>yG w f t (A9 i n h) R1 b)
  ?pZ ?pAx ?pX ?h0 ?assign ?body ?seq ?done ?ret
 .
  rintro d b bf K ⟨c,l⟩ r;rw[z]at r⊢;exact⟨c.put O K,l⟩
 .
  rintro d A b bf K ⟨c,l,rfl⟩ r;rw[z]at r⊢;exact⟨c.put O K,l,R⟩
 .
  intro b bf K c r;rw[z]at r⊢;exact c.put O K
 .
  intro cm b4 cu;exact⟨b8.below b4,⟨byS⟩⟩
 .
  rintro H d b cl a0 ⟨c,l⟩ bz;have q:=fs c l;clear c l
  gi_wp2
  exact bz _ _ ⟨q.1,q.2,R⟩<|KeepsFrom.refl _ _
 .
  rintro H d A b a0 ⟨c,l,rfl⟩;rw[z];have G:=s.2.2.2.2 _<|avF s.2.2.1 a0;have m:=l.out;rw[s.out.2.2.1,ail O a0,kJ]at m;have F:EI 9 (FA g d) t=A2->adf (FA g d)=A3->abp g d t R1:=λa4 j=>by
   rw[aa U,ae j]at m;exact⟨U⟩
  generalize FA g d=v at G m F⊢;have a8:=CallsIn.inRound H<|mC (n:=2).2<|Bl 8 b B f mb v t (s.1.below c.bl) G.1 G.2 (atd v) cf cg;have a9:=λbk p=>CallsIn.inRound H<|mC (n:=2).2<|arD bk B f mb v (s.1.below p) G.1 G.2;have bo:=eu c.b0;have ao:=eu c.b1;have cr:IntKind.u8.wrap t=t:=by rw[ags];omega
  have q:=ah c;clear c l
  gi_wp2_with (refine⟨trivial,?_⟩;gi_at_call 145;fail)
  refine⟨trivial,a8.mono ?_⟩;rintro e L ⟨rfl,ap⟩;have p:=q.below ap;have a1:B5 (w.heap.size+4) b L:=Dn ap;have C:=eu p.b2;have E:L.frozen? (aj (w.heap.size+2) 0)=A2:=frR p.b2;have br:=eu p.b0;have j:w.heap.size+1+1=w.heap.size+2:=rfl;rw[<-j]at C E;clear a8 bo ao ap j;cases hbv:EI 9 v t with
  |true=>
   rw[hbv,ae rfl]at m;have o:B9 (yG w f t (A9 i n h) R1 (L.setCell (aj (w.heap.size+1+1) 0)<|A5 A3)/\B5 (w.heap.size+4) b (L.setCell (aj (w.heap.size+1+1) 0)<|A5 A3)):=⟨by rw[<-m];exact p.set A3,a1.trans<|(KeepsOthers.setCell _ _ _).from _⟩;have al:EI (8+1) v t=A3:=hbv;try rw[al]
   clear m F hbv al a9 p a1 q
   gi_wp2
   exact⟨o.2,o.1⟩|false=>
   have al:EI (8+1) v t=A2:=hbv;rw[hbv,aa I]at m;try rw[al]
   have ba:=a9 L p.bl;have af:=fs p a1
   gi_wp2_with (refine⟨trivial,?_⟩;gi_at_call 146;fail)
   refine⟨trivial,ba.mono ?_⟩;rintro e ad ⟨rfl,ar⟩;have u:=af.1.below ar;have an:=af.2.trans<|Dn ar;have C:=eu u.b2;have E:ad.frozen? (aj (w.heap.size+2) 0)=A2:=frR u.b2;have j:w.heap.size+1+1=w.heap.size+2:=rfl;rw[<-j]at C E;clear ba br ar j;cases hnv:adf v with
   |true=>
    have o:B9 (yG w f t (A9 i n h) A2 ad/\abp g d t R1/\B5 (w.heap.size+4) b ad):=⟨u,F hbv hnv,an⟩;clear m F hbv u an af hnv
    gi_wp2
    exact⟨o.2.2,o.1,o.2.1⟩|false=>
    rw[hnv,aa I]at m;have o:B9 (yG w f t (A9 i n h) R1 (ad.setCell (aj (w.heap.size+1+1) 0)<|A5 A2)/\B5 (w.heap.size+4) b (ad.setCell (aj (w.heap.size+1+1) 0)<|A5 A2)):=⟨by rw[<-m];exact u.set A2,an.trans<|(KeepsOthers.setCell _ _ _).from _⟩;clear m F hbv u an af hnv
    gi_wp2
    exact⟨o.2,o.1⟩
 .
  intro H bh bj a5 bF b bA;refine KH 4 H _ n h i _ r b5 bh bj (λd b c=>?_) (λd b c cx b6=>?_) bF b bA
  .exact eu (a5 d b c).1.b3
  .have⟨A,a4,j⟩:=arE s.2.1 s.2.2.1 b6;exact⟨A,a4,ag (a5 d b c).1.bl j⟩
 case ret=>
  intro b c y;rw[z]at y⊢;refine⟨I,.inl ⟨_,_,R,run_takeDeferred y,?_⟩⟩;have x:=c.put (k:=w.heap.size+4) O<|.deferred D1;refine⟨_,aea R _ _ _ R1 R x.b2,R,x.bl⟩
 .
  rintro b ⟨c,l⟩ y;rw[z]at y⊢;have ak:R1=A2:=by
   have:=l.out;rw[F8,List.drop_length]at this;exact this.symm
  apply a6 _ _;have C:=eu c.b2;have E:b.frozen? (aj (w.heap.size+2) 0)=A2:=frR c.b2;have j:w.heap.size+1+1=w.heap.size+2:=rfl;rw[<-j]at C E;have q:B9 (yG w f t (A9 i n h) R1 (b.setCell (aj (w.heap.size+1+1) 0)<|A5 A2)/\(b.setCell (aj (w.heap.size+1+1) 0)<|A5 A2).heap[w.heap.size+4]?=T (.deferred<|T [])):=⟨by rw[ak];exact c.set A2,(jg I).trans y⟩;clear c l y ak a6 j;go_wp2_with fail;refine⟨I,.inl ⟨_,_,R,run_takeDeferred q.2,?_⟩⟩;have x:=q.1.put (k:=w.heap.size+4) O<|.deferred D1;refine⟨_,aea R _ _ _ R1 R x.b2,R,x.bl⟩
def passOk(b:Nat):Nat->zLI->Int->zLI->Prop|0,_,_,_=>False|_+1,[],_,_=>False|f+1,a::r,t,o=>(a=t/\o=r/\M r<=b)\/(a≠t/\M (rwI a t++r)<=b/\passOk b f (rwI a t++r) t o)
theorem aor(b:0<=a)(d:a<=133):M (rwI a t)<=6/\∀z∈rwI a t,1<=z/\z<=133:=by
 have c:=Gw b O;rw[En,dF,fH]at c;unfold rwI;cases hf:List.find? (hdI t) (mj a) with
 |none=>grind|some e=>
  grind
def arF(b:1<=t):rwN 8 (mj a) t=rwI a t:=by
 unfold rwN rwI
 congr 2
 funext r
 rw[atc b 7];rfl
theorem K6:∀{f b}{st o}{t},nD f st t=T o->(∀z∈st,0<=z/\z<=133)->M st+5*f<=b->passOk b f st t o
 |0,_,_,_,_,h,_,_=>by simp[nD]at h|f+1,_,[],_,_,h,_,_=>by simp[nD]at h|f+1,b,a::r,o,t,h,i,c=>by
  rw[nD]at h;unfold passOk;simp[dD]at c;by_cases e:a=t
  .grind
  .rw[aa e]at h;have⟨d,g⟩:=i a I;have⟨_,_⟩:=aor (t:=t) d g;refine .inr ⟨e,U,K6 h (λz _=>?_) U⟩;grind
theorem E9:∀{f g b}{st o}{t},passOk b f st t o->f<=g->passOk b g st t o
 |0,_,_,_,_,_,h,_=>h.elim|f+1,0,_,_,_,_,_,i=>O|f+1,g+1,_,[],_,_,h,_=>h.elim|f+1,g+1,b,a::r,o,t,h,i=>by
  unfold passOk at h⊢;obtain h|⟨c,d,e⟩:=h
  .grind
  .exact .inr ⟨c,d,E9 e O⟩
theorem Fa:∀{f b M'}{st o}{t},passOk b f st t o->b<=M'->passOk M' f st t o
 |0,_,_,_,_,_,h,_=>h.elim|f+1,_,_,[],_,_,h,_=>h.elim|f+1,b,M',a::r,o,t,h,g=>by
  unfold passOk at h⊢;obtain⟨c,e,d⟩|⟨c,e,d⟩:=h
  .grind
  .exact .inr ⟨c,O,Fa d g⟩
theorem aeb:∀{st}{t},OkI st->1<=t->t<=78->kJ st t=A3->∃o,passOk (M st+45) (M st+9) st t o
 |[],t,d,_,_,h=>by simp[kJ]at h|a::r,t,d,g,i,h=>by
  have b:=ahm (d a<|bG ..) g i;rw[kJ]at h;unfold amv at b;by_cases f:EI 9 a t=A3
  .rw[ae f]at b;split at b
   .rename_i x y z k u;have e:=D6 (c:=r) k;rw[zj]at e;exact⟨_,E9 (K6 e (λs p=>by have:=aL<|d s p;omega) I) I⟩
   grind
  .rw[aa f]at b h;by_cases m:adf a=A3
   .rw[ae m]at b h;rw[dF]at b;have⟨o,w⟩:=aeb (λq n=>d q<|dJ _ n) g i h;have l:¬a=t:=λj=>by
     subst j;have:EI 9 a a=A3:=by rw[EI,ifp];grind
     grind
    have v:rwI a t=[]:=U;refine⟨o,?_⟩;rw[show(a::r).length+9=(M r+9)+1 from Nat.add_right_comm _ 1 9];refine .inr ⟨l,U,?_⟩;grind [Fa]
   grind
theorem Fc:∀{f b}{st o}{t},passOk b f st t o->nD f st t=T o
 |0,_,_,_,_,h=>h.elim|f+1,_,[],_,_,h=>h.elim|f+1,b,a::r,o,t,h=>by
  unfold passOk at h;rw[nD];obtain⟨c,e,d⟩|⟨c,e,d⟩:=h
  .grind
  .rw[aa c];exact Fc d
theorem Bm:∀{f b}{st o}{t},passOk b f st t o->M o<=b
 |0,_,_,_,_,h=>h.elim|f+1,_,[],_,_,h=>h.elim|f+1,b,a::r,o,t,h=>by
  unfold passOk at h;obtain⟨d,e,c⟩|⟨d,e,c⟩:=h
  .grind
  .exact Bm c
theorem Jz.passOk{a}(h:Jz a stk)(c:1<=t)(d:t<=78)(b:kJ a t=A3):∃o,passOk (M a+45) (M a+9) a t o/\Jz o (feedL stk t).1:=by
 have⟨o,e⟩:=aeb h.o1 c d b;have⟨_,_,p2⟩:=h.pass c d b;have:=Fc e;grind
attribute [local go_sem] oJ
def ate{cs:zAV}{t}(d:W.heap[gb]?=T (Ax cs t fr))(h:Gp gb W W'):B5 B W W':=⟨h.size,λe _ _ a c=>(h.block e (mE.1 a).1 (by rintro rfl;rw[d]at a;cases a;cases c) (λ_ _ b=>by rw[a]at b;cases b;cases c)).trans a⟩
theorem mu{cs:zAV}{t}(h:Gp gb W W')(a:W.heap[k]?=T (Ax cs t fr))(b:k≠gb)(c:t≠115:=by decide):W'.heap[k]?=T (Ax cs t fr):=
 (h.block k (mE.1 a).1 b (λ_ _ _=>U)).trans a
structure Bn (w:V) (base gb mb:Nat) (st:zLI) (c:zLN) (W:V):Prop where
 g:GAt W base gb (.map<|T mb) st
 r:RI W base mb
 gp:Gp gb w W
 bb:A0 base w W
 b0:W.heap[w.heap.size]?=T (.cells #[be gb 0] 54 (0,0))
 mks:xn (w.heap.size+1) c W
 ne:gb<w.heap.size
def Bn.below{b}(h:Bn w base gb mb b c W)(a:A0 W.heap.size W W'):Bn w base gb mb b c W':=by
 refine⟨h.g.below a,h.r.below a,h.gp.trans<|Gp.of_below a,h.bb.trans<|a.mono ?_,(a.block _<|aH h.b0).trans h.b0,h.mks.below a,h.ne⟩;have:=h.g.lo;have:=h.ne;have:=h.gp.size;omega
theorem Bn.turn{l f}(h:Bn w base gb mb l c W)(i:GAt W' base gb (.map<|T mb) f)(d:Gp gb W W')(j:A0 base W W'):Bn w base gb mb f c W':=by
 have⟨_,k,_⟩:=h.g.ex;exact⟨i,h.r.gp k d,h.gp.trans d,h.bb.trans j,mu d h.b0 (by have:=h.ne;omega),
  ⟨h.mks.nd,h.mks.lo,λa b=>(d.block a (mE.1<|h.mks.at_ a b).1 (by rintro rfl;have:=h.mks.at_ a b;grind) (λ_ _ e=>by rw[h.mks.at_ a b]at e;cases e)).trans<|h.mks.at_ a b⟩,h.ne⟩
theorem Bn.put{i}(h:Bn w base gb mb i c W)(q:w.heap.size<k)(e:W.heap[k]?=T (.loop r))(o):Bn w base gb mb i c (W.putObj k o):=by
 have⟨n,j,m⟩:=h.g.ex;have d:gb≠k:=U;have s:base<=k:=by have:=h.g.lo;have:=h.ne;omega
 refine⟨⟨⟨n,(N d).trans j,ownsRow_putObj m o e R⟩,h.g.lo⟩,h.r.same (λ_ c b=>(N U).trans b) (λp _ _ b=>(N U).trans b),?_,h.bb.grown (E3 W k o) U (λg b=>U),(N O).trans h.b0,
  ⟨h.mks.nd,h.mks.lo,λa f=>(N (by rintro rfl;have:=(h.mks.at_ a f).symm.trans e;grind)).trans<|h.mks.at_ a f⟩,h.ne⟩
 have a:=h.gp;refine⟨a.os,a.tape,a.output,by have:=a.size;simp_all,λg l d f=>(N O).trans<|a.block g l d f⟩
structure af2 (w:V) (base gb mb:Nat) (st:zLI) (c:zLN) (sz:Nat) (x0 x1 x2 x3 x4 x5:Int) (W:V):Prop where
 ps:Bn w base gb mb st c W
 b0:W.heap[sz]?=T (.cells #[zU x0,zU x1,zU x2,zU x3,zU x4,zU x5] 200 (0,0))
 b1:W.heap[sz+1]?=T (.cells #[bI sz 6 6] 109 (0,0))
def af2.put{b a x0 d e f g i}(h:af2 w base gb mb b c a x0 d e f g i W)(m:w.heap.size<a)(l:a+1<k)(j:W.heap[k]?=T (.loop r))(o):af2 w base gb mb b c a x0 d e f g i (W.putObj k o):=
 ⟨h.ps.put O j o,(N O).trans h.b0,(N O).trans h.b1⟩
theorem aos(w i f mb g t m bj x)(a6:GAt w i f (.map<|T mb) g)(bE:RI w i mb)(b4:∀a∈g,0<=a/\a<=133)(E:M g<=m)(e6:m<=100000000)(cr:1<=t)(ep:t<=78)(a7:passOk m bj g t x):
  B0 X 52 #[be f 0,zU t] w λe bf=>e=A1 (E2 #[])/\GAt bf i f (.map<|T mb) x/\RI bf i mb/\Gp f w bf/\A0 i w bf:=by
 have⟨c5,b3,ef⟩:=a6.ex;have ea:=aH b3;have fb:=a6.lo;obtain⟨o,rfl⟩:∃o,bj=o+1:=by
  cases bj with
  |zero=>exact a7.elim|succ o=>grind
 obtain⟨d,r,rfl⟩:∃d r,g=d::r:=by
  cases g with
  |nil=>exact a7.elim|cons d r=>grind
 have ar:=(ay w.heap.size w).alloc O<|Ax #[be f 0] 54 (0,0);have bn:Bn w i f mb (d::r) [] (w.alloc<|Ax #[be f 0] 54 (0,0)):=
  ⟨a6.below ar,bE.below ar,Gp.of_below ar,ar.mono O,au w _,⟨zo,λs hb=>U,λs hb=>U⟩,ea⟩
 have y:=ad5 _ i f _ r d bn.g U;have a2:=jG bn b4 a7;clear a6 bE b4 ef bn a7 b3;apply mC (n:=5).1;refine callsIn_of_wp_marks func52 R trivial ?_ R;simp[iC,fh];apply lH.2;go_wp2_with (go_at_call 150;apply y.mono;rintro e er ⟨rfl,a4,p2,bA⟩);have ca:=a2.1.turn a4 p2 bA;have bx:B9 (Bn w i f mb r [] er/\(∀a∈d::r,0<=a/\a<=133)/\passOk m (o+1) (d::r) t x/\M r<=m):=⟨ca,a2.2.1,a2.2.2,U⟩;clear a2 ca a4 p2 bA y ar;have⟨s0,eh⟩:=aw d;refine(lH (n:=5)).1<|wpIn_loop_ghost (λo am h=>∃(d:Int) (g:zLI) (k:zLN),B9 (Bn w i f mb g k h/\(∀a∈d::g,0<=a/\a<=133)/\passOk m (o+1) (d::g) t x/\M g<=m)/\∃c3 c4 ct cu cv br bs bt bw cw cx cy cz cB cF cI c1 c2:B2,am={tmps:=#[be f 0,zU t,be w.heap.size 0,Y,zU d,c3,c4,Y,Y,be f 0,be f 0,be f 1,zU s0,ct,cu,cv,br,bs,bt,bw,cw,cx,cy,cz,cB,cF,cI,c1,c2,Y,Y,Y,Y,Y,Y,Y,Y,Y],defers:=k.map Ea}) o ?start ?round
 .exact⟨d,r,_,bx,Y,Y,Y,Y,Y,Y,Y,Y,Y,Y,Y,Y,Y,Y,Y,Y,Y,Y,U⟩
 .
  clear bx E eh;rintro o am h ⟨d,g,k,p,c3,c4,ct,cu,cv,br,bs,bt,bw,cw,cx,cy,cz,cB,cF,cI,c1,c2,rfl⟩;apply lH.2;have e7:=eu p.1.b0;have a9:=p.2.1 d I;by_cases ei:d=t
  .have ax:=p.2.2.1;unfold passOk at ax;have cb:x=g:=by
    grind
   have al:B9 (Bn w i f mb x k h):=by rw[cb];exact p.1
   clear ax p cb;subst ei;go_wp2_with fail;show LeavesInM _ _ _ _ _ _ (k.map Ea) .returning h;have b:=al.out;refine rz _ k h b.mks (λbz u=>?_);have cc:∀j,j<=w.heap.size->bz.heap[j]?=h.heap[j]?:=λj an=>u.same j (λao=>by have:=b.mks.lo j ao;omega);have a8:∀(j:Nat)(z:Obj),h.heap[j]?=T z->(∀a1,z≠ .deferred a1)->bz.heap[j]?=T z:=λj z an bk=>(u.same j (λao=>by have:=b.mks.at_ j ao;grind)).trans an;refine⟨_,fE R _ _ _,R,?_,?_,?_,?_⟩
   .have⟨c5,av,bk⟩:=b.g.ex;refine⟨⟨c5,a8 _ _ av (λa1 e=>by cases e),bk.1,?_⟩,b.g.lo⟩;obtain e5|⟨a4,dq,ds,cm,cn,cp,cq⟩:=bk.2
    .grind
    .exact .inr ⟨a4,dq,ds,cm,cn,a8 _ _ cp (λa1 e=>by cases e),cq⟩
   .exact b.r.same (λe2 k e=>a8 _ _ e (λa1 e=>by cases e)) (λe4 eL e3 e=>a8 _ _ e (λa1 e=>by cases e))
   .exact⟨u.os.trans b.gp.os,u.tape.trans b.gp.tape,u.output.trans b.gp.output,by rw[u.size];exact b.gp.size,λj an ee d8=>(cc j O).trans<|b.gp.block j an ee d8⟩
   .exact⟨u.os.trans b.bb.os,u.tape.trans b.bb.tape,u.output.trans b.bb.output,by rw[u.size];exact b.bb.size,λj an=>(cc j O).trans<|b.bb.block j an⟩
  .have ff:(d==t)=A2:=U;have ax:M (rwI d t++g)<=m/\passOk m o (rwI d t++g) t x:=by
    have:=p.2.2.1;unfold passOk at this;grind
   have⟨eq,av,_⟩:=p.1.g.ex;have d1:GB h i f mb:=⟨crV av,p.1.r⟩;obtain⟨C,d4⟩:∃C,I7 8 t (mj d) 0 _ C:=⟨_,⟨arF cr,R⟩⟩;have ba:=I8 7 (Bl 7) h i f mb d t d1 a9.1 a9.2 (atd d) cr ep _ C d4;have⟨b9,eg⟩:=aor (t:=t) a9.1 a9.2;rw[aii b9]at ba;have v:B9 (M (rwI d t++g)<=m/\passOk m o (rwI d t++g) t x/\M (rwI d t)<=6/\∀c8∈rwI d t,1<=c8/\c8<=133):=⟨ax.1,ax.2,b9,eg⟩;generalize rwI d t=rw at ba v;have⟨G,bo⟩:=aw<|rw.getD 0 0;have⟨H,cf⟩:=aw<|rw.getD 1 0;have⟨K,cg⟩:=aw<|rw.getD 2 0;have⟨L,ch⟩:=aw<|rw.getD 3 0;have⟨ad,ck⟩:=aw<|rw.getD 4 0;have⟨af,cl⟩:=aw<|rw.getD 5 0;rw[bo,cf,cg,ch,ck,cl]at ba;have c9:=aku bo cf cg ch ck cl;go_wp2_with (first
    |(go_at_call 151;apply ba.mono;rintro e c6 ⟨rfl,a5⟩)
    |(go_at_call 144;apply(Ay _ 6 6 _).mono;rintro e fl ⟨rfl,rfl⟩))
   rename_i ev d2;have⟨l,cd⟩:=aw c6.heap.size;rw[cd];generalize d6:(c6.alloc _).alloc _=eF;have⟨b7,b8,d0,a0⟩:=Eu d6;rw[cd]at b7 b8 a0;have ek:=p.1.below<|a5.trans<|d0.mono a5.size;have e8:∀s∈k,s<l:=λs hb=>by have:=(mE.1<|p.1.mks.at_ s hb).1;have:=a5.size;omega
   have ce:w.heap.size<l:=by have:=aH p.1.b0;have:=a5.size;omega
   apply(lH (n:=5)).1;refine zw (P:=X) (gf:=240) (lb:=#[be (l+1) 0]) R (enters_of func240 byR R)
    (λ(c:Nat)=>#[zI c,zU<|rw.getD c 0]) (λ_=>rfl) 6
    (λc h=>af2 w i f mb (rw.drop c++g) k l G H K L ad af h)
    (λc am h=>af2 w i f mb (rw.drop (c+1)++g) k l G H K L ad af h/\am={tmps:=#[be f 0,zU t,be w.heap.size 0,Y,zU d,be l 0,A5 C,Y,zU<|rw.getD c 0,be f 0,be f 0,be f 1,zU s0,zU d,zU t,A5 A3,br,bs,bt,bw,E2 #[D2 #[zU G,zU H,zU K,zU L,zU ad,zU af],A5 C],be f 0,zU d,zU t,E2 #[D2 #[zU G,zU H,zU K,zU L,zU ad,zU af],A5 C],D2 #[zU G,zU H,zU K,zU L,zU ad,zU af],A5 C,bI l 6 6,.func (.func 240) #[] #[be (l+1) 0],zI (c:Int),zU<|rw.getD c 0,Y,Y,Y,Y,Y,Y,Y],defers:=[]})
    (λ_=>False)
    ?pZ ?pAx ?pX ?h0 ?assign ?body ?seq ?done ?ret
   .
    rintro c h r z b E;rw[a0]at E⊢;exact b.put ce O E z
   .
    rintro c am h r z ⟨b,rfl⟩ E;rw[a0]at E⊢;exact⟨b.put ce O E z,R⟩
   .grind
   .
    intro ey hb fd;refine⟨?_,(hb.block _ O).trans b7,(hb.block _ O).trans b8⟩;rw[lG v.out.2.2.1];exact ek.below hb
   .
    rintro bc c h ew ao b d3;have ak:=ah b
    gi_wp2
    exact d3 _ _ ⟨ak,R⟩<|KeepsFrom.refl _ _
   case seq=>
    intro bc da dc bF d7 h d5;refine KH 4 bc _ 6 6 (T<|aj l 0) _ Z O da dc (λc h b=>?_) (λc h b ap e9=>?_) d7 h d5
    .exact eu (bF c h b).b1
    .have⟨fg,cm,cn,cp,cq,fk⟩:=jb (bF c h b).b0;have⟨fn,fo,fq,fu,fv,fx⟩:=c9.out;refine⟨_,R,?_⟩;rw[Do];obtain rfl|rfl|rfl|rfl|rfl|rfl:=(O:ap=0\/ap=1\/ap=2\/ap=3\/ap=4\/ap=5);all_goals grind
   case ret=>grind
   .
    rintro bc c am B ao ⟨b,rfl⟩;rw[a0];have dn:=eu b.ps.b0;have⟨eq,av,_⟩:=b.ps.g.ex;by_cases fc:c<M rw
    .have em:rw.getD c 0∈rw:=U;have en:=v.2.2.2 _ em;have d9:rw.drop c=rw.getD c 0::rw.drop (c+1):=by
      simp_all
     have eb:M (rw.drop (c+1)++g)<=100000000:=by
      have:=v.1;grind
     have y:=CallsIn.inRound bc<|mC (n:=2).2<|El B i f _ _ (rw.getD c 0) b.ps.g eb;rw[<-fh,<-d9]at y;have ak:=fs b av;generalize rw.getD c 0=et at en y⊢;have bo:(et==0)=A2:=U
     gi_wp2_with (refine⟨trivial,?_⟩;gi_at_call 47;fail)
     refine⟨trivial,y.mono ?_⟩;rintro e c7 ⟨rfl,dx,bd,df⟩;have al:B9 (af2 w i f mb (rw.drop c++g) k l G H K L ad af c7/\B5 (l+1+1) B c7):=⟨⟨ak.1.ps.turn dx bd df,mu bd ak.1.b0 O,mu bd ak.1.b1 O⟩,ate ak.2 bd⟩
     gi_wp2
     exact⟨al.2,al.1⟩
    .have el:rw.getD c 0=0:=U;rw[el];have al:B9 (af2 w i f mb (rw.drop c++g) k l G H K L ad af B):=by
      have e0:rw.drop c=rw.drop (c+1):=by rw[lG O,lG O]
      grind
     gi_wp2
     exact⟨KeepsFrom.refl _ _,al⟩
   .
    rintro B b bD;rw[a0]at bD⊢;obtain⟨a3,rfl⟩:∃a3,o=a3+1:=by
     cases o with
     |zero=>exact(v.2.1).elim|succ o=>grind
    obtain⟨F,A,bl⟩:∃F A,rw++g=F::A:=by
     cases hq:rw++g with
     |nil=>have:=v.2.1;rw[hq]at this;exact this.elim|cons a s=>grind
    have q:=b.ps;rw[iq,bl]at q;have fa:M A+1<=m:=by have:=v.1;grind
    have y:=ad5 B i f _ A F q.g O;have dn:=eu q.b0;have ec:xn (w.heap.size+1) ((l+1+1)::k) B:=⟨List.nodup_cons.2 ⟨λao=>U,q.mks.nd⟩,λs hb=>by
      obtain rfl|hb:=dI.1 hb
      .omega
      .exact q.mks.lo s hb,λs hb=>by
      obtain rfl|hb:=dI.1 hb
      .exact bD
      .exact q.mks.at_ s hb⟩
    have bh:B9 (Bn w i f mb (F::A) ((l+1+1)::k) B/\(∀a∈F::A,0<=a/\a<=133)/\passOk m (a3+1) (F::A) t x):=by
     refine⟨⟨q.g,q.r,q.gp,q.bb,q.b0,ec,q.ne⟩,λa ha=>?_,by rw[<-bl];exact v.2.1⟩;rw[<-bl]at ha;obtain ha|ha:=dg.1 ha
     .have:=v.2.2.2 a ha;omega
     .exact p.2.1 a U
    apply d2 _ _;go_wp2_with (go_at_call 150;apply y.mono;rintro e fm ⟨rfl,dz,eo,dk⟩);exact⟨a3,O,F,A,_,⟨bh.1.turn dz eo dk,bh.2.1,bh.2.2,O⟩,_,_,_,_,_,_,_,_,_,_,_,_,_,_,_,_,_,_,R⟩
def pA(a:zLI):Nat->zLI|0=>[]|j+1=>ite (kJ a ((j:Int)+1)=A3) (pA a j++[(j:Int)+1])<|pA a j
theorem I9(a):∀j,M (pA a j)<=j
 |0=>fG _|j+1=>by
  have:=I9 a j;rw[pA];grind
theorem aec(b):∀j,∀z∈pA b j,1<=z/\z<=(j:Int)
 |0=>by intro z a;simp[pA]at a|j+1=>by
  intro z a;have c:=aec b j;rw[pA]at a;grind
def Jz.nm{a}(h:Jz a stk):∀j,j<=78->pA a j=oB stk j|0,_=>rfl|j+1,b=>by rw[pA,oB,h.nm j O,h.may O O]
structure GQ (W:V) (base gb mb:Nat) (st:zLI):Prop where
 g:GAt W base gb (.map<|T mb) st
 r:RI W base mb
 ok:∀a∈st,0<=a/\a<=133
 len:M st<=99999000
def GQ.below{b}(h:GQ W base gb mb b)(a:A0 W.heap.size W W'):GQ W' base gb mb b:=⟨h.g.below a,h.r.below a,h.ok,h.len⟩
def GQ.may{a}(h:GQ W base gb mb a)(c:1<=t)(d:t<=78){R1}(b:kJ a t=R1):
  B0 X 50 #[be gb 0,zI t] W λe f=>e=A1 (A5 R1)/\A0 W.heap.size W f:=
 aoq W base gb mb a t R1 h.g h.r h.ok (by have:=h.len;omega) c d b
structure ayl (w:V) (st:zLI) (j:Nat) (vo:B2) (W:V):Prop where
 bl:A0 w.heap.size w W
 row:W.ownsRow w.heap.size 3 1 vo (M<|pA st j) ((pA st j).map zI)
theorem akb(w E p mb d)(h:GQ w E p mb d):
  B0 X 148 #[be p 0] w λe b=>∃a c,e=A1 (A9 a (M<|pA d 78) c)/\b.ownsRow w.heap.size 3 1 (A9 a (M<|pA d 78) c) (M<|pA d 78) ((pA d 78).map zI)/\A0 w.heap.size w b:=by
 have y:=ah h;have a1:B9 (ayl w d 0 fe w):=⟨blR,onN⟩;have⟨ak,al,am,an,ao⟩:=dw tD;go_in;go_wp21
 go_loopw [3,4] (λv m wr=>∃(b:Nat),b<=78/\m=zI (b+1)/\(∃a c,∃ar:Nat,v=A9 a ar c)/\B9 (ayl w d b v wr)) (λ_ m _=>(79-B7 m).toNat)
 .grind
 .
  obtain⟨b,_,rfl,⟨C,G,mv,rfl⟩,i⟩:=hrel;by_cases a4:b<78
  .have⟨A,q⟩:=aw<|kJ d<|b+1;have u:=(y.below i.bl).may O O q;have n:=ah q;obtain⟨f,r⟩:∃f:Int,b+1=f:=⟨_,R⟩;have z:=ah r;have a3:f<=78:=O;have a2:1<=f:=O;rw[r]at u⊢;go_wp21
   apply u.mono;rintro e a0 ⟨rfl,o⟩;have s:=i.bl.trans<|o.mono i.bl.size;have g:=cj i.row o;have L:=I9 d b;have⟨ax,k⟩:=aw<|M<|pA d b;rw[k]at g L;have⟨B,F,l⟩:=aF g;cases l;have j:=jG g k s;have af:=s.size;cases A with
   |false=>
    have e:pA d (b+1)=pA d b:=by rw[pA,n.out,aa Z]
    go_wp21
    refine⟨⟨b+1,O,?_,⟨_,_,_,R⟩,⟨j.2.2,U⟩⟩,?_⟩
    .grind
    .simp[B7];omega|true=>
    have x:B9 (pA d (b+1)=pA d b++[f]):=by show _=_;rw[pA,n.out,ae R,z.out]
    go_wp2_with (at_builtin;apply nJ _ R _ _ _ R _ 3 ak _ 1 8 underlying35 al am an ao R Z _ _ _ R (j.1.alloc _) _ 1 1 [.int _ f] rfl R (C2 (cs:=#[.int _ f])<|au a0 _) (by intro _ t;simp at t;subst t;rfl) byM O lr;intro _ _ ad H _;obtain⟨_,_,rfl⟩:=E1 ad);refine⟨⟨b+1,O,?_,⟨_,_,_,R⟩,⟨?_,?_⟩⟩,?_⟩
    .grind
    .exact(j.2.2.alloc af _).grown H lr (λap K=>(j.1.lt ap K).1)
    .rw[x.out,aG,j.out.2.1,ej];grind
    .simp[B7];omega
  .obtain rfl:b=78:=O;have g:=i.row;have⟨ax,k⟩:=aw<|M<|pA d 78;rw[k]at g;have⟨B,F,l⟩:=aF g;cases l;have f:=jG g k i.bl;go_wp21
   go_ret;refine⟨C,G,?_,?_,f.2.2⟩;all_goals simp_all
def rcF(x:Bz)(L:zLI)(m:Nat):Nat:=L.foldl (λm k=>max m<|bnF k x) m
def Az:Bz:=⟨#[45,45]⟩
def Bo(a:zLI)(x:Bz):Nat:=rcF x (pA a 78)<|cmF x Az
structure arG (x:Bz) (L:zLI) (j m R1:Nat):Prop where
 out:rcF x (L.drop j) m=R1
def Ja(a b):∀f n,n<=a.size->cmL a b f n<=a.size
 |0,n,h=>h|f+1,n,h=>by
  rw[cmL];split
  .rename_i c;exact Ja a b f _ O
  omega
theorem aot(k x):bnF k x<=x.size:=by
 unfold bnF;split
 .omega
 split
 .grind
 .exact Ja _ _ _ _ O
theorem af3(x):∀(L)(m),m<=x.size->rcF x L m<=x.size
 |[],m,h=>h|k::L,m,h=>by
  show rcF x L (max m<|bnF k x)<=x.size;exact af3 x L _ (by grind [aot])
def Gx(a x):Bo a x<=x.size:=af3 x _ _<|Ja _ _ _ _ leZ
theorem K8(w z q mb d)(x:Bz)(h:GQ w z q mb d)(ap:uz w)(G:x.size<=1100000):
  B0 X 51 #[be q 0,B3 x] w λe a=>e=A1 (zI<|Bo d x)/\A0 w.heap.size w a:=by
 have⟨b,r⟩:=aw<|pA d 78;have⟨i,A⟩:=aw<|Bo d x;have E:=aec d 78;have B:=I9 d 78;rw[r]at E B;have n:arG x b 0 (cmF x Az) i:=⟨by rw[<-A,<-r];rfl⟩;rw[A];have L:=Ih w x Az G Z;have s:cmF x Az<=x.size:=Ja _ _ _ _ O;have v:=fs h ap;unfold Az at L;go_in;go_wp2_with fail;apply L.mono;rintro e a4 ⟨rfl,o⟩;have ad:=akb a4 z q mb d<|v.1.below o;rw[r]at ad
 change arG x b 0 (cmF x ⟨#[45,45]⟩) i at n
 change cmF x ⟨#[45,45]⟩<=x.size at s
 generalize cmF x ⟨#[45,45]⟩=a2 at n s⊢;go_wp2_with fail;apply ad.mono;rintro e af ⟨al,_,rfl,m,an⟩;have am:=o.trans<|an.mono o.size;have⟨l,C⟩:=aw<|M b;rw[C]at m B⊢;have g:=jG m C am;go_wp2;go_loopw [5,13] (λa3 t wr=>∃a f,a<=l/\f<=x.size/\a3=zI f/\t=zI a/\arG x b a f i/\A0 af.heap.size af wr) (λ_ t _=>l-(B7 t).toNat)
 .exact⟨0,a2,O,s,R,R,n,blR⟩
 .
  obtain⟨a,f,_,_,rfl,rfl,y,j⟩:=hrel;by_cases a9:a<l
  .obtain⟨c,H⟩:∃c,b[a]?=T c:=⟨_,bm O⟩;have a1:=E c<|db H;have a0:b.drop a=c::b.drop (a+1):=by
    grind [List.getElem?_eq_some_iff,List.drop_eq_getElem_cons]
   have m:=cj g.1 j;obtain⟨p,rfl⟩:∃p,al=T (aj p 0):=by
    grind [aC]
   have a5:wr.cell? (aj p a)=T (zI c):=by rw[m.cellAt a O,cJ,H];rfl
   have k:=y.out;rw[a0]at k;have F:rcF x (b.drop<|a+1) (max f<|bnF c x)=i:=k;have ax:=g.2.2.trans<|j.mono g.2.2.size;have K:=JD wr c x (v.2.below ax O) G a1.1 O;have ar:=aot c x;generalize bnF c x=ak at F K ar;have u:arG x b (a+1) (max f ak) i:=⟨F⟩;have a8:(a:Int)<(l:Int):=O;have a7:(0:Int)<=(a:Int):=O;go_wp2_with fail;apply K.mono;rintro e _ ⟨rfl,ao⟩;have a6:=j.trans<|ao.mono j.size;go_wp2;grind [B7]
  .obtain rfl:a=l:=O;have k:=y.out;rw[lG O]at k;have u:=ah k;go_wp2;go_ret;exact⟨by rw[<-u.out];rfl,g.2.2.trans<|j.mono g.2.2.size⟩
attribute [local go_sem] oJ
def rD(w:V)(b i v):w.grownBy (w.setCell (aj b i) v) (T b):=
 ⟨R,R,R,by simp[Fs],λ_ _ a=>jg (by simpa using a)⟩
def aou(s p w):B0 X 142 #[B3<|s.extract p s.size,B3 ⟨#[45,45]⟩] w λe b=>e=A1 (A5<|decide (aq s p=45/\aq s (p+1)=45))/\b=w:=by
 have a:=Tryz.strings_HasPrefix (s.extract p s.size) ⟨#[45,45]⟩ w;rw[show(⟨#[45,45]⟩:Bz).data.toList=[45,45] from rfl,LJ]at a;exact a
structure atf (q:Int->Bool) (s:Bz) (f p e:Nat):Prop where
 out:jp q s f p=e
attribute [local go_sem] oJ
abbrev tkO(k p a l n:Int)(x:Bz):Obj:=Ax #[zI k,zI p,zI a,zI l,zI n,B3 x] 58
def ScX(b:Nat)(W:V):Prop:=∃a fr,W.heap[b]?=T (Ax a 119 fr)
def Gh.x{m p k}(h:Gh b W s m p l k):ScX b W:=by obtain⟨_,h⟩:=h;exact⟨_,_,h⟩
structure Iw (b mb B:Nat) (s:Bz) (I1:Nat->Int->V->Prop) (W:V) (q:Nat) (l2:Int) (p:Nat) (l:Int):Prop where
 sc:Gh b W s (.map<|T mb) q l2 A2
 mp:W.ownsMap X 9 (plainElem (H:=Unit) X 3) mb 22 (Dt 22)
 ly:Kh W
 ii:I1 p l W
 sz:B<=W.heap.size
def Iw.gr{q e f:Nat}{c d}(h:Iw b mb B s I1 W q l2 p l)(g:∀p l W W',I1 p l W->ScX b W->W.grownBy W' (T b)->I1 p l W')(j:mb≠b)(n:14<=b)(m:14<=B)(a:W.grownBy W' (T b))(hS:Gh b W' s (.map<|T mb) f d A2)(i:I1 p l W'->I1 e c W'):Iw b mb B s I1 W' f d e c:=
 ⟨hS,h.mp.kept a (by simp[j]),h.ly.blocks (λk _=>a.block k (by have:=h.sz;omega) lr),i<|g _ _ _ _ h.ii h.sc.x a,bK h.sz a.size⟩
structure ue (s:Bz) (p:Nat):Prop where
 lt:p<s.size
 nb:¬jD (aq s p)=A3
 nd:¬(aq s p=45/\aq s (p+1)=45)
inductive aim (b mb B:Nat) (s:Bz) (I1:Nat->Int->World->Prop) (W:World):Prop|fin (l:Int) (h:Iw b mb B s I1 W s.size l s.size l)|bad (p:Nat) (l:Int) (hp:ue s p) (hr:(rdI s p).ok=false) (hS:ja b W s (.map<|some mb) (p:Int) ((rdI s p).a:Int) (l+(rdI s p).d) true) (hy:Kh W) (hz:B<=W.heap.size) (hi:I1 p l W)
def akc(n l b mb B s)(cn:s.size<=70000)(cc:b<B)(ak:mb≠b)(af:14<=b)
  (I1:Nat->Int->V->Prop) (y:∀p l W W',I1 p l W->ScX b W->W.grownBy W' (T b)->I1 p l W') (bj:∀p q l W,blk s (s.size+1) p=blk s (s.size+1) q->p<=q->q<=s.size->I1 p l W->I1 q l W) (b9:∀p l W,I1 p l W->0<=l/\l<=(p:Int)+1/\p<=s.size)
  (h:V->Prop) (b8:∀W W',B5 B W W'->h W->h W') (Pn:List PanicEntry->V->Prop)
  (cb:∀p c W,ue s p->(rdI s p).ok=A3->Iw b mb B s I1 W (rdI s p).a (c+(rdI s p).d) p c->h W->YieldAt B6 (n-1) X l #[vTk ⟨(rdI s p).k,(p:Int),((rdI s p).a:Int),c,(rdI s p).n,(rdI s p).x⟩] W λe W'=>(e=A1 (A5 A3)/\Iw b mb B s I1 W' (rdI s p).a (c+(rdI s p).d) (rdI s p).a (c+(rdI s p).d)/\h W')\/(∃H,e= .panicked H/\Pn H W'))
  (W) (j) (i) (a8:Iw b mb B s I1 W j i j i) (m:h W):
  CallsIn B6 n X 49 #[be b 0,.func (.yield l) #[] #[]] W λe W'=>((∃v,e=A1 v)/\aim b mb B s I1 W'/\h W')\/(∃H,e= .panicked H/\Pn H W'):=by
 have a7:∀{g bt:V},g.grownBy bt (T b)->h g->h bt:=λck f=>b8 _ _ (KeepsFrom.of_grownBy ck (λbb e=>by cases e;exact cc)) f;apply mC.2;go_in;go_wp2;go_step3
 go_wp2;go_step3
 go_wp2;have ap:∀{g:V}{p:Nat}{c:Int}(q:Nat),Iw b mb B s I1 g p c p c->Iw b mb B s I1 (g.drewN q) p c p c:=λq f=>f.gr y ak af O (xB (tA _ b) q) f.sc id;have o:∀{g:V}(q:Nat),h g->h (g.drewN q):=λq f=>a7 (xB (tA _ b) q) f;have cw:∀{g:V}{p:Nat}{c:Int}(al:Nat),blk s (s.size+1) p=blk s (s.size+1) al->p<=al->al<=s.size->Iw b mb B s I1 g p c p c->Iw b mb B s I1 (g.setCell (aj b 3)<|zI (al:Int)) al c al c:=λal cf cl cp f=>f.gr y ak af O (rD _ b 3 _) (f.sc.setP _)<|bj _ _ _ _ cf cl cp;have bF:∀{g:V}(v:B2),h g->h (g.setCell (aj b 3) v):=λv f=>a7 (rD _ b 3 v) f;go_loopw [] (λwr=>∃p c,Iw b mb B s I1 wr p c p c/\h wr) (λwr=>s.size-J4 b wr)
 .exact⟨j,i,a8,m⟩
 .
  obtain⟨p,c,a2,bw⟩:=hrel;have bE:=Gh.pos a2.sc;obtain⟨cm,_,bD⟩:=b9 _ _ _ a2.ii;have⟨A,C,E,F,G,K,L,ad⟩:=Gh.cells a2.sc;by_cases a5:p<s.size
  .have cx:(p:Int)<(s.size:Int):=O;have cs:=λi=>dy a5 i;have bf:=ah bE;go_wp2_with fail;go_quiet (fail)
   go_wp2_with fail;have a9:=ap nq a2;have bh:=o nq bw;generalize wr.drewN nq=b2 at a9 bh⊢;have⟨A,C,E,F,G,K,L,ad⟩:=Gh.cells a9.sc;have a6:∀i,B0 X 141 #[zU<|aq s p] i λe b0=>e=A1 (A5<|jD<|aq s p)/\b0=i:=λi=>(abI _ i).mono λe b0 f=>⟨f.1,f.2.symm⟩;cases hbl:jD (aq s p) with
   |true=>
    have an:=D0 s p a5 hbl;rw[hbl]at a6;generalize aq s p=bA at cs a6;go_quiet ((go_at_call 141;exact B1<|a6 _))
    have w:=cw _ an O O<|ap nq a9;have ar:=bF (zI<|(p+1:Nat))<|o nq bh;rw[(O:((p+1:Nat):Int)=(p:Int)+1)]at w ar;go_wp2;exact⟨⟨_,c,w,ar⟩,by rw[Gh.pos w.sc,bf.out];omega⟩|false=>
    rw[hbl]at a6;go_quiet ((go_at_call 141;exact B1<|a6 _))
    go_wp2_with fail;have w:=ap nq a9;have ar:=o nq bh;generalize b2.drewN nq=bs at w ar⊢;have⟨A,C,E,F,G,K,L,ad⟩:=Gh.cells w.sc;have bc:=λi=>aou s p i;by_cases a0:aq s p=45/\aq s (p+1)=45
    .rw[eI a0]at bc;have an:=Hl s p a0.1 a0.2;have cd:=zD s p a0.1;go_quiet ((go_at_call 142;exact B1<|bc _))
     go_wp2_with fail;have j:=ap nq w;have a1:=o nq ar;generalize bs.drewN nq=b3 at j a1⊢;go_loopw [] (λa3=>∃k r,p<=k/\k<=s.size/\s.size<k+r/\atf nnB s r k (nlE s p)/\Iw b mb B s I1 a3 k c p c/\h a3) (λa3=>s.size-J4 b a3)
     .exact⟨p,_,O,bD,O,⟨R⟩,j,a1⟩
     .
      obtain⟨k,r,b6,b4,_,bn,t,bk⟩:=hrel;obtain⟨r,rfl⟩:∃q,r=q+1:=⟨r-1,O⟩;have⟨A,C,E,F,G,K,L,ad⟩:=Gh.cells t.sc;have z:=bn.out;rw[jp]at z;have b7:=Gh.pos t.sc;have br:=ah b7;have a4:∀{g:V}{q:Nat}(bb:Nat),Iw b mb B s I1 g q c p c->Iw b mb B s I1 (g.drewN bb) q c p c:=λbb f=>f.gr y ak af O (xB (tA _ b) bb) f.sc id;have dp:∀{g:V}{q:Nat}(bd:Nat),Iw b mb B s I1 g q c p c->Iw b mb B s I1 (g.setCell (aj b 3)<|zI (bd:Int)) bd c p c:=λbd f=>f.gr y ak af O (rD _ b 3 _) (f.sc.setP _) id;by_cases bl:k<s.size
      .have ca:(k:Int)<(s.size:Int):=O;have bo:=λi=>dy bl i;go_wp2_with fail;go_quiet (fail)
       go_wp2_with fail;have ax:=a4 nq t;have av:=o nq bk;generalize wr.drewN nq=bz at ax av⊢;have⟨A,C,E,F,G,K,L,ad⟩:=Gh.cells ax.sc;by_cases am:aq s k=10
       .rw[aa (by rw[am];decide)]at z;rw[am]at bo;have ao:=ah z;clear z bn am;go_quiet (fail)
        go_wp2_with fail;have m:=a4 nq ax;have u:=o nq av;rw[<-ao.out]at an;have ba:Iw b mb B s I1 (bz.drewN nq) k c k c:=⟨m.sc,m.mp,m.ly,bj _ _ _ _ an b6 b4 m.ii,m.sz⟩;exact⟨⟨k,c,ba,u⟩,by rw[Gh.pos m.sc,bf.out];have:=ao.out;omega⟩
       .have b5:nnB (aq s k)=A3:=by
         have:=ll bl;unfold nnB;rw[tr];exact⟨am,O⟩
        rw[ae b5]at z;have b1:(aq s k==10)=A2:=by rw[fC];exact am
        generalize aq s k=bA at bo b1;have bx:atf nnB s r (k+1) (nlE s p):=⟨z⟩;go_quiet (fail)
        have m:=dp (k+1)<|a4 nq ax;have u:=bF (zI<|(k+1:Nat))<|o nq av;rw[(O:((k+1:Nat):Int)=(k:Int)+1)]at m u;go_wp2;exact⟨⟨_,r,O,O,O,bx,m,u⟩,by rw[Gh.pos m.sc,br.out];omega⟩
      .obtain rfl:k=s.size:=O;rw[aa (by rw[dH];decide)]at z;have ao:=ah z;have am:Iw b mb B s I1 wr s.size c s.size c:=⟨t.sc,t.mp,t.ly,bj _ _ _ _ (by rw[an,<-ao.out]) bD O t.ii,t.sz⟩;go_wp2_with fail;go_quiet (fail)
       go_wp2;rw[BJ];apply aA (fE R _ _ _) R;exact .inl ⟨⟨_,R⟩,.fin c<|ap _ am,o _ bk⟩
    .have ce:=a0;rw[bq a0]at bc;have cd:¬jD (aq s p)=A3:=by rw[hbl];simp
     have br:ue s p:=⟨a5,cd,ce⟩;have bn:=mH s p a5;have ct:=λi (a8:Iw b mb B s I1 i p c p c) b4 (cg:ja b i s (.map<|T mb) b4 p c A2)=>ajm s cn b mb i p c a5 cm O ak af cg a8.mp a8.ly;have bk:=λW=>cb p c W br;go_quiet ((go_at_call 142;exact B1<|bc _))
     go_wp2_with fail;have j:=ap nq w;have a1:=o nq ar;have⟨b5,bA⟩:=j.sc;have bd:=ct _ j b5 bA;have bl:=λW l b6=>aim.bad (b:=b) (mb:=mb) (B:=B) (I1:=I1) (W:=W) p l br b6;generalize bs.drewN nq=b3 at j a1 bd bA⊢;generalize rdI s p=b1 at bd bn bk bl;obtain⟨cu,t,cv,am,an,ao⟩:=b1;simp at bd bn bk bl;apply bd.mono;rintro e r ⟨rfl,a3,z⟩;have av:=a7 a3 a1;have bz:=ai z;cases cu with
     |false=>
      have b7:=y _ _ _ _ j.ii j.sc.x a3;have a4:=World.grownBy_alloc r (Ax #[zI am,zI p,zI t,zI c,zI an,B3 ao] 58)<|T b;have ca:=y _ _ _ _ b7 ⟨_,_,z⟩ a4;have u:=a7 a4 av;have bx:ja b (r.alloc<|tkO am p t c an ao) s (.map<|T mb) (p:Int) (t:Int) (c+cv) A3:=(zb r _ b bz).trans z;have cq:Kh (r.alloc<|tkO am p t c an ao):=j.ly.blocks (λk _=>((zb r _ k O).trans<|a3.block k (by have:=j.sz;omega) lr));have cr:B<=(r.alloc<|tkO am p t c an ao).heap.size:=by have:=j.sz;have:=a3.size;simp;omega
      have⟨A,C,E,F,G,K,L,ad⟩:=ie z;have bo:B9 (aim b mb B s I1 (r.alloc<|tkO am p t c an ao)/\h (r.alloc<|tkO am p t c an ao)):=⟨bl _ c R bx cq cr ca,u⟩;go_wp2;rw[BJ];apply aA (fE R _ _ _) R;exact .inl ⟨⟨_,R⟩,bo.1,bo.2⟩|true=>
      have bE:=bn R;have a4:=World.grownBy_alloc r (Ax #[zI am,zI p,zI t,zI c,zI an,B3 ao] 58)<|T b;have ax:=j.gr y ak af O a3 ⟨_,z⟩ id;have m:=ax.gr y ak af O a4 ⟨_,(zb r _ b bz).trans z⟩ id;have u:=a7 a4 av;obtain⟨_,tmps,_,_,bo,bx⟩:=bk _ R m u;unfold vTk at bo;simp at bo;have⟨A,C,E,F,G,K,L,ad⟩:=ie z;go_upto_region 8 with fail
      apply(lH (n:=n)).1
      gi_wp2
      refine⟨λf=>by simp[B6]at f,bx.mono ?_⟩;rintro e _ (⟨rfl,ba,b7⟩|⟨H,rfl,ca⟩)
      .clear A C E F G K L ad bo bx
       gi_wp2
       go_wp2;exact⟨⟨t,_,ba,b7⟩,by rw[Gh.pos ba.sc,bf.out];omega⟩
      .exact⟨R,.inr ⟨H,R,ca⟩⟩
  .obtain rfl:p=s.size:=O;go_wp2_with fail;go_quiet (fail)
   go_wp2;rw[Exit.noGoto_normal];go_end0
   exact .inl ⟨⟨_,R⟩,.fin c<|ap _ a2,o _ bw⟩
attribute [local go_sem] oJ
def xg{P b Q id S a}(c:P.follows .mixedOrders=A3)(hS:S w.drew)
  (h:S w.drew->wpAnyH P .any b Q S b.size (Array.replicate b.size A2) a w.drew):(Go.Code.region id b A3).wp P Q a w:=
 wp_region_any c (wpAny_of_held _ _ _ _<|h hS)
def akd(z:Int):List PanicEntry:=[{v:= .iface 52 (D2 #[zI z]),recovered:=A2}]
structure avG (w:V) (base gb mb:Nat) (st stF:zLI) (k z:Int) (e:Ending) (w':V):Prop where
 out:(kJ st k=A3/\e= .returned (.tuple #[])/\GQ w' base gb mb stF/\Gp gb w w'/\A0 base w w')\/(kJ st k=A2/\e= .panicked (akd z)/\A0 w.heap.size w w')
theorem La(w v o mb l u i)(s:Bz)(f)(h:GQ w v o mb l)(a3:uz w)(bd:s.size<=1100000)(E:1<=i.k)(F:i.k<=78)(K:0<=i.f)(L:i.f<=i.t)(ad:i.t<=(s.size:Int))
  (al:kJ l i.k=A3->passOk (M l+45) f l i.k u/\M u<=99999000/\∀a∈u,0<=a/\a<=133):
  B0 X 20 #[be o 0,vTk i,B3 s] w λe d=>avG w v o mb l u i.k (i.f+(Bo l (s.extract i.f.toNat i.t.toNat):Nat)) e d:=by
 obtain⟨k,_,a8,ar,av,ax⟩:=i;unfold vTk;simp at E F K L ad al⊢;obtain⟨c,rfl⟩:=iJ K;obtain⟨j,rfl⟩:=iJ (O:0<=a8);simp[rj];obtain⟨p,ao⟩:∃p:Nat,Bo l (s.extract c j)=p:=⟨_,R⟩;rw[ao];have a0:=ah ao;have af:=(ay w.heap.size w).alloc O<|Ax #[zI k,zI c,zI j,zI ar,zI av,B3 ax] 58 (0,0);have a4:(w.alloc<|Ax #[zI k,zI (c:Int),zI (j:Int),zI ar,zI av,B3 ax] 58 (0,0)).heap[w.heap.size]?=_:=au w _;have am:=h.below af;have bc:o<w.heap.size:=by obtain⟨_,_,_⟩:=h.g.ex;grind
 have⟨a2,an⟩:=aw<|kJ l k;have a6:=am.may E F an;have q:=Lx h a3 a4 an am;go_in;go_wp2_with fail;apply a6.mono;rintro e y ⟨rfl,z⟩;have C:=af.trans<|z.mono I;have A:=(z.block _<|aH q.2.2.1).trans q.2.2.1;have a9:y.cell? (aj w.heap.size 0)=T (zI k):=crV A;have G:y.cell? (aj w.heap.size 1)=T (zI (c:Int)):=crV A;have H:y.cell? (aj w.heap.size 2)=T (zI (j:Int)):=crV A;cases a2 with
 |true=>
  have⟨B,ak,ap⟩:=al O;have m:=q.2.2.2.2.below z;have a1:=aos y v o mb l k _ f u m.g m.r m.ok O (by have:=m.len;omega) E F B;have ba:IntKind.u8.wrap k=k:=by rw[ags];omega
  have bb:=q.1.g.lo;go_wp2_with (go_at_call 52;apply a1.mono;rintro e _ ⟨rfl,x,a7,a5,n⟩);go_end0
  exact⟨.inl ⟨O,R,⟨x,a7,ap,ak⟩,(Gp.of_below C).trans a5,(C.mono O).trans n⟩⟩
 |false=>
  have x:=C.drew;have ap:=K8 _ v o mb l (s.extract c j) (q.1.below x) (q.2.1.below x O) (by have:=lh (a:=s) (b:=c) (e:=j);omega);have a5:(Bo l (s.extract c j):Nat)<=s.size:=by
   have:=Gx l<|s.extract c j;have:=lh (a:=s) (b:=c) (e:=j);omega
  rw[a0.out]at ap a5;have hF:=L;have a7:=ad;have bb:(0:Int)<=(c:Int):=O;have ba:(0:Int)<=(j:Int):=O;have bf:IntKind.i64.wrap ((c:Int)+(p:Int))=(c:Int)+(p:Int):=by rw[du];omega
  go_wp2_with fail;refine xg (S:=λd=>d.cell? _=T _/\d.cell? _=T _) byR ⟨G,H⟩ (λhS=>?_);apply aI 0 (be w.heap.size 1) R R hS (λd ⟨m,n⟩=>by go_simp);simp only[Br];apply aI 1 (zI c) R R hS (λd ⟨m,n⟩=>by go_simp);simp only[Br];apply aI 2 (be o 0) R R hS (λd ⟨m,n⟩=>by go_simp);simp only[Br];apply aI 3 (B3 s) R R hS (λd ⟨m,n⟩=>by go_simp);simp only[Br];apply aI 4 (be w.heap.size 1) R R hS (λd ⟨m,n⟩=>by go_simp);simp only[Br];apply aI 5 (zI c) R R hS (λd ⟨m,n⟩=>by go_simp);simp only[Br];apply aI 6 (be w.heap.size 2) R R hS (λd ⟨m,n⟩=>by go_simp);simp only[Br];apply aI 7 (zI j) R R hS (λd ⟨m,n⟩=>by go_simp);simp only[Br];apply aI 8 (B3<|s.extract c j) R R hS (λd ⟨m,n⟩=>by go_simp);simp only[Br];refine F0 (rs:=[9]) J I<|AllReadyH.cons R (λa1 ak=>?_) AllReadyH.nil;go_simp;apply ap.mono;rintro e _ ⟨rfl,B⟩;refine ak _ _ ⟨ag B G,ag B H⟩ (λhS=>?_);simp only[cA,cC];apply aI 10 (zI<|c+p) R R hS (λd ⟨m,n⟩=>by go_simp);simp only[Br];apply aI 11 (D2 #[zI<|c+p]) R R hS (λd ⟨m,n⟩=>by go_simp);simp only[Br];apply aI 12 (.iface 52<|D2 #[zI<|c+p]) R R hS (λd ⟨m,n⟩=>by go_simp);simp only[Br];refine F0 (rs:=[13]) J I<|AllReadyH.cons R (λa1 ak=>?_) AllReadyH.nil;go_simp;exact⟨R,⟨.inr ⟨O,R,x.trans<|B.mono x.size⟩⟩⟩
structure pE (s:Bz) (R1:zLT×zLI×Int) (st stk:zLI) (p:Nat) (l:Int) (out:zLT) (f:Nat):Prop where
 sim:Jz st stk
 wk:azv s f stk (blk s (s.size+1) p) l out R1
 fu:s.size<blk s (s.size+1) p+f
 len:M st<=45*p+2
 l0:0<=l
 l1:l<=(p:Int)+1
 le:p<=s.size
 ol:M out<=p
 n23:N23 stk
def pE.move{R1 c q b f}(h:pE s R1 c stk p l b f)(a:blk s (s.size+1) p=blk s (s.size+1) q)(e:p<=q)(d:q<=s.size):pE s R1 c stk q l b f:=
 ⟨h.sim,by rw[<-a];exact h.wk,by rw[<-a];exact h.fu,by have:=h.len;omega,h.l0,by have:=h.l1;omega,d,by have:=h.ol;omega,h.n23⟩
theorem pE.step{R1 j b f}(h:pE s R1 j stk p l b f)(c:ue s p):∃g,f=g+1/\s.size<p+1+g/\
  (if tG s p=7 then
   (if(feedL stk 5).2=A3 then sJ s g (feedL stk 5).1 (blk s (s.size+1) (rdI s p).a) (l+1) (b++[⟨5,(p:Nat),((rdI s p).a:Nat),l,(rdI s p).n,(rdI s p).x⟩]) else sJ s g stk (blk s (s.size+1) (rdI s p).a) (l+1) b)
  else if(C0 stk<|tG s p).2=A3 then
   (if(rdI s p).ok=A3 then sJ s g (feedL stk<|tG s p).1 (blk s (s.size+1) (rdI s p).a) l (b++[⟨tG s p,(p:Nat),((rdI s p).a:Nat),l,(rdI s p).n,(rdI s p).x⟩]) else([],stk,((rdI s p).a:Nat)))
  else([],stk,(wrongF s p (Cs stk):Nat)))=R1:=by
 have d:=aao s p c.nb c.nd;have e:=h.fu;have i:=h.wk.out;rw[d]at e i;have k:=c.lt;obtain⟨g,rfl⟩:∃g,f=g+1:=⟨f-1,O⟩
 simp_all [sJ,aa];omega
theorem aov(h:(rdI s p).ok=A3):(rdI s p).d=if(rdI s p).k=7 then 1 else 0:=by
 grind [rdI,Hj,xm]
theorem abq(h:(rdI s p).ok=A3):tG s p=(rdI s p).k:=by grind [tG]
section
variable {s : Bz} {R1 : zLT × zLI × Int} {st stk : zLI} {p : Nat} {l : Int} {out : zLT} {f : Nat}
def pE.next(h:pE s R1 st stk p l out f)(n:ue s p)(k:(rdI s p).ok=A3){e b}{c:zLT}{g}(w:s.size<p+1+g)(m:Jz e b)(x:M e<=M st+45)(y:M c<=M out+1)(j:N23 b)
  (o:sJ s g b (blk s (s.size+1) (rdI s p).a) (l+(rdI s p).d) c=R1):pE s R1 e b (rdI s p).a (l+(rdI s p).d) c g:=by
 have⟨_,i,_,_⟩:=mH s p n.lt k;have v:=na s (s.size+1) _ i;have q:=h.len;have r:=h.l0;have t:=h.l1;have u:=h.ol;exact⟨m,⟨o⟩,O,O,O,O,i,O,j⟩
theorem pE.sep(h:pE s R1 st stk p l out f)(e:ue s p)(c:(rdI s p).ok=A3)(j:(rdI s p).k=7)(o:kJ st 5=A3){b}(q:Jz b (feedL stk 5).1)(m:M b<=M st+45):
  ∃g,pE s R1 b (feedL stk 5).1 (rdI s p).a (l+(rdI s p).d) (out++[⟨5,(p:Nat),((rdI s p).a:Nat),l,(rdI s p).n,(rdI s p).x⟩]) g:=by
 obtain⟨g,rfl,i,r⟩:=h.step e;rw[abq c,ae j,ae (by rw[<-h.sim.may Z Z];exact o)]at r;exact⟨g,h.next e c i q m I (aeJ Z Z stk h.sim.o2 h.n23) (by simp_all [aov])⟩
theorem pE.skip(h:pE s R1 st stk p l out f)(c:ue s p)(b:(rdI s p).ok=A3)(i:(rdI s p).k=7)(j:kJ st 5=A2):∃g,pE s R1 st stk (rdI s p).a (l+(rdI s p).d) out g:=by
 obtain⟨g,rfl,e,m⟩:=h.step c;rw[abq b,ae i,aa (by rw[<-h.sim.may Z Z,j];simp)]at m;exact⟨g,h.next c b e h.sim O O h.n23 (by simp_all [aov])⟩
theorem aed{k}(b:1<=k)(a):C0 a k=feedL a k:=by grind [C0]
theorem pE.tok(h:pE s R1 st stk p l out f)(i:ue s p)(b:(rdI s p).ok=A3)(o:(rdI s p).k≠7)(r:kJ st (rdI s p).k=A3){e}(t:Jz e (feedL stk (rdI s p).k).1)(q:M e<=M st+45):
  ∃g,pE s R1 e (feedL stk (rdI s p).k).1 (rdI s p).a (l+(rdI s p).d) (out++[⟨(rdI s p).k,(p:Nat),((rdI s p).a:Nat),l,(rdI s p).n,(rdI s p).x⟩]) g:=by
 obtain⟨g,rfl,m,u⟩:=h.step i;have⟨c,j⟩:=Hw s p b;rw[abq b,aa o,aed c,ae (by rw[<-h.sim.may c j];exact r),ae b]at u;exact⟨g,h.next i b m t q I (aeJ c j stk h.sim.o2 h.n23) (by simp_all [aov,Int.add_zero])⟩
theorem pE.stop(h:pE s R1 st stk p l out f)(e:ue s p)(a:(rdI s p).ok=A3)(c:(rdI s p).k≠7)(d:kJ st (rdI s p).k=A2):R1.2.2=(wrongF s p (Cs stk):Nat):=by
 obtain⟨_,rfl,_,g⟩:=h.step e;have⟨b,i⟩:=Hw s p a;rw[abq a,aa c,aed b,aa (by rw[<-h.sim.may b i,d];simp)]at g;grind
theorem pE.bad(h:pE s R1 st stk p l out f)(a:ue s p)(b:(rdI s p).ok=A2):0<=R1.2.2:=by
 obtain⟨_,rfl,_,_⟩:=h.step a;grind [tG,afa]
theorem pE.fin(h:pE s R1 st stk s.size l out f):R1=(out++[⟨6,(s.size:Nat),(s.size:Nat),l,0,zE0⟩],stk, -1):=by
 have b:=ahc s _ eE;have c:=h.fu;have d:=h.wk.out;rw[b]at c d;obtain⟨a,rfl⟩:∃a,f=a+1:=⟨f-1,O⟩
 simp_all [sJ]
end
theorem pE.begin(s):pE s (jz s) [100,6] [100,6] 0 1 [] (s.size+1):=
 ⟨ajv,⟨R⟩,O,I,O,O,leZ,I,by intro _ _;grind⟩
structure af4 (s:Bz) (R1:zLT×zLI×Int) (z:Int):Prop where
 bad:0<=R1.2.2
 ex:∃(p:Nat) (st stk:zLI) (l:Int) (out:zLT) (f:Nat),ue s p/\pE s R1 st stk p l out f/\z=(p:Int)+(Bo st (s.extract p (rdI s p).a):Nat)/\((rdI s p).ok=A3->(rdI s p).k≠7/\kJ st (rdI s p).k=A2)
def okO(o:Obj):Prop:=(∃b c,o= .map b c)\/(∃a t fr,o=Ax a t fr/\t≠119)
def sG(W b:V):Prop:=∀(k:Nat)(a:Obj),okO a->W.heap[k]?=T a->b.heap[k]?=T a
def sG.cells(h:sG W W'){cs:zAV}{t}(a:W.heap[k]?=T (Ax cs t fr))(b:t≠119):W'.heap[k]?=T (Ax cs t fr):=h k _ (.inr ⟨_,_,_,R,b⟩) a
theorem sG.row(h:sG W W'){e size:Nat}{xs:zLV}(a:W.ownsRow base e size v n xs)(f:e≠119):W'.ownsRow base e size v n xs:=by
 refine⟨a.1,?_⟩;obtain _|⟨d,b,c,g,i,j,k⟩:=a.2
 .grind
 .exact .inr ⟨d,b,c,g,i,h.cells j f,k⟩
theorem sG.of_gr(f:W.grownBy W' (T b))(h:ScX b W):sG W W':=by
 intro c _ g a;obtain⟨_,_,e⟩:=h;refine(f.block c (aH a) ?_).trans a;intro _;obtain rfl:c=b:=U;rw[e]at a;obtain rfl:=de a;obtain⟨_,_,d⟩|⟨_,_,_,d,_⟩:=g;all_goals grind
def sG.of_put{l}(c:W.heap[l]?=T (.loop r))(e):sG W (W.putObj l e):=by
 intro _ _ d a;refine(N ?_).trans a;rintro rfl;rw[c]at a;obtain rfl:=de a;obtain⟨_,_,b⟩|⟨_,_,_,b,_⟩:=d<;>cases b
def sG.of_putD{l q}(c:W.heap[l]?=T (.deferred q))(e):sG W (W.putObj l e):=by
 intro _ _ d a;refine(N ?_).trans a;rintro rfl;rw[c]at a;obtain rfl:=de a;obtain⟨_,_,b⟩|⟨_,_,_,b,_⟩:=d<;>cases b
def sG.of_below(h:A0 W.heap.size W W'):sG W W':=λb _ _ a=>(h.block b<|aH a).trans a
def GQ.kept{c}(h:GQ W base gb mg c)(a:sG W W'):GQ W' base gb mg c:=by
 have⟨f,d,e⟩:=h.g.ex;exact⟨⟨⟨f,a.cells d Z,a.row e Z⟩,h.g.lo⟩,h.r.same (λ_ _ b=>a _ _ (.inl ⟨_,_,R⟩) b) (λg _ _ b=>a.cells b Z),h.ok,h.len⟩
theorem GQ.same{e}(h:GQ W base gb mg e)(a:∀(k:Nat) (o),W.heap[k]?=T o->(∀cs fr,o≠ Ax cs 58 fr)->(∀cs fr,o≠ Ax cs 44 fr)->W'.heap[k]?=T o):GQ W' base gb mg e:=by
 have⟨p,i,d⟩:=h.g.ex;refine⟨⟨⟨p,a _ _ i U U,d.1,?_⟩,h.g.lo⟩,h.r.same (λ_ _ b=>a _ _ b U U) (λc cs fr b=>a _ _ b U U),h.ok,h.len⟩;obtain _|⟨c,f,g,j,l,m,n⟩:=d.2
 .grind
 .exact .inr ⟨c,f,g,j,l,a _ _ m U U,n⟩
structure yH (w:V) (base gb mg tv:Nat) (s:Bz) (st:zLI) (out:zLT) (W:V):Prop where
 q:GQ W base gb mg st
 bl:A0 base w W
 b0:W.heap[w.heap.size]?=T (.cells #[be gb 0] 54 (0,0))
 b1:W.heap[w.heap.size+1]?=T (.cells #[.string s] 9 (0,0))
 tk:∃v,W.heap[tv]?=T (.cells #[v] 44 (0,0))/\W.ownsRow w.heap.size 58 6 v (M out) (DF out)
def yH.kept{tv c b}(h:yH w base gb mg tv s c b W)(a:sG W W')(d:A0 base W W'):yH w base gb mg tv s c b W':=by
 have⟨g,e,f⟩:=h.tk;exact⟨h.q.kept a,h.bl.trans d,a.cells h.b0 Z,a.cells h.b1 Z,⟨g,a.cells e Z,a.row f Z⟩⟩
def yH.below{tv c b}(h:yH w base gb mg tv s c b W)(a:A0 W.heap.size W W')(d:base<=W.heap.size):yH w base gb mg tv s c b W':=h.kept (.of_below a)<|a.mono d
theorem yH.turn{tv o c b}(h:yH w base gb mg tv s o b W)(j:GQ W' base gb mg c)(a:Gp gb W W')(i:A0 base W W')(t:gb<w.heap.size)(u:w.heap.size<tv):yH w base gb mg tv s c b W':=by
 have⟨r,p,d⟩:=h.tk;have⟨_,_,_⟩:=h.q.g.ex;refine⟨j,h.bl.trans i,mu a h.b0 O,mu a h.b1 O,⟨r,mu a p O,d.1,?_⟩⟩;obtain _|⟨g,e,f,k,l,m,n⟩:=d.2
 .grind
 .refine .inr ⟨g,e,f,k,l,mu a m ?_,n⟩;omega
theorem yH.setTok{tv d f e}{cs:zAV}(h:yH w base gb mg tv s f e W)(p:W.heap[d]?=T (Ax cs 58 fr))(n:∀v,W.heap[tv]?=T (Ax #[v] 44 (0,0))->v.ownBlock≠T d)(l:base<=d)(u):yH w base gb mg tv s f e (W.setCell (aj d 0) u):=by
 have a:∀(c:Nat)(b:Obj),W.heap[c]?=T b->(∀cs fr,b≠ Ax cs 58 fr)->(W.setCell (aj d 0) u).heap[c]?=T b:=λc b a _=>(jg U).trans a;have⟨v,g,o⟩:=h.tk;refine⟨h.q.same (λc b j k _=>a c b j k),h.bl.setCell l _,a _ _ h.b0 U,a _ _ h.b1 U,⟨v,a _ _ g U,?_⟩⟩;exact FH o ⟨R,R,R,byS,λq _ m=>jg (λi=>m (by rw[i]))⟩<|.inr<|n v g
theorem Iw.turn{q f e}{cs:zAV}(h:Iw b mb B s I1 W q l2 p l)(o:W.heap[gb]?=T (Ax cs 113 fr))(a:Gp gb W W')(m:A0 base W W')(u:14<=base)(r:I1 f e W'):Iw b mb B s I1 W' q l2 f e:=by
 have⟨k,d⟩:=h.sc;have n:b≠gb:=by rintro rfl;rw[d]at o;grind
 refine⟨⟨k,mu a d n⟩,?_,h.ly.blocks (λt _=>m.block t O),r,bK h.sz a.size⟩;have⟨j,g,c,i⟩:=h.mp;exact⟨j,g,(a.block _ (aH c) U (λcs fr _=>U)).trans c,i⟩
def Iw.below{q g f}(h:Iw b mb B s I1 W q l2 p l)(a:A0 W.heap.size W W')(k:14<=B)(j:I1 g f W'):Iw b mb B s I1 W' q l2 g f:=by
 have⟨i,e⟩:=h.sc;have m:=h.sz;exact⟨⟨i,(a.block _<|aH e).trans e⟩,h.mp.kept (row:=D1) ⟨a.os,a.tape,a.output,a.size,λc d _=>a.block c d⟩ I,h.ly.blocks (λc d=>a.block c O),j,bK h.sz a.size⟩
theorem Iw.put{L q}(h:Iw b mb B s I1 W q l2 p l)(a:W.heap[L]?=T (.loop r))(o)(m:14<=L)(k:I1 p l (W.putObj L o)):Iw b mb B s I1 (W.putObj L o) q l2 p l:=by
 have⟨i,c⟩:=h.sc;have j:b≠L:=by rintro rfl;rw[c]at a;cases a
 have⟨g,d,e,f⟩:=h.mp;exact⟨⟨i,(N j).trans c⟩,⟨g,d,(N U).trans e,f⟩,h.ly.blocks (λ_ _=>N O),k,by simpa using h.sz⟩
theorem abr(s p)(c:p<s.size):p<=(rdI s p).a/\(rdI s p).a<=s.size:=by
 unfold rdI;split
 .grind [aam,xH]
 split
 .grind [wo]
 split
 .grind [xD]
 split
 .grind
 .rename_i b;have d:=lA s p _ eE;grind [ahb]
def ake{fn P R1}{tmps:zAV}{D a}(b:W.heap[D]?=T (.deferred<|T []))(h:R1 (.panicked a) (W.putObj D<|.deferred D1)):LeavesInM B6 n P fn tmps R1 [{target:= .collected D,args:=#[]}] (.panicking a) W:=
 ⟨I,.inl ⟨_,_,R,run_takeDeferred b,h⟩⟩
