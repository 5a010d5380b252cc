import Derived.Test.YtiaechpcebhcdaaGreatDoorHYk09
import Derived.Laws.Cover2
import Derived.Test.YtiaechpcebhcdaaGreatDoorHYk14
import Derived.Test.YtiaechpcebhcdaaGreatDoorHYk19
import Derived.Test.YtiaechpcebhcdaaGreatDoorHYk25
import Derived.Test.YtiaechpcebhcdaaGreatDoorHYk23
set_option linter.all false
set_option maxRecDepth 100000
set_option maxHeartbeats 25600000
open Go.Proofs.Tryz
open List renaming length->M,set->B7,range->G3
open Go.Value renaming int->N,pointer->A0,slice->B2,bool->B6,ownBlock->Ce,agg->E0,string->E1,tuple->F0,int->F2,slice->G2
open Option renaming some->V,none->Ax
open Go.World renaming putObj_heap_other->Y,news_of_block->Ed
open Go.IntKind renaming u8->A2,i64->B5
open Go renaming World->A3,undef->A5,Value->B4,Calls->Ck,KeepsFrom->C2,TypeId->E2,ownsRow_succ->Fs,grownBy_putObj'->F1,wpAnyH_ready->G0
open Go.RowKit renaming Below->A6,intOf->D3,Hid->D4
open Go.Proofs.Tryz renaming prog->A9
open Go.Obj renaming cells->Br
open Bool renaming true->B0,false->B1
open Go.Ending renaming returned->B3
namespace Go.Proofs.YtiaechpcebhcdaaGreatDoor
open Go.RowKit
variable{B b base gb i k m mb mg n p tv:Nat}{I1:Nat->Int->World->Prop}{R:List Tk×List Int×Int}{W W' w:World}{a l t:Int}{fr:Nat×Nat}{out:List Tk}{s:Bz}{st stk:List Int}
def ams:(Tryz.prog.info? 87).map (λi=>(i.zero,i.size,i.bytes))=V (V (N A2 0),1,1):=J
def cSy(st:List Int):List B4:=st.reverse.map (F2 A2)
def aaq(a:Int)(st:List Int):cSy (a::st)=cSy st++[N A2 a]:=by simp[cSy]
def Jw(st:List Int):M (cSy st)=M st:=by simp[cSy]
structure Jy (W:A3) (base gb:Nat) (mv:B4) (st:List Int):Prop where
 ex:∃v,W.heap[gb]?=V (.cells #[mv,v] 85 (0,0))/\W.ownsRow base 87 1 v (M st) (cSy st)
 lo:base<=gb
def Jy.below{c:B4}(h:Jy W base gb c st)(b:A6 W.heap.size W W'):Jy W' base gb c st:=by
 have⟨e,a,d⟩:=h.ex;exact⟨⟨e,(b.block _ (ah a)).trans a,bz d b⟩,h.lo⟩
structure Gp (gb:Nat) (w w':A3):Prop where
 os:w'.os=w.os
 tape:w'.tape=w.tape
 output:w'.output=w.output
 size:w.heap.size<=w'.heap.size
 block:∀k,k<w.heap.size->k≠gb->(∀cs fr,w.heap[k]?≠V (.cells cs 87 fr))->w'.heap[k]?=w.heap[k]?
def Gp.refl(a:Nat)(w:A3):Gp a w w:=⟨rfl,rfl,rfl,cJ,λ_ _ _ _=>rfl⟩
theorem Gp.trans{x e z:A3}(h:Gp gb x e)(k:Gp gb e z):Gp gb x z:=
 ⟨k.os.trans h.os,k.tape.trans h.tape,k.output.trans h.output,aK h.size k.size,λc a b d=>
  (k.block c (gF a h.size) b (λf g=>by rw[h.block c a b d];grind)).trans (h.block c a b d)⟩
def Gp.of_below{a:A3}(h:A6 w.heap.size w a):Gp gb w a:=⟨h.os,h.tape,h.output,h.size,λc b _ _=>h.block c b⟩
theorem Jy.put{W:A3}{base a:Nat}{d i:B4}(g:W.heap[a]?=V (Br #[d,i] 85 (0,0)))(lo:base<=a){v:B4}{st:List Int}(c:W.ownsRow base 87 1 v (M st) (cSy st)):Jy (W.setCell ⟨a,1,Ax⟩ v) base a d st:=by
 refine⟨⟨v,aI _ a 1 _ _ _ g,?_⟩,lo⟩;refine c.kept (row:=V a) ⟨rfl,rfl,rfl,byS,λp o h=>az _ _ _ _ (λb=>h (by rw[b]))⟩ ?_;rcases bm c with⟨_,rfl⟩|⟨e,j,rfl⟩
 .exact .inl rfl
 .refine .inr ?_;intro b;obtain rfl:e=a:=by simpa [Ce] using b
  rcases c.2 with⟨f,_⟩|⟨m,k,l,f,_,n,_⟩;all_goals grind
theorem Bm(w:A3)(base b:Nat)(E:B4)(st:List Int)(a:Int)(h:Jy w base b E st)(L:M st<=100000000):
  Ck A9 33 #[A0 (V ⟨b,1,Ax⟩),N A2 a] w λe u=>e= B3 (F0 #[])/\Jy u base b E (a::st)/\Gp b w u/\A6 base w u:=by
 have⟨a5,r,j⟩:=h.ex;have y:=h.lo;have⟨g,z⟩:=aw (M st);rw[z]at j L;obtain⟨m,n,rfl⟩:=cG j;have⟨ak,al,am,an,ao⟩:=eC ams;have ad:=ah r;have ap:w.cell? ⟨b,1,Ax⟩=V (B2 m g n):=by rw[au _ _ _ _ _ _ r];rfl
 have A:∀f,(G2 m g n).ownBlock=V f->f≠b/\base<=f:=λf i=>by
  refine⟨?_,(j.lt f i).1⟩;rintro rfl;rcases j.2 with⟨c,_⟩|⟨q,G,H,c,_,K,_⟩
  .rw[c]at i;simp[Ce]at i
  .rw[c]at i;obtain rfl:q=f:=by simpa [Ce] using i
   grind
 have l:=jB j r z;go_in;go_wp2_with (at_builtin;refine pF _ rfl _ _ 81 rfl base 87 ak _ 1 1 underlying81 al am an ao rfl Z _ _ _ rfl (l.1.alloc _) ⟨w.heap.size,0,Ax⟩ 1 1 [N A2 a] rfl rfl (Ed (cs:=#[N A2 a]) (fr:=(0,0)) (ay w _)) (by intro a4 C;simp at C;subst C;rfl) py O byT ?_;intro a6 p B d a3;obtain⟨x,v,rfl⟩:=Fs B;have s:=(d.block b byT (λe=>(A b e.symm).1 rfl)).trans ((dG _ _ _ ad).trans l.2.1);have a7:p.cell? ⟨b,1,Ax⟩=V (B2 m g n):=(by rw[au _ _ _ _ _ _ s];rfl);have ar:p.frozen? ⟨b,1,Ax⟩=B1:=cD _ _ _ _ _ s);have ag:=d.size;rw[fp]at ag;have a1:=Jy.put s y (by rw[db,l.out.2.2,aaq];exact B);have a0:Gp b w (p.setCell ⟨b,1,Ax⟩ (B2 (V ⟨x,0,Ax⟩) (g+1) v)):=by
  refine⟨d.os,d.tape,d.output,by simp[World.setCell];omega,λk t af a2=>?_⟩;rw[az _ _ _ _ af];refine(d.block k byT (λe=>?_)).trans (dG _ _ _ t);have o:(G2 m g n).ownBlock=V k:=e.symm;rcases l.1.2 with⟨c,_⟩|⟨q,G,H,c,_,K,_⟩
  .rw[c]at o;simp[Ce]at o
  .rw[c]at o;obtain rfl:q=k:=by simpa [Ce] using o
   grind
 have aL:A6 base w (p.setCell ⟨b,1,Ax⟩ (B2 (V ⟨x,0,Ax⟩) (g+1) v)):=by
  have F:A6 base w (w.alloc (Br #[N A2 a] 87)):=(ai _ w).alloc O _;exact(F.grown d byT (λk t=>(A k t).2)).setCell y _
 go_end0
 grind
theorem aar(w:A3)(base b:Nat)(l:B4)(st:List Int)(a:Int)(h:Jy w base b l (a::st))(o:M st<=100000000):
  Ck A9 83 #[A0 (V ⟨b,1,Ax⟩)] w λe i=>e= B3 (N A2 a)/\Jy i base b l st/\Gp b w i/\A6 base w i:=by
 have⟨y,f,d⟩:=h.ex;have k:=h.lo;have⟨g,c⟩:=aw (M st);rw[db,aaq,c]at d;rw[c]at o;obtain⟨j,n,rfl⟩:=Fs d;have hcut:=ad6 (by rw[Jw,c,wL]) d;have u:=ad7 d;have q:w.cell? ⟨b,1,Ax⟩=V (B2 (V ⟨j,0,Ax⟩) (g+1) n):=by rw[au _ _ _ _ _ _ f];rfl
 have r:w.cell? ⟨j,g,Ax⟩=V (N A2 a):=by
  rw[d.cellAt g O,jr (by rw[Jw];omega),Jw,c,fI];rfl
 have s:w.frozen? ⟨b,1,Ax⟩=B1:=cD _ _ _ _ _ f;have m:=aj (Jy.put f k (by rw[c];omega));go_in;go_wp21
 go_ret;refine⟨rfl,m,⟨rfl,rfl,rfl,byS,λx v p t=>az _ _ _ _ p⟩,(ai _ w).setCell k _⟩
open Go.Maps Go.WideMaps
structure RI (W:A3) (base mb:Nat):Prop where
 ex:∃(D:DataW B4) (f:Int->B4) (n:Nat),W.ownsMap A9 87 yg mb n D/\∀a,0<=a->a<=255->D.atKey (.int .u8 a) (.held (.slice Ax 0 0))= .held (f a)/\jh W base (f a) (lu a)
theorem RM.ri{R:List (Int×List (List Int))}(h:RM W base mb n R)(g:∀a,0<=a->a<=255->Cq R a=lu a):RI W base mb:=by
 have⟨D,b,c,f,_⟩:=h.ex;exact⟨D,b,n,c,λa d e=>U⟩
theorem RI.same(h:RI W base mb)(n:∀a c,W.heap[mb]?=V (.map a c)->W'.heap[mb]?=V (.map a c))(o:∀(g:Nat) (cs:Array B4) (fr:Nat×Nat),W.heap[g]?=V (Br cs 150 fr)->W'.heap[g]?=V (Br cs 150 fr)):RI W' base mb:=by
 obtain⟨D,m,p,⟨a,c,k,l⟩,f⟩:=h.ex;refine⟨D,m,p,⟨a,c,n _ _ k,l⟩,λb d e=>⟨(f b d e).1,?_⟩⟩;have:=(f b d e).2;refine⟨this.1,?_⟩;rcases this.2 with h|⟨g,i,j,q,r,s,t⟩
 .grind
 .exact .inr ⟨g,i,j,q,r,o _ _ _ s,t⟩
def RI.below(h:RI W base mb)(b:A6 W.heap.size W W'):RI W' base mb:=
 h.same (λe c a=>(b.block _ (aA a)).trans a) (λg d f a=>(b.block _ (aA a)).trans a)
theorem RI.gp{cs:Array B4}(h:RI W base mb)(g:W.heap[gb]?=V (Br cs 85 fr))(b:Gp gb W W'):RI W' base mb:=
 h.same (λe d a=>(b.block _ (aA a) U (λcs fr c=>U)).trans a)
  (λf cs fr a=>(b.block _ (aA a) U (λcs fr c=>U)).trans a)
theorem aas(c:0<=a)(d:a<=255):∀R,((G3 256).all λa=>decide (Cq R (a:Int)=lu (a:Int)))=B0->Cq R a=lu a:=by
 intro R b;have:=List.all_eq_true.1 b a.toNat U;grind
def Jz(w:A3)(h:E2)(fr:Nat×Nat)(f:w.heap[1]?=V (Br DI h fr)):
  Ck A9 32 #[] w λe i=>e= B3 (.map (V w.heap.size))/\RI i w.heap.size w.heap.size/\A6 w.heap.size w i:=by
 have g:=aA f;have s:∀w:A3,(Instr.makeMap 79 (V (N A2 34))).run A9 w= .ok (.map (V w.heap.size)) (w.alloc (.map #[] 0)):=λw=>by rfl
 have j:RM (w.alloc (.map #[] 0)) w.heap.size w.heap.size 0 []:=⟨⟨.map [],λ_=> B2 Ax 0 0,World.ownsMap_made _ _ _ _,λa _ _=>⟨rfl,⟨rfl,.inl ⟨rfl,rfl⟩⟩⟩,λa r _ _ _ _ _=> .inl rfl⟩,cJ⟩;have b:A6 w.heap.size w (w.alloc (.map #[] 0)):=(ai _ _).alloc cJ _;have n:=aj f;go_in;go_wp2_with (first
  |(go_at_call 71;apply(aab _ w.heap.size w.heap.size 0 [] j O).mono;rintro e t ⟨rfl,k,c⟩)
  |(go_at_call 72;apply(L9 _ w.heap.size w.heap.size _ _ k O).mono;rintro e u ⟨rfl,l,d⟩)
  |(go_at_call 73;apply(aaa _ w.heap.size w.heap.size _ _ l O h fr ((((b.trans c).trans d).block _ g).trans n) g).mono;rintro e v ⟨rfl,m,q⟩))
 go_ret;exact⟨rfl,m.ri (λa o p=>aas o p _ byR),((b.trans c).trans d).trans q⟩
def JA(w:A3)(i:E2)(fr:Nat×Nat)(q:w.heap[1]?=V (Br DI i fr)):
  Ck A9 12 #[] w λe b=>∃gb,e= B3 (A0 (V ⟨gb,0,Ax⟩))/\Jy b w.heap.size gb (.map (V w.heap.size)) [100,6]/\RI b w.heap.size w.heap.size/\A6 w.heap.size w b:=by
 go_in;go_wp21
 apply(Jz w i fr q).mono;rintro e w1 ⟨rfl,k,g⟩;have h:=g.size;have c:Jy (w1.alloc (Br #[.map (V w.heap.size),B2 Ax 0 0] 85 (0,0))) w.heap.size w1.heap.size (.map (V w.heap.size)) []:=⟨⟨B2 Ax 0 0,ay w1 _,⟨rfl,.inl ⟨rfl,rfl⟩⟩⟩,h⟩;have a:=g.alloc h (Br #[.map (V w.heap.size),B2 Ax 0 0] 85 (0,0));have f:=fD (k.below ((ai w1.heap.size w1).alloc cJ (Br #[.map (V w.heap.size),B2 Ax 0 0] 85 (0,0)))) a;go_wp21
 apply(Bm _ w.heap.size w1.heap.size (.map (V w.heap.size)) [] 6 c Z).mono;rintro e t ⟨rfl,d,l,a⟩;go_wp21
 apply(Bm _ w.heap.size w1.heap.size (.map (V w.heap.size)) [6] 100 d Z).mono;rintro e u ⟨rfl,j,m,p⟩;go_wp21
 go_ret;have⟨r,n,_⟩:=c.ex;have⟨s,o,_⟩:=d.ex;exact⟨_,rfl,j,(f.1.gp n l).gp o m,(f.2.trans a).trans p⟩
structure GB (W:A3) (base gb mb:Nat):Prop where
 c:W.cell? ⟨gb,0,Ax⟩=V (.map (V mb))
 r:RI W base mb
def GB.below(h:GB W base gb mb)(a:A6 W.heap.size W W'):GB W' base gb mb:=⟨aq a h.c,h.r.below a⟩
def dp(a:Int):Nat:=if a<100 then 0 else if a=100 then 3 else if a=102 then 2 else if a=110\/a=111 then 4 else if a=114 then 2 else if a=117 then 3 else if a=118 then 2 else if a=122 then 5 else if a=124 then 4 else 1
def hdN(f:Nat)(t:Int)(r:List Int):Bool:=BL f (r.getD 0 0) t
def Bn(L:List (List Int))(d:Nat):Bool:=decide (M L<=30)&&L.all λr=>decide (M r<=6)&&r.all (λa=>decide (1<=a/\a<=133))&&decide (dp (r.getD 0 0)+1<=d)
def aat:((G3 256).all λa=>Bn (lu (a:Int)) (dp (a:Int)))=B0:=by decide+kernel
theorem Dr(b:0<=a)(c:a<=255):Bn (lu a) (dp a)=B0:=by
 have:=List.all_eq_true.1 aat a.toNat U;grind
theorem an9(a:1<=t)(f:Nat)(r:List Int):hdN (f+1) t r=(match r with|[]=>B1|h::_=>BL (f+1) h t):=by
 cases r with
 |nil=>
  show BL (f+1) 0 t=B1;rw[BL,ifp];grind
 |cons h b=>rfl
theorem aer{r:List Int}(h:M r<=6):rc r=[N A2 (r.getD 0 0),N A2 (r.getD 1 0),N A2 (r.getD 2 0),N A2 (r.getD 3 0),N A2 (r.getD 4 0),N A2 (r.getD 5 0)]:=by
 match r,h with
 |[],_=>rfl
 |[_],_=>rfl
 |[_,_],_=>rfl
 |[_,_,_],_=>rfl
 |[_,_,_,_],_=>rfl
 |[_,_,_,_,_],_=>rfl
 |[_,_,_,_,_,_],_=>rfl
 |_::_::_::_::_::_::_::_,h=>grind
theorem jh.cell{g c:Nat}{L:List (List Int)}(h:jh W base (B2 (V ⟨g,0,Ax⟩) n c) L)(o:∀r∈L,M r<=6){r:List Int}(e:L[k]?=V r)(p:i<6):
  W.cell? ⟨g,k*6+i,Ax⟩=V (N A2 (r.getD i 0)):=by
 have q:k<M L:=(List.getElem?_eq_some_iff.1 e).1;have d:n=M L:=by
  rcases h.2 with⟨h,_⟩|⟨m,j,l,h,_⟩;all_goals grind
 subst d;rw[World.ownsRow.cellAt h (k*6+i) O];have u:∀(L:List (List Int)),(∀r∈L,M r<=6)->∀k r,L[k]?=V r->(Dh L)[k*6+i]?=V (N A2 (r.getD i 0)):=by
  intro L
  induction L with
  |nil=>grind
  |cons a L t=>
   intro h k r b;have f:=h a I;rw[show Dh (a::L)=rc a++Dh L from rfl];have s:M (rc a)=6:=by simp[rc];omega
   cases k with
   |zero=>
    simp at b;subst b;rw[mo O,aer f];rcases(O:i=0\/i=1\/i=2\/i=3\/i=4\/i=5) with rfl|rfl|rfl|rfl|rfl|rfl<;>rfl
   |succ k=>
    grind
 grind
def agj(W:A3)(b:Nat)(x0 a c d e f:Int):A3:=((((((W.setCell ⟨b,0,Ax⟩ (N A2 x0)).setCell ⟨b,1,Ax⟩ (N A2 a)).setCell ⟨b,2,Ax⟩ (N A2 c)).setCell ⟨b,3,Ax⟩ (N A2 d)).setCell ⟨b,4,Ax⟩ (N A2 e)).setCell ⟨b,5,Ax⟩ (N A2 f))
def aau{t:E2}{l m n o p q:Int}(h:W.heap[b]?=V (Br #[N A2 l,N A2 m,N A2 n,N A2 o,N A2 p,N A2 q] t (0,0)))(x0 c d e f g:Int):(agj W b x0 c d e f g).heap[b]?=V (Br #[N A2 x0,N A2 c,N A2 d,N A2 e,N A2 f,N A2 g] t (0,0)):=by
 have a:=λi j {W k}=>aI W b i k t (N A2 j);simpa [agj] using a 5 g (a 4 f (a 3 e (a 2 d (a 1 c (a 0 x0 h)))))
def E9(h:A6 base w W)(a:base<=b)(x0 c d e f g:Int):A6 base w (agj W b x0 c d e f g):=by
 unfold agj
 iterate 6 refine gh ?_ a _
 exact h
def aes{fn:Func}{p u:Tmp}(h:fn.results=#[.cell p 150,.tmp u])(tmps:Array B4)(w:A3)(g:Nat)(x0 a c d e f:Int)(b:Bool)(j:tmps.getD p A5= A0 (V ⟨g,0,Ax⟩))(k:tmps.getD u A5= B6 b)
  (i:w.heap[g]?=V (Br #[N A2 x0,N A2 a,N A2 c,N A2 d,N A2 e,N A2 f] 150 (0,0))):(results fn tmps).run A9 w= .ok (F0 #[E0 #[N A2 x0,N A2 a,N A2 c,N A2 d,N A2 e,N A2 f],B6 b]) w:=by
 rw[results_cell_tmp h,j];simp only[asAddr,Sem.run_pure,Id];rw[Ij w g 150 150 _ _ _ i underlying150 rfl J,Id,k]
def aet(n:Nat):Prop:=∀(w:A3)(base gb mb:Nat)(a t:Int),GB w base gb mb->0<=a->a<=133->dp a<=n->1<=t->t<=78->
 Ck A9 78 #[A0 (V ⟨gb,0,Ax⟩),N A2 a,N A2 t] w λb c=>b= B3 (B6 (BL (n+1) a t))/\A6 w.heap.size w c
def rwN(f:Nat)(L:List (List Int))(t:Int):List Int:=(L.find? (hdN f t)).getD []
structure Fa (f:Nat) (t:Int) (L:List (List Int)) (k:Nat) (r:List Int) (b:Bool):Prop where
 fd:rwN f (L.drop k) t=r
 an:(L.drop k).any (hdN f t)=b
theorem Fb(n:Nat)(bE:aet n)(w:A3)(base ad mb:Nat)(a t:Int)(ak:GB w base ad mb)(H:0<=a)(cw:a<=133)(cB:dp a<=n+1)(ce:1<=t)(cf:t<=78)(v:List Int)(s:Bool)(bA:Fa (n+1) t (lu a) 0 v s):
  Ck A9 84 #[A0 (V ⟨ad,0,Ax⟩),N A2 a,N A2 t] w λe cg=>e= B3 (F0 #[E0 (rc v).toArray,B6 s])/\A6 w.heap.size w cg:=by
 have⟨D,cz,c4,a2,bw⟩:=ak.r.ex;have⟨a4,g⟩:=bw a H O;have E:=Dr H (O:a<=255);generalize lu a=f at *;unfold Bn at E;rw[cH,tK]at E;have bD:M f<=30:=be E.1;have q:∀b∈f,M b<=6:=λb d=>U;have b5:∀b∈f,dp (b.getD 0 0)<=n:=λb d=>U;have b6:∀b∈f,0<=b.getD 0 0/\b.getD 0 0<=133:=λb d=>by
  have:=E.2 b d;simp only[cH,tK]at this;cases b with
  |nil=>simp
  |cons dd b=>grind
 have⟨B,a9⟩:=aw (M f);have ao:=g;unfold jh at ao;rw[a9]at ao bD;have⟨bj,cy,b2⟩:=cG ao;rw[b2]at a4 g;have bk:=ak.c;have b3:=a2.lt;have cA:=λo=>aq (al1 (o:=o) rfl).2.1 bk;have G:=Dy ak g a9 bA;go_in;go_wp2_with (at_lookup;refine si rfl _ _ rfl rfl a2 ?blk a H O rfl a4 ?_)
 case blk=>exact dG _ _ _ b3
 go_loopw [17] (λi wr=>∃c:Nat,c<=B/\i= N B5 c/\Fa (n+1) t f c v s/\A6 w.heap.size w wr/\wr.heap[w.heap.size]?=V (Br #[N A2 0,N A2 0,N A2 0,N A2 0,N A2 0,N A2 0] 150 (0,0))) (λi _=>B-(D3 i).toNat)
 case atStart=>exact⟨0,O,rfl,G.2.2.2,(al1 rfl).2.1,(al1 rfl).1⟩
 case round=>
  obtain⟨c,cF,rfl,u,y,A⟩:=hrel;by_cases c2:c<B
  .obtain⟨b,d⟩:∃b,f[c]?=V b:=⟨_,bi O⟩;have am:=da d;have g:=G.2.1.keep y;obtain⟨L,rfl⟩:∃L,bj=V ⟨L,0,Ax⟩:=by
    rcases bm g with⟨bv,_⟩|⟨L,cx,bv⟩;all_goals grind
   have bg:=g.cell q d (i:=0) Z;have b9:=g.cell q d (i:=1) Z;have ca:=g.cell q d (i:=2) Z;have cb:=g.cell q d (i:=3) Z;have cc:=g.cell q d (i:=4) Z;have cd:=g.cell q d (i:=5) Z;have⟨h,ap⟩:=aw (b.getD 0 0);have⟨j,ba⟩:=aw (b.getD 1 0);have⟨k,bb⟩:=aw (b.getD 2 0);have⟨l,bc⟩:=aw (b.getD 3 0);have⟨m,bd⟩:=aw (b.getD 4 0);have⟨p,bf⟩:=aw (b.getD 5 0);rw[ap]at bg;rw[ba]at b9;rw[bb]at ca;rw[bc]at cb;rw[bd]at cc;rw[bf]at cd;rw[du]at bg;have⟨a5,a6⟩:=b6 b am;have a7:=b5 b am;rw[ap]at a5 a6 a7;have c1:(c:Int)<(B:Int):=O;have cI:(0:Int)<=(c:Int):=O;have aL:=ate d am ap ba bb bc bd bf;have a3:=y.alloc y.size (Br #[N A2 h,N A2 j,N A2 k,N A2 l,N A2 m,N A2 p] 150 (0,0));have b8:=bE _ base ad mb h t (G.1.below a3) a5 a6 a7 ce cf;go_wp2_with fail;refine b8.mono ?_;rintro e F ⟨rfl,af⟩;have c3:=y.size;have b7:=aA A;have b1:F.heap[wr.heap.size]?=V (Br #[N A2 h,N A2 j,N A2 k,N A2 l,N A2 m,N A2 p] 150 (0,0)):=(af.block _ I).trans (ay wr _);have ar:F.heap[w.heap.size]?=V (Br #[N A2 0,N A2 0,N A2 0,N A2 0,N A2 0,N A2 0] 150 (0,0)):=((af.block _ byT).trans (dG _ _ _ b7)).trans A;have bx:A6 w.heap.size w F:=a3.trans (af.mono byT);have C:f.drop c=b::f.drop (c+1):=by
    obtain⟨bl,K⟩:=List.getElem?_eq_some_iff.1 aL.1;rw[ja bl,K]
   have z:hdN (n+1) t b=BL (n+1) h t:=by unfold hdN;grind
   have b4:rc b=[N A2 h,N A2 j,N A2 k,N A2 l,N A2 m,N A2 p]:=by
    have⟨_,K,bn,bo,bp,br,bs,bt⟩:=aL.out;rw[aer (q b K),bn,bo,bp,br,bs,bt]
   cases hbv:BL (n+1) h t with
   |true=>
    have r:D4 (v=b/\s=B0):=by
     rw[hbv]at z;refine⟨?_,?_⟩
     .rw[<-u.fd,C];unfold rwN;grind
     .rw[<-u.an,C,List.any_cons,z];rfl
    have al:=aau ar h j k l m p;have ag:=E9 bx cJ h j k l m p;have⟨c5,c6,c7,c8,c9,dc⟩:=iu b1;have⟨z0,cq,cr,cs,ct,cu⟩:=iu ar;have⟨ch,ck,cl,cm,cn,cp⟩:=qm ar;have x:=fD al ag;have bh:D4 (hdN (n+1) t b=B0/\rc b=[N A2 h,N A2 j,N A2 k,N A2 l,N A2 m,N A2 p]):=⟨z.trans hbv,b4⟩;go_wp2_with fail;try rw[zt]
    change bodyPost _ _ _ _ _ (agj F w.heap.size h j k l m p)
    refine aD (aes rfl _ _ w.heap.size h j k l m p B0 rfl rfl x.1) rfl ⟨?_,x.2⟩;rw[r.out.1,r.out.2,bh.out.2]
   |false=>
    have r:Fa (n+1) t f (c+1) v s:=by
     rw[hbv]at z;refine⟨?_,?_⟩
     .rw[<-u.fd,C];unfold rwN;grind
     .rw[<-u.an,C,List.any_cons,z];rfl
    go_wp2;go_roundw
    case rel=>grind
    case measure=>simp[D3];omega
  .obtain rfl:c=B:=O;have r:D4 (v=[]/\s=B1):=by
    have a8:f.drop c=[]:=kD O;refine⟨?_,?_⟩
    .rw[<-u.fd,a8];rfl
    .rw[<-u.an,a8];rfl
   have al:=aau A 0 0 0 0 0 0;have ag:=E9 y cJ 0 0 0 0 0 0;have⟨z0,cq,cr,cs,ct,cu⟩:=iu A;have⟨ch,ck,cl,cm,cn,cp⟩:=qm A;have x:=fD al ag;go_wp2_with fail;try rw[zt]
   change bodyPost _ _ _ _ _ (agj wr w.heap.size 0 0 0 0 0 0)
   refine aD (aes rfl _ _ w.heap.size 0 0 0 0 0 0 B1 rfl rfl x.1) rfl ⟨?_,x.2⟩;rw[r.out.1,r.out.2];rfl
def apy(a:1<=t)(f:Nat)(L:List (List Int)):L.any (hdN (f+1) t)=L.any (λr=>match r with|[]=>B1|h::_=>BL (f+1) h t):=by
 congr 1
 funext r
 exact an9 a f r
theorem Ca(n:Nat)(u:n=0\/∃m,n=m+1/\aet m):aet n:=by
 intro A o q y a c s h l C k z;by_cases j:a<100
 .have f:BL (n+1) a c=decide (a=c):=by rw[BL,ab j]
  rw[f];have p:(a==c)=decide (a=c):=U;have⟨B,t⟩:=aw (decide (a=c));rw[t]at p⊢;go_in;go_wp21
  go_ret;exact⟨rfl,ai _ _⟩
 .have E:1<=dp a:=by unfold dp;grind
  obtain⟨m,rfl,v⟩:=u.resolve_left O;obtain⟨b,e,g⟩:∃b e,Fa (m+1) c (lu a) 0 b e:=⟨_,_,⟨rfl,rfl⟩⟩;have f:BL (m+1+1) a c=e:=by
   rw[BL,aa j];refine(apy k m (lu a)).symm.trans ?_;rw[<-g.an];rfl
  rw[f];have d:=Fb m v A o q y a c s h l O k z b e g;have x:M b<=6:=by
   have w:=Dr h (O:a<=255);rw[Bn,cH,tK]at w;have r:=g.fd;unfold rwN at r;cases hf:List.find? (hdN (m+1) c) (List.drop 0 (lu a)) with
   |none=>grind
   |some F=>
    grind
  rw[aer x]at d;generalize b.getD 0 0=H at d;generalize b.getD 1 0=K at d;generalize b.getD 2 0=L at d;generalize b.getD 3 0=ad at d;generalize b.getD 4 0=af at d;generalize b.getD 5 0=ag at d;go_in;go_wp2_with (go_at_call 84;apply d.mono;rintro f G ⟨rfl,i⟩);go_ret;exact⟨rfl,i.alloc i.size _⟩
def yI:∀n,aet n
 |0=>Ca 0 (.inl rfl)
 |n+1=>Ca (n+1) (.inr ⟨n,rfl,yI n⟩)
attribute [local go_sem] mK
def apz(w:A3):(Op.equalIn 10000 150 (E0 #[N A2 0,N A2 0,N A2 0,N A2 0,N A2 0,N A2 0]) (E0 #[N A2 0,N A2 0,N A2 0,N A2 0,N A2 0,N A2 0])).run A9 w= .ok B0 w:=J
theorem apA{x0:Int}(h:x0≠0)(a b c d e:Int)(w:A3):(Op.equalIn 10000 150 (.agg #[.int .u8 0,.int .u8 0,.int .u8 0,.int .u8 0,.int .u8 0,.int .u8 0]) (.agg #[.int .u8 x0,.int .u8 a,.int .u8 b,.int .u8 c,.int .u8 d,.int .u8 e])).run A9 w= .ok B1 w:=by
 have f:(0==x0)=B1:=U;rw[show(10000:Nat)=9999+1 from rfl,Op.equalIn];simp only[Sem.run_bind,run_underlying underlying150,Id];simp only[Std.Legacy.Range.forIn_eq_forIn_range',Std.Legacy.Range.size,Il,ou,Nat.div_one,List.range'_succ,List.range'_zero,List.forIn_cons,List.forIn_nil];go_simp
def wt{a:A3}(h:A6 B a w)(n:Nat):A6 B a (w.drewN n):=⟨h.os,h.tape,h.output,h.size,h.block⟩
structure JB (L:List (List Int)) (k:Nat) (b:Bool):Prop where
 out:(L.drop k).contains []=b
theorem agk(w:A3)(base:Nat)(v:B4)(L:List (List Int))(c:Bool)(b:jh w base v L)(K:M L<=30)(f:∀r∈L,M r<=6)(af:∀r∈L,r≠[]->1<=r.getD 0 0)(H:JB L 0 c):
  Ck A9 189 #[v,E0 #[N A2 0,N A2 0,N A2 0,N A2 0,N A2 0,N A2 0]] w λe ag=>(∃z,e= B3 (N B5 z)/\decide (0<=z)=c)/\A6 w.heap.size w ag:=by
 have⟨h,q⟩:=aw (M L);have m:=b;unfold jh at m;rw[q]at m K;obtain⟨B,ar,rfl⟩:=cG m;have o:=jB b q H;go_in;go_wp2;go_loopw [8] (λi wr=>∃a:Nat,a<=h/\i= N B5 a/\JB L a c/\A6 w.heap.size w wr/\wr.heap[w.heap.size]?=V (Br #[N A2 0,N A2 0,N A2 0,N A2 0,N A2 0,N A2 0] 150 (0,0))) (λi _=>h-(D3 i).toNat)
 case atStart=>exact⟨0,O,rfl,o.2.2,(al1 rfl).2.1,(al1 rfl).1⟩
 case round=>
  obtain⟨a,aL,rfl,l,j,s⟩:=hrel;by_cases a2:a<h
  .obtain⟨r,d⟩:∃r,L[a]?=V r:=⟨_,bi O⟩;have b:=o.1.keep j;obtain⟨k,rfl⟩:∃k,B=V ⟨k,0,Ax⟩:=by
    rcases bm b with⟨F,_⟩|⟨k,ap,F⟩;all_goals grind
   have n:=b.cell f d (i:=0) Z;have t:=b.cell f d (i:=1) Z;have u:=b.cell f d (i:=2) Z;have x:=b.cell f d (i:=3) Z;have y:=b.cell f d (i:=4) Z;have A:=b.cell f d (i:=5) Z;rw[du]at n;have ad:r=[]\/1<=r.getD 0 0:=(Decidable.em (r=[])).imp_right (af r (da d));have p:L.drop a=r::L.drop (a+1):=by
    obtain⟨C,E⟩:=List.getElem?_eq_some_iff.1 d;rw[ja C,E]
   have⟨a3,a4,a5,a6,a7,a8⟩:=iu s;have a1:(a:Int)<(h:Int):=O;have a0:(0:Int)<=(a:Int):=O;rcases ad with rfl|hpos
   .have g:D4 (c=B0):=by
     show c=B0;rw[<-l.out,p];simp
    simp only[List.getD_nil]at n t u x y A;have G:=λw=>apz w;go_wp2_with fail;go_quiet (fail)
    go_wp2_with fail;try rw[zt]
    go_ret;exact⟨⟨_,rfl,by rw[g.out];grind⟩,wt j nq⟩
   .have g:JB L (a+1) c:=by
     refine⟨?_⟩;rw[<-l.out,p,List.contains_cons];grind
    generalize r.getD 0 0=x0 at n hpos;generalize r.getD 1 0=ak at t;generalize r.getD 2 0=al at u;generalize r.getD 3 0=am at x;generalize r.getD 4 0=an at y;generalize r.getD 5 0=ao at A;have G:=λw=>apA (x0:=x0) O ak al am an ao w;go_wp2_with fail;go_quiet (fail)
    go_wp2;go_roundw
    case rel=>exact⟨a+1,O,by go_num,g,wt j nq,s⟩
    case measure=>simp[D3];omega
  .obtain rfl:a=h:=O;have g:D4 (c=B1):=by
    show c=B1;rw[<-l.out,kD O];rfl
   go_wp2;go_ret;exact⟨⟨-1,rfl,by rw[g.out];rfl⟩,j⟩
theorem JC(w:A3)(base:Nat)(v:B4)(L:List (List Int))(a:Bool)(h:jh w base v L)(g:M L<=30)(c:∀r∈L,M r<=6)(i:∀r∈L,r≠[]->1<=r.getD 0 0)(f:JB L 0 a):
  Ck A9 122 #[v,E0 #[N A2 0,N A2 0,N A2 0,N A2 0,N A2 0,N A2 0]] w λe j=>e= B3 (B6 a)/\A6 w.heap.size w j:=by
 have b:=(ai w.heap.size w).alloc cJ (Br #[N A2 0,N A2 0,N A2 0,N A2 0,N A2 0,N A2 0] 150 (0,0));go_in;go_wp2_with (go_at_call 189;apply(agk _ base v L a (h.keep b) g c i f).mono;rintro e l ⟨⟨m,rfl,k⟩,d⟩);go_ret;refine⟨?_,b.trans (d.mono I)⟩
 simp_all
theorem amt(w:A3)(base h mb:Nat)(a:Int)(i:GB w base h mb)(f:0<=a)(u:a<=133):
  Ck A9 79 #[A0 (V ⟨h,0,Ax⟩),N A2 a] w λe t=>e= B3 (B6 (LL a))/\A6 w.heap.size w t:=by
 have⟨D,m,z,n,o⟩:=i.r.ex;have⟨p,q⟩:=o a f O;have g:=Dr f (O:a<=255);unfold LL;generalize lu a=d at *;rw[Bn,cH,tK]at g;have r:∀b∈d,b≠[]->1<=b.getD 0 0:=λb k y=>by
  have:=g.2 b k;simp only[cH,tK]at this;cases b with
  |nil=>grind
  |cons B b=>grind
 have⟨l,j⟩:=aw (d.contains []);have s:=JC w base (m a) d l q (be g.1) (λb k=>U) r ⟨j⟩;rw[j];have v:=i.c;go_in;go_wp2_with (first
  |(at_lookup;apply si rfl _ _ rfl rfl n rfl a f O rfl p)
  |(go_at_call 122;apply s.mono;rintro e A ⟨rfl,x⟩))
 go_ret
 simp_all
theorem Ho(n l Bs d cap:Nat)(a:Option Addr)(f:Nat->B4)(K:d<=100000000)(G:d<=cap)(b:Nat->A3->Prop)(k:A3->Prop)
  (o:∀m W,b m W->W.cell? ⟨Bs,0,Ax⟩=V (B2 a d cap))
  (u:∀m W,b m W->∀j,j<d->∃g,a=V g/\W.cell? (g.add j)=V (f j))
  (t:∀m W,m<d->b (m+1) W->YieldAt Fence.wide (n-1) A9 l #[N B5 (m:Int),f m] W λe W'=>(e= B3 (B6 B0)/\b m W')\/(e= B3 (B6 B1)/\k W'))
  (W:A3) (r:b d W):
  CallsIn Fence.wide n A9 121 #[.func (.yield l) #[] #[],A0 (V ⟨Bs,0,Ax⟩)] W λe W'=>(∃v,e= B3 v)/\(b 0 W'\/k W'):=by
 have E:=o _ _ r;refine callsIn_of_wp func121 rfl trivial ?_ rfl;simp only[ntmps121,iB,db,fx,Nat.reduceAdd,Nat.reduceSub,iA,jb,jc,pE,dI,dt]
 gi_wp2
 gi_loopw [3] (λi wr=>∃c:Nat,c<=d/\i= N B5 ((c:Int)-1)/\b c wr) (λi _=>(D3 i+1).toNat)
 case atStart=>grind
 case round=>
  obtain⟨c,H,rfl,h⟩:=hrel;have C:=o _ _ h;rcases rp c with rfl|hp
  .gi_wp2
   go_end0
   simp_all
  .obtain⟨m,rfl⟩:∃m,c=m+1:=⟨c-1,O⟩;obtain⟨g,rfl,F⟩:=u _ _ h m O;have⟨z,tmps,x,y,L,s⟩:=t m wr O h;have p:((m+1:Nat):Int)-1=(m:Int):=O;rw[p]
   gi_wp2
   refine⟨λq=>by simp[Fence.wide]at q,s.mono ?_⟩;rintro e w (⟨rfl,A⟩|⟨rfl,B⟩)
   .gi_wp2
    go_roundw
    case rel=>grind
    case measure=>simp[D3]
   .gi_wp2
    refine aD (iI rfl _ _ _) rfl ?_
    simp_all
theorem yi(a:Option Addr)(b cap:Nat)(w:A3):
  Ck A9 77 #[B2 a b cap] w λe c=>e= B3 (.func (.func 121) #[] #[A0 (V ⟨w.heap.size,0,Ax⟩)])/\c=w.alloc (Br #[B2 a b cap] 81):=by
 refine calls_of_wp func77 rfl ?_;simp only[ntmps77,iB,db,fx,Nat.reduceAdd,Nat.reduceSub,iA,jb,jc,pE,dI,dt];go_wp2;go_ret
 simp_all
attribute [local go_sem] mK
def dK{v:B4}{t:E2}(h:W.heap[b]?=V (Br #[v] t (0,0))):W.cell? ⟨b,0,Ax⟩=V v:=by
 rw[au _ _ _ _ _ _ h];rfl
def Al(h:A6 W.heap.size W W'):C2 B W W':=⟨h.size,λb c _ a _=>(h.block b (Array.getElem?_eq_some_iff.1 a).1).trans a⟩
structure wu (w:A3) (gb:Nat) (t:Int) (vs:B4) (r:Bool) (W:A3):Prop where
 bl:A6 w.heap.size w W
 b0:W.heap[w.heap.size]?=V (.cells #[.pointer (V ⟨gb,0,Ax⟩)] 43 (0,0))
 b1:W.heap[w.heap.size+1]?=V (.cells #[.int .i64 t] 3 (0,0))
 b2:W.heap[w.heap.size+2]?=V (.cells #[.bool r] 4 (0,0))
 b3:W.heap[w.heap.size+3]?=V (.cells #[vs] 81 (0,0))
def wu.below{b:B4}{r:Bool}(h:wu w gb t b r W)(a:A6 W.heap.size W W'):wu w gb t b r W':=
 ⟨h.bl.trans (a.mono h.bl.size),(a.block _ (aA h.b0)).trans h.b0,(a.block _ (aA h.b1)).trans h.b1,(a.block _ (aA h.b2)).trans h.b2,(a.block _ (aA h.b3)).trans h.b3⟩
theorem wu.put{w W:A3}{a:Nat}{t:Int}{b:B4}{r:Bool}(h:wu w a t b r W){k:Nat}(d:w.heap.size+3<k)(o:Obj):wu w a t b r (W.putObj k o):=
 ⟨h.bl.grown (F1 W k o) h.bl.size (λe c=>U),(Y O).trans h.b0,(Y O).trans h.b1,(Y O).trans h.b2,(Y O).trans h.b3⟩
theorem wu.set{a:B4}{r:Bool}(h:wu w gb t a r W)(r':Bool):wu w gb t a r' (W.setCell ⟨w.heap.size+2,0,Ax⟩ (B6 r')):=
 ⟨h.bl.setCell U _,(az _ _ _ _ I).trans h.b0,(az _ _ _ _ I).trans h.b1,aI _ _ 0 _ _ _ h.b2,(az _ _ _ _ I).trans h.b3⟩
theorem aav{fn:Func}{p:Tmp}(h:fn.results=#[.cell p 4])(tmps:Array B4)(w:A3)(g:Nat)(b:Bool)(e:tmps.getD p A5= A0 (V ⟨g,0,Ax⟩))(a:w.heap[g]?=V (Br #[B6 b] 4 (0,0))):(results fn tmps).run A9 w= .ok (B6 b) w:=by
 have c:tmps[p]?.getD A5= A0 (V ⟨g,0,Ax⟩):=byS;have d:w.cell? ⟨g,0,Ax⟩=V (B6 b):=by rw[au _ _ _ _ _ _ a];rfl
 simp[results,h,c,asAddr];go_simp
structure JD (st:List Int) (m:Nat) (t:Int) (R:Bool):Prop where
 out:jg (st.drop (M st-m)) t=R
theorem aoa(a:Int):dp a<=8:=by
 unfold dp;grind
theorem Am(g j:Nat):(⟨g,0,Ax⟩:Addr).add j=⟨g,j,Ax⟩:=by unfold Addr.add;grind
def CC(st:List Int)(m:Nat):Int:=st.reverse.getD m 0
theorem aeu(hn:M st=n)(b:m<n):st.drop (n-(m+1))=CC st m::st.drop (n-m):=by
 have a:n-(m+1)<M st:=O;rw[ja a,(O:n-(m+1)+1=n-m)]
 congr 1
 unfold CC;grind
theorem apB(hn:M st=n)(a:m<n):CC st m∈st:=by
 have b:CC st m∈st.drop (n-(m+1)):=by rw[aeu hn a];simp
 grind
theorem amu{c:Nat}{b:Option Addr}(h:W.ownsRow base 87 1 (B2 b n c) n (cSy st))(hn:M st=n)(i:m<n):∃a,b=V a/\W.cell? (a.add m)=V (N A2 (CC st m)):=by
 rcases bm h with⟨g,_⟩|⟨f,e,d⟩
 .omega
 .cases d;refine⟨_,rfl,?_⟩;rw[Am,h.cellAt m O];unfold cSy CC;grind
theorem ai3(w:A3)(base f mb:Nat)(st:List Int)(t:Int)(R:Bool)(bn:Jy w base f (.map (V mb)) st)(bp:RI w base mb)(bE:∀a∈st,0<=a/\a<=133)(r:M st<=100000000)(cb:1<=t)(cc:t<=78)(ad:jg st t=R):
  Ck A9 36 #[A0 (V ⟨f,0,Ax⟩),N B5 t] w λe cd=>e= B3 (B6 R)/\A6 w.heap.size w cd:=by
 have⟨cs,ao,ag⟩:=bn.ex;have bo:GB w base f mb:=⟨by rw[au _ _ _ _ _ _ ao];rfl,bp⟩;have⟨n,a5⟩:=aw (M st);rw[a5]at ag r;obtain⟨h,g,rfl⟩:=cG ag;have al:w.cell? ⟨f,1,Ax⟩=V (B2 h n g):=by rw[au _ _ _ _ _ _ ao];rfl
 have bA:n<=g:=by
  rcases ag.2 with⟨bk,v⟩|⟨cn,ck,cl,bk,_,_,s,_⟩;all_goals grind
 have q:=It bo ag a5 ad bE;have cp:=aA ao;refine na (n:=5).1 ?_;refine callsIn_of_wp_marks func36 rfl trivial ?_ rfl;simp only[ntmps36,iB,db,fx,Nat.reduceAdd,Nat.reduceSub,iA,jb,jc,pE,dI,dt];refine wpIn_wide.2 ?_;have ch:=λ(b5 b6 b7:Obj)=>aq (((((ai w.heap.size w).alloc cJ b5).alloc I b6)).alloc byT b7) al;go_wp2_with (go_at_call 77;refine(yi h n g _).mono ?_;rintro e ct ⟨rfl,rfl⟩);rename_i ce a4;generalize bv:(w.alloc _).alloc _=bg;generalize bt:(bg.alloc _).alloc _=a0;have⟨b8,b9,pB,ca⟩:=Da bv;have⟨a9,ba,aL,bb⟩:=Da bt;rw[ca]at a9 ba bb;have b4:wu w f t (B2 h n g) B1 a0:=⟨pB.trans (aL.mono O),(aL.block _ O).trans b8,(aL.block _ O).trans b9,a9,ba⟩;have y:a0.heap.size=w.heap.size+4:=bb;refine(rm (n:=5)).1 ?_;refine xn (P:=A9) (gf:=121) (lb:=#[A0 (V ⟨w.heap.size+1+1+1,0,Ax⟩)]) rfl (enters_of func121 byR rfl)
  (λd=>#[N B5 (d:Int),N A2 (CC st d)]) (λ_=>rfl) n
  (λd b=>wu w f t (B2 h n g) B1 b/\JD st d t R)
  (λd A b=>wu w f t (B2 h n g) B1 b/\JD st (d+1) t R/\
   A={tmps:=#[A0 (V ⟨f,0,Ax⟩),N B5 t,A0 (V ⟨w.heap.size,0,Ax⟩),A0 (V ⟨w.heap.size+1,0,Ax⟩),A0 (V ⟨w.heap.size+1+1,0,Ax⟩),A5,N A2 (CC st d),
    A0 (V ⟨f,0,Ax⟩),A0 (V ⟨f,0,Ax⟩),A0 (V ⟨f,1,Ax⟩),A0 (V ⟨f,1,Ax⟩),B2 h n g,.func (.func 121) #[] #[A0 (V ⟨w.heap.size+1+1+1,0,Ax⟩)],N B5 (d:Int),N A2 (CC st d),
    A5,A5,A5,A5,A5,A5,A5,A5,A5],defers:=[]})
  (λb=>wu w f t (B2 h n g) R b)
  ?pZ ?pAx ?pX ?h0 ?assign ?body ?seq ?done ?ret
 case pZ=>
  rintro d b bc H ⟨c,j⟩ r;rw[y]at r⊢;exact⟨c.put O H,j⟩
 case pAx=>
  rintro d A b bc H ⟨c,j,rfl⟩ r;rw[y]at r⊢;exact⟨c.put O H,j,rfl⟩
 case pX=>
  intro b bc H c r;rw[y]at r⊢;exact c.put O H
 case h0=>
  intro cg bx cq;exact⟨b4.below bx,⟨byS⟩⟩
 case assign=>
  rintro G d b cf ap ⟨c,j⟩ br;have p:=fD c j;clear c j
  gi_wp2
  exact br _ _ ⟨p.1,p.2,rfl⟩ (KeepsFrom.refl _ _)
 case body=>
  rintro G d A b ap ⟨c,j,rfl⟩;rw[y];have F:=q.2.2.2.2 _ (apB q.2.2.1 ap);have l:=j.out;rw[q.out.2.2.1,aeu q.out.2.2.1 ap,jg]at l;have E:BL 9 (CC st d) t=B1->LL (CC st d)=B0->JD st d t R:=λa2 i=>by
   rw[aa U,ab i]at l;exact⟨U⟩
  generalize CC st d=u at F l E⊢;have a6:=CallsIn.inRound G (na (n:=2).2 (yI 8 b base f mb u t (q.1.below c.bl) F.1 F.2 (aoa u) cb cc));have a7:=λ(a1:A3) (o:A6 w.heap.size w a1)=>CallsIn.inRound G (na (n:=2).2 (amt a1 base f mb u (q.1.below o) F.1 F.2));have bh:=dK c.b0;have al:=dK c.b1;have cm:IntKind.u8.wrap t=t:=by rw[Iq];omega
  have p:=aj c;clear c j
  gi_wp2_with (refine⟨trivial,?_⟩;gi_at_call 78;fail)
  refine⟨trivial,a6.mono ?_⟩;rintro e K ⟨rfl,am⟩;have o:=p.below am;have ar:C2 (w.heap.size+4) b K:=Al am;have B:=dK o.b2;have C:K.frozen? ⟨w.heap.size+2,0,Ax⟩=B1:=cD _ _ _ _ _ o.b2;have bj:=dK o.b0;have i:w.heap.size+1+1=w.heap.size+2:=rfl;rw[<-i]at B C;clear a6 bh al am i;cases hbv:BL 9 u t with
  |true=>
   rw[hbv,ab rfl]at l;have m:D4 (wu w f t (B2 h n g) R (K.setCell ⟨w.heap.size+1+1,0,Ax⟩ (B6 B0))/\C2 (w.heap.size+4) b (K.setCell ⟨w.heap.size+1+1,0,Ax⟩ (B6 B0))):=⟨by rw[<-l];exact o.set B0,ar.trans ((KeepsOthers.setCell _ _ _).from _)⟩;have af:BL (8+1) u t=B0:=hbv;try rw[af]
   clear l E hbv af a7 o ar p
   gi_wp2
   exact⟨m.2,m.1⟩
  |false=>
   have af:BL (8+1) u t=B1:=hbv;rw[hbv,aa I]at l;try rw[af]
   have a8:=a7 K o.bl;have L:=fD o ar
   gi_wp2_with (refine⟨trivial,?_⟩;gi_at_call 79;fail)
   refine⟨trivial,a8.mono ?_⟩;rintro e z ⟨rfl,an⟩;have s:=L.1.below an;have ak:C2 (w.heap.size+4) b z:=L.2.trans (Al an);have B:=dK s.b2;have C:z.frozen? ⟨w.heap.size+2,0,Ax⟩=B1:=cD _ _ _ _ _ s.b2;have i:w.heap.size+1+1=w.heap.size+2:=rfl;rw[<-i]at B C;clear a8 bj an i;cases hnv:LL u with
   |true=>
    have m:D4 (wu w f t (B2 h n g) B1 z/\JD st d t R/\C2 (w.heap.size+4) b z):=⟨s,E hbv hnv,ak⟩;clear l E hbv s ak L hnv
    gi_wp2
    exact⟨m.2.2,m.1,m.2.1⟩
   |false=>
    rw[hnv,aa I]at l;have m:D4 (wu w f t (B2 h n g) R (z.setCell ⟨w.heap.size+1+1,0,Ax⟩ (B6 B1))/\C2 (w.heap.size+4) b (z.setCell ⟨w.heap.size+1+1,0,Ax⟩ (B6 B1))):=⟨by rw[<-l];exact s.set B1,ak.trans ((KeepsOthers.setCell _ _ _).from _)⟩;clear l E hbv s ak L hnv
    gi_wp2
    exact⟨m.2,m.1⟩
 case seq=>
  intro G bd bf a3 bw b bs;refine Ho 4 G (w.heap.size+1+1+1) n g h _ r bA bd bf (λd b c=>?_) (λd b c cr bD=>?_) bw b bs
  .exact dK (a3 d b c).1.b3
  .obtain⟨A,a2,i⟩:=amu q.2.1 q.2.2.1 bD;exact⟨A,a2,aq (a3 d b c).1.bl i⟩
 case ret=>
  intro b c x;rw[y]at x⊢;refine⟨I,.inl ⟨_,_,rfl,run_takeDeferred x,?_⟩⟩;have v:=c.put (k:=w.heap.size+4) O (.deferred Ax);refine⟨_,aav rfl _ _ (w.heap.size+1+1) R rfl v.b2,rfl,v.bl⟩
 case done=>
  rintro b ⟨c,j⟩ x;rw[y]at x⊢;have ad:R=B1:=by
   have:=j.out;rw[Il,List.drop_length]at this;exact this.symm
  refine a4 _ _ ?_;have B:=dK c.b2;have C:b.frozen? ⟨w.heap.size+2,0,Ax⟩=B1:=cD _ _ _ _ _ c.b2;have i:w.heap.size+1+1=w.heap.size+2:=rfl;rw[<-i]at B C;have p:D4 (wu w f t (B2 h n g) R (b.setCell ⟨w.heap.size+1+1,0,Ax⟩ (B6 B1))/\(b.setCell ⟨w.heap.size+1+1,0,Ax⟩ (B6 B1)).heap[w.heap.size+4]?=V (.deferred (V []))):=⟨by rw[ad];exact c.set B1,(az _ _ _ _ I).trans x⟩;clear c j x ad a4 i;go_wp2_with fail;refine⟨I,.inl ⟨_,_,rfl,run_takeDeferred p.2,?_⟩⟩;have v:=p.1.put (k:=w.heap.size+4) O (.deferred Ax);refine⟨_,aav rfl _ _ (w.heap.size+1+1) R rfl v.b2,rfl,v.bl⟩
def passOk(b:Nat):Nat->List Int->Int->List Int->Prop
 |0,_,_,_=>False
 |_+1,[],_,_=>False
 |f+1,a::r,t,o=>(a=t/\o=r/\M r<=b)\/(a≠t/\M (I9 a t++r)<=b/\passOk b f (I9 a t++r) t o)
theorem ai4(b:0<=a)(d:a<=133):M (I9 a t)<=6/\∀z∈I9 a t,1<=z/\z<=133:=by
 have c:=Dr b (O:a<=255);rw[Bn,cH,tK]at c;unfold I9;cases hf:List.find? (hdI t) (lu a) with
 |none=>grind
 |some e=>
  grind
def amv(b:1<=t):rwN 8 (lu a) t=I9 a t:=by
 unfold rwN I9
 congr 2
 funext r
 rw[an9 b 7 r];rfl
theorem Hp:∀{f b:Nat}{st o:List Int}{t:Int},mj f st t=V o->(∀z∈st,0<=z/\z<=133)->M st+5*f<=b->passOk b f st t o
 |0,_,_,_,_,h,_,_=>by simp[mj]at h
 |f+1,_,[],_,_,h,_,_=>by simp[mj]at h
 |f+1,b,a::r,o,t,h,i,c=>by
  rw[mj]at h;unfold passOk;simp only[db]at c;by_cases e:a=t
  .grind
  .rw[aa e]at h;have⟨d,g⟩:=i a I;have⟨j,k⟩:=ai4 (t:=t) d g;refine .inr ⟨e,U,Hp h (λz l=>?_) U⟩;grind
theorem Cb:∀{f g b:Nat}{st o:List Int}{t:Int},passOk b f st t o->f<=g->passOk b g st t o
 |0,_,_,_,_,_,h,_=>h.elim
 |f+1,0,_,_,_,_,_,e=>O
 |f+1,g+1,_,[],_,_,h,_=>h.elim
 |f+1,g+1,b,a::r,o,t,h,e=>by
  unfold passOk at h⊢;rcases h with h|⟨c,d,h3⟩
  .grind
  .exact .inr ⟨c,d,Cb h3 O⟩
theorem Cc:∀{f b M':Nat}{st o:List Int}{t:Int},passOk b f st t o->b<=M'->passOk M' f st t o
 |0,_,_,_,_,_,h,_=>h.elim
 |f+1,_,_,[],_,_,h,_=>h.elim
 |f+1,b,M',a::r,o,t,h,e=>by
  unfold passOk at h⊢;rcases h with⟨c,d,h3⟩|⟨c,d,h3⟩
  .grind
  .exact .inr ⟨c,O,Cc h3 e⟩
theorem aaw:∀{st:List Int}{t:Int},OkI st->1<=t->t<=78->jg st t=B0->∃o,passOk (M st+45) (M st+9) st t o
 |[],t,d,_,_,h=>by simp[jg]at h
 |a::r,t,d,g,i,h=>by
  have b:=ad1 (d a (bH ..)) g i;rw[jg]at h;unfold ah3 at b;by_cases f:BL 9 a t=B0
  .rw[ab f]at b;split at b
   .rename_i x y z k w;have e:=Bb (c:=r) k;rw[zl]at e;exact⟨_,Cb (Hp e (λv q=>by have:=be (d v q);omega) I) I⟩
   grind
  .rw[aa f]at b h;by_cases m:LL a=B0
   .rw[ab m]at b h;rw[cH]at b;have⟨o,s⟩:=aaw (λu p=>d u (dC _ p)) g i h;have l:¬a=t:=λj=>by
     subst j;have:BL 9 a a=B0:=by rw[BL,ifp];grind
     grind
    have n:I9 a t=[]:=U;refine⟨o,?_⟩;rw[show(a::r).length+9=(M r+9)+1 from Nat.add_right_comm (M r) 1 9];refine .inr ⟨l,U,?_⟩;rw[n,dI];exact Cc s I
   grind
theorem Cf:∀{f b:Nat}{st o:List Int}{t:Int},passOk b f st t o->mj f st t=V o
 |0,_,_,_,_,h=>h.elim
 |f+1,_,[],_,_,h=>h.elim
 |f+1,b,a::r,o,t,h=>by
  unfold passOk at h;rw[mj];rcases h with⟨c,d,h3⟩|⟨c,d,h3⟩
  .grind
  .rw[aa c];exact Cf h3
theorem yJ:∀{f b:Nat}{st o:List Int}{t:Int},passOk b f st t o->M o<=b
 |0,_,_,_,_,h=>h.elim
 |f+1,_,[],_,_,h=>h.elim
 |f+1,b,a::r,o,t,h=>by
  unfold passOk at h;rcases h with⟨c,d,h3⟩|⟨c,d,h3⟩
  .grind
  .exact yJ h3
theorem Gl.passOk(h:Gl st stk)(b:1<=t)(c:t<=78)(a:jg st t=B0):∃o,passOk (M st+45) (M st+9) st t o/\Gl o (feedL stk t).1:=by
 have⟨o,d⟩:=aaw h.o1 b c a;have⟨f,e,p2⟩:=h.pass b c a;have:=Cf d;grind
attribute [local go_sem] mK
def aob{cs:Array B4}{t:E2}(d:W.heap[gb]?=V (Br cs t fr))(h:Gp gb W W'):C2 B W W':=⟨h.size,λe i _ a c=>(h.block e (Array.getElem?_eq_some_iff.1 a).1 (by rintro rfl;rw[d]at a;cases a;cases c) (λf g b=>by rw[a]at b;cases b;cases c)).trans a⟩
theorem lD{cs:Array B4}{t:E2}(h:Gp gb W W')(a:W.heap[k]?=V (Br cs t fr))(b:k≠gb)(ht:t≠87:=by decide):W'.heap[k]?=V (Br cs t fr):=
 (h.block k (Array.getElem?_eq_some_iff.1 a).1 b (λc e d=>U)).trans a
structure yK (w:A3) (base gb mb:Nat) (st:List Int) (c:List Nat) (W:A3):Prop where
 g:Jy W base gb (.map (V mb)) st
 r:RI W base mb
 gp:Gp gb w W
 bb:A6 base w W
 b0:W.heap[w.heap.size]?=V (.cells #[.pointer (V ⟨gb,0,Ax⟩)] 43 (0,0))
 mks:qz (w.heap.size+1) c W
 ne:gb<w.heap.size
def yK.below{c:List Nat}(h:yK w base gb mb st c W)(a:A6 W.heap.size W W'):yK w base gb mb st c W':=by
 refine⟨h.g.below a,h.r.below a,h.gp.trans (Gp.of_below a),h.bb.trans (a.mono ?_),(a.block _ (aA h.b0)).trans h.b0,h.mks.below a,h.ne⟩;have:=h.g.lo;have:=h.ne;have:=h.gp.size;omega
theorem yK.turn{st':List Int}{c:List Nat}(h:yK w base gb mb st c W)(f:Jy W' base gb (.map (V mb)) st')(d:Gp gb W W')(i:A6 base W W'):yK w base gb mb st' c W':=by
 have⟨m,j,_⟩:=h.g.ex;exact⟨f,h.r.gp j d,h.gp.trans d,h.bb.trans i,lD d h.b0 (by have:=h.ne;omega),
  ⟨h.mks.nd,h.mks.lo,λa b=>(d.block a (Array.getElem?_eq_some_iff.1 (h.mks.at_ a b)).1 (by rintro rfl;have:=h.mks.at_ a b;grind) (λk l e=>by rw[h.mks.at_ a b]at e;cases e)).trans (h.mks.at_ a b)⟩,h.ne⟩
theorem yK.put{w:A3}{base d mb:Nat}{st:List Int}{c:List Nat}{W:A3}(h:yK w base d mb st c W){k:Nat}{r:Loop}(x:w.heap.size<k)(g:W.heap[k]?=V (.loop r))(o:Obj):yK w base d mb st c (W.putObj k o):=by
 have⟨q,m,p⟩:=h.g.ex;have e:d≠k:=U;have y:base<=k:=by have:=h.g.lo;have:=h.ne;omega
 refine⟨⟨⟨q,(Y e).trans m,ownsRow_putObj p o g rfl⟩,h.g.lo⟩,h.r.same (λt c b=>(Y U).trans b) (λv s u b=>(Y U).trans b),?_,h.bb.grown (F1 W k o) U (λj b=>U),(Y O).trans h.b0,
  ⟨h.mks.nd,h.mks.lo,λf i=>(Y (by rintro rfl;have:=(h.mks.at_ f i).symm.trans g;grind)).trans (h.mks.at_ f i)⟩,h.ne⟩
 have a:=h.gp;refine⟨a.os,a.tape,a.output,by have:=a.size;simp_all,λj n e l=>(Y O).trans (a.block j n e l)⟩
structure acw (w:A3) (base gb mb:Nat) (st:List Int) (c:List Nat) (sz:Nat) (x0 x1 x2 x3 x4 x5:Int) (W:A3):Prop where
 ps:yK w base gb mb st c W
 b0:W.heap[sz]?=V (.cells #[.int .u8 x0,.int .u8 x1,.int .u8 x2,.int .u8 x3,.int .u8 x4,.int .u8 x5] 150 (0,0))
 b1:W.heap[sz+1]?=V (.cells #[.slice (V ⟨sz,0,Ax⟩) 6 6] 81 (0,0))
def acw.put{w:A3}{base b mb:Nat}{st:List Int}{c:List Nat}{a:Nat}{x0 d e f g i:Int}{W:A3}(h:acw w base b mb st c a x0 d e f g i W)(m:w.heap.size<a){k:Nat}{r:Loop}(l:a+1<k)(j:W.heap[k]?=V (.loop r))(o:Obj):acw w base b mb st c a x0 d e f g i (W.putObj k o):=
 ⟨h.ps.put O j o,(Y O).trans h.b0,(Y O).trans h.b1⟩
theorem ai5(w:A3)(base f mb:Nat)(st:List Int)(t:Int)(k bd:Nat)(u:List Int)(a3:Jy w base f (.map (V mb)) st)(bv:RI w base mb)(bA:∀a∈st,0<=a/\a<=133)(B:M st<=k)(e2:k<=100000000)(cm:1<=t)(ei:t<=78)(a4:passOk k bd st t u):
  Ck A9 38 #[A0 (V ⟨f,0,Ax⟩),N A2 t] w λe ba=>e= B3 (F0 #[])/\Jy ba base f (.map (V mb)) u/\RI ba base mb/\Gp f w ba/\A6 base w ba:=by
 obtain⟨cI,bx,d9⟩:=a3.ex;have d5:=aA bx;have e7:=a3.lo;obtain⟨l,rfl⟩:∃l,bd=l+1:=by
  cases bd with
  |zero=>exact a4.elim
  |succ l=>grind
 obtain⟨d,p,rfl⟩:∃d p,st=d::p:=by
  cases st with
  |nil=>exact a4.elim
  |cons d p=>grind
 have an:=(ai w.heap.size w).alloc cJ (Br #[A0 (V ⟨f,0,Ax⟩)] 43 (0,0));have bh:yK w base f mb (d::p) [] (w.alloc (Br #[A0 (V ⟨f,0,Ax⟩)] 43 (0,0))):=
  ⟨a3.below an,bv.below an,Gp.of_below an,an.mono O,ay w _,⟨xi,λq hb=>U,λq hb=>U⟩,d5⟩
 have v:=aar _ base f (.map (V mb)) p d bh.g U;have aL:=jB bh bA a4;clear a3 bv bA d9 bh a4 bx;refine na (n:=5).1 ?_;refine callsIn_of_wp_marks func38 rfl trivial ?_ rfl;simp only[ntmps38,iB,db,fx,Nat.reduceAdd,Nat.reduceSub,iA,jb,jc,pE,dI,dt];refine wpIn_wide.2 ?_;go_wp2_with (go_at_call 83;refine v.mono ?_;rintro e el ⟨rfl,a1,p2,bs⟩);have b4:=aL.1.turn a1 p2 bs;have bp:D4 (yK w base f mb p [] el/\(∀a∈d::p,0<=a/\a<=133)/\passOk k (l+1) (d::p) t u/\M p<=k):=⟨b4,aL.2.1,aL.2.2,U⟩;clear aL b4 a1 p2 bs v an;obtain⟨s0,eb⟩:=aw d;refine(rm (n:=5)).1 (wpIn_loop_ghost (λl ag g=>∃(d:Int) (st:List Int) (j:List Nat),D4 (yK w base f mb st j g/\(∀a∈d::st,0<=a/\a<=133)/\passOk k (l+1) (d::st) t u/\M st<=k)/\∃cB cF cn cp cq bk bl bn bo cr ct cu cv cw cx cy cz cA:B4,ag={tmps:=#[A0 (V ⟨f,0,Ax⟩),N A2 t,A0 (V ⟨w.heap.size,0,Ax⟩),A5,N A2 d,cB,cF,A5,A5,A0 (V ⟨f,0,Ax⟩),A0 (V ⟨f,0,Ax⟩),A0 (V ⟨f,1,Ax⟩),N A2 s0,cn,cp,cq,bk,bl,bn,bo,cr,ct,cu,cv,cw,cx,cy,cz,cA,A5,A5,A5,A5,A5,A5,A5,A5,A5],defers:=j.map Bf}) l ?start ?round)
 case start=>exact⟨d,p,[],bp,A5,A5,A5,A5,A5,A5,A5,A5,A5,A5,A5,A5,A5,A5,A5,A5,A5,A5,U⟩
 case round=>
  clear bp B eb;rintro l ag g ⟨d,st,j,m,cB,cF,cn,cp,cq,bk,bl,bn,bo,cr,ct,cu,cv,cw,cx,cy,cz,cA,rfl⟩;refine wpIn_wide.2 ?_;have e3:=dK m.1.b0;have a6:=m.2.1 d I;by_cases ec:d=t
  .have ap:=m.2.2.1;unfold passOk at ap;have b7:u=st:=by
    grind
   have af:D4 (yK w base f mb u j g):=by rw[b7];exact m.1
   clear ap m b7;subst ec;go_wp2_with fail;show LeavesInM _ _ _ _ _ _ (j.map Bf) .returning g;have b:=af.out;refine pJ (w.heap.size+1) j g b.mks (λbr r=>?_);have b8:∀h,h<=w.heap.size->br.heap[h]?=g.heap[h]?:=λh ak=>r.same h (λal=>by have:=b.mks.lo h al;omega);have a5:∀(h:Nat)(x:Obj),g.heap[h]?=V x->(∀av,x≠ .deferred av)->br.heap[h]?=V x:=λh x ak bf=>(r.same h (λal=>by have:=b.mks.at_ h al;grind)).trans ak;refine⟨_,iI rfl _ _ _,rfl,?_,?_,?_,?_⟩
   .obtain⟨cI,ao,bf⟩:=b.g.ex;refine⟨⟨cI,a5 _ _ ao (λav e=>by cases e),bf.1,?_⟩,b.g.lo⟩;rcases bf.2 with e0|⟨a1,dc,dd,cg,ch,ck,cl⟩
    .grind
    .exact .inr ⟨a1,dc,dd,cg,ch,a5 _ _ ck (λav e=>by cases e),cl⟩
   .exact b.r.same (λez j e=>a5 _ _ e (λav e=>by cases e)) (λeL ev eF e=>a5 _ _ e (λav e=>by cases e))
   .exact⟨r.os.trans b.gp.os,r.tape.trans b.gp.tape,r.output.trans b.gp.output,by rw[r.size];exact b.gp.size,λh ak d8 d3=>(b8 h O).trans (b.gp.block h ak d8 d3)⟩
   .exact⟨r.os.trans b.bb.os,r.tape.trans b.bb.tape,r.output.trans b.bb.output,by rw[r.size];exact b.bb.size,λh ak=>(b8 h O).trans (b.bb.block h ak)⟩
  .have fa:(d==t)=B1:=U;have ap:M (I9 d t++st)<=k/\passOk k l (I9 d t++st) t u:=by
    have:=m.2.2.1;unfold passOk at this;grind
   have⟨ek,ao,_⟩:=m.1.g.ex;have dl:GB g base f mb:=⟨by rw[au _ _ _ _ _ _ ao];rfl,m.1.r⟩;obtain⟨A,ds⟩:∃A,Fa 8 t (lu d) 0 (I9 d t) A:=⟨_,⟨amv cm,rfl⟩⟩;have a7:=Fb 7 (yI 7) g base f mb d t dl a6.1 a6.2 (aoa d) cm ei _ A ds;obtain⟨b3,ea⟩:=ai4 (t:=t) a6.1 a6.2;rw[aer b3]at a7;have s:D4 (M (I9 d t++st)<=k/\passOk k l (I9 d t++st) t u/\M (I9 d t)<=6/\∀c3∈I9 d t,1<=c3/\c3<=133):=⟨ap.1,ap.2,b3,ea⟩;generalize I9 d t=rw at a7 s;have⟨E,bj⟩:=aw (rw.getD 0 0);have⟨F,cb⟩:=aw (rw.getD 1 0);have⟨G,cc⟩:=aw (rw.getD 2 0);have⟨H,cd⟩:=aw (rw.getD 3 0);have⟨K,ce⟩:=aw (rw.getD 4 0);have⟨L,cf⟩:=aw (rw.getD 5 0);rw[bj,cb,cc,cd,ce,cf]at a7;have c4:=aoo bj cb cc cd ce cf;go_wp2_with (first
    |(go_at_call 84;refine a7.mono ?_;rintro e c1 ⟨rfl,a2⟩)
    |(go_at_call 77;refine(yi _ 6 6 _).mono ?_;rintro e fd ⟨rfl,rfl⟩))
   rename_i en dn;have⟨i,b9⟩:=aw c1.heap.size;rw[b9];generalize d1:(c1.alloc _).alloc _=et;have⟨bD,bE,dk,ar⟩:=Da d1;rw[b9]at bD bE ar;have ed:=m.1.below (a2.trans (dk.mono a2.size));have e4:∀q∈j,q<i:=λq hb=>by have:=(Array.getElem?_eq_some_iff.1 (m.1.mks.at_ q hb)).1;have:=a2.size;omega
   have ca:w.heap.size<i:=by have:=aA m.1.b0;have:=a2.size;omega
   refine(rm (n:=5)).1 ?_;refine xn (P:=A9) (gf:=121) (lb:=#[A0 (V ⟨i+1,0,Ax⟩)]) rfl (enters_of func121 byR rfl)
    (λc=>#[N B5 (c:Int),N A2 (rw.getD c 0)]) (λ_=>rfl) 6
    (λc g=>acw w base f mb (rw.drop c++st) j i E F G H K L g)
    (λc ag g=>acw w base f mb (rw.drop (c+1)++st) j i E F G H K L g/\ag={tmps:=#[A0 (V ⟨f,0,Ax⟩),N A2 t,A0 (V ⟨w.heap.size,0,Ax⟩),A5,N A2 d,A0 (V ⟨i,0,Ax⟩),B6 A,A5,N A2 (rw.getD c 0),A0 (V ⟨f,0,Ax⟩),A0 (V ⟨f,0,Ax⟩),A0 (V ⟨f,1,Ax⟩),N A2 s0,N A2 d,N A2 t,B6 B0,bk,bl,bn,bo,F0 #[E0 #[N A2 E,N A2 F,N A2 G,N A2 H,N A2 K,N A2 L],B6 A],A0 (V ⟨f,0,Ax⟩),N A2 d,N A2 t,F0 #[E0 #[N A2 E,N A2 F,N A2 G,N A2 H,N A2 K,N A2 L],B6 A],E0 #[N A2 E,N A2 F,N A2 G,N A2 H,N A2 K,N A2 L],B6 A,B2 (V ⟨i,0,Ax⟩) 6 6,.func (.func 121) #[] #[A0 (V ⟨i+1,0,Ax⟩)],N B5 (c:Int),N A2 (rw.getD c 0),A5,A5,A5,A5,A5,A5,A5],defers:=[]})
    (λ_=>False)
    ?pZ ?pAx ?pX ?h0 ?assign ?body ?seq ?done ?ret
   case pZ=>
    rintro c g p x b B;rw[ar]at B⊢;exact b.put ca O B x
   case pAx=>
    rintro c ag g p x ⟨b,rfl⟩ B;rw[ar]at B⊢;exact⟨b.put ca O B x,rfl⟩
   case pX=>grind
   case h0=>
    intro eq hb e9;refine⟨?_,(hb.block _ O).trans bD,(hb.block _ O).trans bE⟩;rw[kD s.out.2.2.1];exact ed.below hb
   case assign=>
    rintro a8 c g ep al b dq;have ad:=aj b
    gi_wp2
    exact dq _ _ ⟨ad,rfl⟩ (KeepsFrom.refl _ _)
   case seq=>
    intro a8 c5 c6 bw d2 g d0;refine Ho 4 a8 (i+1) 6 6 (V ⟨i,0,Ax⟩) _ Z cJ c5 c6 (λc g b=>?_) (λc g b am e5=>?_) d2 g d0
    .exact dK (bw c g b).b1
    .obtain⟨fb,cg,ch,ck,cl,fc⟩:=iu (bw c g b).b0;have⟨ff,fg,fk,fl,fm,fn⟩:=c4.out;refine⟨_,rfl,?_⟩;rw[Am];rcases(O:am=0\/am=1\/am=2\/am=3\/am=4\/am=5) with rfl|rfl|rfl|rfl|rfl|rfl;all_goals grind
   case ret=>grind
   case body=>
    rintro a8 c ag z al ⟨b,rfl⟩;rw[ar];have c9:=dK b.ps.b0;have⟨ek,ao,_⟩:=b.ps.g.ex;by_cases e8:c<M rw
    .have ef:rw.getD c 0∈rw:=U;have eg:=s.2.2.2 _ ef;have d4:rw.drop c=rw.getD c 0::rw.drop (c+1):=by
      simp_all
     have d6:M (rw.drop (c+1)++st)<=100000000:=by
      have:=s.1;grind
     have v:=CallsIn.inRound a8 (na (n:=2).2 (Bm z base f (.map (V mb)) (rw.drop (c+1)++st) (rw.getD c 0) b.ps.g d6));rw[<-dt,<-d4]at v;have ad:=fD b ao;generalize rw.getD c 0=em at eg v⊢;have bj:(em==0)=B1:=U
     gi_wp2_with (refine⟨trivial,?_⟩;gi_at_call 33;fail)
     refine⟨trivial,v.mono ?_⟩;rintro e c2 ⟨rfl,df,a9,c7⟩;have af:D4 (acw w base f mb (rw.drop c++st) j i E F G H K L c2/\C2 (i+1+1) z c2):=⟨⟨ad.1.ps.turn df a9 c7,lD a9 ad.1.b0 O,lD a9 ad.1.b1 O⟩,aob ad.2 a9⟩
     gi_wp2
     exact⟨af.2,af.1⟩
    .have ee:rw.getD c 0=0:=U;rw[ee];have af:D4 (acw w base f mb (rw.drop c++st) j i E F G H K L z):=by
      have ew:rw.drop c=rw.drop (c+1):=by rw[kD O,kD O]
      grind
     gi_wp2
     exact⟨KeepsFrom.refl _ _,af⟩
   case done=>
    rintro z b bt;rw[ar]at bt⊢;obtain⟨a0,rfl⟩:∃a0,l=a0+1:=by
     cases l with
     |zero=>exact(s.2.1).elim
     |succ l=>grind
    obtain⟨C,y,bg⟩:∃C y,rw++st=C::y:=by
     cases hq:rw++st with
     |nil=>have:=s.2.1;rw[hq]at this;exact this.elim
     |cons a q=>grind
    have o:=b.ps;rw[ni,bg]at o;have e6:M y+1<=k:=by have:=s.1;grind
    have v:=aar z base f (.map (V mb)) y C o.g O;have c9:=dK o.b0;have d7:qz (w.heap.size+1) ((i+1+1)::j) z:=⟨List.nodup_cons.2 ⟨λal=>U,o.mks.nd⟩,λq hb=>by
      rcases List.mem_cons.1 hb with rfl|hb
      .omega
      .exact o.mks.lo q hb,λq hb=>by
      rcases List.mem_cons.1 hb with rfl|hb
      .exact bt
      .exact o.mks.at_ q hb⟩
    have bc:D4 (yK w base f mb (C::y) ((i+1+1)::j) z/\(∀a∈C::y,0<=a/\a<=133)/\passOk k (a0+1) (C::y) t u):=by
     refine⟨⟨o.g,o.r,o.gp,o.bb,o.b0,d7,o.ne⟩,λa ha=>?_,by rw[<-bg];exact s.2.1⟩;rw[<-bg]at ha;rcases List.mem_append.1 ha with ha|ha
     .have:=s.2.2.2 a ha;omega
     .exact m.2.1 a U
    refine dn _ _ ?_;go_wp2_with (go_at_call 83;refine v.mono ?_;rintro e fe ⟨rfl,dg,eh,c8⟩);exact⟨a0,O,C,y,(i+1+1)::j,⟨bc.1.turn dg eh c8,bc.2.1,bc.2.2,O⟩,_,_,_,_,_,_,_,_,_,_,_,_,_,_,_,_,_,_,rfl⟩
def nG(st:List Int):Nat->List Int
 |0=>[]
 |j+1=>if jg st ((j:Int)+1)=B0 then nG st j++[(j:Int)+1] else nG st j
theorem Fc(st:List Int):∀j,M (nG st j)<=j
 |0=>ix _
 |j+1=>by
  have:=Fc st j;rw[nG];grind
theorem aax(st:List Int):∀j,∀z∈nG st j,1<=z/\z<=(j:Int)
 |0=>by intro z a;simp[nG]at a
 |j+1=>by
  intro z a;have b:=aax st j;rw[nG]at a;grind
def Gl.nm(h:Gl st stk):∀j,j<=78->nG st j=lA stk j
 |0,_=>rfl
 |j+1,a=>by rw[nG,lA,h.nm j O,h.may O O]
structure GQ (W:A3) (base gb mb:Nat) (st:List Int):Prop where
 g:Jy W base gb (.map (V mb)) st
 r:RI W base mb
 ok:∀a∈st,0<=a/\a<=133
 len:M st<=99999000
def GQ.below(h:GQ W base gb mb st)(a:A6 W.heap.size W W'):GQ W' base gb mb st:=⟨h.g.below a,h.r.below a,h.ok,h.len⟩
def GQ.may(h:GQ W base gb mb st)(b:1<=t)(c:t<=78){R:Bool}(a:jg st t=R):
  Ck A9 36 #[A0 (V ⟨gb,0,Ax⟩),N B5 t] W λe d=>e= B3 (B6 R)/\A6 W.heap.size W d:=
 ai3 W base gb mb st t R h.g h.r h.ok (by have:=h.len;omega) b c a
structure asa (w:A3) (st:List Int) (j:Nat) (vo:B4) (W:A3):Prop where
 bl:A6 w.heap.size w W
 row:W.ownsRow w.heap.size 3 1 vo (M (nG st j)) ((nG st j).map (F2 .i64))
theorem agl(w:A3)(base o mb:Nat)(st:List Int)(h:GQ w base o mb st):
  Ck A9 81 #[A0 (V ⟨o,0,Ax⟩)] w λe x=>∃a c,e= B3 (B2 a (M (nG st 78)) c)/\x.ownsRow w.heap.size 3 1 (B2 a (M (nG st 78)) c) (M (nG st 78)) ((nG st 78).map (F2 B5))/\A6 w.heap.size w x:=by
 have B:=aj h;have a1:D4 (asa w st 0 (B2 Ax 0 0) w):=⟨ai _ _,dA _ _ _ _⟩;have⟨al,am,an,ao,ap⟩:=eC tL;go_in;go_wp21
 go_loopw [3,4] (λv l wr=>∃(b:Nat),b<=78/\l= N B5 ((b:Int)+1)/\(∃a c,∃aL:Nat,v= B2 a aL c)/\D4 (asa w st b v wr)) (λ_ l _=>(79-D3 l).toNat)
 case atStart=>grind
 case round=>
  obtain⟨b,a6,rfl,⟨G,K,ba,rfl⟩,g⟩:=hrel;by_cases a7:b<78
  .obtain⟨E,p⟩:=aw (jg st ((b:Int)+1));have u:=(B.below g.bl).may (t:=(b:Int)+1) O O p;have m:=aj p;obtain⟨d,q⟩:∃d:Int,(b:Int)+1=d:=⟨_,rfl⟩;have C:=aj q;have a5:d<=78:=O;have a4:1<=d:=O;rw[q]at u⊢;go_wp21
   refine u.mono ?_;rintro e y ⟨rfl,n⟩;have r:=g.bl.trans (n.mono g.bl.size);have f:=bz g.row n;have af:=Fc st b;have⟨a0,j⟩:=aw (M (nG st b));rw[j]at f af;have⟨F,H,k⟩:=cG f;cases k;have i:=jB f j r;have ak:=r.size;cases E with
   |false=>
    have e:nG st (b+1)=nG st b:=by rw[nG,m.out,aa Z]
    go_wp21
    refine⟨⟨b+1,O,?_,⟨_,_,_,rfl⟩,⟨i.2.2,U⟩⟩,?_⟩
    .grind
    .simp[D3];omega
   |true=>
    have z:D4 (nG st (b+1)=nG st b++[d]):=by show _=_;rw[nG,m.out,ab rfl,C.out]
    go_wp2_with (at_builtin;refine pF _ rfl _ _ 98 rfl w.heap.size 3 al _ 1 8 underlying98 am an ao ap rfl Z _ _ _ rfl (i.1.alloc _) ⟨y.heap.size,0,Ax⟩ 1 1 [N B5 d] rfl rfl (Ed (cs:=#[N B5 d]) (fr:=(0,0)) (ay y _)) (by intro bb s;simp at s;subst s;rfl) py O byT ?_;intro bc bd ag L a8;obtain⟨a3,a2,rfl⟩:=Fs ag);refine⟨⟨b+1,O,?_,⟨_,_,_,rfl⟩,⟨?_,?_⟩⟩,?_⟩
    .grind
    .exact(i.2.2.alloc ak _).grown L byT (λar ad=>(i.1.lt ar ad).1)
    .rw[z.out,aB,i.out.2.1,fy];grind
    .simp[D3];omega
  .obtain rfl:b=78:=O;have f:=g.row;have⟨a0,j⟩:=aw (M (nG st 78));rw[j]at f;have⟨F,H,k⟩:=cG f;cases k;have A:=jB f j g.bl;go_wp21
   go_ret;refine⟨G,K,?_,?_,A.2.2⟩;all_goals simp_all
def rcF(x:Bz)(L:List Int)(m:Nat):Nat:=L.foldl (λm k=>max m (bnF k x)) m
def yj:Bz:=⟨#[45,45]⟩
def yL(st:List Int)(x:Bz):Nat:=rcF x (nG st 78) (cmF x yj)
structure amw (x:Bz) (L:List Int) (j m R:Nat):Prop where
 out:rcF x (L.drop j) m=R
def Fe(a b:Bz):∀f n,n<=a.size->cmL a b f n<=a.size
 |0,n,h=>h
 |f+1,n,h=>by
  rw[cmL];split
  .rename_i c;exact Fe a b f (n+1) O
  omega
theorem ai6(k:Int)(x:Bz):bnF k x<=x.size:=by
 unfold bnF;split
 .omega
 split
 .grind
 .exact Fe _ _ _ _ nH
def acx(x:Bz):∀(L:List Int)(m:Nat),m<=x.size->rcF x L m<=x.size
 |[],m,h=>h
 |k::L,m,h=>by
  show rcF x L (max m (bnF k x))<=x.size;exact acx x L _ (by have:=ai6 k x;omega)
def Ds(st:List Int)(x:Bz):yL st x<=x.size:=acx x _ _ (Fe _ _ _ _ nH)
theorem Hq(w:A3)(base r mb:Nat)(st:List Int)(x:Bz)(h:GQ w base r mb st)(ao:sJ w)(H:x.size<=1100000):
  Ck A9 37 #[A0 (V ⟨r,0,Ax⟩),E1 x] w λe a4=>e= B3 (N B5 (yL st x))/\A6 w.heap.size w a4:=by
 have⟨b,s⟩:=aw (nG st 78);have⟨g,B⟩:=aw (yL st x);have F:=aax st 78;have C:=Fc st 78;rw[s]at F C;have p:amw x b 0 (cmF x yj) g:=⟨by rw[<-B,<-s];rfl⟩;rw[B];have L:=Ev w x yj H Z;have t:cmF x yj<=x.size:=Fe _ _ _ _ nH;have z:=fD h ao;unfold yj at L;go_in;go_wp2_with fail;refine L.mono ?_;rintro e a5 ⟨rfl,q⟩;have ad:=agl a5 base r mb st (z.1.below q);rw[s]at ad
 change amw x b 0 (cmF x ⟨#[45,45]⟩) g at p
 change cmF x ⟨#[45,45]⟩<=x.size at t
 generalize cmF x ⟨#[45,45]⟩=a2 at p t⊢;go_wp2_with fail;refine ad.mono ?_;rintro e m ⟨af,a8,rfl,j,ak⟩;have ag:A6 w.heap.size w m:=q.trans (ak.mono q.size);have⟨l,E⟩:=aw (M b);rw[E]at j C⊢;have f:=jB j E ag;go_wp2;go_loopw [5,13] (λa3 v wr=>∃(a d:Nat),a<=l/\d<=x.size/\a3= N B5 (d:Int)/\v= N B5 (a:Int)/\amw x b a d g/\A6 m.heap.size m wr) (λ_ v _=>l-(D3 v).toNat)
 case atStart=>exact⟨0,a2,nH,t,rfl,rfl,p,ai _ _⟩
 case round=>
  obtain⟨a,d,ba,bf,rfl,rfl,A,i⟩:=hrel;by_cases bd:a<l
  .obtain⟨c,u⟩:∃c,b[a]?=V c:=⟨_,bi O⟩;have a1:=F c (da u);have a0:b.drop a=c::b.drop (a+1):=by
    obtain⟨am,an⟩:=List.getElem?_eq_some_iff.1 u;rw[ja am,an]
   have j:=bz f.1 i;obtain⟨n,rfl⟩:∃n,af=V ⟨n,0,Ax⟩:=by
    rcases bm j with⟨h,_⟩|⟨n,a7,h⟩;all_goals grind
   have a9:wr.cell? ⟨n,a,Ax⟩=V (N B5 c):=by rw[j.cellAt a O,dw,u];rfl
   have k:=A.out;rw[a0]at k;have G:rcF x (b.drop (a+1)) (max d (bnF c x))=g:=k;have aL:A6 w.heap.size w wr:=f.2.2.trans (i.mono f.2.2.size);have K:=Gm wr c x (z.2.below aL cJ) H a1.1 O;have ar:=ai6 c x;generalize bnF c x=y at G K ar;have o:amw x b (a+1) (max d y) g:=⟨G⟩;have bc:(a:Int)<(l:Int):=O;have bb:(0:Int)<=(a:Int):=O;go_wp2_with fail;refine K.mono ?_;rintro e a6 ⟨rfl,al⟩;have ap:A6 m.heap.size m a6:=i.trans (al.mono i.size);go_wp2;exact⟨⟨a+1,max d y,O,O,U,U,o,ap⟩,by simp[D3];omega⟩
  .obtain rfl:a=l:=O;have k:=A.out;rw[kD O]at k;have o:=aj k;go_wp2;go_ret;exact⟨by rw[<-o.out];rfl,f.2.2.trans (i.mono f.2.2.size)⟩
attribute [local go_sem] mK
def uD{P:Program}{b:Array Oper}{Q:Exit->Act->A3->Prop}{id:Nat}{S:A3->Prop}{a:Act}(c:P.follows .mixedOrders=B0)(hS:S w.drew)
  (h:S w.drew->wpAnyH P .any b Q S b.size (Array.replicate b.size B1) a w.drew):(Go.Code.region id b B0).wp P Q a w:=
 wp_region_any c (wpAny_of_held _ _ _ _ (h hS))
def acy(z:Int):List PanicEntry:=[{v:= .iface 41 (E0 #[N B5 z]),recovered:=B1}]
structure apD (w:A3) (base gb mb:Nat) (st stF:List Int) (k z:Int) (e:Ending) (w':A3):Prop where
 out:(jg st k=B0/\e= .returned (.tuple #[])/\GQ w' base gb mb stF/\Gp gb w w'/\A6 base w w')\/(jg st k=B1/\e= .panicked (acy z)/\A6 w.heap.size w w')
theorem Hr(w:A3)(base n mb:Nat)(st q:List Int)(T:Tk)(s:Bz)(f:Nat)(h:GQ w base n mb st)(a2:sJ w)(bo:s.size<=1100000)(B:1<=T.k)(C:T.k<=78)(G:0<=T.f)(H:T.f<=T.t)(K:T.t<=(s.size:Int))
  (af:jg st T.k=B0->passOk (M st+45) f st T.k q/\M q<=99999000/\∀a∈q,0<=a/\a<=133):
  Ck A9 14 #[A0 (V ⟨n,0,Ax⟩),vTk T,E1 s] w λe d=>apD w base n mb st q T.k (T.f+(yL st (s.extract T.f.toNat T.t.toNat):Nat)) e d:=by
 obtain⟨k,br,bc,an,ao,ap⟩:=T;unfold vTk;simp only at B C G H K af⊢;obtain⟨c,rfl⟩:=eJ G;obtain⟨i,rfl⟩:=eJ (O:0<=bc);simp only[wH];obtain⟨p,al⟩:∃p:Nat,yL st (s.extract c i)=p:=⟨_,rfl⟩;rw[al];have ar:=aj al;have L:=(ai w.heap.size w).alloc cJ (Br #[N B5 k,N B5 (c:Int),N B5 (i:Int),N B5 an,N B5 ao,E1 ap] 48 (0,0));have a3:(w.alloc (Br #[N B5 k,N B5 (c:Int),N B5 (i:Int),N B5 an,N B5 ao,E1 ap] 48 (0,0))).heap[w.heap.size]?=_:=ay w _;have ag:=h.below L;have bl:n<w.heap.size:=by obtain⟨bs,bk,_⟩:=h.g.ex;grind
 have⟨aL,ak⟩:=aw (jg st k);have a8:=ag.may B C ak;have m:=It h a2 a3 ak ag;go_in;go_wp2_with fail;refine a8.mono ?_;rintro e o ⟨rfl,x⟩;have A:A6 w.heap.size w o:=L.trans (x.mono I);have y:=(x.block _ (aA m.2.2.1)).trans m.2.2.1;have bd:o.cell? ⟨w.heap.size,0,Ax⟩=V (N B5 k):=by rw[au _ _ _ _ _ _ y];rfl
 have E:o.cell? ⟨w.heap.size,1,Ax⟩=V (N B5 (c:Int)):=by rw[au _ _ _ _ _ _ y];rfl
 have F:o.cell? ⟨w.heap.size,2,Ax⟩=V (N B5 (i:Int)):=by rw[au _ _ _ _ _ _ y];rfl
 cases aL with
 |true=>
  have⟨a5,a6,a7⟩:=af m.2.2.2.1;have u:=m.2.2.2.2.below x;have a9:=ai5 o base n mb st k (M st+45) f q u.g u.r u.ok O (by have:=u.len;omega) B C a5;have bf:IntKind.u8.wrap k=k:=by rw[Iq];omega
  have bn:=m.1.g.lo;go_wp2_with (go_at_call 38;refine a9.mono ?_;rintro e bt ⟨rfl,a1,bb,ba,a0⟩);go_end0
  exact⟨.inl ⟨m.2.2.2.1,rfl,⟨a1,bb,a7,a6⟩,(Gp.of_below A).trans ba,(A.mono O).trans a0⟩⟩
 |false=>
  have v:A6 w.heap.size w o.drew:=A.drew;have am:=Hq o.drew base n mb st (s.extract c i) (m.1.below v) (m.2.1.below v cJ) (by have:=im (a:=s) (b:=c) (e:=i);omega);have a4:(yL st (s.extract c i):Nat)<=s.size:=by
   have:=Ds st (s.extract c i);have:=im (a:=s) (b:=c) (e:=i);omega
  rw[ar.out]at am a4;have hF:(c:Int)<=(i:Int):=H;have bg:(i:Int)<=(s.size:Int):=K;have bj:(0:Int)<=(c:Int):=O;have bh:(0:Int)<=(i:Int):=O;have bp:IntKind.i64.wrap ((c:Int)+(p:Int))=(c:Int)+(p:Int):=by rw[bJ];omega
  go_wp2_with fail;refine uD (S:=λd=>d.cell? ⟨w.heap.size,1,Ax⟩=V (N B5 (c:Int))/\d.cell? ⟨w.heap.size,2,Ax⟩=V (N B5 (i:Int))) byR ⟨E,F⟩ (λhS=>?_);refine bB 0 (A0 (V ⟨w.heap.size,1,Ax⟩)) rfl rfl hS (λd ⟨j,l⟩=>by go_simp) ?_;simp only[B7];refine bB 1 (N B5 (c:Int)) rfl rfl hS (λd ⟨j,l⟩=>by go_simp) ?_;simp only[B7];refine bB 2 (A0 (V ⟨n,0,Ax⟩)) rfl rfl hS (λd ⟨j,l⟩=>by go_simp) ?_;simp only[B7];refine bB 3 (E1 s) rfl rfl hS (λd ⟨j,l⟩=>by go_simp) ?_;simp only[B7];refine bB 4 (A0 (V ⟨w.heap.size,1,Ax⟩)) rfl rfl hS (λd ⟨j,l⟩=>by go_simp) ?_;simp only[B7];refine bB 5 (N B5 (c:Int)) rfl rfl hS (λd ⟨j,l⟩=>by go_simp) ?_;simp only[B7];refine bB 6 (A0 (V ⟨w.heap.size,2,Ax⟩)) rfl rfl hS (λd ⟨j,l⟩=>by go_simp) ?_;simp only[B7];refine bB 7 (N B5 (i:Int)) rfl rfl hS (λd ⟨j,l⟩=>by go_simp) ?_;simp only[B7];refine bB 8 (E1 (s.extract c i)) rfl rfl hS (λd ⟨j,l⟩=>by go_simp) ?_;simp only[B7];refine G0 (rs:=[9]) J I (AllReadyH.cons rfl (λav ad=>?_) AllReadyH.nil);go_simp;refine am.mono ?_;rintro e bv ⟨rfl,z⟩;refine ad _ _ ⟨aq z E,aq z F⟩ (λhS=>?_);try simp only[Act.put,bF,bG,bI]
  refine bB 10 (N B5 ((c:Int)+(p:Int))) rfl rfl hS (λd ⟨j,l⟩=>by go_simp) ?_;simp only[B7];refine bB 11 (E0 #[N B5 ((c:Int)+(p:Int))]) rfl rfl hS (λd ⟨j,l⟩=>by go_simp) ?_;simp only[B7];refine bB 12 (.iface 41 (E0 #[N B5 ((c:Int)+(p:Int))])) rfl rfl hS (λd ⟨j,l⟩=>by go_simp) ?_;simp only[B7];refine G0 (rs:=[13]) J I (AllReadyH.cons rfl (λav ad=>?_) AllReadyH.nil);go_simp;exact⟨rfl,⟨.inr ⟨m.2.2.2.1,rfl,v.trans (z.mono v.size)⟩⟩⟩
structure mz (s:Bz) (R:List Tk×List Int×Int) (st stk:List Int) (p:Nat) (l:Int) (out:List Tk) (f:Nat):Prop where
 sim:Gl st stk
 wk:atu s f stk (blk s (s.size+1) p) l out R
 fu:s.size<blk s (s.size+1) p+f
 len:M st<=45*p+2
 l0:0<=l
 l1:l<=(p:Int)+1
 le:p<=s.size
 ol:M out<=p
 n23:N23 stk
def mz.move{q:Nat}{f:Nat}(h:mz s R st stk p l out f)(a:blk s (s.size+1) p=blk s (s.size+1) q)(c:p<=q)(b:q<=s.size):mz s R st stk q l out f:=
 ⟨h.sim,by rw[<-a];exact h.wk,by rw[<-a];exact h.fu,by have:=h.len;omega,h.l0,by have:=h.l1;omega,b,by have:=h.ol;omega,h.n23⟩
theorem mz.step{s:Bz}{R:List Tk×List Int×Int}{st b:List Int}{p:Nat}{l:Int}{c:List Tk}{f:Nat}(h:mz s R st b p l c f)(ht:rE s p):∃g,f=g+1/\s.size<p+1+g/\
  (if gD s p=7 then
   (if(feedL b 5).2=B0 then wlk s g (feedL b 5).1 (blk s (s.size+1) (rdI s p).a) (l+1) (c++[⟨5,(p:Nat),((rdI s p).a:Nat),l,(rdI s p).n,(rdI s p).x⟩]) else wlk s g b (blk s (s.size+1) (rdI s p).a) (l+1) c)
  else if(pc b (gD s p)).2=B0 then
   (if(rdI s p).ok=B0 then wlk s g (feedL b (gD s p)).1 (blk s (s.size+1) (rdI s p).a) l (c++[⟨gD s p,(p:Nat),((rdI s p).a:Nat),l,(rdI s p).n,(rdI s p).x⟩]) else([],b,((rdI s p).a:Nat)))
  else([],b,(wrongF s p (jH b):Nat)))=R:=by
 have e:=ux s p ht.nb ht.nd;have i:=h.fu;have d:=h.wk.out;rw[e]at i d;have j:=ht.lt;obtain⟨g,rfl⟩:∃g,f=g+1:=⟨f-1,O⟩;rw[wlk,aa O]at d;grind
theorem ai7(h:(rdI s p).ok=B0):(rdI s p).d=if(rdI s p).k=7 then 1 else 0:=by
 unfold rdI at h⊢;split
 .simp only;unfold vK;grind
 split
 .split
  .simp only;unfold th;grind
  grind
 grind
theorem JE(h:(rdI s p).ok=B0):gD s p=(rdI s p).k:=by unfold gD;grind
section
variable {s : Bz} {R : List Tk × List Int × Int} {st stk : List Int} {p : Nat} {l : Int} {out : List Tk} {f : Nat}
def mz.next(h:mz s R st stk p l out f)(ht:rE s p)(i:(rdI s p).ok=B0){st' b:List Int}{c:List Tk}{g:Nat}(w:s.size<p+1+g)(j:Gl st' b)(x:M st'<=M st+45)(y:M c<=M out+1)(hn:N23 b)
  (k:wlk s g b (blk s (s.size+1) (rdI s p).a) (l+(rdI s p).d) c=R):mz s R st' b (rdI s p).a (l+(rdI s p).d) c g:=by
 have⟨m,e,n,o⟩:=eD s p ht.lt i;have v:=ft s (s.size+1) (rdI s p).a e;have q:=h.len;have r:=h.l0;have t:=h.l1;have u:=h.ol;exact⟨j,⟨k⟩,O,O,O,O,e,O,hn⟩
def mz.sep(h:mz s R st stk p l out f)(ht:rE s p)(b:(rdI s p).ok=B0)(c:(rdI s p).k=7)(m:jg st 5=B0){st':List Int}(o:Gl st' (feedL stk 5).1)(j:M st'<=M st+45):
  ∃g,mz s R st' (feedL stk 5).1 (rdI s p).a (l+(rdI s p).d) (out++[⟨5,(p:Nat),((rdI s p).a:Nat),l,(rdI s p).n,(rdI s p).x⟩]) g:=by
 obtain⟨g,rfl,i,e⟩:=h.step ht;rw[JE b,ab c,ab (by rw[<-h.sim.may Z Z];exact m)]at e;exact⟨g,h.next ht b i o j I (abF Z Z stk h.sim.o2 h.n23) (by rw[ai7 b,ab c];exact e)⟩
def mz.skip(h:mz s R st stk p l out f)(ht:rE s p)(b:(rdI s p).ok=B0)(c:(rdI s p).k=7)(j:jg st 5=B1):∃g,mz s R st stk (rdI s p).a (l+(rdI s p).d) out g:=by
 obtain⟨g,rfl,i,e⟩:=h.step ht;rw[JE b,ab c,aa (by rw[<-h.sim.may Z Z,j];simp)]at e;exact⟨g,h.next ht b i h.sim O O h.n23 (by rw[ai7 b,ab c];exact e)⟩
theorem aay{k:Int}(a:1<=k)(st:List Int):pc st k=feedL st k:=by unfold pc;grind
def mz.tok(h:mz s R st stk p l out f)(ht:rE s p)(b:(rdI s p).ok=B0)(e:(rdI s p).k≠7)(q:jg st (rdI s p).k=B0){st':List Int}(r:Gl st' (feedL stk (rdI s p).k).1)(o:M st'<=M st+45):
  ∃g,mz s R st' (feedL stk (rdI s p).k).1 (rdI s p).a (l+(rdI s p).d) (out++[⟨(rdI s p).k,(p:Nat),((rdI s p).a:Nat),l,(rdI s p).n,(rdI s p).x⟩]) g:=by
 obtain⟨g,rfl,m,i⟩:=h.step ht;have⟨c,j⟩:=wo s p b;rw[JE b,aa e,aay c,ab (by rw[<-h.sim.may c j];exact q),ab b]at i;exact⟨g,h.next ht b m r o I (abF c j stk h.sim.o2 h.n23) (by rw[ai7 b,aa e,Int.add_zero];exact i)⟩
theorem mz.stop(h:mz s R st stk p l out f)(ht:rE s p)(a:(rdI s p).ok=B0)(c:(rdI s p).k≠7)(d:jg st (rdI s p).k=B1):R.2.2=(wrongF s p (jH stk):Nat):=by
 obtain⟨i,rfl,j,e⟩:=h.step ht;have⟨b,g⟩:=wo s p a;rw[JE a,aa c,aay b,aa (by rw[<-h.sim.may b g,d];simp)]at e;grind
theorem mz.bad(h:mz s R st stk p l out f)(ht:rE s p)(e:(rdI s p).ok=B1):0<=R.2.2:=by
 obtain⟨b,rfl,d,g⟩:=h.step ht;have c:¬gD s p=7:=λa=>by have:=Cz s p a;grind
 grind
theorem mz.fin(h:mz s R st stk s.size l out f):R=(out++[⟨6,(s.size:Nat),(s.size:Nat),l,0,⟨#[]⟩⟩],stk, -1):=by
 have c:=oA s s.size cJ;have d:=h.fu;have b:=h.wk.out;rw[c]at d b;obtain⟨a,rfl⟩:∃a,f=a+1:=⟨f-1,O⟩;rw[wlk,ab cJ]at b;grind
end
theorem mz.begin(s:Bz):mz s (jn s) [100,6] [100,6] 0 1 [] (s.size+1):=
 ⟨af4,⟨rfl⟩,O,I,O,O,nH,I,by intro b a;grind⟩
def mz.rng{f:Nat}(h:mz s R st stk p l out f):∀a∈st,0<=a/\a<=133:=λa b=>by
 have:=be (h.sim.o1 a b);omega
structure aaz (s:Bz) (R:List Tk×List Int×Int) (z:Int):Prop where
 bad:0<=R.2.2
 ex:∃(p:Nat) (st stk:List Int) (l:Int) (out:List Tk) (f:Nat),rE s p/\mz s R st stk p l out f/\z=(p:Int)+(yL st (s.extract p (rdI s p).a):Nat)/\((rdI s p).ok=B0->(rdI s p).k≠7/\jg st (rdI s p).k=B1)
def okO(o:Obj):Prop:=(∃c a,o= .map c a)\/(∃b t fr,o= Br b t fr/\t≠91)
def qE(W b:A3):Prop:=∀(k:Nat)(a:Obj),okO a->W.heap[k]?=V a->b.heap[k]?=V a
def qE.cells(h:qE W W'){cs:Array B4}{t:E2}(a:W.heap[k]?=V (Br cs t fr))(ht:t≠91):W'.heap[k]?=V (Br cs t fr):=h k _ (.inr ⟨_,_,_,rfl,ht⟩) a
theorem qE.row(h:qE W W'){e size:Nat}{v:B4}{xs:List B4}(a:W.ownsRow base e size v n xs)(f:e≠91):W'.ownsRow base e size v n xs:=by
 refine⟨a.1,?_⟩;rcases a.2 with l|⟨d,b,c,g,i,j,k⟩
 .grind
 .exact .inr ⟨d,b,c,g,i,h.cells j f,k⟩
theorem qE.of_gr(f:W.grownBy W' (V b))(h:ScX b W):qE W W':=by
 intro c q g a;obtain⟨j,n,e⟩:=h;refine(f.block c (aA a) ?_).trans a;intro l;obtain rfl:c=b:=U;rw[e]at a;obtain rfl:=cC a;rcases g with⟨m,i,d⟩|⟨k,r,o,d,p⟩;all_goals grind
def qE.of_put{l:Nat}{r:Loop}(c:W.heap[l]?=V (.loop r))(e:Obj):qE W (W.putObj l e):=by
 intro k m d a;refine(Y ?_).trans a;rintro rfl;rw[c]at a;obtain rfl:=cC a;rcases d with⟨h,f,b⟩|⟨g,n,i,b,j⟩<;>cases b
def qE.of_putD{l:Nat}{q:Option (List Deferred)}(c:W.heap[l]?=V (.deferred q))(e:Obj):qE W (W.putObj l e):=by
 intro k m d a;refine(Y ?_).trans a;rintro rfl;rw[c]at a;obtain rfl:=cC a;rcases d with⟨h,f,b⟩|⟨g,n,i,b,j⟩<;>cases b
def qE.of_below(h:A6 W.heap.size W W'):qE W W':=λb c _ a=>(h.block b (aA a)).trans a
def GQ.kept(h:GQ W base gb mg st)(a:qE W W'):GQ W' base gb mg st:=by
 have⟨e,c,d⟩:=h.g.ex;exact⟨⟨⟨e,a.cells c Z,a.row d Z⟩,h.g.lo⟩,h.r.same (λi f b=>a _ _ (.inl ⟨_,_,rfl⟩) b) (λk g j b=>a.cells b Z),h.ok,h.len⟩
theorem GQ.same(h:GQ W base gb mg st)(a:∀(k:Nat) (o:Obj),W.heap[k]?=V o->(∀cs fr,o≠ Br cs 48 fr)->(∀cs fr,o≠ Br cs 45 fr)->W'.heap[k]?=V o):GQ W' base gb mg st:=by
 have⟨n,g,d⟩:=h.g.ex;refine⟨⟨⟨n,a _ _ g U U,d.1,?_⟩,h.g.lo⟩,h.r.same (λq p b=>a _ _ b U U) (λc cs fr b=>a _ _ b U U),h.ok,h.len⟩;rcases d.2 with s|⟨c,e,f,i,j,l,m⟩
 .grind
 .exact .inr ⟨c,e,f,i,j,a _ _ l U U,m⟩
structure wv (w:A3) (base gb mg tv:Nat) (s:Bz) (st:List Int) (out:List Tk) (W:A3):Prop where
 q:GQ W base gb mg st
 bl:A6 base w W
 b0:W.heap[w.heap.size]?=V (.cells #[.pointer (V ⟨gb,0,Ax⟩)] 43 (0,0))
 b1:W.heap[w.heap.size+1]?=V (.cells #[.string s] 9 (0,0))
 tk:∃v,W.heap[tv]?=V (.cells #[v] 45 (0,0))/\W.ownsRow w.heap.size 48 6 v (M out) (AJ out)
def wv.kept(h:wv w base gb mg tv s st out W)(a:qE W W')(b:A6 base W W'):wv w base gb mg tv s st out W':=by
 have⟨e,c,d⟩:=h.tk;exact⟨h.q.kept a,h.bl.trans b,a.cells h.b0 Z,a.cells h.b1 Z,⟨e,a.cells c Z,a.row d Z⟩⟩
def wv.below(h:wv w base gb mg tv s st out W)(a:A6 W.heap.size W W')(b:base<=W.heap.size):wv w base gb mg tv s st out W':=h.kept (.of_below a) (a.mono b)
theorem wv.turn{st':List Int}(h:wv w base gb mg tv s st out W)(g:GQ W' base gb mg st')(a:Gp gb W W')(f:A6 base W W')(r:gb<w.heap.size)(t:w.heap.size<tv):wv w base gb mg tv s st' out W':=by
 have⟨n,m,b⟩:=h.tk;have⟨u,p,_⟩:=h.q.g.ex;refine⟨g,h.bl.trans f,lD a h.b0 O,lD a h.b1 O,⟨n,lD a m O,b.1,?_⟩⟩;rcases b.2 with o|⟨e,c,d,i,j,k,l⟩
 .grind
 .refine .inr ⟨e,c,d,i,j,lD a k ?_,l⟩;omega
theorem wv.setTok{c:Nat}{cs:Array B4}(h:wv w base gb mg tv s st out W)(p:W.heap[c]?=V (Br cs 48 fr))(l:∀v,W.heap[tv]?=V (Br #[v] 45 (0,0))->v.ownBlock≠V c)(j:base<=c)(u:B4):wv w base gb mg tv s st out (W.setCell ⟨c,0,Ax⟩ u):=by
 have a:∀(d:Nat)(b:Obj),W.heap[d]?=V b->(∀cs fr,b≠ Br cs 48 fr)->(W.setCell ⟨c,0,Ax⟩ u).heap[d]?=V b:=λd b a n=>(az _ _ _ _ U).trans a;have⟨v,e,m⟩:=h.tk;refine⟨h.q.same (λd b g i _=>a d b g i),h.bl.setCell j _,a _ _ h.b0 U,a _ _ h.b1 U,⟨v,a _ _ e U,?_⟩⟩;exact C4 m (row:=V c) ⟨rfl,rfl,rfl,byS,λq o k=>az _ _ _ _ (λf=>k (by rw[f]))⟩ (.inr (l v e))
theorem Iw.turn{q g:Nat}{f e:Int}{cs:Array B4}(h:Iw b mb B s I1 W q f p l)(r:W.heap[gb]?=V (Br cs 85 fr))(a:Gp gb W W')(n:A6 base W W')(w:12<=base)(t:I1 g e W'):Iw b mb B s I1 W' q f g e:=by
 have⟨m,d⟩:=h.sc;have o:b≠gb:=by rintro rfl;rw[show W.heap[b]?=_ from d]at r;grind
 refine⟨⟨m,lD a d o⟩,?_,h.ly.blocks (λu x=>n.block u O),t,aK h.sz a.size⟩;have⟨k,i,c,j⟩:=h.mp;exact⟨k,i,(a.block _ (aA c) U (λcs fr v=>U)).trans c,j⟩
def Iw.below{q i:Nat}{g f:Int}(h:Iw b mb B s I1 W q g p l)(a:A6 W.heap.size W W')(m:12<=B)(k:I1 i f W'):Iw b mb B s I1 W' q g i f:=by
 have⟨j,e⟩:=h.sc;have n:=h.sz;exact⟨⟨j,(a.block _ (aA e)).trans e⟩,h.mp.kept (row:=Ax) ⟨a.os,a.tape,a.output,a.size,λc d _=>a.block c d⟩ I,h.ly.blocks (λc d=>a.block c O),k,aK h.sz a.size⟩
theorem Iw.put{b mb B L:Nat}{s:Bz}{I1:Nat->Int->A3->Prop}{W:A3}{p q:Nat}{l d:Int}{r:Loop}(h:Iw b mb B s I1 W q d p l)(a:W.heap[L]?=V (.loop r))(o:Obj)(n:12<=L)(m:I1 p l (W.putObj L o)):Iw b mb B s I1 (W.putObj L o) q d p l:=by
 have⟨j,c⟩:=h.sc;have k:b≠L:=by rintro rfl;rw[show W.heap[b]?=_ from c]at a;cases a
 have⟨i,e,f,g⟩:=h.mp;exact⟨⟨j,(Y k).trans c⟩,⟨i,e,(Y U).trans f,g⟩,h.ly.blocks (λu t=>Y O),m,by simpa using h.sz⟩
theorem JF(s:Bz)(p:Nat)(d:p<s.size):p<=(rdI s p).a/\(rdI s p).a<=s.size:=by
 unfold rdI;split
 .rename_i b;have:=Dj s p b;exact⟨U,(sa s _ p O).2⟩
 split
 .have:=kG s p d;grind
 split
 .have:=sE s (s.size+1) (p+1) [] O;grind
 split
 .grind
 .rename_i c;have e:=ey s p s.size cJ;have:=Jj (s.extract p s.size) O c;grind
def agm{fn:Func}{P:Program}{R:Ending->A3->Prop}{tmps:Array B4}{D:Nat}{a:List PanicEntry}(b:W.heap[D]?=V (.deferred (V [])))(h:R (.panicked a) (W.putObj D (.deferred Ax))):LeavesInM Fence.wide n P fn tmps R [{target:= .collected D,args:=#[]}] (.panicking a) W:=
 ⟨I,.inl ⟨_,_,rfl,run_takeDeferred b,h⟩⟩
theorem ai8(a b:Bz):∀(f n:Nat),a.size<n+f->n<=a.size->n<=b.size->(∀i,i<n->ae a i=ae b i)->(cmL a b f n<=a.size/\cmL a b f n<=b.size)/\(∀i,i<cmL a b f n->ae a i=ae b i)/\¬(cmL a b f n<a.size/\cmL a b f n<b.size/\ae a (cmL a b f n)=ae b (cmL a b f n))
 |0,n,h,c,d,h3=>O
 |f+1,n,h,c,d,h3=>by
  rw[cmL];split
  .rename_i g;refine ai8 a b f (n+1) O O O (λi e=>?_);grind
  grind
theorem aev{a b:Bz}:m<=cmF a b↔m<=a.size/\m<=b.size/\∀i,i<m->ae a i=ae b i:=by
 obtain⟨⟨c,d⟩,e,f⟩:=ai8 a b (a.size+1) 0 O nH nH (λi g=>O);unfold cmF;grind
theorem ai9(x:Bz):∀(L:List Int)(a:Nat),m<=rcF x L a↔m<=a\/∃k∈L,m<=bnF k x
 |[],a=>by simp[rcF]
 |k::L,a=>by
  show m<=rcF x L (max a (bnF k x))↔_;rw[ai9 x L];grind
def acz(s:Bz):∀(f p i:Nat),p<=i->i<mh s f p->aJ (ae s i)=B0\/aC (ae s i)=B0
 |0,p,i,b,a=>by rw[mh]at a;omega
 |f+1,p,i,b,a=>by
  rw[mh]at a;split at a
  .rename_i g;rcases js b with rfl|q
   .exact g
   .exact acz s f (p+1) i q a
  .omega
def aja(s:Bz):∀(f p:Nat),s.size<p+f->¬(aJ (ae s (mh s f p))=B0\/aC (ae s (mh s f p))=B0)
 |0,p,h=>by rw[mh];exact D0 O
 |f+1,p,h=>by
  rw[mh];split
  .exact aja s f (p+1) O
  omega
theorem acA(s:Bz):∀(f p m:Nat),m<=f->(∀i,i<m->aJ (ae s (p+i))=B0)->p+m<=mh s f p
 |0,p,m,h,g=>by rw[mh];omega
 |f+1,p,0,h,g=>by
  rw[mh];split
  .have:=acA s f (p+1) 0 nH (λi a=>O);omega
  .omega
 |f+1,p,m+1,h,g=>by
  rw[mh,ab (.inl (g 0 O))];have:=acA s f (p+1) m O (λi a=>U);omega
def fx1:∀k:Fin 79,aJ (ae (fJ (k.val:Int)) 0)=B0->∀i:Fin 6,i.val<(fJ (k.val:Int)).size->aJ (ae (fJ (k.val:Int)) i.val)=B0:=by decide+kernel
theorem fx2:∀k:Fin 79,aC (ae (fJ (k.val:Int)) 0)=B1/\ae (fJ (k.val:Int)) 0≠34/\(k.val<=4->(fJ (k.val:Int)).size=0):=by decide+kernel
def fx4:∀k:Fin 79,k.val≠7->aJ (ae (fJ (k.val:Int)) 0)=B1->(fJ (k.val:Int)).size<=3/\∀m:Fin 4,1<=m.val->m.val<=(fJ (k.val:Int)).size->∃i:Fin 30,bq ju i.val=(fJ (k.val:Int)).extract 0 m.val:=by decide+kernel
def apE:∀i j:Fin 30,j.val<=i.val->ae (bq ju j.val) 0=ae (bq ju i.val) 0->(bq ju i.val).size<=(bq ju j.val).size:=by decide+kernel
def apF:∀i:Fin 30,(bq ju i.val).size≠0:=by decide+kernel
theorem ajb(q:Bz->Bool):∀(f k i:Nat),k<=i->i<k+f->q (bq ju i)=B0->∃j,vq q f k=V j/\j<=i/\q (bq ju j)=B0
 |0,k,i,h1,a,h=>O
 |f+1,k,i,h1,a,h=>by
  rw[vq];split
  .grind
  .rename_i g;rcases js h1 with rfl|h1
   .grind
   .exact ajb q f (k+1) i h1 O h
def apH(h:0<=ae s i):i<s.size:=by
 rcases aH i s.size with g|g
 .exact g
 .rw[di]at h;omega
theorem apI(h:i<s.size):0<=ae s i:=by unfold ae;grind
theorem aew(G:ae s p≠10){k:Int}(K:1<=k/\k<=78)(H:k≠7)(z:1<=m)(r:m<=(fJ k).size)(c:∀i,i<m->ae s (p+i)=ae (fJ k) i):p+m<=(rdI s p).a:=by
 obtain⟨k,rfl⟩:∃f:Fin 79,k=(f.val:Int):=⟨⟨k.toNat,O⟩,U⟩;have v:=c 0 O;rw[du]at v;have o:∀i,i<m->p+i<s.size:=λi e=>apH (by rw[c i e];exact apI O);have L:=o (m-1) O;obtain⟨C,E,_⟩:=fx2 k;have ad:=aih (k.val:Int);unfold rdI;by_cases n:aJ (ae s p)=B0
 .rw[ab n];have f:=fx1 k U;exact acA s (s.size+1) p m O (λi e=>by rw[c i e];exact f ⟨i,O⟩ U)
 rw[aa n,aa U,aa O];obtain⟨F,u⟩:=fx4 k O U;obtain⟨i,e⟩:=u ⟨m,O⟩ z r;have y:∀b,b<m->ae (s.extract p s.size) b=ae s (p+b):=λb d=>eu s p s.size b cJ (o b d);have af:((fJ (k.val:Int)).extract 0 m).size=m:=byS;have ag:∀b,b<m->ae (s.extract p s.size) b=ae ((fJ (k.val:Int)).extract 0 m) b:=λb d=>by rw[y b d,c b d,eu _ 0 m b r,ny]
 have q:Lib.hasPrefix (s.extract p s.size).data.toList (bq ju i.val).data.toList=B0:=by
  rw[e,acm _ _ U];unfold pB;grind
 have j:=xx (s.extract p s.size) U;obtain⟨b,d,w,x⟩:=ajb (λA=>Lib.hasPrefix (s.extract p s.size).data.toList A.data.toList) 30 0 i.val nH O q;unfold wn at j;rw[d]at j;obtain⟨_,B,t,_⟩:=j;rw[aa t];have l:∀(i:Fin 30),Lib.hasPrefix (s.extract p s.size).data.toList (bq ju i.val).data.toList=B0->ae (s.extract p s.size) 0=ae (bq ju i.val) 0:=λi h=>by
  have c:=aiB i;unfold inB at c;rw[acm _ _ (be c).1]at h;unfold pB at h;rcases(be h).1 with g|g
  .exact absurd g (apF i)
  omega
 have f:=apE i ⟨b,O⟩ w ((l ⟨b,O⟩ x).symm.trans (l i q));grind
section
variable {s : Bz} {p r : Nat} {K : List Int}
theorem JG(d:∀m,1<=m->m<=r->p+m<=s.size/\jI K (s.extract p (p+m))=B0)(g:∀m,1<=m->m<r->my s p m=B1)(h3:p+(r+1)<=s.size->jI K (s.extract p (p+(r+1)))=B0->1<=r/\my s p r=B0):∀(f n:Nat),n<=r->r<n+f->(n=r->1<=r->my s p r=B1)->Hi s p K f n=r
 |0,n,a,b,_=>O
 |f+1,n,a,b,c=>by
  rw[Hi];rcases aH n r with q|q
  .obtain⟨j,h⟩:=d (n+1) O q;rw[ab ⟨O,h⟩];rcases aH (n+1) r with q2|q2
   .rw[aa U];exact JG d g h3 f (n+1) q O (λe=>O)
   .have e:n+1=r:=O;split
    .exact e
    .rename_i i;exact JG d g h3 f (n+1) O O (λ_ _=>U)
  grind
theorem apJ(ht:rE s p)(an:∀k∈K,1<=k/\k<=78)(a4:aC (ae s p)=B0->2 ∉ K/\3 ∉ K)(a5:ae s p=34->4 ∉ K)(F:ae s p≠10):Hi s p K (s.size+1) 0=rcF (s.extract p (rdI s p).a) K (cmF (s.extract p (rdI s p).a) yj):=by
 obtain⟨ad,B⟩:=JF s p ht.lt;have a7:=ht.lt;obtain⟨a,w⟩:=aw ((rdI s p).a);have r:=λ{k:Int} e f {m:Nat} y q d=>aew (s:=s) (p:=p) F (k:=k) e f (m:=m) y q d;rw[w]at ad B r⊢;have x:(s.extract p a).size=a-p:=byS;have d:∀b,b<a-p->ae (s.extract p a) b=ae s (p+b):=λb o=>eu s p a b B;have ao:rcF (s.extract p a) K (cmF (s.extract p a) yj)<=a-p:=by rw[<-x];exact acx _ _ _ (Fe _ _ _ _ nH)
 have g:=λm=>ai9 (s.extract p a) (m:=m) K (cmF (s.extract p a) yj);generalize rcF (s.extract p a) K (cmF (s.extract p a) yj)=i at ao g;have aL:yj.size=2:=rfl;have E:∀m,p+m<=s.size->(s.extract p (p+m)).size=m/\∀b,b<m->ae (s.extract p (p+m)) b=ae s (p+b):=λm ar=>⟨byS,λb o=>eu s p (p+m) b ar⟩;refine JG (λm y q=>⟨O,?_⟩) (λm y q=>?_) (λam v=>?_) (s.size+1) 0 nH O (λ_ _=>O)
 .obtain⟨l,n⟩:=E m O;unfold jI;rcases(g m).1 q with h|⟨k,e,h⟩
  .obtain⟨ak,al,j⟩:=aev.1 h;have u:=j 0 O;rw[d 0 O]at u;rcases(O:m=1\/m=2) with rfl|rfl
   .rw[ab ⟨l,by rw[n 0 O,u];rfl⟩]
   .have C:=j 1 O;rw[d 1 O]at C;exact absurd ⟨u,C⟩ ht.nd
  .split
   .rfl
   refine(Ak _ K).2 ⟨k,e,?_⟩;unfold bnF at h;rw[aa O]at h;have af:ae (s.extract p a) 0=ae (s.extract p (p+m)) 0:=U;split at h
   .rename_i H;split at h
    .rename_i G;left;rw[af]at G;unfold bgC;rw[ga];unfold bnC at G;grind
    .omega
   .obtain⟨ak,al,j⟩:=aev.1 h;have f:k≠7:=λc=>by
     subst c;have:=j 0 O;rw[d 0 O]at this;exact F this
    right;rw[xA,ut k f,l];grind
 .unfold my;by_cases a6:aJ (ae s p)=B0
  .have c:a=mh s (s.size+1) p:=by rw[<-w];unfold rdI;grind
   have z:=acz s (s.size+1) p (p+m) O O;have a0:lk s (p+m)=ae s (p+m):=by unfold lk;omega
   grind
  grind
 .obtain⟨l,n⟩:=E (i+1) am;unfold jI at v;split at v
  .rename_i ag;have t:=ag.2;rw[n 0 O]at t;have z:=r (k:=62) Z Z (m:=1) O Z (λb o=>by obtain rfl:b=0:=O;exact t);have:=(g 1).2 (.inl (aev.2 ⟨O,O,λb o=>by obtain rfl:b=0:=O;rw[d 0 O];exact t⟩));omega
  .obtain⟨k,e,h⟩:=(Ak _ K).1 v;rw[n 0 O,du]at h;rcases h with h|h
   .unfold bgC at h;rw[ga]at h;rcases h with⟨rfl,h⟩|⟨a3,h⟩|⟨rfl,h⟩
    .have c:a=mh s (s.size+1) p:=by rw[<-w];unfold rdI;grind
     have a8:=Dj s p h;have z:=(g (a-p)).2 (.inr ⟨1,e,by unfold bnF;rw[aa O,ab (.inl rfl),ab (by rw[d 0 O];exact h),x];omega⟩);have av:=aja s (s.size+1) p O;rw[<-c]at av;obtain rfl:i=a-p:=O;refine⟨O,?_⟩;unfold my lk;grind
    all_goals grind
   .obtain⟨A,L⟩:=xA.1 h;rw[l]at A L;have f:k≠7:=λc=>by
     subst c;have:(eI 7).size=0:=by decide+kernel
     omega
    rw[ut k f]at A L;have ap:=an k e;have z:=r ap f (m:=i+1) O A (λb o=>U);have H:¬(k=1\/k=2\/k=3\/k=4):=λc=>by
     have:=(fx2 ⟨k.toNat,O⟩).2.2 U;grind
    have:=(g (i+1)).2 (.inr ⟨k,e,by unfold bnF;rw[aa O,aa H,aev,x];grind⟩);omega
end
theorem za(st:List Int):∀(j:Nat)(k:Int),k∈nG st j↔1<=k/\k<=(j:Int)/\jg st k=B0
 |0,k=>by simp[nG];omega
 |j+1,k=>by
  rw[nG];split
  .rename_i g;rw[xg,za st j,List.mem_singleton];grind
  .rename_i g;rw[za st j];grind
theorem acB(s:Bz)(p:Nat):(aC (ae s p)=B0/\(od s p=2\/od s p=3))\/(ae s p=34/\od s p=4)\/(od s p=0/\aC (ae s p)=B1/\ae s p≠34):=by
 unfold od;grind
theorem aaz.at_{s:Bz}{R:List Tk×List Int×Int}{z:Int}(h:aaz s R z):z=R.2.2:=by
 obtain⟨b,f,o,ao,ar,ad,j,k,v,F⟩:=h.ex;have q:nG f 78=jH o:=k.sim.nm 78 cJ;have u:∀i,1<=i->i<=78->jg f i=(feedL o i).2:=λi t y=>k.sim.may t y;have ap:jg f 2=jg f 3:=by rw[u 2 O O,u 3 O O];exact anG o k.sim.o2 k.n23
 have w:(aC (ae s b)=B0->jg f 2=B1\/jg f 3=B1)->(ae s b=34->jg f 4=B1)->ae s b≠10->z=(wrongF s b (jH o):Nat):=λam an H=>by
  have av:=apJ (K:=jH o) j (λi d=>by rw[<-q]at d;have:=(za f 78 i).1 d;omega) (λc=>by
   rw[<-q,za,za];grind) (λc=>by rw[<-q,za];grind) H
  rw[v];unfold wrongF yL;grind
 cases d:(rdI s b).ok with
 |true=>
  obtain⟨l,g⟩:=F d;rw[k.stop j d l g];unfold rdI at l g d;refine w (λc=>?_) (λc=>?_) (λc=>?_)
  .have E:¬aJ (ae s b)=B0:=λp=>by simp[aJ]at p;simp[aC]at c;omega
   rw[aa E,ab c]at g d;split at d
   .rename_i p;rw[ab p]at g;unfold th at g;grind
   grind
  .rw[c]at g d;rw[aa Z,aa Z,ab rfl]at g d;grind
  .refine l ?_;have e:ae (s.extract b s.size) 0=10:=by rw[eu s b s.size 0 cJ (by have:=j.lt;omega)];exact c
   have r:lH (s.extract b s.size)=7:=by unfold lH;omega
   rw[c,aa Z,aa Z,aa Z,aa O];exact r
 |false=>
  obtain⟨p,rfl,ag,n⟩:=k.step j;have l:¬gD s b=7:=λe=>by have:=Cz s b e;grind
  have B:gD s b=od s b:=by unfold gD;grind
  rw[aa l,B]at n;have A:ae s b≠10:=λc=>by
   have e:ae (s.extract b s.size) 0=10:=by rw[eu s b s.size 0 cJ (by have:=j.lt;omega)];exact c
   have r:lH (s.extract b s.size)=7:=by unfold lH;omega
   unfold rdI at d;rw[c,aa Z,aa Z,aa Z,aa O]at d;cases d
  split at n
  .rename_i m;rw[aa U]at n;rw[<-n,v];show(b:Int)+_=(((rdI s b).a:Nat):Int);obtain⟨L,x⟩:=JF s b j.lt;have G:(s.extract b (rdI s b).a).size=(rdI s b).a-b:=byS;have al:=Ds f (s.extract b (rdI s b).a);have ak:(rdI s b).a-b<=yL f (s.extract b (rdI s b).a):=by
    by_cases t:(rdI s b).a-b=0
    .omega
    unfold yL;refine(ai9 _ _ _).2 (.inr ⟨od s b,?_,?_⟩)
    .rw[za];have af:=Jq s b;unfold pc at m;grind
    .have C:ae (s.extract b (rdI s b).a) 0=ae s b:=eu s b _ 0 x;unfold bnF;rw[aa O,G,C];rcases acB s b with⟨c,e|e⟩|⟨c,e⟩|⟨e,_⟩
     .rw[e,ab (.inr (.inl rfl)),ab (show bnC 2 (ae s b)=B0 from c)];omega
     .rw[e,ab (.inr (.inr (.inl rfl))),ab (show bnC 3 (ae s b)=B0 from c)];omega
     .rw[e,ab (.inr (.inr (.inr rfl))),ab (show bnC 4 (ae s b)=B0 by rw[c];decide)];omega
     .rw[e]at m;cases m
   omega
  .rename_i m;rw[<-n];unfold pc at m;refine w (λc=>?_) (λc=>?_) A
   .rcases acB s b with⟨_,e|e⟩|⟨h,e⟩|⟨_,h,_⟩
    .grind
    .grind
    .rw[h]at c;exact absurd c Z
    grind
   .rcases acB s b with⟨h,_⟩|⟨h,e⟩|⟨_,_,h⟩
    .rw[c]at h;exact absurd h Z
    all_goals grind
section
variable (E : Pe)
inductive Ws (i:Nat):FuncId->Array Value->Nat->Fo->Nat->Prop
 |blk {x:Fo}{j:Nat}:(E.tk i).k=42->i<E.n->CK E i x j->Ws i 94 #[pV E] i x j
 |smp {k:Int}{x:Fo}{j:Nat}:k=1\/k=40->(E.tk i).k=k->i<E.n->CI E 145 #[pV E] i x j->Ws i 94 #[pV E] i x j
 |let0 {ns:List Bz}{k:Nat}:(E.tk i).k=22->i<E.n->CM E (i+1) ns k->1<=k->k<E.n->(E.tk k).k≠47->Ws i 94 #[pV E] i (one (nd 2 (E.tk i) (E.tk (k-1)).t 0 0 z0 ns) .nil) k
 |let1 {ns:List Bz}{k j:Nat}{x:Fo}:(E.tk i).k=22->i<E.n->CM E (i+1) ns k->k<E.n->(E.tk k).k=47->CLx E (k+1) x j->1<=j->j<=E.n->Ws i 94 #[pV E] i (one (nd 2 (E.tk i) (E.tk (j-1)).t 0 0 z0 ns) x) j
 |con {ns:List Bz}{k j:Nat}{x:Fo}:(E.tk i).k=13->i<E.n->CM E (i+1) ns k->k<E.n->(E.tk k).k=47->CX E 0 (k+1) x j->1<=j->j<=E.n->Ws i 94 #[pV E] i (one (nd 3 (E.tk i) (E.tk (j-1)).t 0 0 z0 ns) x) j
 |iff {x:Fo}{j:Nat}:(E.tk i).k=20->i<E.n->CBr E 20 i x j->Ws i 94 #[pV E] i x j
 |whl {x y:Fo}{k j:Nat}:(E.tk i).k=31->i<E.n->CX E 0 (i+1) x k->CK E k y j->1<=j->j<=E.n->Ws i 94 #[pV E] i (one (lj 8 (E.tk i) (E.tk (j-1)).t) (x.app y)) j
 |for_ {x:Fo}{j:Nat}:(E.tk i).k=19->i<E.n->CI E 154 #[pV E,tkV 19 (E.tk i)] (i+1) x j->Ws i 94 #[pV E] i x j
 |leaf {k nk:Int}:(k=11/\nk=11)\/(k=23/\nk=12)->(E.tk i).k=k->i+1<E.n->Ws i 94 #[pV E] i (one (lj nk (E.tk i) (E.tk i).t) .nil) (i+1)
 |ret0:(E.tk i).k=27->i+1<E.n->fC (E.tk (i+1)).k=false->Ws i 94 #[pV E] i (one (lj 13 (E.tk i) (E.tk i).t) .nil) (i+1)
 |ret1 {x:Fo}{j:Nat}:(E.tk i).k=27->i+1<E.n->fC (E.tk (i+1)).k=true->CLx E (i+1) x j->1<=j->j<=E.n->Ws i 94 #[pV E] i (one (lj 13 (E.tk i) (E.tk (j-1)).t) x) j
 |try_ {ns:List Bz}{x y:Fo}{k k1 j:Nat}:(E.tk i).k=30->i<E.n->CK E (i+1) x k->(E.tk k).k=12->k<E.n->CM E (k+1) ns k1->CK E k1 y j->1<=j->j<=E.n->Ws i 94 #[pV E] i (one (nd 14 (E.tk i) (E.tk (j-1)).t 0 0 z0 ns) (x.app y)) j
 |thr {x:Fo}{j:Nat}:(E.tk i).k=28->i<E.n->CX E 0 (i+1) x j->1<=j->j<=E.n->Ws i 94 #[pV E] i (one (lj 15 (E.tk i) (E.tk (j-1)).t) x) j
 |dfr {x:Fo}{j:Nat}:(E.tk i).k=14->i<E.n->CB E (i+1) x j->1<=j->j<=E.n->Ws i 94 #[pV E] i (one (lj 16 (E.tk i) (E.tk (j-1)).t) x) j
 |bno {q:Int}{x y:Fo}{k k1:Nat}:q=20\/q=15->(E.tk i).k=q->i<E.n->CX E 0 (i+1) x k->CK E k y k1->1<=k1->k1<E.n->(E.tk k1).k≠15->(E.tk k1).k≠16->Ws i 153 #[pV E,tkV q (E.tk i)] (i+1) (one (lj 7 (E.tk i) (E.tk (k1-1)).t) (x.app y)) k1
 |belif {q:Int}{x y z:Fo}{k k1 j:Nat}:q=20\/q=15->(E.tk i).k=q->i<E.n->CX E 0 (i+1) x k->CK E k y k1->k1<E.n->(E.tk k1).k=15->CBr E 15 k1 z j->1<=j->j<=E.n->Ws i 153 #[pV E,tkV q (E.tk i)] (i+1) (one (lj 7 (E.tk i) (E.tk (j-1)).t) ((x.app y).app z)) j
 |belse {q:Int}{x y z:Fo}{k k1 j:Nat}:q=20\/q=15->(E.tk i).k=q->i<E.n->CX E 0 (i+1) x k->CK E k y k1->k1<E.n->(E.tk k1).k=16->CK E (k1+1) z j->1<=j->j<=E.n->Ws i 153 #[pV E,tkV q (E.tk i)] (i+1) (one (lj 7 (E.tk i) (E.tk (j-1)).t) ((x.app y).app z)) j
 |lfor {ns:List Bz}{x y:Fo}{k k1 j:Nat}:(E.tk i).k=19->i<E.n->CM E (i+1) ns k->k<E.n->(E.tk k).k=47->CLx E (k+1) x k1->CK E k1 y j->1<=j->j<=E.n->Ws i 154 #[pV E,tkV 19 (E.tk i)] (i+1) (one (nd 9 (E.tk i) (E.tk (j-1)).t 0 0 z0 ns) (x.app y)) j
 |leach {ns:List Bz}{x y:Fo}{k k1 j:Nat}:(E.tk i).k=19->i<E.n->CM E (i+1) ns k->k<E.n->(E.tk k).k=21->CX E 0 (k+1) x k1->CK E k1 y j->1<=j->j<=E.n->Ws i 154 #[pV E,tkV 19 (E.tk i)] (i+1) (one (nd 10 (E.tk i) (E.tk (j-1)).t 0 0 z0 ns) (x.app y)) j
end
def iJ{E:Pe}{j d:Nat}{f:FuncId}{args:Array B4}{X:Fo}(h:Ws E i f args d X j):CI E f args d X j:=by
 cases h
 case' smp h _ _ _=>rcases h with rfl|rfl
 case' leaf h _ _=>rcases h with⟨rfl,rfl⟩|⟨rfl,rfl⟩
 case' bno h _ _ _ _ _ _ _ _=>rcases h with rfl|rfl
 case' belif h _ _ _ _ _ _ _ _ _=>rcases h with rfl|rfl
 case' belse h _ _ _ _ _ _ _ _ _=>rcases h with rfl|rfl
 all_goals
  intro q o p h l;have a:=aj h;have t:=arA;try simp only[dj,Fo.sz_app,Fo.sz]at l
  try have v:=beq_eq_false_iff_ne.2 (by assumption:(E.tk _).k≠15)
  go_in
  repeat' (go_wp2_with (at_builtin;refine Sq.app a (by have:=Sq.ln a;simp only[Fo.sz_app,Fo.sz]at this;(try simp only[Fo.sz]);omega) rfl _ _ rfl rfl rfl rfl ?_;intro u r b a;have m:=Sq.rd a);(first
   |(go_at_call 92;first|refine dm (Sq.kind (by first|exact a|exact Sq.box a|exact Sq.lit2 (Sq.set a)) lG) λb a=>?_|refine dm (Sq.kind (by first|exact a|exact Sq.box a|exact Sq.lit2 (Sq.set a)) rfl) λb a=>?_)
   |(go_at_call 146;refine dm (Sq.take (by first|exact a|exact Sq.set a|exact Sq.box a) lG) λb a=>?_)
   |(go_at_call 93;first|refine dm (Sq.isY (by first|exact a|exact Sq.set a) lG) λb a=>?_|refine dm (Sq.isN (by first|exact a|exact Sq.set a) lG) λb a=>?_)
   |(go_at_call 104;refine eE (ato lG _) ?_)
   |(go_at_call 147;refine dm (Sq.node (by first|exact a|exact Sq.box a)) λb a=>?_)
   |(go_at_call 150;refine(Sq.add (by first|exact a|exact Sq.set a|exact Sq.lit1 (Sq.box a)|exact Sq.lit2 (Sq.set a)|exact Sq.box a) (by first|exact .inl ⟨rfl,rfl⟩|exact .inr (.head _)|exact .inr (.tail _ (.head _))) (by first|exact .inl ⟨rfl,rfl⟩|exact .inr (.head _)) (by have:=Sq.ln a;simp only[Fo.sz_app,Fo.sz]at this;(try simp only[Fo.sz]);omega)).mono ?_;rintro s b ⟨n,rfl,c,a⟩)
   |(refine Sq.cq (by first|exact a|exact Sq.set a|exact Sq.box a|exact Sq.lit2 (Sq.set a)) lG (by have:=Sq.ln a;simp only[Fo.sz_app,Fo.sz]at this;(try simp only[Fo.sz]);omega) ?_;(first|rintro b _ c _ _ ⟨n,rfl,rfl,rfl⟩ a|rintro b _ c w _ ⟨e,g,rfl,rfl⟩ a|(rintro b _ c _ _ ⟨e,g,rfl,rfl,rfl⟩ a;rw[Fo.app_nil,dD]at a))));(try have m:=Sq.rd a))
  all_goals
   go_wp2;go_ret;exact⟨_,_,_,_,rfl,⟨_,rfl,rfl,rfl⟩,Sq.fin a⟩
