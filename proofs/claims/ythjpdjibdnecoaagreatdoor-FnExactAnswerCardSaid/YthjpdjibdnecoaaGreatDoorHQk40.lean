import Derived.Test.YthjpdjibdnecoaaGreatDoorHQk27
import Derived.Test.YthjpdjibdnecoaaGreatDoorHQk28
import Derived.Laws.Cover2
import Derived.Test.YthjpdjibdnecoaaGreatDoorHQk29
set_option linter.all false
set_option maxRecDepth 100000
set_option maxHeartbeats 6400000
open Go.Value renaming int->M,pointer->T,slice->Z,bool->A2,agg->B1,tuple->B2,int->B3
open Go.IntKind renaming u8->N,i64->A6
open Option renaming some->O,none->S
open Go.Obj renaming cells->Q
open Go.World renaming putObj_heap_other->U
open Go renaming World->V,undef->X,Value->A3,KeepsFrom->A5,Calls->A7,TypeId->Bs,grownBy_putObj'->B0
open Go.Proofs.Tryz renaming prog->Y
open Bool renaming false->Ax,true->A4
open Go.RowKit renaming Below->A0,Hid->A8,intOf->A9
open Go.Ending renaming returned->A1
namespace Go.Proofs.YthjpdjibdnecoaaGreatDoor
open Go.RowKit Go.Maps Go.WideMaps
structure RI (W:V) (base mb:Nat):Prop where
 ex:∃(D:DataW A3) (f:Int->A3) (n:Nat),W.ownsMap Y 146 sJ mb n D/\∀a,0<=a->a<=255->D.atKey (.int .u8 a) (.held (.slice S 0 0))= .held (f a)/\gI W base (f a) (jp a)
theorem RM.ri{W:V}{base mb n:Nat}{R:List (Int×List (List Int))}(h:RM W base mb n R)(g:∀a,0<=a->a<=255->yC R a=jp a):RI W base mb:=by
 obtain⟨D,d,e,f,_⟩:=h.ex;exact⟨D,d,n,e,fun a b c=>by rw[<-g a b c];exact f a b c⟩
theorem RI.same{W b:V}{base mb:Nat}(h:RI W base mb)(o:∀a c,W.heap[mb]?=O (.map a c)->b.heap[mb]?=O (.map a c))(p:∀(g:Nat) (cs:Array A3) (fr:Nat×Nat),W.heap[g]?=O (Q cs 204 fr)->b.heap[g]?=O (Q cs 204 fr)):RI b base mb:=by
 obtain⟨D,n,q,⟨a,c,l,m⟩,i⟩:=h.ex;refine⟨D,n,q,⟨a,c,o _ _ l,m⟩,fun d e f=>⟨(i d e f).1,?_⟩⟩;have:=(i d e f).2;refine⟨this.1,?_⟩;rcases this.2 with h|⟨g,j,k,r,s,t,u⟩
 ·exact .inl h
 ·exact .inr ⟨g,j,k,r,s,p _ _ _ t,u⟩
theorem RI.below{W b:V}{base mb:Nat}(h:RI W base mb)(c:A0 W.heap.size W b):RI b base mb:=
 h.same (fun f d a=>(c.block _ (aG a)).trans a) (fun i e g a=>(c.block _ (aG a)).trans a)
theorem RI.gp{W c:V}{base mb d:Nat}{cs:Array A3}{fr:Nat×Nat}(h:RI W base mb)(e:W.heap[d]?=O (Q cs 144 fr))(f:Gp d W c):RI c base mb:=
 h.same (fun i g a=>(f.block _ (aG a) (by rintro rfl;rw[e]at a;cases a) (fun cs fr b=>by rw[a]at b;cases b)).trans a)
  (fun j cs fr a=>(f.block _ (aG a) (by rintro rfl;rw[e]at a;cases a) (fun cs fr b=>by rw[a]at b;cases b)).trans a)
theorem IB{a:Int}(c:0<=a)(d:a<=255):∀R,((List.range 256).all fun a=>decide (yC R (a:Int)=jp (a:Int)))=A4->yC R a=jp a:=by
 intro R b;have:=List.all_eq_true.1 b a.toNat (by rw[iF];omega);rw[show((a.toNat:Nat):Int)=a by omega]at this;exact aC this
theorem FJ(w:V)(h:Bs)(fr:Nat×Nat)(a:w.heap[4]?=O (Q Hx h fr)):
  A7 Y 68 #[] w fun e i=>e= A1 (.map (O w.heap.size))/\RI i w.heap.size w.heap.size/\A0 w.heap.size w i:=by
 have g:4<w.heap.size:=aG a;have s:∀w:V,(Instr.makeMap 138 (O (M N 34))).run Y w= .ok (.map (O w.heap.size)) (w.alloc (.map #[] 0)):=fun w=>by kernel_rfl
 have j:RM (w.alloc (.map #[] 0)) w.heap.size w.heap.size 0 []:=⟨⟨.map [],fun _=> Z S 0 0,World.ownsMap_made _ _ _ _,fun b _ _=>⟨rfl,⟨rfl,.inl ⟨rfl,rfl⟩⟩⟩,fun b r _ _ _ _ _=> .inl rfl⟩,ae _⟩;have c:A0 w.heap.size w (w.alloc (.map #[] 0)):=(ag _ _).alloc (ae _) _;have n:=aw a;clear a;go_in;go_wp2_with (first
  |(go_at_call 120;refine(Hz _ w.heap.size w.heap.size 0 [] j (by omega)).mono ?_;rintro e t ⟨rfl,k,d⟩)
  |(go_at_call 121;refine(Hw _ w.heap.size w.heap.size _ _ k (by omega)).mono ?_;rintro e u ⟨rfl,l,f⟩)
  |(go_at_call 122;refine(Hy _ w.heap.size w.heap.size _ _ l (by omega) h fr ((((c.trans d).trans f).block _ g).trans n.out) g).mono ?_;rintro e v ⟨rfl,m,q⟩))
 go_ret;exact⟨rfl,m.ri (fun b o p=>IB o p _ ad2),((c.trans d).trans f).trans q⟩
theorem FL(w:V)(o:Bs)(fr:Nat×Nat)(l:w.heap[4]?=O (Q Hx o fr)):
  A7 Y 36 #[] w fun e d=>∃k,e= A1 (T (O ⟨k,0,S⟩))/\Db d w.heap.size k (.map (O w.heap.size)) [100,6]/\RI d w.heap.size w.heap.size/\A0 w.heap.size w d:=by
 have n:=FJ w o fr l;clear l;go_in;go_wp2_with fail;refine n.mono ?_;rintro e a ⟨rfl,h,c⟩;have m:=c.size;have f:Db (a.alloc (Q #[.map (O w.heap.size),Z S 0 0] 144 (0,0))) w.heap.size a.heap.size (.map (O w.heap.size)) []:=⟨⟨Z S 0 0,aj a _,⟨rfl,.inl ⟨rfl,rfl⟩⟩⟩,m⟩;have j:=h.below ((ag a.heap.size a).alloc (ae _) (Q #[.map (O w.heap.size),Z S 0 0] 144 (0,0)));have b:=c.alloc m (Q #[.map (O w.heap.size),Z S 0 0] 144 (0,0));have i:=gK j b;clear n h c j b;go_wp2_with fail;refine(yF _ w.heap.size a.heap.size (.map (O w.heap.size)) [] 6 f (by decide)).mono ?_;rintro e y ⟨rfl,g,q,b⟩;go_wp2_with fail;refine(yF _ w.heap.size a.heap.size (.map (O w.heap.size)) [6] 100 g (by decide)).mono ?_;rintro e z ⟨rfl,p,r,u⟩;go_wp2_with fail;go_ret;obtain⟨v,s,_⟩:=f.ex;obtain⟨x,t,_⟩:=g.ex;exact⟨_,rfl,p,(i.out.1.gp s q).gp t r,(i.out.2.trans b).trans u⟩
structure GB (W:V) (base gb mb:Nat):Prop where
 c:W.cell? ⟨gb,0,S⟩=O (.map (O mb))
 r:RI W base mb
theorem GB.below{W a:V}{base b mb:Nat}(h:GB W base b mb)(d:A0 W.heap.size W a):GB a base b mb:=⟨ai d h.c,h.r.below d⟩
def dp(a:Int):Nat:=if a<100 then 0 else if a=100 then 3 else if a=102 then 2 else if a=110\/a=111 then 4 else if a=114 then 2 else if a=117 then 3 else if a=118 then 2 else if a=122 then 5 else if a=124 then 4 else 1
def hdN(f:Nat)(t:Int)(r:List Int):Bool:=zo f (r.getD 0 0) t
def yL(b:List (List Int))(d:Nat):Bool:=decide (b.length<=30)&&b.all fun a=>decide (a.length<=6)&&a.all (fun c=>decide (1<=c/\c<=133))&&decide (dp (a.getD 0 0)+1<=d)
theorem IC:((List.range 256).all fun a=>yL (jp (a:Int)) (dp (a:Int)))=A4:=by decide+kernel
theorem Bg{a:Int}(b:0<=a)(c:a<=255):yL (jp a) (dp a)=A4:=by
 have:=List.all_eq_true.1 IC a.toNat (by rw[iF];omega);rw[show((a.toNat:Nat):Int)=a by omega]at this;exact this
theorem aie{t:Int}(a:1<=t)(f:Nat)(r:List Int):hdN (f+1) t r=(match r with|[]=>Ax|h::_=>zo (f+1) h t):=by
 cases r with
 |nil=>
  show zo (f+1) 0 t=Ax;rw[zo,ab (by decide)];exact aB (by omega)
 |cons h b=>rfl
theorem aau{r:List Int}(h:r.length<=6):rc r=[M N (r.getD 0 0),M N (r.getD 1 0),M N (r.getD 2 0),M N (r.getD 3 0),M N (r.getD 4 0),M N (r.getD 5 0)]:=by
 match r,h with
 |[],_=>rfl
 |[_],_=>rfl
 |[_,_],_=>rfl
 |[_,_,_],_=>rfl
 |[_,_,_,_],_=>rfl
 |[_,_,_,_,_],_=>rfl
 |[_,_,_,_,_,_],_=>rfl
 |_::_::_::_::_::_::_::_,h=>simp at h
theorem gI.cell{W:V}{base g c n:Nat}{a:List (List Int)}(h:gI W base (Z (O ⟨g,0,S⟩) n c) a)(f:∀r∈a,r.length<=6){k:Nat}{r:List Int}(b:a[k]?=O r){i:Nat}(u:i<6):
  W.cell? ⟨g,k*6+i,S⟩=O (M N (r.getD i 0)):=by
 have v:k<a.length:=(List.getElem?_eq_some_iff.1 b).1;have l:n=a.length:=by
  rcases h.2 with⟨h,_⟩|⟨t,q,s,h,_⟩
  ·cases h
  ·cases h;rfl
 subst l;rw[World.ownsRow.cellAt h (k*6+i) (by omega)];have p:∀(a:List (List Int)),(∀r∈a,r.length<=6)->∀k r,a[k]?=O r->(B5 a)[k*6+i]?=O (M N (r.getD i 0)):=by
  intro a
  induction a with
  |nil=>intro _ k r h;simp at h
  |cons d a o=>
   intro h k r e;have m:=h d (by simp);rw[show B5 (d::a)=rc d++B5 a from rfl];have j:(rc d).length=6:=by simp[rc];omega
   cases k with
   |zero=>
    simp at e;subst e;rw[ie (by omega),aau m];rcases(show i=0\/i=1\/i=2\/i=3\/i=4\/i=5 by omega) with rfl|rfl|rfl|rfl|rfl|rfl<;>rfl
   |succ k=>
    rw[fJ (by omega),j,show(k+1)*6+i-6=k*6+i by omega];exact o (fun r b=>h r (by simp[b])) k r (by simpa using e)
 exact p a f k r b
def ab4(W:V)(b:Nat)(x0 a c d e f:Int):V:=((((((W.setCell ⟨b,0,S⟩ (M N x0)).setCell ⟨b,1,S⟩ (M N a)).setCell ⟨b,2,S⟩ (M N c)).setCell ⟨b,3,S⟩ (M N d)).setCell ⟨b,4,S⟩ (M N e)).setCell ⟨b,5,S⟩ (M N f))
theorem ID{b:Nat}{W:V}{t:Bs}{r l k j g f:Int}(h:W.heap[b]?=O (Q #[M N r,M N l,M N k,M N j,M N g,M N f] t (0,0)))(x0 a c d e i:Int):(ab4 W b x0 a c d e i).heap[b]?=O (Q #[M N x0,M N a,M N c,M N d,M N e,M N i] t (0,0)):=by
 unfold ab4;have s0:(W.setCell ⟨b,0,S⟩ (M N x0)).heap[b]?=O (Q #[M N x0,M N l,M N k,M N j,M N g,M N f] t (0,0)):=bi _ b 0 _ _ _ h;have m:((W.setCell ⟨b,0,S⟩ (M N x0)).setCell ⟨b,1,S⟩ (M N a)).heap[b]?=O (Q #[M N x0,M N a,M N k,M N j,M N g,M N f] t (0,0)):=bi _ b 1 _ _ _ s0;have n:(((W.setCell ⟨b,0,S⟩ (M N x0)).setCell ⟨b,1,S⟩ (M N a)).setCell ⟨b,2,S⟩ (M N c)).heap[b]?=O (Q #[M N x0,M N a,M N c,M N j,M N g,M N f] t (0,0)):=bi _ b 2 _ _ _ m;have o:((((W.setCell ⟨b,0,S⟩ (M N x0)).setCell ⟨b,1,S⟩ (M N a)).setCell ⟨b,2,S⟩ (M N c)).setCell ⟨b,3,S⟩ (M N d)).heap[b]?=O (Q #[M N x0,M N a,M N c,M N d,M N g,M N f] t (0,0)):=bi _ b 3 _ _ _ n;have p:(((((W.setCell ⟨b,0,S⟩ (M N x0)).setCell ⟨b,1,S⟩ (M N a)).setCell ⟨b,2,S⟩ (M N c)).setCell ⟨b,3,S⟩ (M N d)).setCell ⟨b,4,S⟩ (M N e)).heap[b]?=O (Q #[M N x0,M N a,M N c,M N d,M N e,M N f] t (0,0)):=bi _ b 4 _ _ _ o;have q:((((((W.setCell ⟨b,0,S⟩ (M N x0)).setCell ⟨b,1,S⟩ (M N a)).setCell ⟨b,2,S⟩ (M N c)).setCell ⟨b,3,S⟩ (M N d)).setCell ⟨b,4,S⟩ (M N e)).setCell ⟨b,5,S⟩ (M N i)).heap[b]?=O (Q #[M N x0,M N a,M N c,M N d,M N e,M N i] t (0,0)):=bi _ b 5 _ _ _ p;exact q
theorem Co{w W:V}{base b:Nat}(h:A0 base w W)(a:base<=b)(x0 c d e f g:Int):A0 base w (ab4 W b x0 c d e f g):=by
 unfold ab4
 iterate 6 refine eH ?_ a _
 exact h
theorem aav{fn:Func}{p u:Tmp}(h:fn.results=#[.cell p 204,.tmp u])(tmps:Array A3)(w:V)(g:Nat)(x0 a c d e f:Int)(b:Bool)(j:tmps.getD p X= .pointer (O ⟨g,0,S⟩))(k:tmps.getD u X= .bool b)
  (i:w.heap[g]?=O (.cells #[.int .u8 x0,.int .u8 a,.int .u8 c,.int .u8 d,.int .u8 e,.int .u8 f] 204 (0,0))):(results fn tmps).run Y w= .ok (.tuple #[.agg #[.int .u8 x0,.int .u8 a,.int .u8 c,.int .u8 d,.int .u8 e,.int .u8 f],.bool b]) w:=by
 rw[results_cell_tmp h,j];simp only[asAddr,Sem.run_pure,At];rw[AD w g 204 204 _ _ _ i Tryz.underlying204 rfl (by kernel_rfl),At,k]
def aaw(n:Nat):Prop:=∀(c:V)(e d g:Nat)(a b:Int),GB c e d g->0<=a->a<=133->dp a<=n->1<=b->b<=78->
 A7 Y 127 #[T (O ⟨d,0,S⟩),M N a,M N b] c fun f h=>f= A1 (A2 (zo (n+1) a b))/\A0 c.heap.size c h
def rwN(f:Nat)(a:List (List Int))(t:Int):List Int:=(a.find? (hdN f t)).getD []
structure Cp (f:Nat) (t:Int) (L:List (List Int)) (k:Nat) (r:List Int) (b:Bool):Prop where
 fd:rwN f (L.drop k) t=r
 an:(L.drop k).any (hdN f t)=b
theorem Cq(n:Nat)(cc:aaw n)(w:V)(base ap mb:Nat)(a t:Int)(J:GB w base ap mb)(al:0<=a)(c8:a<=133)(dn:dp a<=n+1)(ct:1<=t)(cw:t<=78)(A:List Int)(y:Bool)(bo:Cp (n+1) t (jp a) 0 A y):
  A7 Y 133 #[T (O ⟨ap,0,S⟩),M N a,M N t] w fun e cx=>e= A1 (B2 #[B1 (rc A).toArray,A2 y])/\A0 w.heap.size w cx:=by
 obtain⟨D,dk,d1,a2,bk⟩:=J.r.ex;obtain⟨a4,f⟩:=bk a al (by omega);have s:=Bg al (show a<=255 by omega);generalize jp a=g at *;unfold yL at s;rw[be,qL]at s;have cb:g.length<=30:=aC s.1;have u:∀b∈g,b.length<=6:=fun b c=>by have:=s.2 b c;simp only[be]at this;exact aC this.1.1
 have ch:∀b∈g,dp (b.getD 0 0)<=n:=fun b c=>by have:=s.2 b c;simp only[be]at this;have:=aC this.2;omega
 have ck:∀b∈g,0<=b.getD 0 0/\b.getD 0 0<=133:=fun b c=>by
  have:=s.2 b c;simp only[be,qL]at this;cases b with
  |nil=>simp
  |cons c2 b=>have:=aC (this.1.2 c2 (by simp));simp;omega
 obtain⟨H,a5⟩:=ay g.length;have L:=f;unfold gI at L;rw[a5]at L cb;obtain⟨b3,df,bA⟩:=bz L;rw[bA]at a4 f;have bh:=J.c;have cg:=a2.lt;have ce:=ai ((ag w.heap.size w).alloc (ae _) (Q #[M N 0,M N 0,M N 0,M N 0,M N 0,M N 0] 204 (0,0))) bh;have x:=Gu J f a5 bo;clear L f bA s bk J a5 bo;go_in;go_wp2_with (at_lookup;refine qe rfl _ _ rfl rfl a2 ?blk a al (by omega) rfl a4 ?_)
 case blk=>exact bm _ _ _ cg
 have bD:(w.alloc (Q #[M N 0,M N 0,M N 0,M N 0,M N 0,M N 0] 204 (0,0))).heap[w.heap.size]?=O (Q #[M N 0,M N 0,M N 0,M N 0,M N 0,M N 0] 204 (0,0)):=aj w _;have bl:=(ag w.heap.size w).alloc (ae _) (Q #[M N 0,M N 0,M N 0,M N 0,M N 0,M N 0] 204 (0,0));clear a4 bh ce a2;go_loopw [17] (fun i wr=>∃d:Nat,d<=H/\i= M A6 d/\Cp (n+1) t g d A y/\A0 w.heap.size w wr/\wr.heap[w.heap.size]?=O (Q #[M N 0,M N 0,M N 0,M N 0,M N 0,M N 0] 204 (0,0))) (fun i _=>H-(A9 i).toNat)
 case atStart=>exact⟨0,by omega,rfl,x.out.2.2.2,bl,bD⟩
 case round=>
  clear bl bD;obtain⟨d,dq,rfl,j,C,v⟩:=hrel;by_cases cf:d<H
  ·obtain⟨b,c⟩:∃b,g[d]?=O b:=⟨_,bJ (by rw[x.out.2.2.1];exact cf)⟩;have K:=cJ c;have f:=x.out.2.1.keep C;obtain⟨ao,rfl⟩:∃ao,b3=O ⟨ao,0,S⟩:=by
    rcases bp f with⟨ar,_⟩|⟨ao,c9,ar⟩
    ·rw[x.out.2.2.1]at ar;omega
    ·cases ar;exact⟨_,rfl⟩
   have b1:=f.cell u c (i:=0) (by decide);have cm:=f.cell u c (i:=1) (by decide);have cn:=f.cell u c (i:=2) (by decide);have cq:=f.cell u c (i:=3) (by decide);have cr:=f.cell u c (i:=4) (by decide);have cs:=f.cell u c (i:=5) (by decide);obtain⟨h,ad⟩:=ay (b.getD 0 0);obtain⟨l,a7⟩:=ay (b.getD 1 0);obtain⟨m,a8⟩:=ay (b.getD 2 0);obtain⟨o,a9⟩:=ay (b.getD 3 0);obtain⟨p,bb⟩:=ay (b.getD 4 0);obtain⟨q,bd⟩:=ay (b.getD 5 0);rw[ad]at b1;rw[a7]at cm;rw[a8]at cn;rw[a9]at cq;rw[bb]at cr;rw[bd]at cs;rw[ua]at b1;obtain⟨bs,bt⟩:=ck b K;have bw:=ch b K;rw[ad]at bs bt bw;have dz:(d:Int)<(H:Int):=by omega
   have ds:(0:Int)<=(d:Int):=by omega
   have ak:=ama c K ad a7 a8 a9 bb bd;clear c K ad a7 a8 a9 bb bd f;have a3:=C.alloc C.size (Q #[M N h,M N l,M N m,M N o,M N p,M N q] 204 (0,0));have bE:=cc _ base ap mb h t (x.out.1.below a3) bs bt bw ct cw;go_wp2_with fail;refine bE.mono ?_;rintro e af ⟨rfl,I⟩;have d0:=C.size;have cl:=aG v;have br:af.heap[wr.heap.size]?=O (Q #[M N h,M N l,M N m,M N o,M N p,M N q] 204 (0,0)):=(I.block _ (by simp)).trans (aj wr _);have G:af.heap[w.heap.size]?=O (Q #[M N 0,M N 0,M N 0,M N 0,M N 0,M N 0] 204 (0,0)):=((I.block _ (by simp;omega)).trans (bm _ _ _ cl)).trans v;have bn:A0 w.heap.size w af:=a3.trans (I.mono (by simp;omega));have z:g.drop d=b::g.drop (d+1):=by
    obtain⟨b4,am⟩:=List.getElem?_eq_some_iff.1 ak.out.1;rw[je b4,am]
   have k:hdN (n+1) t b=zo (n+1) h t:=by unfold hdN;rw[ak.out.2.2.1]
   have a6:rc b=[M N h,M N l,M N m,M N o,M N p,M N q]:=by
    obtain⟨_,am,b5,b6,b7,b8,b9,ca⟩:=ak.out;rw[aau (u b am),b5,b6,b7,b8,b9,ca]
   clear bE I a3;cases hbv:zo (n+1) h t with
   |true=>
    have r:A8 (A=b/\y=A4):=by
     rw[hbv]at k;refine⟨?_,?_⟩
     ·rw[<-j.fd,z];unfold rwN;rw[List.find?_cons_of_pos k];rfl
     ·rw[<-j.an,z,List.any_cons,k];rfl
    have F:=ID G h l m o p q;have E:=Co bn (ae _) h l m o p q;obtain⟨d2,d3,d4,d5,d6,d7⟩:=eJ br;obtain⟨z0,c3,c4,c5,c6,c7⟩:=eJ G;obtain⟨cy,cz,cB,cF,cI,c1⟩:=mu G;have B:=gK F E;clear F E br G v;have b2:A8 (hdN (n+1) t b=A4/\rc b=[M N h,M N l,M N m,M N o,M N p,M N q]):=⟨k.trans hbv,a6⟩;clear k z a6 hbv j;go_wp2_with fail;try rw[xb]
    change bodyPost _ _ _ _ _ (ab4 af w.heap.size h l m o p q)
    refine ba (aav rfl _ _ w.heap.size h l m o p q A4 rfl rfl B.out.1) rfl ⟨?_,B.out.2⟩;rw[r.out.1,r.out.2,b2.out.2]
   |false=>
    have r:Cp (n+1) t g (d+1) A y:=by
     rw[hbv]at k;refine⟨?_,?_⟩
     ·rw[<-j.fd,z];unfold rwN;rw[List.find?_cons_of_neg (by rw[k];simp)]
     ·rw[<-j.an,z,List.any_cons,k];rfl
    clear k z a6 hbv j;go_wp2_with fail;go_roundw
    case rel=>exact⟨d+1,by omega,by go_num,r,bn,G⟩
    case measure=>simp[A9];omega
  ·obtain rfl:d=H:=by omega
   have r:A8 (A=[]/\y=Ax):=by
    have bx:g.drop d=[]:=ju (by rw[x.out.2.2.1];exact ae _);refine⟨?_,?_⟩
    ·rw[<-j.fd,bx];rfl
    ·rw[<-j.an,bx];rfl
   have F:=ID v 0 0 0 0 0 0;have E:=Co C (ae _) 0 0 0 0 0 0;obtain⟨z0,c3,c4,c5,c6,c7⟩:=eJ v;obtain⟨cy,cz,cB,cF,cI,c1⟩:=mu v;have B:=gK F E;clear F E v j;go_wp2_with fail;try rw[xb]
   change bodyPost _ _ _ _ _ (ab4 wr w.heap.size 0 0 0 0 0 0)
   refine ba (aav rfl _ _ w.heap.size 0 0 0 0 0 0 Ax rfl rfl B.out.1) rfl ⟨?_,B.out.2⟩;rw[r.out.1,r.out.2];rfl
theorem ajB{t:Int}(b:1<=t)(f:Nat)(a:List (List Int)):a.any (hdN (f+1) t)=a.any (fun r=>match r with|[]=>Ax|h::_=>zo (f+1) h t):=by
 congr 1
 funext r
 exact aie b f r
theorem zw(n:Nat)(p:n=0\/∃m,n=m+1/\aaw m):aaw n:=by
 intro E v y B a c z k u G t C;by_cases g:a<100
 ·have e:zo (n+1) a c=decide (a=c):=by rw[zo,ab g]
  rw[e];have w:(a==c)=decide (a=c):=by rw[AC];simp
  obtain⟨F,o⟩:=ay (decide (a=c));rw[o]at w⊢;have x:(decide (a<100))=A4:=bC g;clear e o;go_in;go_wp2_with fail;go_ret;exact⟨rfl,ag _ _⟩
 ·have H:1<=dp a:=by unfold dp;rw[aa g];repeat (first|(split;· omega)|omega)
  obtain⟨m,rfl,q⟩:=p.resolve_left (by omega);obtain⟨b,h,i⟩:∃b h,Cp (m+1) c (jp a) 0 b h:=⟨_,_,⟨rfl,rfl⟩⟩;have e:zo (m+1+1) a c=h:=by
   rw[zo,aa g];refine(ajB t m (jp a)).symm.trans ?_;rw[<-i.an];rfl
  rw[e];have d:=Cq m q E v y B a c z k u (by omega) t C b h i;have r:b.length<=6:=by
   have j:=Bg k (show a<=255 by omega);unfold yL at j;rw[be,qL]at j;have f:=i.fd;unfold rwN at f;cases hf:List.find? (hdN (m+1) c) (List.drop 0 (jp a)) with
   |none=>rw[hf]at f;rw[<-f];exact aL _
   |some s=>
    rw[hf]at f;have A:s∈jp a:=Lm hf;have:=j.2 s A;simp only[be]at this;rw[<-f];exact aC this.1.1
  rw[aau r]at d;have x:(decide (a<100))=Ax:=aB g;generalize b.getD 0 0=J at d;generalize b.getD 1 0=K at d;generalize b.getD 2 0=L at d;generalize b.getD 3 0=ad at d;generalize b.getD 4 0=af at d;generalize b.getD 5 0=ak at d;clear i e r q p;go_in;go_wp2_with (go_at_call 133;refine d.mono ?_;rintro e I ⟨rfl,l⟩);go_ret;exact⟨rfl,l.alloc l.size _⟩
theorem wn:∀n,aaw n
 |0=>zw 0 (.inl rfl)
 |n+1=>zw (n+1) (.inr ⟨n,rfl,wn n⟩)
attribute [local go_sem] kF
theorem ajC(w:V):(Op.equalIn 10000 204 (B1 #[M N 0,M N 0,M N 0,M N 0,M N 0,M N 0]) (B1 #[M N 0,M N 0,M N 0,M N 0,M N 0,M N 0])).run Y w= .ok A4 w:=by kernel_rfl
theorem ajD{x0:Int}(h:x0≠0)(a b c d e:Int)(w:V):(Op.equalIn 10000 204 (.agg #[.int .u8 0,.int .u8 0,.int .u8 0,.int .u8 0,.int .u8 0,.int .u8 0]) (.agg #[.int .u8 x0,.int .u8 a,.int .u8 b,.int .u8 c,.int .u8 d,.int .u8 e])).run Y w= .ok Ax w:=by
 have i:=Tryz.underlying146;have f:=Tryz.isAgg146;have j:=Tryz.sizeOf146;have g:(0==x0)=Ax:=by rw[aK];omega
 rw[show(10000:Nat)=9999+1 from rfl,Op.equalIn];simp only[rh,AG Tryz.underlying204,At];simp only[Std.Legacy.Range.forIn_eq_forIn_range',Std.Legacy.Range.size,AJ,mj,Nat.div_one,List.range'_succ,List.range'_zero,List.forIn_cons,List.forIn_nil];go_simp
theorem IE{B:Nat}{a w:V}(h:A0 B a w)(n:Nat):A0 B a (w.drewN n):=⟨h.os,h.tape,h.output,h.size,h.block⟩
structure F3 (L:List (List Int)) (k:Nat) (b:Bool):Prop where
 out:(L.drop k).contains []=b
theorem ab5(w:V)(base:Nat)(v:A3)(b:List (List Int))(f:Bool)(c:gI w base v b)(af:b.length<=30)(g:∀r∈b,r.length<=6)(am:∀r∈b,r≠[]->1<=r.getD 0 0)(y:F3 b 0 f):
  A7 Y 211 #[v,B1 #[M N 0,M N 0,M N 0,M N 0,M N 0,M N 0]] w fun e an=>(∃z,e= A1 (M A6 z)/\decide (0<=z)=f)/\A0 w.heap.size w an:=by
 obtain⟨l,s⟩:=ay b.length;have o:=c;unfold gI at o;rw[s]at o af;obtain⟨I,a3,rfl⟩:=bz o;have k:=iD c s y;clear c o s y;go_in;go_wp2_with fail;have A:(w.alloc (Q #[M N 0,M N 0,M N 0,M N 0,M N 0,M N 0] 204 (0,0))).heap[w.heap.size]?=O (Q #[M N 0,M N 0,M N 0,M N 0,M N 0,M N 0] 204 (0,0)):=aj w _;have x:=(ag w.heap.size w).alloc (ae _) (Q #[M N 0,M N 0,M N 0,M N 0,M N 0,M N 0] 204 (0,0));go_loopw [8] (fun i wr=>∃a:Nat,a<=l/\i= M A6 a/\F3 b a f/\A0 w.heap.size w wr/\wr.heap[w.heap.size]?=O (Q #[M N 0,M N 0,M N 0,M N 0,M N 0,M N 0] 204 (0,0))) (fun i _=>l-(A9 i).toNat)
 case atStart=>exact⟨0,by omega,rfl,k.out.2.2,x,A⟩
 case round=>
  clear x A;obtain⟨a,a4,rfl,h,m,B⟩:=hrel;by_cases ak:a<l
  ·obtain⟨r,d⟩:∃r,b[a]?=O r:=⟨_,bJ (by rw[k.out.2.1];exact ak)⟩;have t:=cJ d;have c:=k.out.1.keep m;obtain⟨p,rfl⟩:∃p,I=O ⟨p,0,S⟩:=by
    rcases bp c with⟨q,_⟩|⟨p,a2,q⟩
    ·rw[k.out.2.1]at q;omega
    ·cases q;exact⟨_,rfl⟩
   have u:=c.cell g d (i:=0) (by decide);have C:=c.cell g d (i:=1) (by decide);have E:=c.cell g d (i:=2) (by decide);have F:=c.cell g d (i:=3) (by decide);have G:=c.cell g d (i:=4) (by decide);have H:=c.cell g d (i:=5) (by decide);rw[ua]at u;have al:r=[]\/1<=r.getD 0 0:=(Decidable.em (r=[])).imp_right (am r t);have n:b.drop a=r::b.drop (a+1):=by
    obtain⟨J,K⟩:=List.getElem?_eq_some_iff.1 d;rw[je J,K]
   obtain⟨a6,a7,a8,a9,bb,bd⟩:=eJ B;have a5:(a:Int)<(l:Int):=by omega
   have ad:(0:Int)<=(a:Int):=by omega
   rcases al with rfl|hpos
   ·have j:A8 (f=A4):=by
     show f=A4;rw[<-h.out,n];simp
    simp only[List.getD_nil]at u C E F G H;have L:=fun w=>ajC w;clear n h d t;go_wp2_with fail;go_quiet (fail)
    go_wp2_with fail;try rw[xb]
    go_ret;exact⟨⟨_,rfl,by rw[j.out];exact bC ad⟩,IE m nq⟩
   ·have j:F3 b (a+1) f:=by
     refine⟨?_⟩;rw[<-h.out,n,List.contains_cons];have:([]==r)=Ax:=by
      rw[aK];rintro rfl;simp at hpos
     rw[this,Ew]
    generalize r.getD 0 0=x0 at u hpos;generalize r.getD 1 0=ao at C;generalize r.getD 2 0=ap at E;generalize r.getD 3 0=ar at F;generalize r.getD 4 0=a0 at G;generalize r.getD 5 0=a1 at H;have L:=fun w=>ajD (x0:=x0) (by omega) ao ap ar a0 a1 w;clear n h d t;go_wp2_with fail;go_quiet (fail)
    go_wp2_with fail;go_roundw
    case rel=>exact⟨a+1,by omega,by go_num,j,IE m nq,B⟩
    case measure=>simp[A9];omega
  ·obtain rfl:a=l:=by omega
   have j:A8 (f=Ax):=by
    show f=Ax;rw[<-h.out,ju (by rw[k.out.2.1];exact ae _)];rfl
   clear h;go_wp2_with fail;go_ret;exact⟨⟨-1,rfl,by rw[j.out];rfl⟩,m⟩
theorem F4(w:V)(base:Nat)(v:A3)(a:List (List Int))(b:Bool)(f:gI w base v a)(i:a.length<=30)(g:∀r∈a,r.length<=6)(j:∀r∈a,r≠[]->1<=r.getD 0 0)(d:F3 a 0 b):
  A7 Y 171 #[v,B1 #[M N 0,M N 0,M N 0,M N 0,M N 0,M N 0]] w fun e m=>e= A1 (A2 b)/\A0 w.heap.size w m:=by
 have c:=(ag w.heap.size w).alloc (ae _) (Q #[M N 0,M N 0,M N 0,M N 0,M N 0,M N 0] 204 (0,0));have l:=ab5 _ base v a b (f.keep c) i g j d;clear f d;go_in;go_wp2_with (go_at_call 211;refine l.mono ?_;rintro e n ⟨⟨o,rfl,k⟩,h⟩);go_ret;refine⟨?_,c.trans (h.mono (by simp))⟩;rw[<-k];rfl
theorem ahy(w:V)(base k mb:Nat)(a:Int)(h:GB w base k mb)(g:0<=a)(A:a<=133):
  A7 Y 128 #[T (O ⟨k,0,S⟩),M N a] w fun e y=>e= A1 (A2 (Hu a))/\A0 w.heap.size w y:=by
 obtain⟨D,o,C,p,l⟩:=h.r.ex;obtain⟨s,m⟩:=l a g (by omega);have d:=Bg g (show a<=255 by omega);unfold Hu;generalize jp a=f at *;unfold yL at d;rw[be,qL]at d;have r:f.length<=30:=aC d.1;have u:∀b∈f,b.length<=6:=fun b j=>by have:=d.2 b j;simp only[be]at this;exact aC this.1.1
 have v:∀b∈f,b≠[]->1<=b.getD 0 0:=fun b j t=>by
  have:=d.2 b j;simp only[be,qL]at this;cases b with
  |nil=>exact absurd rfl t
  |cons z b=>have:=aC (this.1.2 z (by simp));simp;omega
 obtain⟨n,i⟩:=ay (f.contains []);have x:=F4 w base (o a) f n m r u v ⟨i⟩;rw[i];have B:=h.c;clear m d l h i;go_in;go_wp2_with (first
  |(at_lookup;refine qe rfl _ _ rfl rfl p rfl a g (by omega) rfl s ?_)
  |(go_at_call 171;refine x.mono ?_;rintro e E ⟨rfl,q⟩))
 go_ret;exact⟨rfl,q⟩
theorem D5(n l o b cap:Nat)(a:Option Addr)(f:Nat->A3)(K:b<=100000000)(I:b<=cap)(c:Nat->V->Prop)(p:V->Prop)
  (r:∀m W,c m W->W.cell? ⟨o,0,S⟩=O (Z a b cap))
  (z:∀m W,c m W->∀j,j<b->∃i,a=O i/\W.cell? (i.add j)=O (f j))
  (y:∀m W,m<b->c (m+1) W->YieldAt Fence.wide (n-1) Y l #[M A6 (m:Int),f m] W fun e g=>(e= A1 (A2 A4)/\c m g)\/(e= A1 (A2 Ax)/\p g))
  (W:V) (q:c b W):
  CallsIn Fence.wide n Y 170 #[.func (.yield l) #[] #[],T (O ⟨o,0,S⟩)] W fun e g=>(∃v,e= A1 v)/\(c 0 g\/p g):=by
 have G:=r _ _ q;refine callsIn_of_wp Tryz.func170 rfl trivial ?_ rfl;simp only[Tryz.ntmps170,gi,bv,dd,Nat.reduceAdd,Nat.reduceSub,gh,gC,gD,na,de,ej]
 gi_wp2
 gi_loopw [3] (fun k wr=>∃d:Nat,d<=b/\k= M A6 ((d:Int)-1)/\c d wr) (fun k _=>(A9 k+1).toNat)
 case atStart=>exact⟨b,ae _,rfl,q⟩
 case round=>
  obtain⟨d,J,rfl,h⟩:=hrel;have F:=r _ _ h;rcases El d with rfl|hp
  ·gi_wp2
   go_end0
   exact⟨⟨_,rfl⟩,.inl h⟩
  ·obtain⟨m,rfl⟩:∃m,d=m+1:=⟨d-1,by omega⟩;obtain⟨i,rfl,H⟩:=z _ _ h m (by omega);obtain⟨E,tmps,B,C,L,x⟩:=y m wr (by omega) h;have s:((m+1:Nat):Int)-1=(m:Int):=by omega
   rw[s];have ad:(m:Int)<(b:Int):=by omega
   have af:(0:Int)<=(m:Int):=by omega
   gi_wp2
   refine⟨fun t=>by simp[Fence.wide]at t,x.mono ?_⟩;rintro e A (⟨rfl,u⟩|⟨rfl,w⟩)
   ·gi_wp2
    go_roundw
    case rel=>exact⟨m,by omega,by simp,u⟩
    case measure=>simp[A9]
   ·gi_wp2
    refine ba (jg rfl _ _ _) rfl ?_;exact⟨⟨_,rfl⟩,.inr w⟩
theorem vq(a:Option Addr)(b cap:Nat)(w:V):
  A7 Y 126 #[Z a b cap] w fun e c=>e= A1 (.func (.func 170) #[] #[T (O ⟨w.heap.size,0,S⟩)])/\c=w.alloc (Q #[Z a b cap] 140):=by
 refine calls_of_wp Tryz.func126 rfl ?_;simp only[Tryz.ntmps126,gi,bv,dd,Nat.reduceAdd,Nat.reduceSub,gh,gC,gD,na,de,ej];go_wp2;go_ret;exact⟨rfl,rfl⟩
attribute [local go_sem] kF
theorem dg{b:Nat}{W:V}{v:A3}{t:Bs}(h:W.heap[b]?=O (Q #[v] t (0,0))):W.cell? ⟨b,0,S⟩=O v:=by
 rw[aq _ _ _ _ _ _ h];rfl
theorem ya{B:Nat}{W a:V}(h:A0 W.heap.size W a):A5 B W a:=⟨h.size,fun c d _ b _=>(h.block c (Array.getElem?_eq_some_iff.1 b).1).trans b⟩
structure tr (w:V) (gb:Nat) (t:Int) (vs:A3) (r:Bool) (W:V):Prop where
 bl:A0 w.heap.size w W
 b0:W.heap[w.heap.size]?=O (.cells #[.pointer (O ⟨gb,0,S⟩)] 92 (0,0))
 b1:W.heap[w.heap.size+1]?=O (.cells #[.int .i64 t] 3 (0,0))
 b2:W.heap[w.heap.size+2]?=O (.cells #[.bool r] 4 (0,0))
 b3:W.heap[w.heap.size+3]?=O (.cells #[vs] 140 (0,0))
theorem tr.below{w W b:V}{c:Nat}{t:Int}{d:A3}{r:Bool}(h:tr w c t d r W)(a:A0 W.heap.size W b):tr w c t d r b:=
 ⟨h.bl.trans (a.mono h.bl.size),(a.block _ (aG h.b0)).trans h.b0,(a.block _ (aG h.b1)).trans h.b1,(a.block _ (aG h.b2)).trans h.b2,(a.block _ (aG h.b3)).trans h.b3⟩
theorem tr.put{w W:V}{a:Nat}{t:Int}{b:A3}{r:Bool}(h:tr w a t b r W){k:Nat}(d:w.heap.size+3<k)(o:Obj):tr w a t b r (W.putObj k o):=
 ⟨h.bl.grown (B0 W k o) h.bl.size (fun e c=>by cases c;omega),(U (by omega)).trans h.b0,(U (by omega)).trans h.b1,(U (by omega)).trans h.b2,(U (by omega)).trans h.b3⟩
theorem tr.set{w W:V}{a:Nat}{t:Int}{c:A3}{r:Bool}(h:tr w a t c r W)(b:Bool):tr w a t c b (W.setCell ⟨w.heap.size+2,0,S⟩ (A2 b)):=
 ⟨h.bl.setCell (by show w.heap.size<=w.heap.size+2;omega) _,(aD _ _ _ _ (by simp)).trans h.b0,(aD _ _ _ _ (by simp)).trans h.b1,bi _ _ 0 _ _ _ h.b2,(aD _ _ _ _ (by simp)).trans h.b3⟩
theorem IF{fn:Func}{p:Tmp}(h:fn.results=#[.cell p 4])(tmps:Array A3)(w:V)(g:Nat)(b:Bool)(c:tmps.getD p X= T (O ⟨g,0,S⟩))(a:w.heap[g]?=O (Q #[A2 b] 4 (0,0))):(results fn tmps).run Y w= .ok (A2 b) w:=by
 have d:tmps[p]?.getD X= T (O ⟨g,0,S⟩):=by simpa using c
 have e:w.cell? ⟨g,0,S⟩=O (A2 b):=by rw[aq _ _ _ _ _ _ a];rfl
 simp[results,h,d,asAddr];go_simp
structure F5 (st:List Int) (m:Nat) (t:Int) (R:Bool):Prop where
 out:gH (st.drop (st.length-m)) t=R
theorem aif(a:Int):dp a<=8:=by
 unfold dp
 repeat (first|omega|(split;· omega))
theorem yc(g j:Nat):(⟨g,0,S⟩:Addr).add j=⟨g,j,S⟩:=by unfold Addr.add;split<;>simp_all
def Ak(st:List Int)(m:Nat):Int:=st.reverse.getD m 0
theorem aax{st:List Int}{n m:Nat}(c:st.length=n)(b:m<n):st.drop (n-(m+1))=Ak st m::st.drop (n-m):=by
 have a:n-(m+1)<st.length:=by omega
 rw[je a,show n-(m+1)+1=n-m by omega]
 congr 1
 unfold Ak;rw[cp,List.getElem?_reverse (by omega),bJ (by omega),ig]
 congr 1
 omega
theorem ajE{st:List Int}{n m:Nat}(c:st.length=n)(b:m<n):Ak st m∈st:=by
 have a:Ak st m∈st.drop (n-(m+1)):=by rw[aax c b];simp
 exact List.mem_of_mem_drop a
theorem ahz{W:V}{base n c:Nat}{b:Option Addr}{st:List Int}(h:W.ownsRow base 146 1 (Z b n c) n (cSy st))(j:st.length=n){m:Nat}(i:m<n):∃a,b=O a/\W.cell? (a.add m)=O (M N (Ak st m)):=by
 rcases bp h with⟨g,_⟩|⟨f,e,d⟩
 ·omega
 ·cases d;refine⟨_,rfl,?_⟩;rw[yc,h.cellAt m (by omega)];unfold cSy Ak;rw[cA,bJ (by simp;omega),cp,bJ (by simp;omega)];rfl
theorem aeJ(w:V)(base c mb:Nat)(st:List Int)(t:Int)(R:Bool)(a4:Db w base c (.map (O mb)) st)(a6:RI w base mb)(a9:∀a∈st,0<=a/\a<=133)(s:st.length<=100000000)(b8:1<=t)(b9:t<=78)(E:gH st t=R):
  A7 Y 72 #[T (O ⟨c,0,S⟩),M A6 t] w fun e ca=>e= A1 (A2 R)/\A0 w.heap.size w ca:=by
 obtain⟨cr,ak,H⟩:=a4.ex;have a5:GB w base c mb:=⟨by rw[aq _ _ _ _ _ _ ak];rfl,a6⟩;obtain⟨n,a0⟩:=ay st.length;rw[a0]at H s;obtain⟨h,g,rfl⟩:=bz H;have af:w.cell? ⟨c,1,S⟩=O (Z h n g):=by rw[aq _ _ _ _ _ _ ak];rfl
 have bE:n<=g:=by
  rcases H.2 with⟨a3,u⟩|⟨cl,cg,ch,a3,_,_,r,_⟩
  ·rw[u];exact aL _
  ·cases a3;exact r
 have m:=Jm a5 H a0 E a9;have cm:=aG ak;clear a4 a6 a9 H a0 E a5;refine kH (n:=5).1 ?_;refine callsIn_of_wp_marks Tryz.func72 rfl trivial ?_ rfl;simp only[Tryz.ntmps72,gi,bv,dd,Nat.reduceAdd,Nat.reduceSub,gh,gC,gD,na,de,ej];refine wpIn_wide.2 ?_;have bt:=fun (b5 b6 b7:Obj)=>ai (((((ag w.heap.size w).alloc (ae _) b5).alloc (by simp) b6)).alloc (by simp;omega) b7) af;go_wp2_with (go_at_call 126;refine(vq h n g _).mono ?_;rintro e cs ⟨rfl,rfl⟩);rename_i cb a8;have bb:tr w c t (Z h n g) Ax ((((w.alloc (Q #[T (O ⟨c,0,S⟩)] 92)).alloc (Q #[M A6 t] 3)).alloc (Q #[A2 Ax] 4)).alloc (Q #[Z h n g] 140)):=by
  refine⟨((((ag w.heap.size w).alloc (ae _) _).alloc (by simp) _).alloc (by simp;omega) _).alloc (by simp;omega) _,?_,?_,?_,?_⟩
  ·exact(bm _ _ _ (by simp;omega)).trans ((bm _ _ _ (by simp;omega)).trans ((bm _ _ _ (by simp)).trans (aj w _)))
  ·refine(bm _ _ _ (by simp)).trans ((bm _ _ _ (by simp)).trans ?_);have:=aj (w.alloc (Q #[T (O ⟨c,0,S⟩)] 92)) (Q #[M A6 t] 3)
   rwa [aF]at this
  ·refine(bm _ _ _ (by simp)).trans ?_;have:=aj ((w.alloc (Q #[T (O ⟨c,0,S⟩)] 92)).alloc (Q #[M A6 t] 3)) (Q #[A2 Ax] 4)
   rwa [aF,aF]at this
  ·have:=aj (((w.alloc (Q #[T (O ⟨c,0,S⟩)] 92)).alloc (Q #[M A6 t] 3)).alloc (Q #[A2 Ax] 4)) (Q #[Z h n g] 140)
   rwa [aF,aF,aF]at this
 have v:((((w.alloc (Q #[T (O ⟨c,0,S⟩)] 92)).alloc (Q #[M A6 t] 3)).alloc (Q #[A2 Ax] 4)).alloc (Q #[Z h n g] 140)).heap.size=w.heap.size+4:=by simp
 generalize (((w.alloc (Q #[T (O ⟨c,0,S⟩)] 92)).alloc (Q #[M A6 t] 3)).alloc (Q #[A2 Ax] 4)).alloc (Q #[Z h n g] 140)=ce at bb v⊢;clear bt af ak;refine(py (n:=5)).1 ?_;refine uk (P:=Y) (gf:=170) (lb:=#[T (O ⟨w.heap.size+1+1+1,0,S⟩)]) rfl (enters_of Tryz.func170 (by kernel_rfl) rfl)
  (fun f=>#[M A6 (f:Int),M N (Ak st f)]) (fun _=>rfl) n
  (fun f b=>tr w c t (Z h n g) Ax b/\F5 st f t R)
  (fun f C b=>tr w c t (Z h n g) Ax b/\F5 st (f+1) t R/\
   C={tmps:=#[T (O ⟨c,0,S⟩),M A6 t,T (O ⟨w.heap.size,0,S⟩),T (O ⟨w.heap.size+1,0,S⟩),T (O ⟨w.heap.size+1+1,0,S⟩),X,M N (Ak st f),
    T (O ⟨c,0,S⟩),T (O ⟨c,0,S⟩),T (O ⟨c,1,S⟩),T (O ⟨c,1,S⟩),Z h n g,.func (.func 170) #[] #[T (O ⟨w.heap.size+1+1+1,0,S⟩)],M A6 (f:Int),M N (Ak st f),
    X,X,X,X,X,X,X,X,X],defers:=[]})
  (fun b=>tr w c t (Z h n g) R b)
  ?pZ ?pAx ?pX ?h0 ?assign ?body ?seq ?done ?ret
 case pZ=>
  rintro f b bk K ⟨d,j⟩ s;rw[v]at s⊢;exact⟨d.put (by omega) K,j⟩
 case pAx=>
  rintro f C b bk K ⟨d,j,rfl⟩ s;rw[v]at s⊢;exact⟨d.put (by omega) K,j,rfl⟩
 case pX=>
  intro b bk K d s;rw[v]at s⊢;exact d.put (by omega) K
 case h0=>
  intro cf bD cn;exact⟨bb.below bD,⟨by rw[m.out.2.2.1,eB];exact m.out.2.2.2.1⟩⟩
 case assign=>
  rintro J f b cc ar ⟨d,j⟩ bw;have p:=gK d j;clear d j
  gi_wp2
  exact bw _ _ ⟨p.out.1,p.out.2,rfl⟩ (KeepsFrom.refl _ _)
 case body=>
  rintro J f C b ar ⟨d,j,rfl⟩;rw[v];have I:=m.out.2.2.2.2 _ (ajE m.out.2.2.1 ar);have l:=j.out;rw[m.out.2.2.1,aax m.out.2.2.1 ar,gH]at l;have G:zo 9 (Ak st f) t=Ax->Hu (Ak st f)=A4->F5 st f t R:=fun an i=>by
   rw[aa (by rw[an];simp),ab i]at l;exact⟨by rw[m.out.2.2.1];exact l⟩
  generalize Ak st f=x at I l G⊢;have bd:=CallsIn.inRound J (kH (n:=2).2 (wn 8 b base c mb x t (m.out.1.below d.bl) I.1 I.2 (aif x) b8 b9));have a1:=fun (a2:V) (o:A0 w.heap.size w a2)=>CallsIn.inRound J (kH (n:=2).2 (ahy a2 base c mb x (m.out.1.below o) I.1 I.2));have br:=dg d.b0;have af:=dg d.b1;have ck:IntKind.u8.wrap t=t:=by rw[Er];omega
  have p:=aw d;clear d j
  gi_wp2_with (refine⟨trivial,?_⟩;gi_at_call 127;fail)
  refine⟨trivial,bd.mono ?_⟩;rintro e L ⟨rfl,ao⟩;have o:=p.out.below ao;have al:A5 (w.heap.size+4) b L:=ya ao;have y:=dg o.b2;have z:L.frozen? ⟨w.heap.size+2,0,S⟩=Ax:=cC _ _ _ _ _ o.b2;have bs:=dg o.b0;have i:w.heap.size+1+1=w.heap.size+2:=rfl;rw[<-i]at y z;clear bd br af ao i;cases hbv:zo 9 x t with
  |true=>
   rw[hbv,ab rfl]at l;have q:A8 (tr w c t (Z h n g) R (L.setCell ⟨w.heap.size+1+1,0,S⟩ (A2 A4))/\A5 (w.heap.size+4) b (L.setCell ⟨w.heap.size+1+1,0,S⟩ (A2 A4))):=⟨by rw[<-l];exact o.set A4,al.trans ((KeepsOthers.setCell _ _ _).from _)⟩;have F:zo (8+1) x t=A4:=hbv;try rw[F]
   clear l G hbv F a1 o al p
   gi_wp2
   exact⟨q.out.2,q.out.1⟩
  |false=>
   have F:zo (8+1) x t=Ax:=hbv;rw[hbv,aa (by simp)]at l;try rw[F]
   have bh:=a1 L o.bl;have ad:=gK o al;clear F a1 o al p y z
   gi_wp2_with (refine⟨trivial,?_⟩;gi_at_call 128;fail)
   refine⟨trivial,bh.mono ?_⟩;rintro e B ⟨rfl,ap⟩;have r:=ad.out.1.below ap;have am:A5 (w.heap.size+4) b B:=ad.out.2.trans (ya ap);have y:=dg r.b2;have z:B.frozen? ⟨w.heap.size+2,0,S⟩=Ax:=cC _ _ _ _ _ r.b2;have i:w.heap.size+1+1=w.heap.size+2:=rfl;rw[<-i]at y z;clear bh bs ap i;cases hnv:Hu x with
   |true=>
    have q:A8 (tr w c t (Z h n g) Ax B/\F5 st f t R/\A5 (w.heap.size+4) b B):=⟨r,G hbv hnv,am⟩;clear l G hbv r am ad hnv
    gi_wp2
    exact⟨q.out.2.2,q.out.1,q.out.2.1⟩
   |false=>
    rw[hnv,aa (by simp)]at l;have q:A8 (tr w c t (Z h n g) R (B.setCell ⟨w.heap.size+1+1,0,S⟩ (A2 Ax))/\A5 (w.heap.size+4) b (B.setCell ⟨w.heap.size+1+1,0,S⟩ (A2 Ax))):=⟨by rw[<-l];exact r.set Ax,am.trans ((KeepsOthers.setCell _ _ _).from _)⟩;clear l G hbv r am ad hnv
    gi_wp2
    exact⟨q.out.2,q.out.1⟩
 case seq=>
  intro J bn bo a7 bA b bx;refine D5 4 J (w.heap.size+1+1+1) n g h _ s bE bn bo (fun f b d=>?_) (fun f b d cq b4=>?_) bA b bx
  ·exact dg (a7 f b d).1.b3
  ·obtain⟨C,an,i⟩:=ahz m.out.2.1 m.out.2.2.1 b4;exact⟨C,an,ai (a7 f b d).1.bl i⟩
 case ret=>
  intro b d A;rw[v]at A⊢;refine⟨by simp,.inl ⟨_,_,rfl,run_takeDeferred A,?_⟩⟩;have u:=d.put (k:=w.heap.size+4) (by omega) (.deferred S);refine⟨_,IF rfl _ _ (w.heap.size+1+1) R rfl u.b2,rfl,u.bl⟩
 case done=>
  rintro b ⟨d,j⟩ A;rw[v]at A⊢;have E:R=Ax:=by
   have:=j.out;rw[AJ,List.drop_length]at this;exact this.symm
  refine a8 _ _ ?_;have y:=dg d.b2;have z:b.frozen? ⟨w.heap.size+2,0,S⟩=Ax:=cC _ _ _ _ _ d.b2;have i:w.heap.size+1+1=w.heap.size+2:=rfl;rw[<-i]at y z;have p:A8 (tr w c t (Z h n g) R (b.setCell ⟨w.heap.size+1+1,0,S⟩ (A2 Ax))/\(b.setCell ⟨w.heap.size+1+1,0,S⟩ (A2 Ax)).heap[w.heap.size+4]?=O (.deferred (O []))):=⟨by rw[E];exact d.set Ax,(aD _ _ _ _ (by simp)).trans A⟩;clear d j A E a8 i;go_wp2_with fail;refine⟨by simp,.inl ⟨_,_,rfl,run_takeDeferred p.out.2,?_⟩⟩;have u:=p.out.1.put (k:=w.heap.size+4) (by omega) (.deferred S);refine⟨_,IF rfl _ _ (w.heap.size+1+1) R rfl u.b2,rfl,u.bl⟩
def passOk(b:Nat):Nat->List Int->Int->List Int->Prop
 |0,_,_,_=>False
 |_+1,[],_,_=>False
 |f+1,a::r,t,o=>(a=t/\o=r/\r.length<=b)\/(a≠t/\(Fg a t++r).length<=b/\passOk b f (Fg a t++r) t o)
theorem aeK{a t:Int}(e:0<=a)(g:a<=133):(Fg a t).length<=6/\∀z∈Fg a t,1<=z/\z<=133:=by
 have b:=Bg e (show a<=255 by omega);unfold yL at b;rw[be,qL]at b;unfold Fg;cases hf:List.find? (hdI t) (jp a) with
 |none=>exact⟨aL _,fun z c=>by simp at c⟩
 |some d=>
  have f:d∈jp a:=Lm hf;have:=b.2 d f;simp only[be,qL]at this;exact⟨aC this.1.1,fun z c=>aC (this.1.2 z c)⟩
theorem ahA{a t:Int}(b:1<=t):rwN 8 (jp a) t=Fg a t:=by
 unfold rwN Fg
 congr 2
 funext r
 rw[aie b 7 r];cases r<;>rfl
theorem D6:∀{f b:Nat}{st o:List Int}{t:Int},jq f st t=O o->(∀z∈st,0<=z/\z<=133)->st.length+5*f<=b->passOk b f st t o
 |0,_,_,_,_,h,_,_=>by simp[jq]at h
 |f+1,_,[],_,_,h,_,_=>by simp[jq]at h
 |f+1,b,a::r,o,t,h,c,d=>by
  rw[jq]at h;unfold passOk;simp only[bv]at d;by_cases e:a=t
  ·rw[ab e]at h;exact .inl ⟨e,(bu h).symm,by omega⟩
  ·rw[aa e]at h;obtain⟨g,i⟩:=c a (by simp);obtain⟨k,j⟩:=aeK (t:=t) g i;refine .inr ⟨e,by rw[aH];omega,D6 h (fun z hz'=>?_) (by rw[aH];omega)⟩;rcases List.mem_append.1 hz' with hz'|hz'
   ·have:=j z hz';omega
   ·exact c z (by simp[hz'])
theorem zA:∀{f g b:Nat}{st o:List Int}{t:Int},passOk b f st t o->f<=g->passOk b g st t o
 |0,_,_,_,_,_,h,_=>h.elim
 |f+1,0,_,_,_,_,_,i=>by omega
 |f+1,g+1,_,[],_,_,h,_=>h.elim
 |f+1,g+1,b,a::r,o,t,h,i=>by
  unfold passOk at h⊢;rcases h with h|⟨c,d,e⟩
  ·exact .inl h
  ·exact .inr ⟨c,d,zA e (by omega)⟩
theorem zB:∀{f b M':Nat}{st o:List Int}{t:Int},passOk b f st t o->b<=M'->passOk M' f st t o
 |0,_,_,_,_,_,h,_=>h.elim
 |f+1,_,_,[],_,_,h,_=>h.elim
 |f+1,b,M',a::r,o,t,h,g=>by
  unfold passOk at h⊢;rcases h with⟨c,d,e⟩|⟨c,d,e⟩
  ·exact .inl ⟨c,d,by omega⟩
  ·exact .inr ⟨c,by omega,zB e g⟩
theorem IG:∀{st:List Int}{t:Int},OkI st->1<=t->t<=78->gH st t=A4->∃o,passOk (st.length+45) (st.length+9) st t o
 |[],t,d,_,_,h=>by simp[gH]at h
 |a::r,t,d,l,m,h=>by
  have i:=d a (bK ..);have s:OkI r:=fun y v=>d y (dC _ v);have u:∀e∈a::r,0<=e/\e<=133:=fun e w=>by have:=aC (d e w);omega
  have b:=aaa i l m;rw[gH]at h;unfold adI at b;by_cases f:zo 9 a t=A4
  ·rw[ab f]at b;split at b
   ·rename_i B C E p z;have g:=yA (c:=r) p;rw[wI]at g;exact⟨_,zA (D6 g u (by simp)) (by simp)⟩
   ·cases b
  ·rw[aa f]at b h;by_cases j:Hu a=A4
   ·rw[ab j]at b h;rw[be]at b;obtain⟨o,x⟩:=IG s l m h;have q:¬a=t:=fun n=>by
     subst n;have A:=aC i;have:zo 9 a a=A4:=by rw[zo,ab (by omega)];exact bC rfl
     exact f this
    have k:Fg a t=[]:=by simpa using b.1
    refine⟨o,?_⟩;rw[show(a::r).length+9=(r.length+9)+1 from Nat.add_right_comm r.length 1 9];unfold passOk;refine .inr ⟨q,by rw[k,de];simp;omega,?_⟩;rw[k,de];exact zB x (by simp)
   ·rw[aa j]at h;cases h
theorem zC:∀{f c:Nat}{st o:List Int}{t:Int},passOk c f st t o->jq f st t=O o
 |0,_,_,_,_,h=>h.elim
 |f+1,_,[],_,_,h=>h.elim
 |f+1,c,a::r,o,t,h=>by
  unfold passOk at h;rw[jq];rcases h with⟨b,d,e⟩|⟨b,d,e⟩
  ·rw[ab b,d]
  ·rw[aa b];exact zC e
theorem wo:∀{f b:Nat}{st o:List Int}{t:Int},passOk b f st t o->o.length<=b
 |0,_,_,_,_,h=>h.elim
 |f+1,_,[],_,_,h=>h.elim
 |f+1,b,a::r,o,t,h=>by
  unfold passOk at h;rcases h with⟨e,d,c⟩|⟨e,d,c⟩
  ·rw[d];exact c
  ·exact wo c
theorem Da.passOk{st c:List Int}(h:Da st c){t:Int}(d:1<=t)(e:t<=78)(a:gH st t=A4):∃o,passOk (st.length+45) (st.length+9) st t o/\Da o (feedL c t).1:=by
 obtain⟨o,b⟩:=IG h.o1 d e a;obtain⟨g,f,p2⟩:=h.pass d e a;have:=zC b;rw[f]at this;obtain rfl:=bu this;exact⟨_,b,p2⟩
attribute [local go_sem] kF
theorem aig{B d:Nat}{W b:V}{cs:Array A3}{t:Bs}{fr:Nat×Nat}(f:W.heap[d]?=O (Q cs t fr))(h:Gp d W b):A5 B W b:=⟨h.size,fun g k _ a e=>(h.block g (Array.getElem?_eq_some_iff.1 a).1 (by rintro rfl;rw[f]at a;cases a;cases e) (fun i j c=>by rw[a]at c;cases c;cases e)).trans a⟩
theorem jc{d k:Nat}{W b:V}{cs:Array A3}{t:Bs}{fr:Nat×Nat}(h:Gp d W b)(a:W.heap[k]?=O (Q cs t fr))(e:k≠d)(f:t≠146):b.heap[k]?=O (Q cs t fr):=
 (h.block k (Array.getElem?_eq_some_iff.1 a).1 e (fun g i c=>by rw[a]at c;cases c;exact f rfl)).trans a
structure wv (w:V) (base gb mb:Nat) (st:List Int) (c:List Nat) (W:V):Prop where
 g:Db W base gb (.map (O mb)) st
 r:RI W base mb
 gp:Gp gb w W
 bb:A0 base w W
 b0:W.heap[w.heap.size]?=O (.cells #[.pointer (O ⟨gb,0,S⟩)] 92 (0,0))
 mks:oG (w.heap.size+1) c W
 ne:gb<w.heap.size
theorem wv.below{w:V}{base d mb:Nat}{st:List Int}{c:List Nat}{W b:V}(h:wv w base d mb st c W)(a:A0 W.heap.size W b):wv w base d mb st c b:=by
 refine⟨h.g.below a,h.r.below a,h.gp.trans (Gp.of_below a),h.bb.trans (a.mono ?_),(a.block _ (aG h.b0)).trans h.b0,h.mks.below a,h.ne⟩;have:=h.g.lo;have:=h.ne;have:=h.gp.size;omega
theorem wv.turn{w:V}{base d mb:Nat}{st k:List Int}{c:List Nat}{W b:V}(h:wv w base d mb st c W)(l:Db b base d (.map (O mb)) k)(f:Gp d W b)(m:A0 base W b):wv w base d mb k c b:=by
 obtain⟨p,j,_⟩:=h.g.ex;exact⟨l,h.r.gp j f,h.gp.trans f,h.bb.trans m,jc f h.b0 (by have:=h.ne;omega) (by decide),
  ⟨h.mks.nd,h.mks.lo,fun a e=>(f.block a (Array.getElem?_eq_some_iff.1 (h.mks.at_ a e)).1 (by rintro rfl;have:=h.mks.at_ a e;rw[j]at this;cases this) (fun n o i=>by rw[h.mks.at_ a e]at i;cases i)).trans (h.mks.at_ a e)⟩,h.ne⟩
theorem wv.put{w:V}{base e mb:Nat}{st:List Int}{c:List Nat}{W:V}(h:wv w base e mb st c W){k:Nat}{r:Loop}(y:w.heap.size<k)(d:W.heap[k]?=O (.loop r))(o:Obj):wv w base e mb st c (W.putObj k o):=by
 obtain⟨s,m,p⟩:=h.g.ex;have f:e≠k:=by have:=h.ne;omega
 have q:base<=k:=by have:=h.g.lo;have:=h.ne;omega
 refine⟨⟨⟨s,(U f).trans m,ownsRow_putObj p o d rfl⟩,h.g.lo⟩,h.r.same (fun u c a=>(U (by rintro rfl;rw[d]at a;cases a)).trans a) (fun x t v a=>(U (by rintro rfl;rw[d]at a;cases a)).trans a),?_,h.bb.grown (B0 W k o) (by have:=h.gp.size;have:=h.g.lo;have:=h.ne;omega) (fun j a=>by cases a;exact q),(U (by omega)).trans h.b0,
  ⟨h.mks.nd,h.mks.lo,fun g i=>(U (by rintro rfl;have:=(h.mks.at_ g i).symm.trans d;cases this)).trans (h.mks.at_ g i)⟩,h.ne⟩
 have b:=h.gp;refine⟨b.os,b.tape,b.output,by have:=b.size;simpa using this,fun j n f l=>(U (by omega)).trans (b.block j n f l)⟩
structure KC (w:V) (base gb mb:Nat) (st:List Int) (c:List Nat) (sz:Nat) (x0 x1 x2 x3 x4 x5:Int) (W:V):Prop where
 ps:wv w base gb mb st c W
 b0:W.heap[sz]?=O (.cells #[.int .u8 x0,.int .u8 x1,.int .u8 x2,.int .u8 x3,.int .u8 x4,.int .u8 x5] 204 (0,0))
 b1:W.heap[sz+1]?=O (.cells #[.slice (O ⟨sz,0,S⟩) 6 6] 140 (0,0))
theorem KC.put{w:V}{base b mb:Nat}{st:List Int}{c:List Nat}{a:Nat}{x0 d e f g i:Int}{W:V}(h:KC w base b mb st c a x0 d e f g i W)(m:w.heap.size<a){k:Nat}{r:Loop}(l:a+1<k)(j:W.heap[k]?=O (.loop r))(o:Obj):KC w base b mb st c a x0 d e f g i (W.putObj k o):=
 ⟨h.ps.put (by omega) j o,(U (by omega)).trans h.b0,(U (by omega)).trans h.b1⟩
theorem aeL(w:V)(base f mb:Nat)(st:List Int)(t:Int)(v br:Nat)(stF:List Int)(a6:Db w base f (.map (O mb)) st)(cz:RI w base mb)(c4:∀a∈st,0<=a/\a<=133)(B:st.length<=v)(f2:v<=100000000)(dn:1<=t)(fb:t<=78)(a7:passOk v br st t stF):
  A7 Y 74 #[T (O ⟨f,0,S⟩),M N t] w fun e bn=>e= A1 (B2 #[])/\Db bn base f (.map (O mb)) stF/\RI bn base mb/\Gp f w bn/\A0 base w bn:=by
 obtain⟨eb,c2,e5⟩:=a6.ex;have e2:=aG c2;have f5:=a6.lo;obtain⟨k,rfl⟩:∃k,br=k+1:=by
  cases br with
  |zero=>exact a7.elim
  |succ k=>exact⟨k,rfl⟩
 obtain⟨c,l,rfl⟩:∃c l,st=c::l:=by
  cases st with
  |nil=>exact a7.elim
  |cons c l=>exact⟨c,l,rfl⟩
 have ap:=(ag w.heap.size w).alloc (ae _) (Q #[T (O ⟨f,0,S⟩)] 92 (0,0));have bE:wv w base f mb (c::l) [] (w.alloc (Q #[T (O ⟨f,0,S⟩)] 92 (0,0))):=
  ⟨a6.below ap,cz.below ap,Gp.of_below ap,ap.mono (by omega),aj w _,⟨AF,fun y hb=>by simp at hb,fun y hb=>by simp at hb⟩,e2⟩
 have C:=Ic _ base f (.map (O mb)) l c bE.g (by simp only[bv]at B;omega);have a3:=iD bE c4 a7;clear a6 cz c4 e5 bE a7 c2;refine kH (n:=5).1 ?_;refine callsIn_of_wp_marks Tryz.func74 rfl trivial ?_ rfl;simp only[Tryz.ntmps74,gi,bv,dd,Nat.reduceAdd,Nat.reduceSub,gh,gC,gD,na,de,ej];refine wpIn_wide.2 ?_;go_wp2_with (go_at_call 132;refine C.mono ?_;rintro e fd ⟨rfl,a5,p2,ct⟩);have c7:=a3.out.1.turn a5 p2 ct;have cn:A8 (wv w base f mb l [] fd/\(∀a∈c::l,0<=a/\a<=133)/\passOk v (k+1) (c::l) t stF/\l.length<=v):=⟨c7,a3.out.2.1,a3.out.2.2,by simp only[bv]at B;omega⟩;clear a3 c7 a5 p2 ct C ap;obtain⟨s0,c6⟩:=ay c;refine(py (n:=5)).1 (wpIn_loop_ghost (fun k am g=>∃(c:Int) (st:List Int) (j:List Nat),A8 (wv w base f mb st j g/\(∀a∈c::st,0<=a/\a<=133)/\passOk v (k+1) (c::st) t stF/\st.length<=v)/\∃d9 ea dq ds dz ch ck cl cm d0 d1 d2 d3 d4 d5 d6 d7 d8:A3,am={tmps:=#[T (O ⟨f,0,S⟩),M N t,T (O ⟨w.heap.size,0,S⟩),X,M N c,d9,ea,X,X,T (O ⟨f,0,S⟩),T (O ⟨f,0,S⟩),T (O ⟨f,1,S⟩),M N s0,dq,ds,dz,ch,ck,cl,cm,d0,d1,d2,d3,d4,d5,d6,d7,d8,X,X,X,X,X,X,X,X,X],defers:=j.map yG}) k ?start ?round)
 case start=>exact⟨c,l,[],cn,X,X,X,X,X,X,X,X,X,X,X,X,X,X,X,X,X,X,by rw[<-c6];rfl⟩
 case round=>
  clear cn B c6;rintro k am g ⟨c,st,j,u,d9,ea,dq,ds,dz,ch,ck,cl,cm,d0,d1,d2,d3,d4,d5,d6,d7,d8,rfl⟩;refine wpIn_wide.2 ?_;have et:=dg u.out.1.b0;have bd:=u.out.2.1 c (by simp);by_cases ar:c=t
  ·have af:=u.out.2.2.1;unfold passOk at af;have c8:stF=st:=by
    rcases af with⟨_,b,_⟩|⟨b,_⟩
    ·exact b
    ·exact absurd ar b
   have al:A8 (wv w base f mb stF j g):=by rw[c8];exact u.out.1
   clear af u c8;subst ar;go_wp2_with fail;show LeavesInM _ _ _ _ _ _ (j.map yG) .returning g;have b:=al.out;refine nI (w.heap.size+1) j g b.mks (fun cr A=>?_);have c9:∀i,i<=w.heap.size->cr.heap[i]?=g.heap[i]?:=fun i L=>A.same i (fun ad=>by have:=b.mks.lo i ad;omega);have a8:∀(i:Nat)(E:Obj),g.heap[i]?=O E->(∀a2,E≠ .deferred a2)->cr.heap[i]?=O E:=fun i E L a9=>(A.same i (fun ad=>by have:=b.mks.at_ i ad;rw[L]at this;exact a9 _ (bu this))).trans L;refine⟨_,jg rfl _ _ _,rfl,?_,?_,?_,?_⟩
   ·obtain⟨eb,F,a9⟩:=b.g.ex;refine⟨⟨eb,a8 _ _ F (fun a2 e=>by cases e),a9.1,?_⟩,b.g.lo⟩;rcases a9.2 with en|⟨a5,ei,ek,cc,ce,cf,cg⟩
    ·exact .inl en
    ·exact .inr ⟨a5,ei,ek,cc,ce,a8 _ _ cf (fun a2 e=>by cases e),cg⟩
   ·exact b.r.same (fun fB j e=>a8 _ _ e (fun a2 e=>by cases e)) (fun f1 fA fF e=>a8 _ _ e (fun a2 e=>by cases e))
   ·exact⟨A.os.trans b.gp.os,A.tape.trans b.gp.tape,A.output.trans b.gp.output,by rw[A.size];exact b.gp.size,fun i L e4 ev=>(c9 i (by omega)).trans (b.gp.block i L e4 ev)⟩
   ·exact⟨A.os.trans b.bb.os,A.tape.trans b.bb.tape,A.output.trans b.bb.output,by rw[A.size];exact b.bb.size,fun i L=>(c9 i (by omega)).trans (b.bb.block i L)⟩
  ·have f7:(c==t)=Ax:=by rw[aK];exact ar
   have af:(Fg c t++st).length<=v/\passOk v k (Fg c t++st) t stF:=by
    have:=u.out.2.2.1;unfold passOk at this;rcases this with⟨b,_⟩|⟨_,b⟩
    ·exact absurd b ar
    ·exact b
   obtain⟨fc,F,_⟩:=u.out.1.g.ex;have cy:GB g base f mb:=⟨by rw[aq _ _ _ _ _ _ F];rfl,u.out.1.r⟩;obtain⟨K,cI⟩:∃K,Cp 8 t (jp c) 0 (Fg c t) K:=⟨_,⟨ahA dn,rfl⟩⟩;have a0:=Cq 7 (wn 7) g base f mb c t cy bd.1 bd.2 (aif c) dn fb _ K cI;obtain⟨bD,c5⟩:=aeK (t:=t) bd.1 bd.2;rw[aau bD]at a0;have z:A8 ((Fg c t++st).length<=v/\passOk v k (Fg c t++st) t stF/\(Fg c t).length<=6/\∀ed∈Fg c t,1<=ed/\ed<=133):=⟨af.1,af.2,bD,c5⟩;generalize Fg c t=rw at a0 z;obtain⟨m,bk⟩:=ay (rw.getD 0 0);obtain⟨o,b7⟩:=ay (rw.getD 1 0);obtain⟨p,b8⟩:=ay (rw.getD 2 0);obtain⟨q,b9⟩:=ay (rw.getD 3 0);obtain⟨r,ca⟩:=ay (rw.getD 4 0);obtain⟨s,cb⟩:=ay (rw.getD 5 0);rw[bk,b7,b8,b9,ca,cb]at a0;have cq:=acl bk b7 b8 b9 ca cb;clear af F cy cI bD c5 bk b7 b8 b9 ca cb ar;go_wp2_with (first
    |(go_at_call 133;refine a0.mono ?_;rintro e H ⟨rfl,an⟩)
    |(go_at_call 126;refine(vq _ 6 6 _).mono ?_;rintro e f8 ⟨rfl,rfl⟩))
   rename_i fq cF;obtain⟨h,b4⟩:=ay H.heap.size;have bs:A0 g.heap.size g ((H.alloc (Q #[M N m,M N o,M N p,M N q,M N r,M N s] 204)).alloc (Q #[Z (O ⟨h,0,S⟩) 6 6] 140)):=(an.alloc an.size _).alloc (by have:=an.size;simp;omega) _;have b3:=u.out.1.below bs;have bx:((H.alloc (Q #[M N m,M N o,M N p,M N q,M N r,M N s] 204)).alloc (Q #[Z (O ⟨h,0,S⟩) 6 6] 140)).heap[h]?=O (Q #[M N m,M N o,M N p,M N q,M N r,M N s] 204 (0,0)):=(bm _ _ _ (by simp;omega)).trans (by rw[<-b4];exact aj H _);have bA:((H.alloc (Q #[M N m,M N o,M N p,M N q,M N r,M N s] 204)).alloc (Q #[Z (O ⟨h,0,S⟩) 6 6] 140)).heap[h+1]?=O (Q #[Z (O ⟨h,0,S⟩) 6 6] 140 (0,0)):=by
    have:=aj (H.alloc (Q #[M N m,M N o,M N p,M N q,M N r,M N s] 204)) (Q #[Z (O ⟨h,0,S⟩) 6 6] 140);rw[aF,b4]at this;exact this
   have av:((H.alloc (Q #[M N m,M N o,M N p,M N q,M N r,M N s] 204)).alloc (Q #[Z (O ⟨h,0,S⟩) 6 6] 140)).heap.size=h+1+1:=by simp;omega
   have e0:∀y∈j,y<h:=fun y hb=>by have:=(Array.getElem?_eq_some_iff.1 (u.out.1.mks.at_ y hb)).1;have:=an.size;omega
   have df:w.heap.size<h:=by have:=aG u.out.1.b0;have:=an.size;omega
   rw[b4];generalize (H.alloc (Q #[M N m,M N o,M N p,M N q,M N r,M N s] 204)).alloc (Q #[Z (O ⟨h,0,S⟩) 6 6] 140)=fz at b3 bx bA av bs⊢;clear a0 an et bs;refine(py (n:=5)).1 ?_;refine uk (P:=Y) (gf:=170) (lb:=#[T (O ⟨h+1,0,S⟩)]) rfl (enters_of Tryz.func170 (by kernel_rfl) rfl)
    (fun d=>#[M A6 (d:Int),M N (rw.getD d 0)]) (fun _=>rfl) 6
    (fun d g=>KC w base f mb (rw.drop d++st) j h m o p q r s g)
    (fun d am g=>KC w base f mb (rw.drop (d+1)++st) j h m o p q r s g/\am={tmps:=#[T (O ⟨f,0,S⟩),M N t,T (O ⟨w.heap.size,0,S⟩),X,M N c,T (O ⟨h,0,S⟩),A2 K,X,M N (rw.getD d 0),T (O ⟨f,0,S⟩),T (O ⟨f,0,S⟩),T (O ⟨f,1,S⟩),M N s0,M N c,M N t,A2 A4,ch,ck,cl,cm,B2 #[B1 #[M N m,M N o,M N p,M N q,M N r,M N s],A2 K],T (O ⟨f,0,S⟩),M N c,M N t,B2 #[B1 #[M N m,M N o,M N p,M N q,M N r,M N s],A2 K],B1 #[M N m,M N o,M N p,M N q,M N r,M N s],A2 K,Z (O ⟨h,0,S⟩) 6 6,.func (.func 170) #[] #[T (O ⟨h+1,0,S⟩)],M A6 (d:Int),M N (rw.getD d 0),X,X,X,X,X,X,X],defers:=[]})
    (fun _=>False)
    ?pZ ?pAx ?pX ?h0 ?assign ?body ?seq ?done ?ret
   case pZ=>
    rintro d g l E b B;rw[av]at B⊢;exact b.put df (by omega) B E
   case pAx=>
    rintro d am g l E ⟨b,rfl⟩ B;rw[av]at B⊢;exact⟨b.put df (by omega) B E,rfl⟩
   case pX=>intro g l E b;exact b.elim
   case h0=>
    intro fv hb f6;refine⟨?_,(hb.block _ (by omega)).trans bx,(hb.block _ (by omega)).trans bA⟩;rw[ju z.out.2.2.1];exact b3.below hb
   case assign=>
    rintro bl d g fu ad b ep;have I:=aw b;clear b
    gi_wp2
    exact ep _ _ ⟨I.out,rfl⟩ (KeepsFrom.refl _ _)
   case seq=>
    intro bl ef eg cB er g eq;refine D5 4 bl (h+1) 6 6 (O ⟨h,0,S⟩) _ (by decide) (ae _) ef eg (fun d g b=>?_) (fun d g b ao f3=>?_) er g eq
    ·exact dg (cB d g b).b1
    ·obtain⟨e9,cc,ce,cf,cg,fa⟩:=eJ (cB d g b).b0;obtain⟨fg,fk,fl,fm,fn,fo⟩:=cq.out;refine⟨_,rfl,?_⟩;rw[yc];rcases(show ao=0\/ao=1\/ao=2\/ao=3\/ao=4\/ao=5 by omega) with rfl|rfl|rfl|rfl|rfl|rfl
     ·rw[fg];exact e9
     ·rw[fk];exact cc
     ·rw[fl];exact ce
     ·rw[fm];exact cf
     ·rw[fn];exact cg
     ·rw[fo];exact fa
   case ret=>intro g b;exact b.elim
   case body=>
    rintro bl d am J ad ⟨b,rfl⟩;rw[av];have cw:=dg b.ps.b0;obtain⟨fc,F,_⟩:=b.ps.g.ex;by_cases bw:d<rw.length
    ·have dk:rw.getD d 0∈rw:=by rw[cp,bJ bw];exact Aw _
     have e7:=z.out.2.2.2 _ dk;have c1:rw.drop d=rw.getD d 0::rw.drop (d+1):=by
      rw[je bw]
      congr 1
      rw[cp,bJ bw];rfl
     have e3:(rw.drop (d+1)++st).length<=100000000:=by
      have:=z.out.1;rw[aH]at this⊢;rw[jx];omega
     have C:=CallsIn.inRound bl (kH (n:=2).2 (yF J base f (.map (O mb)) (rw.drop (d+1)++st) (rw.getD d 0) b.ps.g e3));rw[<-ej,<-c1]at C;have I:=gK b F;generalize rw.getD d 0=ff at e7 C⊢;have bk:(ff==0)=Ax:=by rw[aK];omega
     clear b F dk c1
     gi_wp2_with (refine⟨trivial,?_⟩;gi_at_call 69;fail)
     refine⟨trivial,C.mono ?_⟩;rintro e ec ⟨rfl,cx,a1,cv⟩;have al:A8 (KC w base f mb (rw.drop d++st) j h m o p q r s ec/\A5 (h+1+1) J ec):=⟨⟨I.out.1.ps.turn cx a1 cv,jc a1 I.out.1.b0 (by omega) (by decide),jc a1 I.out.1.b1 (by omega) (by decide)⟩,aig I.out.2 a1⟩;clear cx a1 cv C I cw
     gi_wp2
     exact⟨al.out.2,al.out.1⟩
    ·have e6:rw.getD d 0=0:=by rw[cp,jL (by omega)];rfl
     rw[e6];have al:A8 (KC w base f mb (rw.drop d++st) j h m o p q r s J):=by
      have el:rw.drop d=rw.drop (d+1):=by rw[ju (by omega),ju (by omega)]
      rw[el];exact b
     clear b F
     gi_wp2
     exact⟨KeepsFrom.refl _ _,al.out⟩
   case done=>
    rintro J b bt;rw[av]at bt⊢;obtain⟨a4,rfl⟩:∃a4,k=a4+1:=by
     cases k with
     |zero=>exact(z.out.2.1).elim
     |succ k=>exact⟨k,rfl⟩
    obtain⟨ak,G,bh⟩:∃ak G,rw++st=ak::G:=by
     cases hq:rw++st with
     |nil=>have:=z.out.2.1;rw[hq]at this;exact this.elim
     |cons a y=>exact⟨a,y,rfl⟩
    have x:=b.ps;rw[pn,bh]at x;have f4:G.length+1<=v:=by have:=z.out.1;rw[bh,bv]at this;exact this
    have C:=Ic J base f (.map (O mb)) G ak x.g (by omega);have cw:=dg x.b0;have c3:oG (w.heap.size+1) ((h+1+1)::j) J:=⟨List.nodup_cons.2 ⟨fun ad=>by have:=e0 _ ad;omega,x.mks.nd⟩,fun y hb=>by
      rcases List.mem_cons.1 hb with rfl|hb
      ·omega
      ·exact x.mks.lo y hb,fun y hb=>by
      rcases List.mem_cons.1 hb with rfl|hb
      ·exact bt
      ·exact x.mks.at_ y hb⟩
    have bo:A8 (wv w base f mb (ak::G) ((h+1+1)::j) J/\(∀a∈ak::G,0<=a/\a<=133)/\passOk v (a4+1) (ak::G) t stF):=by
     refine⟨⟨x.g,x.r,x.gp,x.bb,x.b0,c3,x.ne⟩,fun a ha=>?_,by rw[<-bh];exact z.out.2.1⟩;rw[<-bh]at ha;rcases List.mem_append.1 ha with ha|ha
     ·have:=z.out.2.2.2 a ha;omega
     ·exact u.out.2.1 a (by simp[ha])
    refine cF _ _ ?_;clear c3 x b bt cF u z cq b3 bx bA;go_wp2_with (go_at_call 132;refine C.mono ?_;rintro e f9 ⟨rfl,em,e8,eh⟩);exact⟨a4,by omega,ak,G,(h+1+1)::j,⟨bo.out.1.turn em e8 eh,bo.out.2.1,bo.out.2.2,by omega⟩,_,_,_,_,_,_,_,_,_,_,_,_,_,_,_,_,_,_,rfl⟩
def lm(st:List Int):Nat->List Int
 |0=>[]
 |j+1=>if gH st ((j:Int)+1)=A4 then lm st j++[(j:Int)+1] else lm st j
theorem Cr(st:List Int):∀j,(lm st j).length<=j
 |0=>ae _
 |j+1=>by
  have:=Cr st j;rw[lm];split
  ·rw[aH];simp;omega
  ·omega
theorem IH(st:List Int):∀j,∀z∈lm st j,1<=z/\z<=(j:Int)
 |0=>by intro z a;simp[lm]at a
 |j+1=>by
  intro z a;have b:=IH st j;rw[lm]at a;split at a
  ·rcases List.mem_append.1 a with h|h
   ·have:=b z h;omega
   ·simp at h;omega
  ·have:=b z a;omega
theorem Da.nm{st a:List Int}(h:Da st a):∀j,j<=78->lm st j=jH a j
 |0,_=>rfl
 |j+1,b=>by rw[lm,jH,h.nm j (by omega),h.may (by omega) (by omega)]
structure GQ (W:V) (base gb mb:Nat) (st:List Int):Prop where
 g:Db W base gb (.map (O mb)) st
 r:RI W base mb
 ok:∀a∈st,0<=a/\a<=133
 len:st.length<=99999000
theorem GQ.below{W a:V}{base b mb:Nat}{st:List Int}(h:GQ W base b mb st)(c:A0 W.heap.size W a):GQ a base b mb st:=⟨h.g.below c,h.r.below c,h.ok,h.len⟩
theorem GQ.may{W:V}{base a mb:Nat}{st:List Int}(h:GQ W base a mb st){t:Int}(c:1<=t)(d:t<=78){R:Bool}(b:gH st t=R):
  A7 Y 72 #[T (O ⟨a,0,S⟩),M A6 t] W fun e f=>e= A1 (A2 R)/\A0 W.heap.size W f:=
 aeJ W base a mb st t R h.g h.r h.ok (by have:=h.len;omega) c d b
structure alq (w:V) (st:List Int) (j:Nat) (vo:A3) (W:V):Prop where
 bl:A0 w.heap.size w W
 row:W.ownsRow w.heap.size 3 1 vo (lm st j).length ((lm st j).map (B3 .i64))
theorem ab6(w:V)(base y mb:Nat)(st:List Int)(h:GQ w base y mb st):
  A7 Y 130 #[.pointer (O ⟨y,0,S⟩)] w fun e C=>∃a c,e= .returned (.slice a (lm st 78).length c)/\C.ownsRow w.heap.size 3 1 (.slice a (lm st 78).length c) (lm st 78).length ((lm st 78).map (B3 .i64))/\A0 w.heap.size w C:=by
 have F:=aw h;have x:A8 (alq w st 0 (.slice S 0 0) w):=⟨ag _ _,bc _ _ _ _⟩;obtain⟨al,am,an,ao,ap⟩:=dt rl;clear h;go_in;go_wp2_with fail;go_loopw [3,4] (fun B s wr=>∃(b:Nat),b<=78/\s= .int .i64 ((b:Int)+1)/\(∃a c,∃a0:Nat,B= .slice a a0 c)/\A8 (alq w st b B wr)) (fun _ s _=>(79-A9 s).toNat)
 case atStart=>exact⟨0,aL _,rfl,⟨_,_,_,rfl⟩,x⟩
 case round=>
  obtain⟨b,a6,rfl,⟨I,K,bb,rfl⟩,f⟩:=hrel;clear x;by_cases a7:b<78
  ·obtain⟨G,o⟩:=ay (gH st ((b:Int)+1));have r:=(F.out.below f.out.bl).may (t:=(b:Int)+1) (by omega) (by omega) o;have v:=aw o;obtain⟨i,p⟩:∃i:Int,(b:Int)+1=i:=⟨_,rfl⟩;have l:=aw p;have a5:i<=78:=by omega
   have a4:1<=i:=by omega
   rw[p]at r⊢;clear o p;go_wp2_with fail;refine r.mono ?_;rintro e u ⟨rfl,m⟩;have q:A0 w.heap.size w u:=f.out.bl.trans (m.mono f.out.bl.size);have d:=aE f.out.row m;have af:=Cr st b;obtain⟨a1,j⟩:=ay ((lm st b).length);rw[j]at d af;obtain⟨H,J,n⟩:=bz d;cases n;have g:=iD d j q;have ak:=q.size;clear r f m d j q;cases G with
   |false=>
    have e:lm st (b+1)=lm st b:=by rw[lm,v.out,aa (by decide)]
    go_wp2_with fail;refine⟨⟨b+1,by omega,?_,⟨_,_,_,rfl⟩,⟨g.out.2.2,by rw[e,g.out.2.1];exact g.out.1⟩⟩,?_⟩
    ·have:=l.out;congr 1;push_cast;omega
    ·simp[A9];omega
   |true=>
    have E:A8 (lm st (b+1)=lm st b++[i]):=by show _=_;rw[lm,v.out,ab rfl,l.out]
    go_wp2_with (at_builtin;refine ng _ rfl _ _ 51 rfl w.heap.size 3 al _ 1 8 Tryz.underlying51 am an ao ap rfl (by decide) _ _ _ rfl (g.out.1.alloc _) ⟨u.heap.size,0,S⟩ 1 1 [.int .i64 i] rfl rfl (World.news_of_block (cs:=#[.int .i64 i]) (fr:=(0,0)) (aj u _)) (by intro bd A;simp at A;subst A;rfl) (by unfold maxLen;omega) (by omega) (by simp;omega) ?_;intro bh bk z L a8;obtain⟨a3,a2,rfl⟩:=ownsRow_succ z);refine⟨⟨b+1,by omega,?_,⟨_,_,_,rfl⟩,⟨?_,?_⟩⟩,?_⟩
    ·have:=l.out;congr 1;push_cast;omega
    ·exact(g.out.2.2.alloc ak _).grown L (by simp;omega) (fun ar ad=>(g.out.1.lt ar ad).1)
    ·rw[E.out,aH,g.out.2.1,ee];exact z
    ·simp[A9];omega
  ·obtain rfl:b=78:=by omega
   have d:=f.out.row;obtain⟨a1,j⟩:=ay ((lm st 78).length);rw[j]at d;obtain⟨H,J,n⟩:=bz d;cases n;have k:=iD d j f.out.bl;clear f d j;go_wp2_with fail;go_ret;refine⟨I,K,?_,?_,k.out.2.2⟩
   ·rw[k.out.2.1];rfl
   ·rw[k.out.2.1];exact k.out.1
