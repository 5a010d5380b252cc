import Derived.Test.YtcbmoiabehpliaaGreatDoorHPk01
import Derived.Test.YtcbmoiabehpliaaGreatDoorHPk26
import Derived.Laws.ResultCell
import Derived.Deep.RegionHeld3
import Derived.Laws.StructEq
import Derived.Laws.Cover2
set_option linter.unusedVariables false
set_option maxRecDepth 100000
set_option maxHeartbeats 800000
namespace Go.Proofs.YtcbmoiabehpliaaGreatDoor
open Go.RowKit Go.Maps Go.WideMaps
structure RI (W:World) (base mb:Nat):Prop where
 ex:∃(D:DataW Value) (f:Int->Value) (n:Nat),W.ownsMap Tryz.prog 81 iz mb n D/\∀a,0<=a->a<=255->D.atKey (.int .u8 a) (.held (.slice none 0 0))= .held (f a)/\cj W base (f a) (dl a)
theorem RM.ri{W:World}{base mb n:Nat}{R:List (Int×List (List Int))}(h:RM W base mb n R)(e:∀a,0<=a->a<=255->lE R a=dl a):RI W base mb:=by
 obtain⟨D,d,g,f,_⟩:=h.ex;exact⟨D,d,n,g,fun a c b=>by rw[<-e a c b];exact f a c b⟩
theorem RI.same{W b:World}{base mb:Nat}(h:RI W base mb)(q:∀a c,W.heap[mb]?=some (.map a c)->b.heap[mb]?=some (.map a c))(k:∀(g:Nat) (cs:Array Value) (fr:Nat×Nat),W.heap[g]?=some (.cells cs 133 fr)->b.heap[g]?=some (.cells cs 133 fr)):RI b base mb:=by
 obtain⟨D,l,u,⟨a,c,j,m⟩,i⟩:=h.ex;refine⟨D,l,u,⟨a,c,q _ _ j,m⟩,fun e f d=>⟨(i e f d).1,?_⟩⟩;have:=(i e f d).2;refine⟨this.1,?_⟩;rcases this.2 with h|⟨g,s,r,n,o,t,p⟩
 ·exact .inl h
 ·exact .inr ⟨g,s,r,n,o,k _ _ _ t,p⟩
theorem RI.below{W b:World}{base mb:Nat}(h:RI W base mb)(c:Below W.heap.size W b):RI b base mb:=
 h.same (fun e d a=>(c.block _ (aj a)).trans a) (fun f i g a=>(c.block _ (aj a)).trans a)
theorem RI.gp{W d:World}{base mb c:Nat}{cs:Array Value}{fr:Nat×Nat}(h:RI W base mb)(f:W.heap[c]?=some (.cells cs 79 fr))(e:Gp c W d):RI d base mb:=
 h.same (fun j i a=>(e.block _ (aj a) (by rintro rfl;rw[f]at a;cases a) (fun cs fr b=>by rw[a]at b;cases b)).trans a)
  (fun g cs fr a=>(e.block _ (aj a) (by rintro rfl;rw[f]at a;cases a) (fun cs fr b=>by rw[a]at b;cases b)).trans a)
theorem uw{a:Int}(c:0<=a)(d:a<=255):∀R,((List.range 256).all fun a=>decide (lE R (a:Int)=dl (a:Int)))=true->lE R a=dl a:=by
 intro R b;have:=List.all_eq_true.1 b a.toNat (by rw[List.mem_range];omega);rw[show((a.toNat:Nat):Int)=a by omega]at this;exact of_decide_eq_true this
theorem rQ(w:World)(f:TypeId)(fr:Nat×Nat)(a:w.heap[1]?=some (.cells ud f fr)):
  Calls Tryz.prog 27 #[] w fun e d=>e= .returned (.map (some w.heap.size))/\RI d w.heap.size w.heap.size/\Below w.heap.size w d:=by
 have g:1<w.heap.size:=aj a;have u:∀w:World,(Instr.makeMap 73 (some (.int .u8 34))).run Tryz.prog w= .ok (.map (some w.heap.size)) (w.alloc (.map #[] 0)):=fun w=>by kernel_rfl
 have j:RM (w.alloc (.map #[] 0)) w.heap.size w.heap.size 0 []:=⟨⟨.map [],fun _=> .slice none 0 0,World.ownsMap_made _ _ _ _,fun h _ _=>⟨rfl,⟨rfl,.inl ⟨rfl,rfl⟩⟩⟩,fun h s _ _ _ _ _=> .inl rfl⟩,Nat.le_refl _⟩;have c:Below w.heap.size w (w.alloc (.map #[] 0)):=(Below.refl _ _).alloc (Nat.le_refl _) _;have l:=ab a;clear a;go_in;go_wp2_with (first
  |(go_at_call 54;refine(ug _ w.heap.size w.heap.size 0 [] j (by omega)).mono ?_;rintro e t ⟨rfl,q,i⟩)
  |(go_at_call 55;refine(uc _ w.heap.size w.heap.size _ _ q (by omega)).mono ?_;rintro e r ⟨rfl,m,b⟩)
  |(go_at_call 56;refine(ue _ w.heap.size w.heap.size _ _ m (by omega) f fr ((((c.trans i).trans b).block _ g).trans l.out) g).mono ?_;rintro e v ⟨rfl,n,o⟩))
 go_ret;exact⟨rfl,n.ri (fun h p k=>uw p k _ BN),((c.trans i).trans b).trans o⟩
theorem rR(w:World)(k:TypeId)(fr:Nat×Nat)(i:w.heap[1]?=some (.cells ud k fr)):
  Calls Tryz.prog 13 #[] w fun e c=>∃o,e= .returned (.pointer (some ⟨o,0,none⟩))/\pQ c w.heap.size o (.map (some w.heap.size)) [100,6]/\RI c w.heap.size w.heap.size/\Below w.heap.size w c:=by
 have g:=rQ w k fr i;clear i;go_in;go_wp2_with fail;refine g.mono ?_;rintro e a ⟨rfl,l,d⟩;have j:=d.size;have h:pQ (a.alloc (.cells #[.map (some w.heap.size),.slice none 0 0] 79 (0,0))) w.heap.size a.heap.size (.map (some w.heap.size)) []:=⟨⟨.slice none 0 0,heap_alloc_new a _,⟨rfl,.inl ⟨rfl,rfl⟩⟩⟩,j⟩;have f:=l.below ((Below.refl a.heap.size a).alloc (Nat.le_refl _) (.cells #[.map (some w.heap.size),.slice none 0 0] 79 (0,0)));have b:=d.alloc j (.cells #[.map (some w.heap.size),.slice none 0 0] 79 (0,0));have n:=cK f b;clear g l d f b;go_wp2_with fail;refine(lH _ w.heap.size a.heap.size (.map (some w.heap.size)) [] 6 h (by decide)).mono ?_;rintro e y ⟨rfl,m,u,b⟩;go_wp2_with fail;refine(lH _ w.heap.size a.heap.size (.map (some w.heap.size)) [6] 100 m (by decide)).mono ?_;rintro e x ⟨rfl,p,s,r⟩;go_wp2_with fail;go_ret;obtain⟨v,t,_⟩:=h.ex;obtain⟨z,q,_⟩:=m.ex;exact⟨_,rfl,p,(n.out.1.gp t u).gp q s,(n.out.2.trans b).trans r⟩
structure GB (W:World) (base gb mb:Nat):Prop where
 c:W.cell? ⟨gb,0,none⟩=some (.map (some mb))
 r:RI W base mb
theorem GB.below{W a:World}{base d mb:Nat}(h:GB W base d mb)(b:Below W.heap.size W a):GB a base d mb:=⟨aa b h.c,h.r.below b⟩
def dp(a:Int):Nat:=if a<100 then 0 else if a=100 then 3 else if a=102 then 2 else if a=110\/a=111 then 4 else if a=114 then 2 else if a=117 then 3 else if a=118 then 2 else if a=122 then 5 else if a=124 then 4 else 1
def FR(f:Nat)(t:Int)(r:List Int):Bool:=lW f (r.getD 0 0) t
def lL(c:List (List Int))(d:Nat):Bool:=decide (c.length<=30)&&c.all fun a=>decide (a.length<=6)&&a.all (fun b=>decide (1<=b/\b<=133))&&decide (dp (a.getD 0 0)+1<=d)
theorem ux:((List.range 256).all fun a=>lL (dl (a:Int)) (dp (a:Int)))=true:=by decide+kernel
theorem mW{a:Int}(b:0<=a)(c:a<=255):lL (dl a) (dp a)=true:=by
 have:=List.all_eq_true.1 ux a.toNat (by rw[List.mem_range];omega);rw[show((a.toNat:Nat):Int)=a by omega]at this;exact this
theorem FS{t:Int}(b:1<=t)(f:Nat)(r:List Int):FR (f+1) t r=(match r with|[]=>false|h::_=>lW (f+1) h t):=by
 cases r with
 |nil=>
  show lW (f+1) 0 t=false;rw[lW,if_pos (by decide)];exact decide_eq_false (by omega)
 |cons h a=>rfl
theorem yl{r:List Int}(h:r.length<=6):rc r=[.int .u8 (r.getD 0 0),.int .u8 (r.getD 1 0),.int .u8 (r.getD 2 0),.int .u8 (r.getD 3 0),.int .u8 (r.getD 4 0),.int .u8 (r.getD 5 0)]:=by
 match r,h with
 |[],_=>rfl
 |[_],_=>rfl
 |[_,_],_=>rfl
 |[_,_,_],_=>rfl
 |[_,_,_,_],_=>rfl
 |[_,_,_,_,_],_=>rfl
 |[_,_,_,_,_,_],_=>rfl
 |_::_::_::_::_::_::_::_,h=>simp at h
theorem cj.cell{W:World}{base g c n:Nat}{a:List (List Int)}(h:cj W base (.slice (some ⟨g,0,none⟩) n c) a)(m:∀r∈a,r.length<=6){k:Nat}{r:List Int}(d:a[k]?=some r){i:Nat}(v:i<6):
  W.cell? ⟨g,k*6+i,none⟩=some (.int .u8 (r.getD i 0)):=by
 have u:k<a.length:=(List.getElem?_eq_some_iff.1 d).1;have l:n=a.length:=by
  rcases h.2 with⟨h,_⟩|⟨q,t,s,h,_⟩
  ·cases h
  ·cases h;rfl
 subst l;rw[World.ownsRow.cellAt h (k*6+i) (by omega)];have f:∀(a:List (List Int)),(∀r∈a,r.length<=6)->∀k r,a[k]?=some r->(oB a)[k*6+i]?=some (.int .u8 (r.getD i 0)):=by
  intro a
  induction a with
  |nil=>intro _ k r h;simp at h
  |cons b a o=>
   intro h k r e;have p:=h b (by simp);rw[show oB (b::a)=rc b++oB a from rfl];have j:(rc b).length=6:=by simp[rc];omega
   cases k with
   |zero=>
    simp at e;subst e;rw[List.getElem?_append_left (by omega),yl p];rcases(show i=0\/i=1\/i=2\/i=3\/i=4\/i=5 by omega) with rfl|rfl|rfl|rfl|rfl|rfl<;>rfl
   |succ k=>
    rw[List.getElem?_append_right (by omega),j,show(k+1)*6+i-6=k*6+i by omega];exact o (fun r d=>h r (by simp[d])) k r (by simpa using e)
 exact f a m k r d
def zM(W:World)(b:Nat)(x0 c a e d f:Int):World:=((((((W.setCell ⟨b,0,none⟩ (.int .u8 x0)).setCell ⟨b,1,none⟩ (.int .u8 c)).setCell ⟨b,2,none⟩ (.int .u8 a)).setCell ⟨b,3,none⟩ (.int .u8 e)).setCell ⟨b,4,none⟩ (.int .u8 d)).setCell ⟨b,5,none⟩ (.int .u8 f))
theorem uy{b:Nat}{W:World}{t:TypeId}{p l k j g e:Int}(h:W.heap[b]?=some (.cells #[.int .u8 p,.int .u8 l,.int .u8 k,.int .u8 j,.int .u8 g,.int .u8 e] t (0,0)))(x0 a c d f i:Int):(zM W b x0 a c d f i).heap[b]?=some (.cells #[.int .u8 x0,.int .u8 a,.int .u8 c,.int .u8 d,.int .u8 f,.int .u8 i] t (0,0)):=by
 unfold zM;have s0:(W.setCell ⟨b,0,none⟩ (.int .u8 x0)).heap[b]?=some (.cells #[.int .u8 x0,.int .u8 l,.int .u8 k,.int .u8 j,.int .u8 g,.int .u8 e] t (0,0)):=heap_setCell_same _ b 0 _ _ _ h;have q:((W.setCell ⟨b,0,none⟩ (.int .u8 x0)).setCell ⟨b,1,none⟩ (.int .u8 a)).heap[b]?=some (.cells #[.int .u8 x0,.int .u8 a,.int .u8 k,.int .u8 j,.int .u8 g,.int .u8 e] t (0,0)):=heap_setCell_same _ b 1 _ _ _ s0;have r:(((W.setCell ⟨b,0,none⟩ (.int .u8 x0)).setCell ⟨b,1,none⟩ (.int .u8 a)).setCell ⟨b,2,none⟩ (.int .u8 c)).heap[b]?=some (.cells #[.int .u8 x0,.int .u8 a,.int .u8 c,.int .u8 j,.int .u8 g,.int .u8 e] t (0,0)):=heap_setCell_same _ b 2 _ _ _ q;have n:((((W.setCell ⟨b,0,none⟩ (.int .u8 x0)).setCell ⟨b,1,none⟩ (.int .u8 a)).setCell ⟨b,2,none⟩ (.int .u8 c)).setCell ⟨b,3,none⟩ (.int .u8 d)).heap[b]?=some (.cells #[.int .u8 x0,.int .u8 a,.int .u8 c,.int .u8 d,.int .u8 g,.int .u8 e] t (0,0)):=heap_setCell_same _ b 3 _ _ _ r;have m:(((((W.setCell ⟨b,0,none⟩ (.int .u8 x0)).setCell ⟨b,1,none⟩ (.int .u8 a)).setCell ⟨b,2,none⟩ (.int .u8 c)).setCell ⟨b,3,none⟩ (.int .u8 d)).setCell ⟨b,4,none⟩ (.int .u8 f)).heap[b]?=some (.cells #[.int .u8 x0,.int .u8 a,.int .u8 c,.int .u8 d,.int .u8 f,.int .u8 e] t (0,0)):=heap_setCell_same _ b 4 _ _ _ n;have o:((((((W.setCell ⟨b,0,none⟩ (.int .u8 x0)).setCell ⟨b,1,none⟩ (.int .u8 a)).setCell ⟨b,2,none⟩ (.int .u8 c)).setCell ⟨b,3,none⟩ (.int .u8 d)).setCell ⟨b,4,none⟩ (.int .u8 f)).setCell ⟨b,5,none⟩ (.int .u8 i)).heap[b]?=some (.cells #[.int .u8 x0,.int .u8 a,.int .u8 c,.int .u8 d,.int .u8 f,.int .u8 i] t (0,0)):=heap_setCell_same _ b 5 _ _ _ m;exact o
theorem oL{w W:World}{base b:Nat}(h:Below base w W)(g:base<=b)(x0 c a e d f:Int):Below base w (zM W b x0 c a e d f):=by
 unfold zM
 iterate 6 refine Below.setCell ?_ g _
 exact h
theorem ym{fn:Func}{p u:Tmp}(h:fn.results=#[.cell p 133,.tmp u])(tmps:Array Value)(w:World)(g:Nat)(x0 c a e d f:Int)(b:Bool)(j:tmps.getD p undef= .pointer (some ⟨g,0,none⟩))(i:tmps.getD u undef= .bool b)
  (k:w.heap[g]?=some (.cells #[.int .u8 x0,.int .u8 c,.int .u8 a,.int .u8 e,.int .u8 d,.int .u8 f] 133 (0,0))):(results fn tmps).run Tryz.prog w= .ok (.tuple #[.agg #[.int .u8 x0,.int .u8 c,.int .u8 a,.int .u8 e,.int .u8 d,.int .u8 f],.bool b]) w:=by
 rw[results_cell_tmp h,j];simp only[asAddr,Sem.run_pure,Result.andThen_ok];rw[run_loadVar_row w g 133 133 _ _ _ k Tryz.underlying133 rfl (by kernel_rfl),Result.andThen_ok,i]
def yn(n:Nat):Prop:=∀(b:World)(e d g:Nat)(a c:Int),GB b e d g->0<=a->a<=133->dp a<=n->1<=c->c<=78->
 Calls Tryz.prog 61 #[.pointer (some ⟨d,0,none⟩),.int .u8 a,.int .u8 c] b fun h f=>h= .returned (.bool (lW (n+1) a c))/\Below b.heap.size b f
def IB(f:Nat)(a:List (List Int))(t:Int):List Int:=(a.find? (FR f t)).getD []
structure oM (f:Nat) (t:Int) (L:List (List Int)) (k:Nat) (r:List Int) (b:Bool):Prop where
 fd:IB f (L.drop k) t=r
 an:(L.drop k).any (FR f t)=b
theorem oN(n:Nat)(b6:yn n)(w:World)(base ao mb:Nat)(a t:Int)(M:GB w base ao mb)(V:0<=a)(c3:a<=133)(c8:dp a<=n+1)(bx:1<=t)(b1:t<=78)(z:List Int)(A:Bool)(bh:oM (n+1) t (dl a) 0 z A):
  Calls Tryz.prog 67 #[.pointer (some ⟨ao,0,none⟩),.int .u8 a,.int .u8 t] w fun e bA=>e= .returned (.tuple #[.agg (rc z).toArray,.bool A])/\Below w.heap.size w bA:=by
 obtain⟨D,cB,c7,W,a6⟩:=M.r.ex;obtain⟨U,f⟩:=a6 a V (by omega);have s:=mW V (show a<=255 by omega);generalize dl a=g at *;unfold lL at s;rw[Bool.and_eq_true,List.all_eq_true]at s;have b4:g.length<=30:=of_decide_eq_true s.1;have r:∀b∈g,b.length<=6:=fun b c=>by have:=s.2 b c;simp only[Bool.and_eq_true]at this;exact of_decide_eq_true this.1.1
 have b8:∀b∈g,dp (b.getD 0 0)<=n:=fun b c=>by have:=s.2 b c;simp only[Bool.and_eq_true]at this;have:=of_decide_eq_true this.2;omega
 have bE:∀b∈g,0<=b.getD 0 0/\b.getD 0 0<=133:=fun b c=>by
  have:=s.2 b c;simp only[Bool.and_eq_true,List.all_eq_true]at this;cases b with
  |nil=>simp
  |cons bD b=>have:=of_decide_eq_true (this.1.2 bD (by simp));simp;omega
 obtain⟨B,S⟩:=ah g.length;have K:=f;unfold cj at K;rw[S]at K b4;obtain⟨br,c1,a2⟩:=aB K;rw[a2]at U f;have a5:=M.c;have ck:=W.lt;have bs:=aa ((Below.refl w.heap.size w).alloc (Nat.le_refl _) (.cells #[.int .u8 0,.int .u8 0,.int .u8 0,.int .u8 0,.int .u8 0,.int .u8 0] 133 (0,0))) a5;have y:=sJ M f S bh;clear K f a2 s a6 M S bh;go_in;go_wp2_with (at_lookup;refine fO rfl _ _ rfl rfl W ?blk a V (by omega) rfl U ?_)
 case blk=>exact Below.heap_alloc _ _ _ ck
 have bk:(w.alloc (.cells #[.int .u8 0,.int .u8 0,.int .u8 0,.int .u8 0,.int .u8 0,.int .u8 0] 133 (0,0))).heap[w.heap.size]?=some (.cells #[.int .u8 0,.int .u8 0,.int .u8 0,.int .u8 0,.int .u8 0,.int .u8 0] 133 (0,0)):=heap_alloc_new w _;have bb:=(Below.refl w.heap.size w).alloc (Nat.le_refl _) (.cells #[.int .u8 0,.int .u8 0,.int .u8 0,.int .u8 0,.int .u8 0,.int .u8 0] 133 (0,0));clear U a5 bs W;go_loopw [17] (fun i wr=>∃d:Nat,d<=B/\i= .int .i64 d/\oM (n+1) t g d z A/\Below w.heap.size w wr/\wr.heap[w.heap.size]?=some (.cells #[.int .u8 0,.int .u8 0,.int .u8 0,.int .u8 0,.int .u8 0,.int .u8 0] 133 (0,0))) (fun i _=>B-(intOf i).toNat)
 case atStart=>exact⟨0,by omega,rfl,y.out.2.2.2,bb,bk⟩
 case round=>
  clear bb bk;obtain⟨d,cT,rfl,k,H,v⟩:=hrel;by_cases b9:d<B
  ·obtain⟨b,c⟩:∃b,g[d]?=some b:=⟨_,List.getElem?_eq_getElem (by rw[y.out.2.2.1];exact b9)⟩;have N:=List.mem_of_getElem? c;have f:=y.out.2.1.keep H;obtain⟨al,rfl⟩:∃al,br=some ⟨al,0,none⟩:=by
    rcases ay f with⟨X,_⟩|⟨al,c6,X⟩
    ·rw[y.out.2.2.1]at X;omega
    ·cases X;exact⟨_,rfl⟩
   have ap:=f.cell r c (i:=0) (by decide);have cl:=f.cell r c (i:=1) (by decide);have b5:=f.cell r c (i:=2) (by decide);have ca:=f.cell r c (i:=3) (by decide);have cm:=f.cell r c (i:=4) (by decide);have bt:=f.cell r c (i:=5) (by decide);obtain⟨h,I⟩:=ah (b.getD 0 0);obtain⟨m,ak⟩:=ah (b.getD 1 0);obtain⟨o,R⟩:=ah (b.getD 2 0);obtain⟨p,af⟩:=ah (b.getD 3 0);obtain⟨l,O⟩:=ah (b.getD 4 0);obtain⟨q,Z⟩:=ah (b.getD 5 0);rw[I]at ap;rw[ak]at cl;rw[R]at b5;rw[af]at ca;rw[O]at cm;rw[Z]at bt;rw[Nat.add_zero]at ap;obtain⟨ar,a4⟩:=bE b N;have a8:=b8 b N;rw[I]at ar a4 a8;have cN:(d:Int)<(B:Int):=by omega
   have cP:(0:Int)<=(d:Int):=by omega
   have am:=JL c N I ak R af O Z;clear c N I ak R af O Z f;have T:=H.alloc H.size (.cells #[.int .u8 h,.int .u8 m,.int .u8 o,.int .u8 p,.int .u8 l,.int .u8 q] 133 (0,0));have a9:=b6 _ base ao mb h t (y.out.1.below T) ar a4 a8 bx b1;go_wp2_with fail;refine a9.mono ?_;rintro e J ⟨rfl,L⟩;have cI:=H.size;have b7:=aj v;have bd:J.heap[wr.heap.size]?=some (.cells #[.int .u8 h,.int .u8 m,.int .u8 o,.int .u8 p,.int .u8 l,.int .u8 q] 133 (0,0)):=(L.block _ (by simp)).trans (heap_alloc_new wr _);have F:J.heap[w.heap.size]?=some (.cells #[.int .u8 0,.int .u8 0,.int .u8 0,.int .u8 0,.int .u8 0,.int .u8 0] 133 (0,0)):=((L.block _ (by simp;omega)).trans (Below.heap_alloc _ _ _ b7)).trans v;have a3:Below w.heap.size w J:=T.trans (L.mono (by simp;omega));have x:g.drop d=b::g.drop (d+1):=by
    obtain⟨b3,Y⟩:=List.getElem?_eq_some_iff.1 am.out.1;rw[List.drop_eq_getElem_cons b3,Y]
   have j:FR (n+1) t b=lW (n+1) h t:=by unfold FR;rw[am.out.2.2.1]
   have Q:rc b=[.int .u8 h,.int .u8 m,.int .u8 o,.int .u8 p,.int .u8 l,.int .u8 q]:=by
    obtain⟨_,Y,cc,ch,ct,cs,bN,cx⟩:=am.out;rw[yl (r b Y),cc,ch,ct,cs,bN,cx]
   clear a9 L T;cases hbv:lW (n+1) h t with
   |true=>
    have u:Hid (z=b/\A=true):=by
     rw[hbv]at j;refine⟨?_,?_⟩
     ·rw[<-k.fd,x];unfold IB;rw[List.find?_cons_of_pos j];rfl
     ·rw[<-k.an,x,List.any_cons,j];rfl
    have E:=uy F h m o p l q;have C:=oL a3 (Nat.le_refl _) h m o p l q;obtain⟨cF,c4,c5,c9,cz,c2⟩:=bz bd;obtain⟨z0,cq,cn,cb,b2,bl⟩:=bz F;obtain⟨cr,cw,cg,cf,bn,bo⟩:=er F;have G:=cK E C;clear E C bd F v;have bw:Hid (FR (n+1) t b=true/\rc b=[.int .u8 h,.int .u8 m,.int .u8 o,.int .u8 p,.int .u8 l,.int .u8 q]):=⟨j.trans hbv,Q⟩;clear j x Q hbv k;go_wp2_with fail;try rw[Exit.noGoto_ret]
    change bodyPost _ _ _ _ _ (zM J w.heap.size h m o p l q)
    refine bodyPost_ret (ym rfl _ _ w.heap.size h m o p l q true rfl rfl G.out.1) rfl ⟨?_,G.out.2⟩;rw[u.out.1,u.out.2,bw.out.2]
   |false=>
    have u:oM (n+1) t g (d+1) z A:=by
     rw[hbv]at j;refine⟨?_,?_⟩
     ·rw[<-k.fd,x];unfold IB;rw[List.find?_cons_of_neg (by rw[j];simp)]
     ·rw[<-k.an,x,List.any_cons,j];rfl
    clear j x Q hbv k;go_wp2_with fail;go_roundw
    case rel=>exact⟨d+1,by omega,by go_num,u,a3,F⟩
    case measure=>simp[intOf];omega
  ·obtain rfl:d=B:=by omega
   have u:Hid (z=[]/\A=false):=by
    have a7:g.drop d=[]:=List.drop_of_length_le (by rw[y.out.2.2.1];exact Nat.le_refl _);refine⟨?_,?_⟩
    ·rw[<-k.fd,a7];rfl
    ·rw[<-k.an,a7];rfl
   have E:=uy v 0 0 0 0 0 0;have C:=oL H (Nat.le_refl _) 0 0 0 0 0 0;obtain⟨z0,cq,cn,cb,b2,bl⟩:=bz v;obtain⟨cr,cw,cg,cf,bn,bo⟩:=er v;have G:=cK E C;clear E C v k;go_wp2_with fail;try rw[Exit.noGoto_ret]
   change bodyPost _ _ _ _ _ (zM wr w.heap.size 0 0 0 0 0 0)
   refine bodyPost_ret (ym rfl _ _ w.heap.size 0 0 0 0 0 0 false rfl rfl G.out.1) rfl ⟨?_,G.out.2⟩;rw[u.out.1,u.out.2];rfl
theorem G6{t:Int}(b:1<=t)(f:Nat)(a:List (List Int)):a.any (FR (f+1) t)=a.any (fun r=>match r with|[]=>false|h::_=>lW (f+1) h t):=by
 congr 1
 funext r
 exact FS b f r
theorem me(n:Nat)(l:n=0\/∃m,n=m+1/\yn m):yn n:=by
 intro z v C x a c y s u N k A;by_cases g:a<100
 ·have e:lW (n+1) a c=decide (a=c):=by rw[lW,if_pos g]
  rw[e];have w:(a==c)=decide (a=c):=by rw[Bool.eq_iff_iff];simp
  obtain⟨J,o⟩:=ah (decide (a=c));rw[o]at w⊢;have E:(decide (a<100))=true:=decide_eq_true g;clear e o;go_in;go_wp2_with fail;go_ret;exact⟨rfl,Below.refl _ _⟩
 ·have G:1<=dp a:=by unfold dp;rw[if_neg g];repeat (first|(split;· omega)|omega)
  obtain⟨m,rfl,p⟩:=l.resolve_left (by omega);obtain⟨b,h,i⟩:∃b h,oM (m+1) c (dl a) 0 b h:=⟨_,_,⟨rfl,rfl⟩⟩;have e:lW (m+1+1) a c=h:=by
   rw[lW,if_neg g];refine(G6 k m (dl a)).symm.trans ?_;rw[<-i.an];rfl
  rw[e];have d:=oN m p z v C x a c y s u (by omega) k A b h i;have r:b.length<=6:=by
   have j:=mW s (show a<=255 by omega);unfold lL at j;rw[Bool.and_eq_true,List.all_eq_true]at j;have f:=i.fd;unfold IB at f;cases hf:List.find? (FR (m+1) c) (List.drop 0 (dl a)) with
   |none=>rw[hf]at f;rw[<-f];exact Nat.zero_le _
   |some q=>
    rw[hf]at f;have B:q∈dl a:=List.mem_of_find?_eq_some hf;have:=j.2 q B;simp only[Bool.and_eq_true]at this;rw[<-f];exact of_decide_eq_true this.1.1
  rw[yl r]at d;have E:(decide (a<100))=false:=decide_eq_false g;generalize b.getD 0 0=K at d;generalize b.getD 1 0=M at d;generalize b.getD 2 0=F at d;generalize b.getD 3 0=H at d;generalize b.getD 4 0=I at d;generalize b.getD 5 0=O at d;clear i e r p l;go_in;go_wp2_with (go_at_call 67;refine d.mono ?_;rintro e L ⟨rfl,t⟩);go_ret;exact⟨rfl,t.alloc t.size _⟩
theorem jE:∀n,yn n
 |0=>me 0 (.inl rfl)
 |n+1=>me (n+1) (.inr ⟨n,rfl,jE n⟩)
attribute [local go_sem] Oper.semAt_some
theorem G7(w:World):(Op.equalIn 10000 133 (.agg #[.int .u8 0,.int .u8 0,.int .u8 0,.int .u8 0,.int .u8 0,.int .u8 0]) (.agg #[.int .u8 0,.int .u8 0,.int .u8 0,.int .u8 0,.int .u8 0,.int .u8 0])).run Tryz.prog w= .ok true w:=by kernel_rfl
theorem G8{x0:Int}(h:x0≠0)(b a e d c:Int)(w:World):(Op.equalIn 10000 133 (.agg #[.int .u8 0,.int .u8 0,.int .u8 0,.int .u8 0,.int .u8 0,.int .u8 0]) (.agg #[.int .u8 x0,.int .u8 b,.int .u8 a,.int .u8 e,.int .u8 d,.int .u8 c])).run Tryz.prog w= .ok false w:=by
 have f:=Tryz.underlying81;have j:=Tryz.isAgg81;have i:=Tryz.sizeOf81;have g:(0==x0)=false:=by rw[beq_eq_false_iff_ne];omega
 rw[show(10000:Nat)=9999+1 from rfl,Op.equalIn];simp only[Sem.run_bind,run_underlying Tryz.underlying133,Result.andThen_ok];simp only[Std.Legacy.Range.forIn_eq_forIn_range',Std.Legacy.Range.size,Nat.sub_zero,Nat.add_sub_cancel,Nat.div_one,List.range'_succ,List.range'_zero,List.forIn_cons,List.forIn_nil];go_simp
theorem uz{B:Nat}{a w:World}(h:Below B a w)(n:Nat):Below B a (w.drewN n):=⟨h.os,h.tape,h.output,h.size,h.block⟩
structure rS (L:List (List Int)) (k:Nat) (b:Bool):Prop where
 out:(L.drop k).contains []=b
theorem zN(w:World)(base:Nat)(v:Value)(c:List (List Int))(f:Bool)(b:cj w base v c)(K:c.length<=30)(h:∀r∈c,r.length<=6)(X:∀r∈c,r≠[]->1<=r.getD 0 0)(C:rS c 0 f):
  Calls Tryz.prog 162 #[v,.agg #[.int .u8 0,.int .u8 0,.int .u8 0,.int .u8 0,.int .u8 0,.int .u8 0]] w fun e S=>(∃z,e= .returned (.int .i64 z)/\decide (0<=z)=f)/\Below w.heap.size w S:=by
 obtain⟨j,q⟩:=ah c.length;have m:=b;unfold cj at m;rw[q]at m K;obtain⟨L,ar,rfl⟩:=aB m;have l:=cS b q C;clear b m q C;go_in;go_wp2_with fail;have H:(w.alloc (.cells #[.int .u8 0,.int .u8 0,.int .u8 0,.int .u8 0,.int .u8 0,.int .u8 0] 133 (0,0))).heap[w.heap.size]?=some (.cells #[.int .u8 0,.int .u8 0,.int .u8 0,.int .u8 0,.int .u8 0,.int .u8 0] 133 (0,0)):=heap_alloc_new w _;have E:=(Below.refl w.heap.size w).alloc (Nat.le_refl _) (.cells #[.int .u8 0,.int .u8 0,.int .u8 0,.int .u8 0,.int .u8 0,.int .u8 0] 133 (0,0));go_loopw [8] (fun i wr=>∃a:Nat,a<=j/\i= .int .i64 a/\rS c a f/\Below w.heap.size w wr/\wr.heap[w.heap.size]?=some (.cells #[.int .u8 0,.int .u8 0,.int .u8 0,.int .u8 0,.int .u8 0,.int .u8 0] 133 (0,0))) (fun i _=>j-(intOf i).toNat)
 case atStart=>exact⟨0,by omega,rfl,l.out.2.2,E,H⟩
 case round=>
  clear E H;obtain⟨a,an,rfl,g,o,B⟩:=hrel;by_cases M:a<j
  ·obtain⟨r,d⟩:∃r,c[a]?=some r:=⟨_,List.getElem?_eq_getElem (by rw[l.out.2.1];exact M)⟩;have u:=List.mem_of_getElem? d;have b:=l.out.1.keep o;obtain⟨s,rfl⟩:∃s,L=some ⟨s,0,none⟩:=by
    rcases ay b with⟨p,_⟩|⟨s,am,p⟩
    ·rw[l.out.2.1]at p;omega
    ·cases p;exact⟨_,rfl⟩
   have t:=b.cell h d (i:=0) (by decide);have F:=b.cell h d (i:=1) (by decide);have x:=b.cell h d (i:=2) (by decide);have A:=b.cell h d (i:=3) (by decide);have G:=b.cell h d (i:=4) (by decide);have y:=b.cell h d (i:=5) (by decide);rw[Nat.add_zero]at t;have R:r=[]\/1<=r.getD 0 0:=(Decidable.em (r=[])).imp_right (X r u);have n:c.drop a=r::c.drop (a+1):=by
    obtain⟨I,J⟩:=List.getElem?_eq_some_iff.1 d;rw[List.drop_eq_getElem_cons I,J]
   obtain⟨Z,af,al,ap,Y,ao⟩:=bz B;have ak:(a:Int)<(j:Int):=by omega
   have N:(0:Int)<=(a:Int):=by omega
   rcases R with rfl|hpos
   ·have k:Hid (f=true):=by
     show f=true;rw[<-g.out,n];simp
    simp only[List.getD_nil]at t F x A G y;have Q:=fun w=>G7 w;clear n g d u;go_wp2_with fail;go_quiet (fail)
    go_wp2_with fail;try rw[Exit.noGoto_ret]
    go_ret;exact⟨⟨_,rfl,by rw[k.out];exact decide_eq_true N⟩,uz o nq⟩
   ·have k:rS c (a+1) f:=by
     refine⟨?_⟩;rw[<-g.out,n,List.contains_cons];have:([]==r)=false:=by
      rw[beq_eq_false_iff_ne];rintro rfl;simp at hpos
     rw[this,Bool.false_or]
    generalize r.getD 0 0=x0 at t hpos;generalize r.getD 1 0=V at F;generalize r.getD 2 0=O at x;generalize r.getD 3 0=T at A;generalize r.getD 4 0=U at G;generalize r.getD 5 0=W at y;have Q:=fun w=>G8 (x0:=x0) (by omega) V O T U W w;clear n g d u;go_wp2_with fail;go_quiet (fail)
    go_wp2_with fail;go_roundw
    case rel=>exact⟨a+1,by omega,by go_num,k,uz o nq,B⟩
    case measure=>simp[intOf];omega
  ·obtain rfl:a=j:=by omega
   have k:Hid (f=false):=by
    show f=false;rw[<-g.out,List.drop_of_length_le (by rw[l.out.2.1];exact Nat.le_refl _)];rfl
   clear g;go_wp2_with fail;go_ret;exact⟨⟨-1,rfl,by rw[k.out];rfl⟩,o⟩
theorem rT(w:World)(base:Nat)(v:Value)(a:List (List Int))(b:Bool)(f:cj w base v a)(j:a.length<=30)(i:∀r∈a,r.length<=6)(k:∀r∈a,r≠[]->1<=r.getD 0 0)(d:rS a 0 b):
  Calls Tryz.prog 122 #[v,.agg #[.int .u8 0,.int .u8 0,.int .u8 0,.int .u8 0,.int .u8 0,.int .u8 0]] w fun e h=>e= .returned (.bool b)/\Below w.heap.size w h:=by
 have c:=(Below.refl w.heap.size w).alloc (Nat.le_refl _) (.cells #[.int .u8 0,.int .u8 0,.int .u8 0,.int .u8 0,.int .u8 0,.int .u8 0] 133 (0,0));have m:=zN _ base v a b (f.keep c) j i k d;clear f d;go_in;go_wp2_with (go_at_call 162;refine m.mono ?_;rintro e o ⟨⟨n,rfl,g⟩,l⟩);go_ret;refine⟨?_,c.trans (l.mono (by simp))⟩;rw[<-g];rfl
theorem EV(w:World)(base l mb:Nat)(a:Int)(j:GB w base l mb)(i:0<=a)(A:a<=133):
  Calls Tryz.prog 62 #[.pointer (some ⟨l,0,none⟩),.int .u8 a] w fun e r=>e= .returned (.bool (tr a))/\Below w.heap.size w r:=by
 obtain⟨D,q,C,z,m⟩:=j.r.ex;obtain⟨t,k⟩:=m a i (by omega);have d:=mW i (show a<=255 by omega);unfold tr;generalize dl a=f at *;unfold lL at d;rw[Bool.and_eq_true,List.all_eq_true]at d;have n:f.length<=30:=of_decide_eq_true d.1;have x:∀b∈f,b.length<=6:=fun b g=>by have:=d.2 b g;simp only[Bool.and_eq_true]at this;exact of_decide_eq_true this.1.1
 have u:∀b∈f,b≠[]->1<=b.getD 0 0:=fun b g p=>by
  have:=d.2 b g;simp only[Bool.and_eq_true,List.all_eq_true]at this;cases b with
  |nil=>exact absurd rfl p
  |cons s b=>have:=of_decide_eq_true (this.1.2 s (by simp));simp;omega
 obtain⟨o,h⟩:=ah (f.contains []);have v:=rT w base (q a) f o k n x u ⟨h⟩;rw[h];have B:=j.c;clear k d m j h;go_in;go_wp2_with (first
  |(at_lookup;refine fO rfl _ _ rfl rfl z rfl a i (by omega) rfl t ?_)
  |(go_at_call 122;refine v.mono ?_;rintro e E ⟨rfl,y⟩))
 go_ret;exact⟨rfl,y⟩
end Go.Proofs.YtcbmoiabehpliaaGreatDoor
