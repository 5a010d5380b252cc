import Derived.Test.YtnoojdbdapljoaaGreatDoorHOk04
import Derived.Test.YtnoojdbdapljoaaGreatDoorHOk09
import Derived.Deep.Strs
import Derived.OpenShut
import Derived.Test.YtnoojdbdapljoaaGreatDoorHOk02
import Derived.Lib.ItoaLen
set_option linter.all false
open Go renaming World->M,Value->V,Program->Y,KeepsFrom->A1
open Option renaming some->O,none->Z
open Go.World renaming putObj_heap_other->Q
open Bool renaming true->U,false->A0
open Go.Fence renaming wide->Ax
namespace Go.Proofs.YtnoojdbdapljoaaGreatDoor
open Go.RowKit
structure Nb where
 N:Nd
 g:Nat
 h:Nat
def Nb.vn(x:Nb):V:= .slice (O ⟨x.g,0,Z⟩) x.N.nm.length x.N.nm.length
def Nb.vk(x:Nb):V:= .slice (O ⟨x.h,0,Z⟩) x.N.ks.length x.N.ks.length
def cNb(x:Nb):List V:=[.int .i64 x.N.k,.int .i64 x.N.f,.int .i64 x.N.t,.int .i64 x.N.l,.int .i64 x.N.op,.int .i64 x.N.n,.string x.N.x,x.vn,x.vk]
def C9(a:List Nb):List V:=a.flatMap cNb
def zc:List V:=[.int .i64 0,.int .i64 0,.int .i64 0,.int .i64 0,.int .i64 0,.int .i64 0,.string ⟨#[]⟩,.slice Z 0 0,.slice Z 0 0]
theorem EH(b:List Nb):(C9 b).length=b.length*9:=by
 induction b with
 |nil=>rfl
 |cons a c e=>
  have d:C9 (a::c)=cNb a++C9 c:=by simp[C9]
  have f:(cNb a).length=9:=rfl;rw[d,aC,e,f,di];omega
structure zq (W:M) (base:Nat) (x:Nb):Prop where
 on:W.ownsRow base 9 1 x.vn x.N.nm.length (x.N.nm.map Value.string)
 ok:W.ownsRow base 3 1 x.vk x.N.ks.length (x.N.ks.map (Value.int .i64))
theorem zq.below{a b:M}{base:Nat}{x:Nb}(h:zq a base x)(c:Below a.heap.size a b):zq b base x:=⟨aG h.on c,aG h.ok c⟩
theorem KC{b:M}{j k d e s t f g h i c1 l:Nat}{u x2:List V}(n:b.ownsRow j d s (.slice (O ⟨f,0,Z⟩) h c1) h u)(o:b.ownsRow k e t (.slice (O ⟨g,0,Z⟩) i l) i x2)(p:d≠e):f≠g:=by
 rintro rfl;rcases n.2 with⟨a,_⟩|⟨z,v,x,a,_,q,_⟩
 ·cases a
 ·cases a;rcases o.2 with⟨a,_⟩|⟨A,w,y,m,_,r,_⟩
  ·cases a
  ·cases m;have c:=q.symm.trans r;simp only[gg,jh]at c;exact p c.2.1
theorem zq.set{b:M}{base:Nat}{x:Nb}(h:zq b base x){a:Addr}(c:x.g≠a.block)(d:x.h≠a.block)(u:V):zq (b.setCell a u) base x:=
 ⟨ownsRow_setCell_other h.on (by unfold Nb.vn Value.ownBlock;simp;exact c) u,ownsRow_setCell_other h.ok (by unfold Nb.vk Value.ownBlock;simp;exact d) u⟩
structure oC (W:M) (base g n:Nat) (L:List Nb) (rest:List V):Prop where
 row:W.ownsRow base 35 9 (.slice (O ⟨g,0,Z⟩) n n) n (C9 L++rest)
 each:∀x∈L,zq W base x
 dn:(L.map Nb.g).Nodup
 dk:(L.map Nb.h).Nodup
theorem oC.below{a c:M}{base g n:Nat}{b:List Nb}{e:List V}(h:oC a base g n b e)(d:Below a.heap.size a c):oC c base g n b e:=
 ⟨aG h.row d,fun i f=>(h.each i f).below d,h.dn,h.dk⟩
theorem oC.le{c:M}{base d g n:Nat}{b:List Nb}{f:List V}(h:oC c base g n b f)(a:d<=base):oC c d g n b f:=
 ⟨jL h.row a,fun i e=>⟨jL (h.each i e).on a,jL (h.each i e).ok a⟩,h.dn,h.dk⟩
theorem afj(c:List Nb)(i j:Nat)(T:Nb)(a:c[i]?=O T)(h:j<9):(C9 c)[i*9+j]?=(cNb T)[j]?:=by
 induction c generalizing i with
 |nil=>simp at a
 |cons b d f=>
  have e:C9 (b::d)=cNb b++C9 d:=by simp[C9]
  have g:(cNb b).length=9:=rfl;rw[e];cases i with
  |zero=>simp at a;subst a;rw[ie (by omega)];congr 1;omega
  |succ i=>
   rw[gc (by omega),g,show(i+1)*9+j-9=i*9+j by omega];exact f i (by simpa using a)
theorem vD(g m:Nat):(⟨g,0,Z⟩:Addr).add m=⟨g,m,Z⟩:=by unfold Addr.add;split<;>simp_all
theorem oC.nd{e:M}{base g n:Nat}{b:List Nb}(h:oC e base g n b []){i:Nat}{x:Nb}(d:b[i]?=O x):GI e ⟨g,i*9,Z⟩ x.N x.vn x.vk:=by
 have l:n*9=b.length*9:=by have:=h.row.1;rw[dA,EH]at this;omega
 have k:i<b.length:=by rcases cA i b.length with g|g;exact g;rw[fG g]at d;cases d
 have a:∀c,c<9->e.cell? ⟨g,i*9+c,Z⟩=(cNb x)[c]?:=fun c j=>by
  rw[h.row.cellAt (i*9+c) (by omega),dA,afj b i c x d j]
 have f:=bC d;exact⟨a 0 (by omega),a 1 (by omega),a 2 (by omega),a 3 (by omega),a 4 (by omega),a 5 (by omega),a 6 (by omega),a 7 (by omega),a 8 (by omega),Ep (h.each x f).on rfl,Er (h.each x f).ok rfl⟩
theorem oC.nds{c:M}{base g n:Nat}{b:List Nb}(h:oC c base g n b []):cg c (.slice (O ⟨g,0,Z⟩) n n) (b.map Nb.N):=by
 have d:n=(b.map Nb.N).length:=by have:=h.row.1;rw[dA,EH]at this;rw[dv];omega
 refine .inr ⟨⟨g,0,Z⟩,n,by rw[<-d],fun e N a=>?_⟩;rw[cj]at a;cases hx:b[e]? with
 |none=>rw[hx]at a;cases a
 |some f=>
  rw[hx]at a;obtain rfl:=db a;rw[vD];exact⟨_,_,h.nd hx⟩
def wpU(P:Y)(e:Region.Mode)(c:Array Oper)(d:Exit->Act->M->Prop)(S g:M->Prop)(C:Nat->Bool):Nat->Array Bool->Act->M->Prop
 |0,b,a,w=>Region.ready e c b=[]/\d .normal a w
 |fuel+1,b,a,w=>
  (Region.ready e c b=[]->d .normal a w)/\
  ∀i∈Region.ready e c b,wpOp P c d i (fun h f=>(g f/\(C i=U->S f))/\wpU P e c d S g C fuel (b.setIfInBounds i U) h f) a w
theorem zr{P:Y}{g:Array Oper}{b:Exit->Act->M->Prop}{f:Region.Mode}{S c:M->Prop}{C:Nat->Bool}:∀(fuel:Nat)(e:Array Bool)(a:Act)(w:M),wpU P f g b S c C fuel e a w->wpAnyH P f g b c fuel e a w
 |0,_,_,_,h=>h
 |fuel+1,_,_,_,h=>⟨h.1,fun i k=>wpOp_mono (fun j l d=>⟨d.1.1,zr fuel _ j l d.2⟩) (h.2 i k)⟩
theorem rC{P:Y}{f:Array Oper}{s:Exit->Act->M->Prop}{m:Region.Mode}{S y:M->Prop}{C:Nat->Bool}{i:Nat}{n:Oper}{v:V}(G:f[i]?=O n)(ad:∀(j:Nat) (ak:Oper) cs b,f[j]?=O ak->ak.op≠ .select cs b)
  (ar:∀c a w,s (.panic c) (a.put n.dst v) w->s (.panic c) a w) (ao:∀(j:Nat) d,f[j]?=O d->C j=A0->∃e∈d.after,Region.binds m e=U/\e.on=i):
  ∀(fuel:Nat)(g:Array Bool)(a:Act)(w:M),
   (∀j d,f[j]?=O d->j≠i->g.getD j U=A0->(∀e∈d.after,Region.binds m e=U->e.on≠i)->n.apart f d=U)->
   i∈Region.ready m f g->YieldsIf P f S n v a->y w->S w->
   wpU P m f s S y C fuel (g.setIfInBounds i U) (a.put n.dst v) w->wpAnyH P m f s y (fuel+1) g a w:=by
 intro fuel
 induction fuel with
 |zero=>
  intro g a w _ l x A hS p;refine⟨fun z=>(by rw[z]at l;cases l),fun j t=>?_⟩;by_cases h:j=i
  ·subst h;exact x.wpOp G hS ⟨A,zr _ _ _ _ p⟩
  ·have:=ready_mono t h;rw[p.1]at this;cases this
 |succ fuel a4=>
  intro g a w I l x A hS p;refine⟨fun z=>(by rw[z]at l;cases l),fun j t=>?_⟩;by_cases h:j=i
  ·subst h;exact x.wpOp G hS ⟨A,zr _ _ _ _ p⟩
  ·have k:=p.2 j (ready_mono t h);obtain⟨K,d,u,av⟩:=mem_ready.1 t;have L:∀e∈d.after,Region.binds m e=U->e.on≠i:=fun e E B F=>by
    have k:=av e E B;have H:=(mem_ready.1 l).1;rw[F]at k;rcases cA i g.size with h'|h'
    ·simp[h']at H k;rw[H]at k;cases k
    ·simp[xJ h']at k
   have ap:C j=U:=by
    cases hc:C j with
    |true=>rfl
    |false=>
     obtain⟨e,E,B,F⟩:=ao j d u hc;exact absurd F (L e E B)
   have an:=wpOp_putIf u (I j d u h K L) (fun cs b=>ad i n cs b G) (fun cs b=>ad j d cs b u) ar x k;have a0:∀o r,f[o]?=O r->o≠i->(g.setIfInBounds j U).getD o U=A0->
     (∀e∈r.after,Region.binds m e=U->e.on≠i)->n.apart f r=U:=fun o r a1 a2 af a3=>by
    refine I o r a1 a2 ?_ a3;by_cases J:j=o
    ·subst J;exact K
    ·rw[getD_set_ne U J]at af;exact af
   refine wpOp_mono (fun am a5 q=>⟨q.2.1.1,a4 (g.setIfInBounds j U) am a5 a0 (ready_mono l (gI h)) q.1 q.2.1.1 (q.2.1.2 ap) ?_⟩) an;rw[Array.setIfInBounds_comm _ _ h];exact q.2.2
theorem fi{P:Y}{b:Array Oper}{d:Exit->Act->M->Prop}{g:Region.Mode}{S c:M->Prop}{C:Nat->Bool}{i:Nat}{j:Oper}{fuel:Nat}{f:Array Bool}{a:Act}{w:M}(q:Region.ready g b f=[i])(v:b[i]?=O j)
  (h:∀k:Act->M->Prop,Shut (∀a w,c w->(C i=U->S w)->wpU P g b d S c C fuel (f.setIfInBounds i U) a w->k a w)->if Region.wanted j (yielded b a.tmps)=U then Oper.wp P j a w k d else k (a.put j.dst undef) w):wpU P g b d S c C (fuel+1) f a w:=by
 refine⟨fun o=>(by rw[q]at o;cases o),fun m p=>?_⟩;rw[q]at p;obtain rfl:m=i:=by simpa using p
 have e:=h (fun r n=>(c n/\(C m=U->S n))/\wpU P g b d S c C fuel (f.setIfInBounds m U) r n) (fun a w s t u=>⟨⟨s,t⟩,u⟩);unfold wpOp;simp only[v];split
 ·rename_i l;rw[ab l]at e;exact .inl e
 ·rename_i l;rw[aa l]at e;exact e
theorem uo{P:Y}{f:Array Oper}{b:Exit->Act->M->Prop}{e:Region.Mode}{S g:M->Prop}{C:Nat->Bool}{d:Array Bool}{a:Act}{w:M}(c:Region.ready e f d=[])(h:b .normal a w):
  ∀fuel,wpU P e f b S g C fuel d a w
 |0=>⟨c,h⟩
 |_+1=>⟨fun _=>h,by rw[c];simp⟩
def abv(b:Nat)(c:M)(d X:M->Prop):Exit->Act->M->Prop
 | .normal,_,a=>A1 b c a/\d a
 | .ret,_,a=>A1 b c a/\X a
 |_,_,_=>False
theorem BH{P:Y}{n:Nat}{g:Operand}{q:Array Tmp}{assign body:Go.Code}{E:Exit->Act->M->Prop}{a:Act}{w:M}{gf:Nat}{lb:Array V}
  (bl:a.eval g= .func (.func gf) #[] lb) (a1:∀args w,(callFunc gf args).run P w= .ok (.enter gf args) w) (enc:Nat->Array V) (bp:∀x,(enc x).size=q.size) (A:Nat)
  (j:Nat->M->Prop) (C:Nat->Act->M->Prop) (X:M->Prop)
  (a0:∀m b r B,j m b->b.heap[w.heap.size+1]?=O (.loop r)->j m (b.putObj (w.heap.size+1) B))
  (bw:∀m h b r B,C m h b->b.heap[w.heap.size+1]?=O (.loop r)->C m h (b.putObj (w.heap.size+1) B)) (av:∀b r B,X b->b.heap[w.heap.size+1]?=O (.loop r)->X (b.putObj (w.heap.size+1) B))
  (a2:∀d,Below w.heap.size w d->d.heap.size=w.heap.size+2->j A d)
  (a6:∀(o m:Nat) b (ak:Act->M->Prop),m<A->j (m+1) b->(∀h c,C m h c->A1 w.heap.size b c->ak h c)->
   assign.wpIn (Fence.wide.inRound o) (n-1-1) P (Exit.then ak (fun _ _ _=>False)) {tmps:=(q.zip (enc m)).foldl (fun t (p,v)=>t.setIfInBounds p v) a.tmps,defers:=[]} b)
  (a8:∀(o m:Nat) h b,m<A->C m h b->body.wpIn (Fence.wide.inRound o) (n-1-1) P (abv w.heap.size b (j m) X) h b)
  (bt:∀(o:Nat)(s:Nat->M->Prop)(af:M->Prop),(∀m b,s m b->j m b)->
   (∀m b,m<A->s (m+1) b->YieldAt Ax (n-1-1) P o (enc m) b fun e c=>(e= .returned (.bool U)/\s m c)\/(e= .returned (.bool A0)/\af c))->
   ∀b,s A b->CallsIn Ax (n-1) P gf (#[.func (.yield o) #[] #[]]++lb) b fun e c=>(∃v,e= .returned v)/\(s 0 c\/af c))
  (bd:∀b,j 0 b->b.heap[w.heap.size]?=O (.deferred (O []))->E .normal {a with defers:={target:= .collected w.heap.size,args:=#[]}::a.defers} b)
  (br:∀b,X b->b.heap[w.heap.size]?=O (.deferred (O []))->E .ret {a with defers:={target:= .collected w.heap.size,args:=#[]}::a.defers} b):
  (Go.Code.rangeFunc g q assign body).wpIn Ax n P E a w:=by
 refine wpIn_rangeFunc ?_;intro fn bf;show ∃o b4 b5 b0 b6 b1 args b7,(Instr.enterLoop fn a.tmps q assign body Z).run P w=_/\_;obtain⟨f,i⟩:∃f:LoopState->Option Go.Code->Loop,f=fun bA bx=>{state:=bA,pending:=bx,fn,tmps:=a.tmps,params:=q,assign,body,defers:=w.heap.size}:=⟨_,rfl⟩;have I:=run_enterLoop_outer (P:=P) (w:=w) fn a.tmps q assign body;rw[show({state:= .ready,pending:=Z,fn,tmps:=a.tmps,params:=q,assign,body,defers:=w.heap.size}:Loop)=f .ready Z by rw[i]]at I;obtain⟨d,u⟩:=aA ((w.alloc (.deferred (O []))).alloc (.loop (f .ready Z)));rw[u]at I;have bn:d.heap[w.heap.size+1]?=O (.loop (f .ready Z)):=by
  rw[<-u];have:=World.alloc_heap_new (w.alloc (.deferred (O []))) (.loop (f .ready Z));rwa [ba]at this
 have a9:d.heap[w.heap.size]?=O (.deferred (O [])):=by
  rw[<-u];exact(dr _ _ _ (by simp)).trans (World.alloc_heap_new w _)
 have a7:Below w.heap.size w d:=by rw[<-u];exact((aj _ w).alloc (ah _) _).alloc (by simp) _
 have bs:d.heap.size=w.heap.size+2:=by rw[<-u];simp
 refine⟨w.heap.size+1,[{target:= .collected w.heap.size,args:=#[]}],d,{target:= .fn (.func gf) lb,args:=#[.func (.yield (w.heap.size+1)) #[] #[]]},d,gf,
  #[.func (.yield (w.heap.size+1)) #[] #[]]++lb,d,I,?_,?_,?_,fun F=>by simp[Ax]at F,?_⟩
 ·simp only[resolve,bl];simp[go_sem]
 ·intro b2 b3;trivial
 ·simp[invoke,go_sem,a1]
 ·refine(bt (w.heap.size+1) (fun m b=>j m b/\b.heap[w.heap.size+1]?=O (.loop (f .ready Z))/\b.heap[w.heap.size]?=O (.deferred (O [])))
   (fun b=>X b/\b.heap[w.heap.size+1]?=O (.loop (f .done (O .ret)))/\b.heap[w.heap.size]?=O (.deferred (O []))) (fun _ _ F=>F.1) ?_ d ⟨a2 d a7 bs,bn,a9⟩).mono ?_
  ·rintro m b ap ⟨G,k,y⟩;have ar:=run_yield (P:=P) (args:=enc m) k (by rw[i];exact bp m);rw[i]at ar;refine⟨fn,_,assign,body,ar,roundIn_of_wpIn bf (a6 _ m b _ ap G fun h c a4 an=>?_)⟩;have J:=an.same _ _ (by omega) k rfl;have bb:=an.same _ _ (ah _) y rfl;have bo:w.heap.size+1<c.heap.size:=(Array.getElem?_eq_some_iff.1 J).1;refine⟨_,run_beginRound J (by rw[i]),?_⟩;have ao:(c.putObj (w.heap.size+1) (.loop {f .ready Z with state:= .busy})).heap[w.heap.size+1]?=O (.loop {f .ready Z with state:= .busy}):=World.putObj_heap_same bo;have am:(c.putObj (w.heap.size+1) (.loop {f .ready Z with state:= .busy})).heap[w.heap.size]?=O (.deferred (O [])):=(Q (by omega)).trans bb;refine wpIn_mono (a8 _ m h _ ap (bw _ _ _ _ _ a4 J)) ?_;rintro e bF bE L;cases e with
   |normal=>
    obtain⟨z,ad⟩:=L;have l:=z.same _ _ (by omega) ao rfl;have H:=z.same _ _ (ah _) am rfl;have K:=(Array.getElem?_eq_some_iff.1 l).1;refine⟨_,_,run_endRound (P:=P) Z l,.inl ⟨rfl,a0 _ _ _ _ ad l,?_,(Q (by omega)).trans H⟩⟩;rw[World.putObj_heap_same K];simp[i]
   |ret=>
    obtain⟨z,ad⟩:=L;have l:=z.same _ _ (by omega) ao rfl;have H:=z.same _ _ (ah _) am rfl;have K:=(Array.getElem?_eq_some_iff.1 l).1;refine⟨_,_,run_endRound (P:=P) (O .ret) l,.inr ⟨rfl,av _ _ _ ad l,?_,(Q (by omega)).trans H⟩⟩;rw[World.putObj_heap_same K];simp[i]
   |_=>exact L.elim
  ·rintro e bD ⟨⟨v,rfl⟩,⟨G,k,y⟩|⟨a5,k,y⟩⟩
   ·refine⟨Z,_,by have:=run_endLoop (P:=P) k (by rw[i];simp);rw[i]at this;exact this,?_⟩;exact bd _ (a0 _ _ _ _ G k) ((Q (by omega)).trans y)
   ·refine⟨O .ret,_,by have:=run_endLoop (P:=P) k (by rw[i];simp);rw[i]at this;exact this,?_⟩;exact wpIn_ret (br _ (av _ _ _ a5 k) ((Q (by omega)).trans y))
theorem G6{P:Y}{b n:Nat}{i:Oper}{a:Act}{e:Act->M->Prop}{f:Exit->Act->M->Prop}(r:Result Next)(h:i.upon P a e f r):i.uponIn (Fence.wide.inRound b) n P a e f r:=by
 have g:(Fence.wide.inRound b).depth.isSome=U->1<=n:=fun h=>by simp[Ax,Fence.inRound]at h
 cases r with
 |ok d m=>
  cases d with
  |value c=>exact h
  |skip=>exact h
  |defer p=>exact h
  |enter q args=>exact⟨g,CallsIn.inRound b (callsIn_wide.2 h)⟩
  |row row args=>exact⟨g,fun j k _=>let ⟨c,o,r,l⟩:=h j k;⟨c,o,r,stepsIn_wide.2 l⟩⟩
  |_=>exact h.elim
 |halt d m=>
  cases d with
  |panic c=>exact h
  |_=>exact h.elim
def EI(a:Oper):Bool:=match a.op with| .defer _=>A0|_=>U
theorem abw{a:Oper}(h:EI a=U):∀c,a.op≠ .defer c:=by
 intro c b;unfold EI at h;rw[b]at h;cases h
theorem G7{P:Y}{c:Array Oper}{d:Exit->Act->M->Prop}{f n i:Nat}{g:Act->M->Prop}{a:Act}{w:M}(l:∀(j:Nat) (b:Oper),c[j]?=O b->EI b=U)(m:¬LetsOut d)(h:wpOp P c d i g a w):wpOpIn (Fence.wide.inRound f) n P c d i g a w:=by
 unfold wpOp at h;unfold wpOpIn;cases ho:c[i]? with
 |none=>simpa [ho] using h
 |some b=>
  simp only[ho]at h⊢;split
  ·rename_i e;simp only[e,rq]at h;rcases h with h|h
   ·refine⟨fun k _=>trivial,?_⟩;show b.uponIn _ _ _ _ _ _ ((b.semAt (O f) a.eval).run P w);rw[Cn f a.eval b (abw (l i b ho))];exact G6 _ h
   ·exact absurd h.2 m
  ·rename_i e;simp only[e]at h;exact⟨fun k _=>trivial,by simpa using h⟩
theorem su{P:Y}{g:Region.Mode}{c:Array Oper}{b:Exit->Act->M->Prop}{p n:Nat}(d:∀(j:Nat) (k:Oper),c[j]?=O k->EI k=U)(e:¬LetsOut b):
  ∀(fuel:Nat)(f:Array Bool)(a:Act)(w:M),wpAny P g c b fuel f a w->wpAnyIn (Fence.wide.inRound p) n P g c b fuel f a w
 |0,_,_,_,h=>h
 |fuel+1,_,_,_,h=>⟨h.1,fun i o=>G7 d e (wpOp_mono (fun l q m=>su d e fuel _ l q m) (h.2 i o))⟩
theorem pE{P:Y}{b:Array Oper}{c:Exit->Act->M->Prop}{l n id:Nat}{S:M->Prop}{a:Act}{w:M}(g:P.follows .mixedOrders=U)(e:b.all EI=U)(j:¬LetsOut c)(hS:S w.drew)
  (h:S w.drew->wpAnyH P .any b c S b.size (Array.replicate b.size A0) a w.drew):(Go.Code.region id b U).wpIn (Fence.wide.inRound l) n P c a w:=
 wpIn_region_any g (su (fun k m i=>by
  obtain⟨f,d⟩:=Array.getElem?_eq_some_iff.1 i;rw[<-d];exact Array.all_eq_true.1 e k f) j _ _ _ _ (wpAny_of_held _ _ _ _ (h hS)))
theorem jz{P:Y}{g:Region.Mode}{b:Array Oper}{e:Exit->Act->M->Prop}{S:M->Prop}(i:Nat)(d:Tmp)(v:V){j:Oper}{fuel:Nat}{f:Array Bool}{a:Act}{w:M}(n:b[i]?=O j)(k:j.dst=O d)
  (p:Region.noSelect b=U) (m:Region.free g b f i=U) (o:(Region.ready g b f).contains i=U)
  (l:∀c a w,e (.panic c) (a.put (O d) v) w->e (.panic c) a w) (q:Region.wanted j (yielded b a.tmps)=U) (hS:S w) (r:∀w,S w->(execOp a.eval j).run P w= .ok (.value v) w)
  (h:wpAnyH P g b e S fuel (f.setIfInBounds i U) (a.put (O d) v) w):wpAnyH P g b e S (fuel+1) f a w:=
 wpAnyH_take n p m o (by rw[k];exact l) (Or.inl ⟨q,r⟩) hS (by rw[k];exact h)
def ajv(b:Region.Mode)(a:Array Oper)(m:List Bool)(i:Nat)(c:List V):Bool:=Region.noSelect a&&Region.free b a m.toArray i&&(Region.ready b a m.toArray).contains i&&(match a[i]? with|some d=>Region.wanted d (yielded a c.toArray)|none=>A0)
theorem dg{P:Y}{k:Region.Mode}{g:Array Oper}{e:Exit->Act->M->Prop}{S:M->Prop}(i:Nat)(v:V){d:Tmp}{l:Oper}{fuel:Nat}{m:List Bool}{f:List V}{j:List Deferred}{w:M}(n:g[i]?=O l)(p:l.dst=O d)(b:ajv k g m i f=U)
  (o:∀c a w,e (.panic c) (a.put (O d) v) w->e (.panic c) a w) (hS:S w) (q:∀w,S w->(execOp (Act.mk f.toArray j).eval l).run P w= .ok (.value v) w)
  (h:wpAnyH P k g e S fuel (m.set i U).toArray ⟨(f.set d v).toArray,j⟩ w):wpAnyH P k g e S (fuel+1) m.toArray ⟨f.toArray,j⟩ w:=by
 unfold ajv at b;rw[n]at b;simp only[aB]at b;refine jz i d v n p b.1.1.1 b.1.1.2 b.1.2 o b.2 hS q ?_;simp only[Act.put,bJ];exact h
open Go.ChangeShapes Go.WideShapes Go.ChangeAt Go.WideMaps Go.WideElems Go.Deep
structure qA (N:Nd):Prop where
 k: -9223372036854775808<=N.k/\N.k<=9223372036854775807
 f: -9223372036854775808<=N.f/\N.f<=9223372036854775807
 t: -9223372036854775808<=N.t/\N.t<=9223372036854775807
 l: -9223372036854775808<=N.l/\N.l<=9223372036854775807
 op: -9223372036854775808<=N.op/\N.op<=9223372036854775807
 n: -9223372036854775808<=N.n/\N.n<=9223372036854775807
 ks:∀z∈N.ks, -9223372036854775808<=z/\z<=9223372036854775807
end Go.Proofs.YtnoojdbdapljoaaGreatDoor
namespace Go.Proofs.YtnoojdbdapljoaaGreatDoor
open Go.RowKit
def KD:List Nd->Nat
 |[]=>0
 |N::a=>BB N+KD a
open Go.Maps Go.WideMaps
def bH(n:Int):ByteArray:=⟨(Lib.itoa n).toArray⟩
def iI:ByteArray:=⟨#[32]⟩
def xl:ByteArray:=⟨#[10]⟩
def dI:List ByteArray->ByteArray
 |[]=>⟨#[]⟩
 |s::a=>(iI++s)++dI a
theorem rD(x:ByteArray):(⟨#[]⟩:ByteArray)++x=x:=ByteArray.empty_append
theorem oq(x:ByteArray):x++(⟨#[]⟩:ByteArray)=x:=ByteArray.append_empty
theorem rE(a b:List ByteArray):dI (a++b)=dI a++dI b:=by
 induction a with
 |nil=>exact(rD _).symm
 |cons d c e=>show(iI++d)++dI (c++b)=((iI++d)++dI c)++dI b;rw[e,aF (b:=dI c)]
theorem sH(a:List ByteArray)(k:Nat)(s:ByteArray)(h:a[k]?=O s):dI (a.take (k+1))=dI (a.take k)++(iI++s):=by
 rw[dG,h,rE];show dI (a.take k)++((iI++s)++⟨#[]⟩)=_;rw[oq]
def kF:List ByteArray->Nat
 |[]=>0
 |s::a=>s.size+kF a
theorem sI(a:List ByteArray):(dI a).size=a.length+kF a:=by
 induction a with
 |nil=>rfl
 |cons b a c=>show((iI++b)++dI a).size=_;rw[ag,ag,c];show 1+b.size+_=(a.length+1)+(b.size+kF a);omega
theorem lJ(a:List ByteArray)(k:Nat):(dI (a.take k)).size<=(dI a).size:=by
 have:=congrArg ByteArray.size (rE (a.take k) (a.drop k));rw[py,ag]at this;omega
def wD(N:Nd):ByteArray:=
 (((((((⟨#[]⟩:ByteArray)++(bH N.k++iI))++(bH N.f++iI))++(bH N.t++iI))++(bH N.l++iI))++(bH N.op++iI))++(bH N.n++iI))
def sc(s:ByteArray):ByteArray:=ga (yK s)
def kH(N:Nd):ByteArray:=
 (((wD N++((sc N.x++iI)++bH N.nm.length))++dI N.nm)++(iI++bH N.ks.length))++dI (N.ks.map bH)
def gp:List Nd->ByteArray
 |[]=>⟨#[]⟩
 |N::a=>(kH N++xl)++gp a
theorem BI(a b:List Nd):gp (a++b)=gp a++gp b:=by
 induction a with
 |nil=>exact(rD _).symm
 |cons d c e=>show(kH d++xl)++gp (c++b)=((kH d++xl)++gp c)++gp b;rw[e,aF (b:=gp c)]
theorem zt(a:List Nd)(k:Nat)(N:Nd)(h:a[k]?=O N):gp (a.take (k+1))=gp (a.take k)++(kH N++xl):=by
 rw[dG,h,BI];show gp (a.take k)++((kH N++xl)++⟨#[]⟩)=_;rw[oq]
theorem ql(a:List Nd)(k:Nat):(gp (a.take k)).size<=(gp a).size:=by
 have:=congrArg ByteArray.size (BI (a.take k) (a.drop k));rw[py,ag]at this;omega
def qB(N:Nd):List ByteArray:=[bH N.k,bH N.f,bH N.t,bH N.l,bH N.op,bH N.n,sc N.x,bH N.nm.length]++(N.nm++(bH N.ks.length::N.ks.map bH))
theorem BJ(x:ByteArray)(a:List ByteArray):(⟨(Lib.join ((x::a).map (·.data.toList)) [32]).toArray⟩:ByteArray)=x++dI a:=by
 rw[lg,Lib.join_cons];have e:∀a:List ByteArray,Lib.joinTail [32] (a.map (·.data.toList))=(dI a).data.toList:=by
  intro a
  induction a with
  |nil=>rfl
  |cons b a d=>
   have c:Lib.joinTail [32] ((b::a).map (·.data.toList))=([32]++b.data.toList)++Lib.joinTail [32] (a.map (·.data.toList)):=by simp[Lib.joinTail]
   rw[c,d];show _=(((iI++b)++dI a).data).toList;rw[jj,jj];simp[iI]
 rw[e];apply rn;rw[jj];simp
theorem G8(N:Nd):(⟨(Lib.join ((qB N).map (·.data.toList)) [32]).toArray⟩:ByteArray)=kH N:=by
 have a:qB N=bH N.k::([bH N.f,bH N.t,bH N.l,bH N.op,bH N.n,sc N.x,bH N.nm.length]++(N.nm++(bH N.ks.length::N.ks.map bH))):=rfl;rw[a,BJ,rE,rE];unfold kH wD;simp only[dI,rD,oq,aF]
theorem ft(n:Int)(a: -9223372036854775808<=n)(b:n<=9223372036854775807):(bH n).size<=21:=by
 show(Lib.itoa n).toArray.size<=21;rw[ip];exact Lib.itoa_length_le n a b
theorem G9(x:List Int):(ga x).size=x.length:=by
 have d:∀(x:List Int)(a:ByteArray),(x.foldl (fun b e=>b.push (UInt8.ofNat e.toNat)) a).size=a.size+x.length:=by
  intro x
  induction x with
  |nil=>intro a;rfl
  |cons f b c=>intro a;show(b.foldl _ (a.push _)).size=_;rw[c];simp;omega
 have:=d x ByteArray.empty;unfold ga;rw[this];simp
theorem vE(s:ByteArray):(sc s).size<=2+4*s.size:=by
 unfold sc;rw[G9];unfold yK;have:=CG s s.size (ah _);simp;omega
theorem afk(a:List ByteArray):kF a=Ku a:=by
 induction a with
 |nil=>rfl
 |cons b a c=>show b.size+kF a=b.size+Ku a;rw[c]
theorem abx(a:List Int)(h:∀z∈a, -9223372036854775808<=z/\z<=9223372036854775807):kF (a.map bH)<=21*a.length:=by
 induction a with
 |nil=>exact ah _
 |cons b a d=>
  have e:=d fun z c=>h z (dJ _ c);have f:=ft b (h b (cH)).1 (h b (cH)).2;show(bH b).size+kF (a.map bH)<=21*(a.length+1);omega
theorem KE{N:Nd}(h:qA N)(u:N.nm.length<=1048576)(s:N.ks.length<=1048576):(kH N).size<=220+22*BB N:=by
 have b:=ft _ h.k.1 h.k.2;have c:=ft _ h.f.1 h.f.2;have d:=ft _ h.t.1 h.t.2;have e:=ft _ h.l.1 h.l.2;have g:=ft _ h.op.1 h.op.2;have i:=ft _ h.n.1 h.n.2;have j:=ft (N.nm.length:Int) (by omega) (by omega);have m:=ft (N.ks.length:Int) (by omega) (by omega);have o:=vE N.x;have p:=sI N.nm;have a:=sI (N.ks.map bH);have q:=abx N.ks h.ks;have r:=afk N.nm;have v:iI.size=1:=rfl;have s0:(⟨#[]⟩:ByteArray).size=0:=rfl;rw[dv]at a;unfold kH wD BB aa3;simp only[ag];omega
theorem Ha(a:List Nd)(h:∀N∈a,qA N)(b:∀N∈a,N.nm.length<=1048576/\N.ks.length<=1048576):(gp a).size<=221*a.length+22*KD a:=by
 induction a with
 |nil=>exact ah _
 |cons N a e=>
  have f:=e (fun d c=>h d (dJ _ c)) fun d c=>b d (dJ _ c);have g:=KE (h N (cH)) (b N (cH)).1 (b N (cH)).2;have i:xl.size=1:=rfl;show((kH N++xl)++gp a).size<=221*(a.length+1)+22*(BB N+KD a);rw[ag,ag];omega
def Da(b:Nat):Deferred:={target:= .collected b,args:=#[]}
structure pg (B:Nat) (c:List Nat) (W:M):Prop where
 nd:c.Nodup
 lo:∀b∈c,B<=b
 at_:∀b∈c,W.heap[b]?=O (.deferred (O []))
structure Db (c:List Nat) (W W':M):Prop where
 os:W'.os=W.os
 tape:W'.tape=W.tape
 output:W'.output=W.output
 size:W'.heap.size=W.heap.size
 same:∀k,k ∉ c->W'.heap[k]?=W.heap[k]?
theorem pF{k:Fence}{n:Nat}{P:Y}{l:Func}{tmps:Array V}{R:Ending->M->Prop}(j:Nat):∀(c:List Nat)(d:M),pg j c d->(∀g,Db c d g->LeavesInM k n P l tmps R [] .returning g)->LeavesInM k n P l tmps R (c.map Da) .returning d
 |[],d,_,h=>h d ⟨rfl,rfl,rfl,rfl,fun _ _=>rfl⟩
 |b::c,d,i,h=>by
  have m:=i.at_ b (by simp);have o:=List.nodup_cons.1 i.nd;have p:b<d.heap.size:=(Array.getElem?_eq_some_iff.1 m).1;refine⟨by simp,.inl ⟨b,_,rfl,run_takeDeferred m,?_⟩⟩;refine pF j c _ ⟨o.2,fun f a=>i.lo f (by simp[a]),fun f a=>?_⟩ (fun g e=>?_)
  ·exact(Q (by rintro rfl;exact o.1 a)).trans (i.at_ f (by simp[a]))
  ·refine h g ⟨e.os,e.tape,e.output,e.size.trans (by simp),fun f a=>?_⟩;simp at a;exact(e.same f a.2).trans (Q a.1)
theorem Db.below{c:List Nat}{w f g:M}{d:Nat}(h:Db c f g)(a:Below d w f)(i:∀b∈c,d<=b)(l:d<=w.heap.size):Below d w g:=
 ⟨h.os.trans a.os,h.tape.trans a.tape,h.output.trans a.output,by rw[h.size];exact a.size,fun e j=>(h.same e (fun k=>by have:=i e k;omega)).trans (a.block e j)⟩
theorem pg.below{d:Nat}{c:List Nat}{a e:M}(h:pg d c a)(g:Below a.heap.size a e):pg d c e:=
 ⟨h.nd,h.lo,fun b f=>(g.block b (Array.getElem?_eq_some_iff.1 (h.at_ b f)).1).trans (h.at_ b f)⟩
theorem pg.set{d:Nat}{c:List Nat}{b:M}(h:pg d c b)(a:Addr)(v:V){cs:Array V}{t:TypeId}{fr:Nat×Nat}(i:b.heap[a.block]?=O (.cells cs t fr)):pg d c (b.setCell a v):=
 ⟨h.nd,h.lo,fun e f=>(bh _ _ _ _ (fun g=>by
  have:=h.at_ e f;rw[g,i]at this;cases this)).trans (h.at_ e f)⟩
theorem pg.keeps{a:Nat}{c:List Nat}{b d:M}(h:pg a c b)(f:KeepsOthers b d):pg a c d:=
 ⟨h.nd,h.lo,fun e g=>f.same e _ (h.at_ e g) rfl⟩
