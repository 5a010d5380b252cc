import Derived.Test.YthboboahkkhopaaGreatDoorHRo01
import Derived.RangeFuncNested
import Derived.RangeFuncBound
import Derived.OwnWalkIn
import Derived.TacticsInMore
import Derived.LoopNIn
import Derived.LoopIn
set_option linter.all false
open Go.World renaming putObj_heap_other->M
open Option renaming some->N,none->U
open Go renaming World->O,KeepsFrom->T
open Go.Fence renaming wide->S
namespace Go.Proofs.YthboboahkkhopaaGreatDoor
open Go.RowKit
def agm(B:Nat)(W:O)(R:O->Prop):Exit->Act->O->Prop
 | .normal,_,a=>T B W a/\R a
 |_,_,_=>False
def aa6{P:Program}{α:Type}{n:Nat}{g:Operand}{ps:Array Tmp}{assign body:Code}{Q:Exit->Act->O->Prop}{a:Act}{w:O}{gf:Nat}{bd:Array Value}
  (a2:a.eval g= .func (.func gf) bd #[]) (K:∀args w,(callFunc gf args).run P w= .ok (.enter gf args) w) (q:α->Array Value) (a8:∀x,(q x).size=ps.size)
  (A:List α->α->O->Prop) (i:List α->O->Prop) (m:List α->α->Act->O->Prop) (D:O->Prop)
  (bh:∀pre W r o,i pre W->W.heap[w.heap.size+1]?=N (.loop r)->i pre (W.putObj (w.heap.size+1) o))
  (bc:∀pre x d W r o,m pre x d W->W.heap[w.heap.size+1]?=N (.loop r)->m pre x d (W.putObj (w.heap.size+1) o)) (bf:∀W r o,D W->W.heap[w.heap.size+1]?=N (.loop r)->D (W.putObj (w.heap.size+1) o))
  (ad:∀c,be w c->c.heap.size=w.heap.size+2->i [] c)
  (ao:∀(l:Nat) pre x W (B:Act->O->Prop),A pre x W->(∀d b,m pre x d b->T w.heap.size W b->B d b)->
   assign.wpIn (Fence.wide.inRound l) (n-1-1) P (Exit.then B (λ_ _ _=>False)) {tmps:=(ps.zip (q x)).foldl (λt (p,v)=>t.setIfInBounds p v) a.tmps,defers:=[]} W)
  (ap:∀(l:Nat) pre x d W,m pre x d W->body.wpIn (Fence.wide.inRound l) (n-1-1) P (agm w.heap.size W (i (pre++[x]))) d W)
  (ba:∀(l:Nat)(h:O->Prop),(∀W b,T w.heap.size W b->h W->h b)->
   (∀pre x W,A pre x W->h W->YieldAt S (n-1-1) P l (q x) W λe b=>e= .returned (.bool true)/\i (pre++[x]) b/\h b)->
   ∀W,i [] W->h W->be w W->CallsIn S (n-1) P gf (bd++#[.func (.yield l) #[] #[]]) W λe b=>(∃v,e= .returned v)/\D b/\h b)
  (a0:∀W,D W->W.heap[w.heap.size]?=N (.deferred (N []))->Q .normal {a with defers:={target:= .collected w.heap.size,args:=#[]}::a.defers} W):
  (Code.rangeFunc g ps assign body).wpIn S n P Q a w:=by
 refine wpIn_rangeFunc ?_;intro fn a1;show ∃l bt bv bo bw bp args bx,(Instr.enterLoop fn a.tmps ps assign body U).run P w=_/\_;obtain⟨rc,f⟩:∃rc:LoopState->Loop,rc=λbj=>{state:=bj,pending:=U,fn,tmps:=a.tmps,params:=ps,assign,body,defers:=w.heap.size}:=⟨_,rfl⟩;have u:=run_enterLoop_outer (P:=P) (w:=w) fn a.tmps ps assign body;rw[show({state:= .ready,pending:=U,fn,tmps:=a.tmps,params:=ps,assign,body,defers:=w.heap.size}:Loop)=rc .ready by rw[f]]at u;have⟨c,j⟩:=aJ ((w.alloc (.deferred (N []))).alloc (.loop (rc .ready)));rw[j]at u;have a4:c.heap[w.heap.size+1]?=N (.loop (rc .ready)):=by
  rw[<-j];have:=World.alloc_heap_new (w.alloc (.deferred (N []))) (.loop (rc .ready));rwa [dm]at this
 have ar:c.heap[w.heap.size]?=N (.deferred (N [])):=by
  rw[<-j];exact(fp _ _ _ (by simp)).trans (World.alloc_heap_new w _)
 have E:be w c:=by rw[<-j];exact((ah _ w).alloc (af _) _).alloc (by simp) _
 have a9:c.heap.size=w.heap.size+2:=by rw[<-j];simp
 refine⟨w.heap.size+1,[{target:= .collected w.heap.size,args:=#[]}],c,{target:= .fn (.func gf) #[],args:=bd++#[.func (.yield (w.heap.size+1)) #[] #[]]},c,gf,
  bd++#[.func (.yield (w.heap.size+1)) #[] #[]],c,u,?_,?_,?_,λL=>by simp[S]at L,?_⟩
 .simp only[resolve,a2];simp[go_sem]
 .intro br bs;trivial
 .simp[invoke,go_sem,K]
 .refine(ba (w.heap.size+1) (λW=>W.heap[w.heap.size+1]?=N (.loop (rc .ready))/\W.heap[w.heap.size]?=N (.deferred (N [])))
   (λW b F C=>⟨F.same _ _ (by omega) C.1 rfl,F.same _ _ (af _) C.2 rfl⟩) ?_ c (ad c E a9) ⟨a4,ar⟩ E).mono ?_
  .rintro pre x W ak ⟨k,s⟩;have J:=run_yield (P:=P) (args:=q x) k (by rw[f];exact a8 x);rw[f]at J;refine⟨fn,_,assign,body,J,roundIn_of_wpIn a1 (ao _ pre x W _ ak λd b al H=>?_)⟩;have y:=H.same _ _ (by omega) k rfl;have au:=H.same _ _ (af _) s rfl;have a6:w.heap.size+1<b.heap.size:=(Array.getElem?_eq_some_iff.1 y).1;refine⟨_,run_beginRound y (by rw[f]),?_⟩;have a5:(b.putObj (w.heap.size+1) (.loop {rc .ready with state:= .busy})).heap[w.heap.size+1]?=N (.loop {rc .ready with state:= .busy}):=World.putObj_heap_same a6;have av:(b.putObj (w.heap.size+1) (.loop {rc .ready with state:= .busy})).heap[w.heap.size]?=N (.deferred (N [])):=(M (by omega)).trans au;refine wpIn_mono (ap _ pre x d _ (bc _ _ _ _ _ _ al y)) ?_;rintro e bn bl I;cases e with
   |normal=>
    obtain⟨G,bb⟩:=I;have z:=G.same _ _ (by omega) a5 rfl;have ax:=G.same _ _ (af _) av rfl;have a7:=(Array.getElem?_eq_some_iff.1 z).1;refine⟨_,_,run_endRound (P:=P) U z,rfl,bh _ _ _ _ bb z,?_,(M (by omega)).trans ax⟩;rw[World.putObj_heap_same a7];simp[f]
   |_=>exact I.elim
  .rintro e bk ⟨⟨v,rfl⟩,an,k,s⟩;refine⟨U,_,by have:=run_endLoop (P:=P) k (by rw[f];simp);rw[f]at this;exact this,?_⟩;exact a0 _ (bf _ _ _ an k) ((M (by omega)).trans s)
