import Derived.Test.YtnoembpaejlaeaaGreatDoorHLk01
import Derived.RangeFuncNested
import Derived.RangeFuncBound
import Derived.OwnWalkIn
import Derived.TacticsInMore
import Derived.LoopNIn
import Derived.LoopIn
set_option linter.all false
open Go.World renaming putObj_heap_other->M
open Option renaming some->N,none->U
open Go renaming World->O,KeepsFrom->T
open Go.Fence renaming wide->S
namespace Go.Proofs.YtnoembpaejlaeaaGreatDoor
open Go.RowKit
def afp(b:Nat)(W:O)(R:O->Prop):Exit->Act->O->Prop
 | .normal,_,a=>T b W a/\R a
 |_,_,_=>False
def aaf{P:Program}{α:Type}{n:Nat}{g:Operand}{ps:Array Tmp}{assign body:Code}{Q:Exit->Act->O->Prop}{a:Act}{w:O}{gf:Nat}{bd:Array Value}
  (a1:a.eval g= .func (.func gf) bd #[]) (K:∀args w,(callFunc gf args).run P w= .ok (.enter gf args) w) (q:α->Array Value) (a7:∀x,(q x).size=ps.size)
  (A:List α->α->O->Prop) (i:List α->O->Prop) (m:List α->α->Act->O->Prop) (D:O->Prop)
  (bh:∀pre W r o,i pre W->W.heap[w.heap.size+1]?=N (.loop r)->i pre (W.putObj (w.heap.size+1) o))
  (bb:∀pre x d W r o,m pre x d W->W.heap[w.heap.size+1]?=N (.loop r)->m pre x d (W.putObj (w.heap.size+1) o)) (bf:∀W r o,D W->W.heap[w.heap.size+1]?=N (.loop r)->D (W.putObj (w.heap.size+1) o))
  (ad:∀c,Below w.heap.size w c->c.heap.size=w.heap.size+2->i [] c)
  (an:∀(l:Nat) pre x W (B:Act->O->Prop),A pre x W->(∀d b,m pre x d b->T w.heap.size W b->B d b)->
   assign.wpIn (Fence.wide.inRound l) (n-1-1) P (Exit.then B (λ_ _ _=>False)) {tmps:=(ps.zip (q x)).foldl (λt (p,v)=>t.setIfInBounds p v) a.tmps,defers:=[]} W)
  (ao:∀(l:Nat) pre x d W,m pre x d W->body.wpIn (Fence.wide.inRound l) (n-1-1) P (afp w.heap.size W (i (pre++[x]))) d W)
  (a9:∀(l:Nat)(h:O->Prop),(∀W b,T w.heap.size W b->h W->h b)->
   (∀pre x W,A pre x W->h W->YieldAt S (n-1-1) P l (q x) W λe b=>e= .returned (.bool true)/\i (pre++[x]) b/\h b)->
   ∀W,i [] W->h W->Below w.heap.size w W->CallsIn S (n-1) P gf (bd++#[.func (.yield l) #[] #[]]) W λe b=>(∃v,e= .returned v)/\D b/\h b)
  (ax:∀W,D W->W.heap[w.heap.size]?=N (.deferred (N []))->Q .normal {a with defers:={target:= .collected w.heap.size,args:=#[]}::a.defers} W):
  (Code.rangeFunc g ps assign body).wpIn S n P Q a w:=by
 refine wpIn_rangeFunc ?_;intro fn a0;show ∃l bv bw bo bx br args bA,(Instr.enterLoop fn a.tmps ps assign body U).run P w=_/\_;obtain⟨rc,f⟩:∃rc:LoopState->Loop,rc=λbj=>{state:=bj,pending:=U,fn,tmps:=a.tmps,params:=ps,assign,body,defers:=w.heap.size}:=⟨_,rfl⟩;have u:=run_enterLoop_outer (P:=P) (w:=w) fn a.tmps ps assign body;rw[show({state:= .ready,pending:=U,fn,tmps:=a.tmps,params:=ps,assign,body,defers:=w.heap.size}:Loop)=rc .ready by rw[f]]at u;obtain⟨c,j⟩:=aF ((w.alloc (.deferred (N []))).alloc (.loop (rc .ready)));rw[j]at u;have a2:c.heap[w.heap.size+1]?=N (.loop (rc .ready)):=by
  rw[<-j];have:=World.alloc_heap_new (w.alloc (.deferred (N []))) (.loop (rc .ready));rwa [de]at this
 have ap:c.heap[w.heap.size]?=N (.deferred (N [])):=by
  rw[<-j];exact(dG _ _ _ (by simp)).trans (World.alloc_heap_new w _)
 have E:Below w.heap.size w c:=by rw[<-j];exact((ai _ w).alloc (ag _) _).alloc (by simp) _
 have a8:c.heap.size=w.heap.size+2:=by rw[<-j];simp
 refine⟨w.heap.size+1,[{target:= .collected w.heap.size,args:=#[]}],c,{target:= .fn (.func gf) #[],args:=bd++#[.func (.yield (w.heap.size+1)) #[] #[]]},c,gf,
  bd++#[.func (.yield (w.heap.size+1)) #[] #[]],c,u,?_,?_,?_,λL=>by simp[S]at L,?_⟩
 .simp only[resolve,a1];simp[go_sem]
 .intro bs bt;trivial
 .simp[invoke,go_sem,K]
 .refine(a9 (w.heap.size+1) (λW=>W.heap[w.heap.size+1]?=N (.loop (rc .ready))/\W.heap[w.heap.size]?=N (.deferred (N [])))
   (λW b F C=>⟨F.same _ _ (by omega) C.1 rfl,F.same _ _ (ag _) C.2 rfl⟩) ?_ c (ad c E a8) ⟨a2,ap⟩ E).mono ?_
  .rintro pre x W af ⟨k,s⟩;have J:=run_yield (P:=P) (args:=q x) k (by rw[f];exact a7 x);rw[f]at J;refine⟨fn,_,assign,body,J,roundIn_of_wpIn a0 (an _ pre x W _ af λd b ak H=>?_)⟩;have y:=H.same _ _ (by omega) k rfl;have ar:=H.same _ _ (ag _) s rfl;have a5:w.heap.size+1<b.heap.size:=(Array.getElem?_eq_some_iff.1 y).1;refine⟨_,run_beginRound y (by rw[f]),?_⟩;have a4:(b.putObj (w.heap.size+1) (.loop {rc .ready with state:= .busy})).heap[w.heap.size+1]?=N (.loop {rc .ready with state:= .busy}):=World.putObj_heap_same a5;have au:(b.putObj (w.heap.size+1) (.loop {rc .ready with state:= .busy})).heap[w.heap.size]?=N (.deferred (N [])):=(M (by omega)).trans ar;refine wpIn_mono (ao _ pre x d _ (bb _ _ _ _ _ _ ak y)) ?_;rintro e bn bl I;cases e with
   |normal=>
    obtain⟨G,ba⟩:=I;have z:=G.same _ _ (by omega) a4 rfl;have av:=G.same _ _ (ag _) au rfl;have a6:=(Array.getElem?_eq_some_iff.1 z).1;refine⟨_,_,run_endRound (P:=P) U z,rfl,bh _ _ _ _ ba z,?_,(M (by omega)).trans av⟩;rw[World.putObj_heap_same a6];simp[f]
   |_=>exact I.elim
  .rintro e bk ⟨⟨v,rfl⟩,al,k,s⟩;refine⟨U,_,by have:=run_endLoop (P:=P) k (by rw[f];simp);rw[f]at this;exact this,?_⟩;exact ax _ (bf _ _ _ al k) ((M (by omega)).trans s)
